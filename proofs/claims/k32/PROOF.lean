import PyProof.Rows.All
import KE.KDictOf
import KE.KDictSum
import KE.KEqDict
import KE.KSortTup
import Lean
import OpenK.AllK
import PyProof.EqAt
import PyProof.EqKinds
import PyProof.TupleCall
import Wide.All
import Wide.FinOn
import PySem.Challenge.RW_fivehues_k32_exchanged
set_option Elab.async false
set_option linter.all false
set_option maxRecDepth 100000
set_option maxHeartbeats 4000000
abbrev Qa:=@List.length_map
abbrev Qb:=@List.mem_singleton
abbrev Qc:=@List.mem_cons_self
abbrev Qd:=@List.getElem?_eq_getElem
abbrev Qe:=@List.mem_cons
abbrev Qf:=@List.mem_map
abbrev Qg:=@List.mem_cons_of_mem
abbrev Qh:=@Nat.le_refl
abbrev Qi:=@List.mem_append
abbrev Qj:=@PySem.Heap.get?_push_of_some
abbrev Qk:=@Option.some.inj
abbrev Ql:=@List.map_cons
abbrev Qm:=@List.take_succ_eq_append_getElem
abbrev Qn:=@List.mem_append_right
abbrev Qo:=@List.mem_append_left
abbrev Qp:=@List.map_append
abbrev Qq:=@List.getElem?_map
abbrev Qr:=@List.nodup_cons
abbrev Qs:=@List.length_append
abbrev Qt:=@PySem.Heap.lt_size
abbrev Qu:=@List.size_toArray
abbrev Qv:=@List.getElem_mem
abbrev Qw:=@Ne.symm
abbrev Qx:=@List.take_of_length_le
abbrev Qy:=@List.append_assoc
abbrev Qz:=@List.length_cons
abbrev Za:=@List.mem_filter
abbrev Zb:=@List.nodup_append
abbrev Zc:=@Nat.ne_of_lt
abbrev Zd:=@List.getElem?_eq_some_iff
abbrev Ze:=@List.map_map
abbrev Zf:=@PySem.Heap.get?_push_size
abbrev Zg:=@Nat.zero_le
abbrev Zh:=@Bool.false_ne_true
abbrev Zi:=@List.length_take
abbrev Zj:=@List.getElem_map
abbrev Zk:=@Nat.le_trans
abbrev Zl:=@PySem.W.mg_of
abbrev Zm:=@List.sum_cons
abbrev Zn:=@List.nodup_nil
abbrev Zo:=@Nat.lt_of_lt_of_le
abbrev Zp:=@List.getElem_of_mem
abbrev Zq:=@PySem.F.plainAttrs_list
abbrev Zr:=@PySem.PassesOwn.never
abbrev Zs:=@List.getD_eq_getElem?_getD
abbrev Zt:=@Int.eq_ofNat_of_zero_le
abbrev Zu:=@List.mem_flatten
abbrev Zv:=@PySem.boot_len
abbrev Zw:=@List.filter_cons_of_pos
abbrev Zx:=@List.filter_cons_of_neg
abbrev Zy:=@List.append_nil
abbrev Zz:=@PySem.W.mg_none_of
abbrev Ya:=@List.Perm.append_left
abbrev Yb:=@Array.toList_append
abbrev Yc:=@Nat.ne_of_gt
abbrev Yd:=@List.length_pos_of_mem
abbrev Yf:=@List.getElem_inj
abbrev Yh:=@List.length_range
abbrev Yi:=@Array.perm_iff_toList_perm
abbrev Yj:=@List.map_congr_left
abbrev Yl:=@Nat.le_add_right
abbrev Ym:=@List.length_erase_of_mem
abbrev Yn:=@List.append_of_mem
abbrev Yo:=@PyProof.Rows.callWith_type1
abbrev Yp:=@PySem.Paired.length
abbrev Yq:=@List.any_eq_true
abbrev Yr:=@List.Nodup.sublist
abbrev Ys:=@Nat.lt_succ_self
abbrev Yu:=@Nat.lt_irrefl
abbrev Yv:=@Array.length_toList
abbrev Yw:=@List.perm_append_comm
abbrev Yx:=@List.flatten_cons
abbrev Yy:=@List.mem_of_getElem?
abbrev Yz:=@List.take_append_drop
abbrev Wa:=@List.not_mem_nil
abbrev Wc:=@List.find?_cons_of_pos
abbrev Wd:=@List.find?_cons_of_neg
abbrev We:=@PySem.Around.under_plainId
abbrev Wf:=@PySem.mem_of_lookup
abbrev Wg:=@List.length_pos_iff
abbrev Wh:=@List.flatten_append
abbrev Wi:=@Sum.inr.inj
abbrev Wj:=@Bool.eq_iff_iff
abbrev Wk:=@Array.getElem?_toList
abbrev Wl:=@PySem.F.called_set
abbrev Wm:=@PySem.F.type_list_append
abbrev Wn:=@PySem.F.slot_list_append
abbrev Wo:=@PyProof.Rows.boot_sorted
abbrev Wp:=@Nat.lt_trans
abbrev Wq:=@List.pairwise_singleton
abbrev Wr:=@List.pairwise_map
abbrev Ws:=@List.getElem_take
abbrev Wt:=@PySem.Heap.size_push
abbrev Wu:=@PyProof.Rows.boot_dict
abbrev Wv:=@Array.getD_eq_getD_getElem?
abbrev Ww:=@Nat.le_succ
abbrev Wx:=@List.lookup_cons
abbrev Wy:=@PySem.F.slot_dict_keyiterator_next
abbrev Wz:=@List.lt_irrefl
abbrev Ua:=@List.filter_append
abbrev Ub:=@PySem.F.slot_dict_get
abbrev Uc:=@List.mem_of_mem_erase
abbrev Ud:=@List.length_filter_le
abbrev Ue:=@PySem.Heap.get?_update_other
abbrev Uf:=@Bool.or_eq_true
abbrev Ug:=@Nat.le_of_lt
abbrev Uh:=@List.map_take
abbrev Ui:=@PyProof.Rows.boot_list
abbrev Uj:=@List.getElem_range
abbrev Uk:=@Int.emod_lt_of_pos
abbrev Ul:=@List.length_nil
abbrev Um:=@Nat.lt_succ_of_lt
abbrev Uo:=@Nat.lt_of_succ_lt
abbrev Uq:=@List.take_sublist
abbrev Ur:=@Int.toNat_natCast
abbrev Us:=@PySem.Calls.spliced_cons
abbrev Ut:=@Prod.mk.inj
abbrev Uu:=@List.mem_range
abbrev Uv:=@List.mem_of_mem_take
abbrev Uw:=@List.getElem?_append_right
abbrev Ux:=@PyProof.Rows.KeyOrd.kle_trans
abbrev Uy:=@List.cons_append
abbrev Uz:=@List.all_eq_true
abbrev Ja:=@List.filter_sublist
abbrev Jb:=@Prod.ext
abbrev Jc:=@PySem.F.slot_tuple_iterator_next
abbrev Jd:=@List.find?_cons
abbrev Je:=@List.filter_nil
abbrev Jf:=@Int.emod_nonneg
abbrev Jg:=@List.ne_nil_of_mem
abbrev Jh:=@Bool.false_eq_true
abbrev Ji:=@PySem.F.entry_dict_get
abbrev Jj:=@List.reverse_perm
abbrev Jk:=@List.map_nil
abbrev Jl:=@Array.toList_push
abbrev Jm:=@List.eraseIdxIfInBounds_toArray
abbrev Jn:=@List.length_replicate
abbrev Jo:=@List.perm_middle
abbrev Jp:=@List.length_drop
abbrev Jq:=@List.map_drop
abbrev Jr:=@List.perm_cons_erase
abbrev Js:=@List.eq_nil_of_length_eq_zero
abbrev Jt:=@PySem.Calls.spliced_nil
abbrev Ju:=@PySem.Calls.callWith_builtin
abbrev Jv:=@Array.toList_reverse
abbrev Jw:=@List.nil_append
abbrev Jx:=@List.foldl_cons
abbrev Jy:=@List.filter_map
abbrev Jz:=@PyProof.Rows.KeyOrd.kle_refl
abbrev Ka:=@Int.natCast_add
abbrev Kb:=@List.perm_iff_count
abbrev Kc:=@PySem.Heap.get?_update_self
abbrev Kd:=@PySem.F.slot_enumerate_next
abbrev Ke:=@List.pairwise_cons
abbrev Kf:=@PyProof.Rows.KeyOrd.kle_of_klt
abbrev Kg:=@List.pairwise_iff_getElem
abbrev Kh:=@List.extract_eq_take_drop
abbrev Ki:=@List.drop_eq_getElem_cons
abbrev Kj:=@Decidable.byContradiction
abbrev Kk:=@Array.getElem?_eq_getElem
abbrev Kl:=@List.reverse_cons
abbrev Km:=@List.map_id
abbrev Kn:=@List.count_append
abbrev Ko:=@PySem.Heap.SameBut.update
abbrev Kp:=@Bool.not_eq_true'
abbrev Kq:=@List.any_cons
abbrev Kr:=@List.Pairwise.imp_of_mem
abbrev Ks:=@PySem.W.KasT.kasWp_bind
abbrev Kt:=@PySem.F.type_list_index
abbrev Ku:=@PySem.F.slot_list_index
abbrev Kv:=@PySem.F.plainAttrs_dict
abbrev Kw:=@PySem.Obj.data_mapFields
abbrev Kx:=@Nat.succ_ne_self
abbrev Ky:=@Nat.succ_le_succ
abbrev Kz:=@List.cons_ne_nil
abbrev Xa:=@Bool.and_eq_true
abbrev Xb:=@Array.toList_map
abbrev Xc:=@Array.toList_inj
abbrev Xd:=@List.idxOf_cons
abbrev Xe:=@List.count_cons
abbrev Xf:=@PySem.W.methodCall_KW
abbrev Xg:=@PyProof.Rows.boot_min
abbrev Xh:=@PyProof.Rows.boot_int
abbrev Xi:=@List.singleton_append
abbrev Xj:=@List.length_singleton
abbrev Xk:=@List.getElem?_eq_none
abbrev Xl:=@PySem.F.slot_list_getattribute
abbrev Na:=PySem.W.Frag
abbrev Nb:=PySem.Addr
abbrev Nc:=PySem.Value→PySem.Shared→Prop
abbrev Nd:=PySem.Str→Option PySem.Value
abbrev Nf:=List (PySem.Addr×PySem.Obj)
abbrev Ng:=List PySem.Str
abbrev Nh:=PySem.Shared
abbrev Ni:=PySem.Program
abbrev Nj:=List PySem.Value
abbrev Nk:=PySem.World
abbrev Nl:=List PySem.Addr
abbrev Nm:=PySem.Heap
abbrev Nn:=PySem.Around
abbrev No:=PySem.FuncData
abbrev Np:=List PySem.Expr
abbrev Nq:=List (Option Nat)
abbrev Nr:=List (PySem.Str×PySem.Str)
abbrev Nt:=PySem.Result→PySem.Shared→Prop
abbrev Nu:=PySem.Str→PySem.Str
section
set_option Elab.async false
inductive Ex1{T0:Sort _}(P:T0→Prop):Prop
 |mk (x0:T0) (h:P x0):Ex1 P
inductive Ex2{T0:Sort _}{T1:Sort _}(P:T0→T1→Prop):Prop
 |mk (x0:T0) (x1:T1) (h:P x0 x1):Ex2 P
inductive Ex3{T0:Sort _}{T1:Sort _}{T2:Sort _}(P:T0→T1→T2→Prop):Prop
 |mk (x0:T0) (x1:T1) (x2:T2) (h:P x0 x1 x2):Ex3 P
inductive Ex4{T0:Sort _}{T1:Sort _}{T2:Sort _}{T3:Sort _}(P:T0→T1→T2→T3→Prop):Prop
 |mk (x0:T0) (x1:T1) (x2:T2) (x3:T3) (h:P x0 x1 x2 x3):Ex4 P
inductive Ex5{T0:Sort _}{T1:Sort _}{T2:Sort _}{T3:Sort _}{T4:Sort _}(P:T0→T1→T2→T3→T4→Prop):Prop
 |mk (x0:T0) (x1:T1) (x2:T2) (x3:T3) (x4:T4) (h:P x0 x1 x2 x3 x4):Ex5 P
inductive Ex6{T0:Sort _}{T1:Sort _}{T2:Sort _}{T3:Sort _}{T4:Sort _}{T5:Sort _}(P:T0→T1→T2→T3→T4→T5→Prop):Prop
 |mk (x0:T0) (x1:T1) (x2:T2) (x3:T3) (x4:T4) (x5:T5) (h:P x0 x1 x2 x3 x4 x5):Ex6 P
inductive Ex7{T0:Sort _}{T1:Sort _}{T2:Sort _}{T3:Sort _}{T4:Sort _}{T5:Sort _}{T6:Sort _}(P:T0→T1→T2→T3→T4→T5→T6→Prop):Prop
 |mk (x0:T0) (x1:T1) (x2:T2) (x3:T3) (x4:T4) (x5:T5) (x6:T6) (h:P x0 x1 x2 x3 x4 x5 x6):Ex7 P
structure Aj2(p0 p1:Prop):Prop where
 h0:p0
 h1:p1
structure Aj3(p0 p1 p2:Prop):Prop where
 h0:p0
 h1:p1
 h2:p2
structure Aj4(p0 p1 p2 p3:Prop):Prop where
 h0:p0
 h1:p1
 h2:p2
 h3:p3
structure Aj5(p0 p1 p2 p3 p4:Prop):Prop where
 h0:p0
 h1:p1
 h2:p2
 h3:p3
 h4:p4
structure Aj6(p0 p1 p2 p3 p4 p5:Prop):Prop where
 h0:p0
 h1:p1
 h2:p2
 h3:p3
 h4:p4
 h5:p5
structure Aj7(p0 p1 p2 p3 p4 p5 p6:Prop):Prop where
 h0:p0
 h1:p1
 h2:p2
 h3:p3
 h4:p4
 h5:p5
 h6:p6
structure Aj8(p0 p1 p2 p3 p4 p5 p6 p7:Prop):Prop where
 h0:p0
 h1:p1
 h2:p2
 h3:p3
 h4:p4
 h5:p5
 h6:p6
 h7:p7
structure Aj9(p0 p1 p2 p3 p4 p5 p6 p7 p8:Prop):Prop where
 h0:p0
 h1:p1
 h2:p2
 h3:p3
 h4:p4
 h5:p5
 h6:p6
 h7:p7
 h8:p8
def zar1{a b:Nat}(h:a<b):b-(a+1)<b-a:=Nat.sub_lt_sub_left h (Ys a)
def zar3{a b:Nat}(h:a≤b)(k:¬a<b):a=b:=Nat.le_antisymm h (Nat.le_of_not_lt k)
def zar4{a b:Nat}(h:a≤b):a+1≤b+1:=Ky h
def zar6{a b c:Nat}(e:a=b)(h:c<b):c<a:=e▸h
def zar7{a b c:Nat}(e:a=b)(h:c<a):c<b:=e▸h
def zar8{a b:Nat}(h:(a:Int)<(b:Int)):a<b:=Int.ofNat_lt.mp h
def zar9{a b:Nat}(h:a<b):(a:Int)<(b:Int):=Int.ofNat_lt.mpr h
def zar10{a b:Nat}(h:a<b)(k:b≤a):False:=Yu _ (Zo h k)
def zdu{a b c:Nat}(h:a≤b)(e:a=c):c≤b:=e▸h
def zar16{a b:Nat}(h:a≤b):a≤b+1:=Nat.le_succ_of_le h
end
section
set_option Elab.async false
set_option linter.all false
set_option maxRecDepth 100000
namespace L2
open PySem PySem.Spec PyProof.Rows
abbrev Key:=Sum Int Str
def zg9:Key→Value→Bool
 |.inl k,v=>Value.isInt k v
 |.inr x,v=>Value.isStrOf x v
def keyH(w:Nk):Key→Int
 |.inl k=>hashInt k
 |.inr x=>hashStr w x
theorem za6:∀{k:Key} {v:Value},zg9 k v=true→(∃i t,k=Sum.inl i∧v=Value.int i t)∨(∃x t,k=Sum.inr x∧v=Value.str x t)
 |.inl i,v,h=>by
  obtain⟨t,e⟩:=Value.isInt_shape (k:=i) (v:=v) h
  exact .inl ⟨i,t,rfl,e⟩
 |.inr x,v,h=>by
  obtain⟨t,e⟩:=Value.isStrOf_shape (x:=x) (v:=v) h
  exact .inr ⟨x,t,rfl,e⟩
def keyIs_int(i:Int)(t:Tok):zg9 (.inl i) (.int i t)=true:=by simp[zg9,Value.isInt]
def keyIs_str(x:Str)(t:Tok):zg9 (.inr x) (.str x t)=true:=by simp[zg9,Value.isStrOf]
def key_ll(a b:Int):decide ((Sum.inl a:Key)=Sum.inl b)=(a==b):=by
 by_cases e:a=b
 ·subst e;simp
 ·have h:¬ (Sum.inl a:Key)=Sum.inl b:=fun q=>e (Sum.inl.inj q)
  rw[decide_eq_false h]
  exact(beq_eq_false_iff_ne.mpr e).symm
def key_rr(a b:Str):decide ((Sum.inr a:Key)=Sum.inr b)=decide (a=b):=by
 by_cases e:a=b
 ·subst e;simp
 ·have h:¬ (Sum.inr a:Key)=Sum.inr b:=fun q=>e (Wi q)
  rw[decide_eq_false h,decide_eq_false e]
def key_lr(a:Int)(b:Str):decide ((Sum.inl a:Key)=Sum.inr b)=false:=decide_eq_false (λq=>nomatch q)
def key_rl(a:Str)(b:Int):decide ((Sum.inr a:Key)=Sum.inl b)=false:=decide_eq_false (λq=>nomatch q)
def zam(prog:Ni)(w:Nk):PySem.KeyKind prog w Key where
 is:=zg9
 hash:=keyH w
 inj:=λv a b ha hb=>by
  rcases za6 ha with⟨i,t,rfl,rfl⟩ | ⟨x,t,rfl,rfl⟩
  ·rcases za6 hb with ⟨j,u,rfl,e⟩ | ⟨y,u,rfl,e⟩
   ·injection e with e1 _;rw[e1]
   ·exact nomatch e
  ·rcases za6 hb with ⟨j,u,rfl,e⟩ | ⟨y,u,rfl,e⟩
   ·exact nomatch e
   ·injection e with e1 _;rw[e1]
 byValue:=λk v h=>by
  rcases za6 h with⟨i,t,rfl,rfl⟩ | ⟨x,t,rfl,rfl⟩<;>rfl
 pyHash:=λhv h=>by
  rcases za6 hv with⟨i,t,rfl,rfl⟩ | ⟨x,t,rfl,rfl⟩
  ·exact wpAny_pyHash_int h
  ·exact wpAny_pyHash_str h
 eqBool:=λhu hv h=>by
  rcases za6 hu with⟨i,t,rfl,rfl⟩ | ⟨x,t,rfl,rfl⟩
  ·rcases za6 hv with ⟨j,u,rfl,rfl⟩ | ⟨y,u,rfl,rfl⟩
   ·rw[key_ll]at h;exact wpAny_eqBool_int h
   ·rw[key_lr]at h;exact SeqAt.EqAt.int_str i t y u _ _ _ _ h
  ·rcases za6 hv with ⟨j,u,rfl,rfl⟩ | ⟨y,u,rfl,rfl⟩
   ·rw[key_rl]at h;exact SeqAt.EqAt.str_int x t j u _ _ _ _ h
   ·rw[key_rr]at h;exact wpAny_eqBool_str h
 «strs»:=λk x t v h=>by
  rcases za6 h with⟨i,u,rfl,e⟩ | ⟨y,u,rfl,e⟩
  ·exact nomatch e
  ·injection e with e1 _
   subst e1
   cases v<;>rfl
def mixKind_int(prog:Ni)(w:Nk)(i:Int)(t:Tok):(zam prog w).is (.inl i) (.int i t)=true:=keyIs_int i t
def zgh(prog:Ni)(w:Nk)(x:Str)(t:Tok):(zam prog w).is (.inr x) (.str x t)=true:=keyIs_str x t
end L2
namespace L2
open PySem PySem.Spec PyProof.Rows
inductive V where
 |non | bl (b:Bool) | int (i:Int) | str (x:Str) | byt (b:Array UInt8) | flt (b:UInt64) | ref (a:Nb) | ty (n:String)
 deriving DecidableEq
def RelV:V→Value→Prop
 |.non,u=>u=Value.none
 |.bl b,u=>u=Value.bool b
 |.int i,u=>∃t,u=Value.int i t
 |.str x,u=>∃t,u=Value.str x t
 |.byt b,u=>∃t,u=Value.bytes b t
 |.flt b,u=>∃t,u=Value.float b t
 |.ref a,u=>u=Value.ref a
 |.ty n,u=>u=Value.type n
abbrev Vals:List V→List Value→Prop:=Paired RelV
def Vals.length{xs:List V}{us:Nj}(r:Vals xs us):xs.length=us.length:=Yp r
theorem Vals.get:∀{xs:List V} {us:Nj} {i:Nat} {x:V},Vals xs us→xs[i]?=some x→∃u,us[i]?=some u∧RelV x u
 |_,_,_,_,.nil,e=>by simp at e
 |_,_,0,_,.cons r _,e=>by simp at e;subst e;exact⟨_,rfl,r⟩
 |_,_,i+1,x,.cons _ t,e=>by
  obtain⟨u,h1,h2⟩:=Vals.get (i:=i) (x:=x) t (by simpa using e)
  exact⟨u,by simpa using h1,h2⟩
theorem Vals.set(r:RelV x u):∀{xs:List V} {us:Nj} (i:Nat),Vals xs us→Vals (xs.set i x) (us.set i u)
 |_,_,_,.nil=>.nil
 |_,_,0,.cons _ t=>.cons r t
 |_,_,i+1,.cons q t=>.cons q (Vals.set r i t)
theorem Vals.append:∀{xs ys:List V} {us ws:Nj},Vals xs us→Vals ys ws→Vals (xs++ys) (us++ws)
 |_,_,_,_,.nil,s=>s
 |_,_,_,_,.cons r t,s=>.cons r (Vals.append t s)
theorem Vals.take:∀{xs:List V} {us:Nj} (n:Nat),Vals xs us→Vals (xs.take n) (us.take n)
 |_,_,0,_=>.nil
 |_,_,_+1,.nil=>.nil
 |_,_,n+1,.cons r t=>.cons r (Vals.take n t)
theorem Vals.drop:∀{xs:List V} {us:Nj} (n:Nat),Vals xs us→Vals (xs.drop n) (us.drop n)
 |_,_,0,r=>r
 |_,_,_+1,.nil=>.nil
 |_,_,n+1,.cons _ t=>Vals.drop n t
def RelO:Option V→Option Value→Prop
 |some v,some u=>RelV v u
 |none,none=>True
 |_,_=>False
def KV{κ:Type}:List (κ×V)→List (κ×Value)→Prop:=Paired λ(p:κ×V) (q:κ×Value)=>p.1=q.1∧RelV p.2 q.2
def kV:Key→V
 |.inl i=>.int i
 |.inr x=>.str x
inductive HO where
 /-- a list -/
 |lst (xs:List V)
 /-- a tuple (never changes) -/
 |tup (xs:List V)
 /-- a dict whose keys are ints and texts;one whose keys are tuples of ints and texts (the empty one is both) -/
 |dK (kvs:List (Key×V)) | dT (kvs:List (List Key×V))
 /-- a set of ints: a8 members,a8 size -/
 |set (S:Int→Bool) (n:Nat)
 /-- an instance of the class at C,a8 dict at dx,a8 attributes -/
 |ins (C dx:Nb) (fs:List (Str×V))
 /-- the dict of the instance at x -/
 |own (x:Nb)
 /-- the dict of an exception -/
 |xd (fs:List (Str×V))
 /-- a bound method,f of x -/
 |met (f x:Nb)
 /-- a range object lo,lo+1,.. below hi -/
 |rng (lo hi:Int)
 /-- a thing that is known to the object (the script;a dict while a loop walks it): read,never written while it is so -/
 |frz (o:Obj) (u:HO)
 /-- a code object's table -/
 |tbl (ps:Array Value)
 /-- any other thing,by what is true of a8 one object (a def of one's own: SetO a S n:=HO.ext λh=>..) -/
 |ext (φ:Heap→Prop)
abbrev Hp:=Addr→Option HO
def upd(H:Hp)(a:Nb)(o:HO):Hp:=λb=>if b=a then some o else H b
def zac{H:Hp}{a:Nb}{o:HO}:upd H a o a=some o:=by unfold upd;rw[if_pos rfl]
def zae{H:Hp}{a b:Nb}{o:HO}(h:b≠a):upd H a o b=H b:=by unfold upd;rw[if_neg h]
def upd_upd:upd (upd H a o) a u=upd H a u:=by
 funext b;unfold upd;split<;>rfl
def za2{H:Hp}{a b:Nb}{o u:HO}(h:H a=some o)(h':H b=some u)(d:o≠u):a≠b:=by
 intro e;subst e;rw[h]at h';exact d (Qk h')
def zaa{H:Hp}{a b:Nb}{o:HO}(h:H a=some o)(h':H b=none):a≠b:=by
 intro e;subst e;rw[h]at h';cases h'
section
variable(P:Ni)(w:Nk)
def zbs(H:Hp)(h:Nm)(a:Nb):HO→Prop
 |.lst xs=>xs.length≤sizeLine∧∃(a8:Nj) (n:Nat),Vals xs a8∧h.get? a=some {cls:=.type "list",data:=.seq a8.toArray n}
 |.tup xs=>xs.length≤sizeLine∧∃a8:List Value,Vals xs a8∧IsTup h a a8.toArray
 |.dK kvs=>kvs.length≤sizeLine∧(a==sysModules)=false∧∃vs,KV kvs vs∧h.DictOf (zam P w) a vs
 | .dT kvs=>kvs.length≤sizeLine∧(a == sysModules)=false∧∃ xs:List (List Key×Addr×Value),
   Paired (λ(p:List Key×V) (q:List Key×Addr×Value)=>p.1=q.1∧H q.2.1=some (.tup (p.1.map kV))∧RelV p.2 q.2.2) kvs xs ∧
   ∃o es ep,h.get? a=some o∧o.ExactDict∧o.data=.dict es ep∧es.toList=xs.map (entryOfKey (tupleKind (zam P w)))∧(xs.map (·.1)).Nodup
 |.set S n=>h.SetOf (intKind P w) a S n
 | .ins C dx fs=>H dx=some (.own a)∧fs.length≤1000∧dx≠a∧h.get? a=some (PySem.W.instObj C dx) ∧
   ∃mA,h.Ns1 dx mA∧(∀f,RelO (fs.lookup f) (mA f))∧PySem.Within mA (fs.map (·.1))
 |.own _=>∃o,h.get? a=some o
 |.xd fs=>∃mA,h.Ns1 a mA∧∀f,RelO (fs.lookup f) (mA f)
 |.rng lo hi=>∃t u v,h.get? a=some {cls:=.type "range",data:=.fields #[.int lo t,.int hi u,.int 1 v]}
 |.frz o u=>h.get? a=some o∧zbs H h a u
 |.tbl ps=>h.get? a=some {cls:=.none,data:=.fields ps}
 |.met f x=>h.get? a=some (PySem.W.methodObj (.ref f) (.ref x))
 |.ext φ=>φ h∧(∃o,h.get? a=some o)∧∀h1 h2:Heap,φ h1→(∀o,h1.get? a=some o→h2.get? a=some o)→φ h2
def HOk(H:Hp)(h:Nm):Prop:=∀a o,H a=some o→zbs P w H h a o
end
section
variable{P:Ni}{w:Nk}{H H':Hp}{h h':Nm}{a:Nb}{o:HO}
def zbs.lt(x:zbs P w H h a o):a<h.objs.size:=by
 cases o with
 |lst xs=>obtain⟨_,_,_,_,e⟩:=x;exact Qt e
 |tup xs=>obtain⟨_,_,_,p⟩:=x;exact p.lt
 |dK kvs=>obtain⟨_,_,_,_,o,_,_,e,_⟩:=x;exact Qt e
 |dT kvs=>obtain⟨_,_,_,_,o,_,_,e,_⟩:=x;exact Qt e
 |set S n=>obtain⟨o,_,_,_,e,_⟩:=x;exact Qt e
 |ins C dx fs=>obtain⟨_,_,_,e,_⟩:=x;exact Qt e
 |own y=>obtain⟨_,e⟩:=x;exact Qt e
 |xd fs=>obtain⟨_,⟨_,_,_,e,_⟩,_⟩:=x;exact Qt e
 |rng lo hi=>obtain⟨_,_,_,e⟩:=x;exact Qt e
 |frz ob u=>obtain⟨e,_⟩:=x;exact Qt e
 |tbl ps=>exact Qt (show h.get? a=some _ from x)
 |met f y=>exact Qt (show h.get? a=some _ from x)
 |ext φ=>obtain⟨_,⟨_,e⟩,_⟩:=x;exact Qt e
theorem Paired.mapP{α β:Type}{F G:α→β→Prop}:∀{l₁:List α} {l₂:List β},Paired F l₁ l₂→(∀a b,F a b→G a b)→Paired G l₁ l₂
 |_,_,.nil,_=>.nil
 |_,_,.cons r t,f=>.cons (f _ _ r) (Paired.mapP t f)
def Paired.imp'{α β:Type}{F G:α→β→Prop}(f:∀a b,F a b→G a b){l₁:List α}{l₂:List β}(r:Paired F l₁ l₂):Paired G l₁ l₂:=Paired.mapP r f
def zbs.stay(x:zbs P w H h a o)(k:∀b u,(b=a∨H b=some (.own a))→h.get? b=some u→h'.get? b=some u)(ho:∀b,H b=some (.own a)→H' b=some (.own a))(ht:∀b xs,H b=some (.tup xs)→H' b=some (.tup xs)):zbs P w H' h' a o:=by
 induction o with
 |lst xs=>obtain⟨z,a8,n,r,e⟩:=x;exact⟨z,a8,n,r,k _ _ (.inl rfl) e⟩
 |tup xs=>obtain⟨z,a8,r,ob,e,c⟩:=x;exact⟨z,a8,r,ob,k _ _ (.inl rfl) e,c⟩
 |dK kvs=>obtain⟨z,y,vs,r,ob,es,ep,e,c⟩:=x;exact⟨z,y,vs,r,ob,es,ep,k _ _ (.inl rfl) e,c⟩
 |dT kvs =>
  obtain⟨z,y,xs,r,ob,es,ep,e,c⟩:=x
  exact⟨z,y,xs,Paired.mapP r λp q z=>⟨z.1,ht _ _ z.2.1,z.2.2⟩,ob,es,ep,k _ _ (.inl rfl) e,c⟩
 |set S n=>obtain⟨ob,es,ep,t,e,c⟩:=x;exact⟨ob,es,ep,t,k _ _ (.inl rfl) e,c⟩
 |ins C dx fs =>
  obtain⟨d,z,ne,e,mA,⟨od,es,ep,e2,c⟩,r⟩:=x
  exact⟨ho _ d,z,ne,k _ _ (.inl rfl) e,mA,⟨od,es,ep,k _ _ (.inr d) e2,c⟩,r⟩
 |own y=>obtain⟨ob,e⟩:=x;exact⟨ob,k _ _ (.inl rfl) e⟩
 |xd fs=>obtain⟨mA,⟨od,es,ep,e,c⟩,r⟩:=x;exact⟨mA,⟨od,es,ep,k _ _ (.inl rfl) e,c⟩,r⟩
 |rng lo hi=>obtain⟨t,u,v,e⟩:=x;exact⟨t,u,v,k _ _ (.inl rfl) e⟩
 |frz ob u ih=>obtain⟨e,q⟩:=x;exact⟨k _ _ (.inl rfl) e,ih q⟩
 |tbl ps =>
  have e:h.get? a=some {cls:=.none,data:=.fields ps}:=x
  show h'.get? a=some {cls:=.none,data:=.fields ps}
  exact k a _ (.inl rfl) e
 |met f y =>
  have e:h.get? a=some (PySem.W.methodObj (.ref f) (.ref y)):=x
  show h'.get? a=some (PySem.W.methodObj (.ref f) (.ref y))
  exact k a _ (.inl rfl) e
 |ext φ=>obtain⟨p,⟨o,e⟩,st⟩:=x;exact⟨st _ _ p λo q=>k _ _ (.inl rfl) q,⟨o,k _ _ (.inl rfl) e⟩,st⟩
def HOk.lt(x:HOk P w H h)(e:H a=some o):a<h.objs.size:=(x a o e).lt
def HOk.fresh(x:HOk P w H h)(e:h.objs.size≤a):H a=none:=by
 cases q:H a with
 |none=>rfl
 |some u=>exact absurd (Zo (x.lt q) e) (Yu _)
def HOk.kept(x:HOk P w H h)(k:∀b u,h.get? b=some u→h'.get? b=some u):HOk P w H h':=λa o e =>
 (x a o e).stay (λb u _ q=>k b u q) (λ_ q=>q) λ_ _ q=>q
def HOk.laid(x:HOk P w H h)(k:∀b u,h.get? b=some u→h'.get? b=some u)(hp:h.objs.size≤a)(new:zbs P w (upd H a o) h' a o):HOk P w (upd H a o) h':=λb u e=>by
 have hn:=x.fresh hp
 by_cases hb:b=a
 ·subst hb;rw[zac]at e;cases e;exact new
 ·rw [zae hb] at e
  exact(x b u e).stay (λc v _ q=>k c v q) (λc q=>by rw[zae (zaa q hn)];exact q) λc xs q=>by rw[zae (zaa q hn)];exact q
end
def Rd(H:Hp)(a:Nb)(u:HO):Prop:=H a=some u∨∃o,H a=some (.frz o u)
def Rd.ok{P:Ni}{w:Nk}{H:Hp}{h:Nm}{a:Nb}{u:HO}(r:Rd H a u)(x:HOk P w H h):zbs P w H h a u:=by
 rcases r with r | ⟨o,r⟩
 ·exact x a u r
 ·obtain ⟨_,q⟩:=x a _ r
  exact q
def Mut:Option HO→Prop
 |some (.lst _)=>True
 |some (.dK _)=>True
 |some (.dT _)=>True
 |some (.set _ _)=>True
 |some (.ins _ _ _)=>True
 |some (.ext _)=>True
 |_=>False
section
variable{P:Ni}{w:Nk}{H:Hp}{h h':Nm}{x e:Nb}{o':HO}
def HOk.write(ok:HOk P w H h)(mu:Mut (H x))(he:e=x∨H e=some (.own x))(k:∀ b u,b≠e→h.get? b=some u→h'.get? b=some u)(fk:∃ u,h'.get? e=some u)(new:zbs P w (upd H x o') h' x o'):HOk P w (upd H x o') h':=λb u q=>by
 have nown:∀c y,H c=some (.own y)→c≠x:=λc y r z=>by subst z;rw[r]at mu;exact mu
 have ntup:∀c xs,H c=some (.tup xs)→c≠x:=λc xs r z=>by subst z;rw[r]at mu;exact mu
 by_cases hb:b=x
 ·subst hb;rw[zac]at q;cases q;exact new
 ·rw [zae hb] at q
  by_cases dD:b=e
  ·have q':H b=some (.own x):=by
    rcases he with z | z
    ·exact absurd (dD.trans z) hb
    ·rw[dD];exact z
   rw[q]at q';cases q'
   obtain⟨v,hv⟩:=fk
   exact⟨v,by rw[dD];exact hv⟩
  ·refine (ok b u q).stay (fun c v hc r=>k c v ?_ r) (fun c r=>by rw [zae (nown c b r)];exact r) fun c xs r=>by rw [zae (ntup c xs r)];exact r
   rcases hc with rfl | hc
   ·exact dD
   ·rintro rfl
    rcases he with z | z
    ·exact nown c b hc z
    ·rw[hc]at z;cases z;exact hb rfl
end
structure Un(fs ex:Nl)(H H':Hp)(h h':Nm):Prop where
 keep:∀b o,h.get? b=some o→H b=none→b∉fs→b∉ex→h'.get? b=some o
 slot:∀b o,h.get? b=some o→H b=none→b∈fs→b∉ex→∃sl,h'.get? b=some {o with slots:=sl}
 free:∀b o,h.get? b=some o→H b=none→b∉ex→H' b=none
 there:∀b o,h.get? b=some o→b∉ex→∃o',h'.get? b=some o'
 tups:∀b xs,H b=some (.tup xs)→H' b=some (.tup xs)
 frzs:∀b o u,H b=some (.frz o u)→H' b=some (.frz o u)
 tbls:∀b ps,H b=some (.tbl ps)→∃more,H' b=some (.tbl (ps++more))
section
variable{fs vK ex ex':Nl}{H H1 H2:Hp}{h h1 h2 h':Nm}{a x e:Nb}{o:HO}
def Un.any(u:Un fs ex H H1 h h1){b:Nb}{ob:Obj}(q:h.get? b=some ob)(n:H b=none)(hx:b∉ex):∃sl,h1.get? b=some {ob with slots:=sl}:=by
 by_cases hb:b∈fs
 ·exact u.slot b ob q n hb hx
 ·exact⟨ob.slots,u.keep b ob q n hb hx⟩
def Un.kept(k:∀b u,h.get? b=some u→h'.get? b=some u):Un fs ex H H h h' :=
 ⟨λb ob q _ _ _=>k b ob q,λb ob q _ _ _=>⟨ob.slots,k b ob q⟩,λ_ _ _ n _=>n,λb ob q _=>⟨ob,k b ob q⟩,λ_ _ q=>q,λ_ _ _ q=>q,λ_ ps q=>⟨#[],by rw[q];simp⟩⟩
def Un.refl:Un fs ex H H h h:=Un.kept λ_ _ q=>q
theorem Un.laid(k:∀b u,h.get? b=some u→h'.get? b=some u)(hp:h.objs.size≤a)(hn:H a=none):Un fs ex H (upd H a o) h h' where
 keep:=λb u q _ _ _=>k b u q
 slot:=λb u q _ _ _=>⟨u.slots,k b u q⟩
 free:=λb u q n _=>by rw[zae (Zc (Zo (Qt q) hp))];exact n
 there:=λb u q _=>⟨u,k b u q⟩
 tups:=λb xs q=>by rw[zae (zaa q hn)];exact q
 frzs:=λb u xs q=>by rw[zae (zaa q hn)];exact q
 tbls:=λb ps q=>⟨#[],by rw[zae (zaa q hn),q];simp⟩
def Un.write(mu:Mut (H x))(he:e=x∨H e=some (.own x))(k:∀b u,b≠e→h.get? b=some u→h'.get? b=some u)(fk:∃u,h'.get? e=some u):Un fs ex H (upd H x o) h h':=by
 have hx:∀b,H b=none→b≠x:=λb n z=>by subst z;rw[n]at mu;exact mu
 have hb:∀b,H b=none→b≠e:=λb n z=>by
  subst z
  rcases he with r | r
  ·exact hx b n r
  ·rw[n]at r;cases r
 have hm:∀b u,H b=some u→¬Mut (some u)→b≠x:=λb u q nm z=>by subst z;rw[q]at mu;exact nm mu
 refine⟨λb u q n _ _=>k b u (hb b n) q,λb u q n _ _=>⟨u.slots,k b u (hb b n) q⟩,λb u q n _=>by rw[zae (hx b n)];exact n,λb u q _=>?_,
  λb xs q=>by rw[zae (hm b _ q λz=>z)];exact q,λb u xs q=>by rw[zae (hm b _ q λz=>z)];exact q,λb ps q=>⟨#[],by rw[zae (hm b _ q λz=>z),q];simp⟩⟩
 by_cases dD:b=e
 ·subst dD;exact fk
 ·exact⟨u,k b u dD q⟩
end
def trk(h:Nm)(H:Hp):List Addr:=(List.range h.objs.size).filter λa=>(H a).isSome
def hidT(h:Nm)(H:Hp):Heap:=PySem.W.hideAll h (trk h H)
def hidT_size(h:Nm)(H:Hp):(hidT h H).objs.size=h.objs.size:=PySem.W.hideAll_size _ _
def hidT_get{h:Nm}{H:Hp}{b:Nb}{o:Obj}(e:h.get? b=some o)(n:H b=none):(hidT h H).get? b=some o :=
 PySem.W.hideAll_get _ e λhm=>by
  have q:(H b).isSome=true:=(Za.mp hm).2
  rw[n]at q;simp at q
def of_hidT{h:Nm}{H:Hp}{b:Nb}{o:Obj}(e:(hidT h H).get? b=some o):h.get? b=some o∧H b=none:=by
 have e':h.get? b=some o:=PySem.W.of_hideAll (trk h H) e
 refine⟨e',?_⟩
 cases q:H b with
 |none=>rfl
 |some x =>
  have hm:b∈trk h H:=Za.mpr ⟨Uu.mpr (Qt e'),by simp[q]⟩
  have z:(hidT h H).get? b=none:=PySem.W.hideAll_none (trk h H) hm
  rw[z]at e;cases e
end L2
namespace L2
open PySem PySem.Spec PyProof.Rows
structure Mod(K:Na)(mg:Nd)(base:Nm):Prop where
 kin:K.In base
 glob:base.Ns mainGlobals mg
 blt:∃mb,base.Ns builtinsNs mb∧∀x:Str,x ≠ "__name__" → mb x=bootBuiltins x
 nolimit:base.NoLimit
structure Cx where
 prog:Program
 w:World
 K:PySem.W.Frag
 mg:Str→Option Value
 base:Heap
 A:Around
 N:List Str
 s₀:Shared
 H₀:Hp
 env:Env
 outer:List Env
 stack:List Env
 ex:List Addr
 fn:Str→Bool
 calm:Bool
 pn:List (Addr×Obj)
 xe:Value→Shared→Prop
def frs(l:List Env):List Addr:=l.filterMap (·.frame)
abbrev Cx.fs(X:Cx):List Addr:=frs X.outer
def Vis(sc:Scope)(x:Str):Prop:=sc.names.lookup x=some .local∨sc.names.lookup x=some .cell∨sc.names.lookup x=some .free
def Loc(sc:Scope)(x:Str):Prop:=sc.names.lookup x=some .local∨sc.names.lookup x=some .cell
def Look(env:Env)(h:Nm)(m:Nd)(x:Str)(u:Value):Prop :=
 (env.kindOf x=some .local∧m x=some u)∨((env.kindOf x=some .cell∨env.kindOf x=some .free)∧∃c,env.cells.lookup x=some c∧h.IsCell c (some u))
structure Cx.Ok(X:Cx):Prop where
 mod:Mod X.K X.mg X.base
 kind:X.env.scope.kind=.function
 glob:X.env.globals=mainGlobals
 blt:X.env.builtins=builtinsNs
 above:X.s₀.heap.objs.size≤X.env.locals
 inj:∀x y c,X.env.cells.lookup x=some c→X.env.cells.lookup y=some c→x=y
 has:∀x,(X.env.kindOf x=some .cell∨X.env.kindOf x=some .free)→∃c,X.env.cells.lookup x=some c
 cab:∀x c,X.fn x=true→X.env.cells.lookup x=some c→X.s₀.heap.objs.size≤c
 hd:X.calm=true→X.A.handled=none
 frames:X.A.frames=some X.stack
 stk:X.stack=X.outer∨(X.stack=X.env::X.outer∧X.env.frame=some X.env.locals)
 exf:∀b∈X.ex,b≠X.env.locals∧∀x c,X.env.cells.lookup x=some c→c≠b
 bs:∀b o,X.base.get? b=some o→X.s₀.heap.get? b=some o∧X.H₀ b=none
 bsz:X.base.objs.size≤X.s₀.heap.objs.size
 noex:∀b o,X.base.get? b=some o→b∉X.ex
 exfs:∀b∈X.ex,b∉X.fs
 funs:X.s₀.heap.FunFrames X.base X.outer
 frf:∀b∈X.fs,X.H₀ b=none
structure Inv(X:Cx)(a7:Nf)(σ:List (Option V))(H:Hp)(s:Nh):Prop where
 ok:X.Ok
 os:s.os=X.s₀.os
 bare:AllBare s.gens
 base:Un X.fs X.ex X.H₀ H X.s₀.heap s.heap
 loc:∃m,s.heap.Ns X.env.locals m∧∀(i:Nat) (x:Str) (v:V),X.N[i]?=some x→σ[i]?=some (some v)→Vis X.env.scope x→∃u,RelV v u∧Look X.env s.heap m x u
 cell:∀x c,X.env.cells.lookup x=some c→∃v,s.heap.IsCell c v
 free:H X.env.locals=none
 freeC:∀x c,X.env.cells.lookup x=some c→H c=none
 pin:∀p∈X.pn++a7,s.heap.get? p.1=some p.2∧H p.1=none∧p.1≠X.env.locals∧p.1∉X.fs∧∀v,p.2.data≠.cell v
 hok:HOk X.prog X.w H s.heap
 len:σ.length=X.N.length
section
variable{X:Cx}{a7:Nf}{σ:List (Option V)}{H H':Hp}{s:Nh}{h':Nm}
def Cx.Ok.nofr(ok:X.Ok)(e:X.base.get? b=some o):b∉X.fs:=λhb=>by
 have:=(ok.funs.mem hb).1
 rw[e]at this;cases this
def Inv.bs(I:Inv X a7 σ H s):∀b o,X.base.get? b=some o→s.heap.get? b=some o∧H b=none:=λb o e =>
 ⟨I.base.keep b o (I.ok.bs b o e).1 (I.ok.bs b o e).2 (I.ok.nofr e) (I.ok.noex b o e),I.base.free b o (I.ok.bs b o e).1 (I.ok.bs b o e).2 (I.ok.noex b o e)⟩
def Inv.bk(I:Inv X a7 σ H s):∀b o,X.base.get? b=some o→s.heap.get? b=some o:=λb o e=>(I.bs b o e).1
def Inv.mod(I:Inv X a7 σ H s):Mod X.K X.mg X.base:=I.ok.mod
def Inv.kIn(I:Inv X a7 σ H s):X.K.In s.heap:=I.ok.mod.kin.keeps I.bk
def Inv.lt(I:Inv X a7 σ H s):X.env.locals<s.heap.objs.size:=let⟨_,hn,_⟩:=I.loc;hn.lt
def Inv.sz(I:Inv X a7 σ H s):X.s₀.heap.objs.size≤s.heap.objs.size:=Zk I.ok.above (Ug I.lt)
def Inv.nofs(I:Inv X a7 σ H s)(h:s.heap.objs.size≤a):a∉X.fs:=λhb=>by
 obtain⟨_,o,ho,_⟩:=I.ok.funs.mem hb
 exact absurd (Zo (Qt ho) (Zk I.sz h)) (Yu _)
def Inv.cne(I:Inv X a7 σ H s):∀x c,X.env.cells.lookup x=some c→c≠X.env.locals:=λx c e z=>by
 obtain⟨v,o,ho,hd⟩:=I.cell x c e
 obtain⟨m,⟨o',es,ep,de,iJ,_⟩,_⟩:=I.loc
 rw[z,de]at ho;cases ho;rw[iJ]at hd;cases hd
def Inv.funs(I:Inv X a7 σ H s):s.heap.FunFrames X.base X.outer:=by
 have all:∀(l:List Env),(∀b∈frs l,b∈X.fs)→X.s₀.heap.FunFrames X.base l→s.heap.FunFrames X.base l:=by
  intro l
  induction l with
  |nil=>intro _ _;trivial
  |cons env r ih =>
   intro hs hl
   obtain⟨hk,⟨L,o,hf,hn,ho,hd⟩,hr⟩:=hl
   have hL:L∈X.fs:=hs L (by unfold frs;rw[List.filterMap_cons,hf];exact List.mem_cons_self)
   obtain⟨sl,e⟩:=I.base.slot L o ho (I.ok.frf L hL) hL λz=>I.ok.exfs L z hL
   exact⟨hk,⟨L,_,hf,hn,e,hd⟩,ih (λb hb=>hs b (by unfold frs;rw[List.filterMap_cons,hf];exact List.mem_cons_of_mem _ hb)) hr⟩
 exact all X.outer (λ_ hb=>hb) I.ok.funs
def Inv.stack(I:Inv X a7 σ H s):s.heap.FunFrames X.base X.stack:=by
 rcases I.ok.stk with e | ⟨e,hf⟩
 ·rw[e];exact I.funs
 ·rw [e]
  obtain⟨m,hn,_⟩:=I.loc
  refine .cons (by rw[I.ok.kind];decide) hf hn ?_ I.funs
  exact Heap.get?_none_of_le (Zk I.ok.bsz I.ok.above)
def Inv.stkSub(I:Inv X a7 σ H s):∀b∈frs X.stack,b∈X.env.locals::X.fs:=λb hb=>by
 rcases I.ok.stk with e | ⟨e,hf⟩
 ·rw[e]at hb;exact Qg _ hb
 ·rw [e] at hb
  unfold frs at hb
  rw[List.filterMap_cons,hf]at hb
  exact hb
def Inv.stkFree(I:Inv X a7 σ H s):∀b∈frs X.stack,H b=none:=λb hb=>by
 rcases Qe.mp (I.stkSub b hb) with e | hb
 ·rw[e];exact I.free
 ·obtain ⟨_,o,ho,_⟩:=I.ok.funs.mem hb
  exact I.base.free b o ho (I.ok.frf b hb) λz=>I.ok.exfs b z hb
def Inv.step{g':Array GenState}{t':Nat}{d':Drawn}{ch:Nl}(I:Inv X a7 σ H s)(gW:∀b∈ch,(b∈X.ex∨X.s₀.heap.objs.size≤b)∧b≠X.env.locals∧(∀x c,X.env.cells.lookup x=some c→c≠b)∧∀p∈X.pn++a7,p.1≠b)(keep:∀b o,b≠X.env.locals→b∉X.fs→b∉ch→s.heap.get? b=some o→H b=none→h'.get? b=some o)(slot:∀b o,b≠X.env.locals→b∈X.fs→b∉ch→s.heap.get? b=some o→H b=none→∃sl,h'.get? b=some {o with slots:=sl})(free:∀b o,b∉ch→s.heap.get? b=some o→H b=none→H' b=none)(there:∀b o,b∉ch→s.heap.get? b=some o→∃o',h'.get? b=some o')(tups:∀b xs,H b=some (.tup xs)→H' b=some (.tup xs))(frzs:∀b o u,H b=some (.frz o u)→H' b=some (.frz o u))(tbls:∀b ps,H b=some (.tbl ps)→∃more,H' b=some (.tbl (ps++more)))(ns:∀m,s.heap.Ns X.env.locals m→h'.Ns X.env.locals m)(hok:HOk X.prog X.w H' h')(hg:AllBare g') :
  Inv X a7 σ H' {s with heap:=h',gens:=g',drawn:=d',toks:=t'}:=by
 have neL:∀b o,X.s₀.heap.get? b=some o→b≠X.env.locals:=λb o e=>Zc (Zo (Qt e) I.ok.above)
 have neC:∀b o,X.s₀.heap.get? b=some o→b∉X.ex→b∉ch:=λb o e hx hb=>by
  rcases(gW b hb).1 with z | z
  ·exact hx z
  ·exact absurd (Zo (Qt e) z) (Yu _)
 have cellK:∀x c,X.env.cells.lookup x=some c→∀v,s.heap.IsCell c v→h'.IsCell c v:=λx c e v ⟨o,ho,hd⟩=>by
  have nch:c∉ch:=λz=>(gW c z).2.2.1 x c e rfl
  by_cases hc:c∈X.fs
  ·obtain ⟨sl,q⟩:=slot c o (I.cne x c e) hc nch ho (I.freeC x c e)
   exact⟨_,q,hd⟩
  ·exact⟨o,keep c o (I.cne x c e) hc nch ho (I.freeC x c e),hd⟩
 refine⟨I.ok,I.os,hg,⟨λb o e n hb hx=>?_,λb o e n hb hx=>?_,λb o e n hx=>?_,λb o e hx=>?_,λb xs e=>tups b xs (I.base.tups b xs e),λb o xs e=>frzs b o xs (I.base.frzs b o xs e),λb ps e=>?_⟩,?_,λx c e=>?_,?_,λx c e=>?_,λp hp=>?_,hok,I.len⟩
 ·exact keep b o (neL b o e) hb (neC b o e hx) (I.base.keep b o e n hb hx) (I.base.free b o e n hx)
 ·obtain ⟨sl,e1⟩:=I.base.slot b o e n hb hx
  obtain⟨sl',e2⟩:=slot b _ (neL b o e) hb (neC b o e hx) e1 (I.base.free b o e n hx)
  exact⟨sl',e2⟩
 ·obtain ⟨o',e1⟩:=I.base.there b o e hx
  exact free b o' (neC b o e hx) e1 (I.base.free b o e n hx)
 ·obtain ⟨o',e1⟩:=I.base.there b o e hx
  exact there b o' (neC b o e hx) e1
 ·obtain ⟨m1,e1⟩:=I.base.tbls b ps e
  obtain⟨m2,e2⟩:=tbls b _ e1
  exact⟨m1++m2,by rw[e2,Array.append_assoc]⟩
 ·obtain ⟨m,hn,hl⟩:=I.loc
  refine⟨m,ns m hn,λi x v e1 e2 e3=>?_⟩
  obtain⟨u,r,l⟩:=hl i x v e1 e2 e3
  refine⟨u,r,?_⟩
  rcases l with l | ⟨k,c,e,z⟩
  ·exact .inl l
  ·exact .inr ⟨k,c,e,cellK x c e _ z⟩
 ·obtain ⟨v,z⟩:=I.cell x c e
  exact⟨v,cellK x c e v z⟩
 ·obtain ⟨m,⟨o,_,_,ho,_⟩,_⟩:=I.loc
  exact free _ o (λz=>(gW _ z).2.1 rfl) ho I.free
 ·obtain ⟨v,o,ho,hd⟩:=I.cell x c e
  exact free c o (λz=>(gW c z).2.2.1 x c e rfl) ho (I.freeC x c e)
 ·obtain ⟨e,n,ne,nf,d⟩:=I.pin p hp
  have nch:p.1∉ch:=λz=>(gW p.1 z).2.2.2 p hp rfl
  exact⟨keep p.1 p.2 ne nf nch e n,free p.1 p.2 nch e n,ne,nf,d⟩
def Inv.un{t':Nat}(I:Inv X a7 σ H s)(u:Un X.fs [] H H' s.heap h')(hok:HOk X.prog X.w H' h'):Inv X a7 σ H' {s with heap:=h',toks:=t'}:=by
 obtain⟨m,⟨o,es,ep,ho,r⟩,_⟩:=id I.loc
 obtain⟨sl,hL⟩:=u.any ho I.free (by simp)
 exact I.step (g':=s.gens) (d':=s.drawn) (ch:=[]) (λ_ z=>nomatch z) (λb o _ hb _ e n=>u.keep b o e n hb (by simp)) (λb o _ hb _ e n=>u.slot b o e n hb (by simp)) (λb o _ e n=>u.free b o e n (by simp)) (λb o _ e=>u.there b o e (by simp)) u.tups u.frzs u.tbls (λm' hm=>by
  obtain⟨o',ao,ep',de,r'⟩:=hm
  rw[ho]at de;cases de
  exact⟨_,ao,ep',hL,r'⟩) hok I.bare
def Inv.call{g':Array GenState}{t':Nat}{d':Drawn}{ch:Nl}(I:Inv X a7 σ H s)(u:Un (frs X.stack) ch H H' s.heap h')(hok:HOk X.prog X.w H' h')(hg:AllBare g')(gW:∀b∈ch,(b∈X.ex∨X.s₀.heap.objs.size≤b)∧b≠X.env.locals∧(∀x c,X.env.cells.lookup x=some c→c≠b)∧∀p∈X.pn++a7,p.1≠b) :
  Inv X a7 σ H' {s with heap:=h',gens:=g',drawn:=d',toks:=t'}:=by
 obtain⟨m,⟨o,es,ep,ho,r⟩,_⟩:=id I.loc
 obtain⟨sl,hL⟩:=u.any ho I.free λz=>(gW _ z).2.1 rfl
 exact I.step (ch:=ch) gW (λb o hL hb hc e n=>u.keep b o e n (λz=>(Qe.mp (I.stkSub b z)).elim hL hb) hc) (λb o _ _ hc e n=>u.any e n hc) (λb o hc e n=>u.free b o e n hc) (λb o hc e=>u.there b o e hc) u.tups u.frzs u.tbls (λm' hm=>by
  obtain⟨o',ao,ep',de,r'⟩:=hm
  rw[ho]at de;cases de
  exact⟨_,ao,ep',hL,r'⟩) hok hg
def Inv.turned{t':Nat}{it:Nb}(I:Inv X a7 σ H s)(k:∀b o,b≠it→s.heap.get? b=some o→h'.get? b=some o)(hn:H it=none)(hL:it≠X.env.locals)(h1:it∈X.ex∨X.s₀.heap.objs.size≤it)(h2:∀x c,X.env.cells.lookup x=some c→c≠it)(h3:∀p∈X.pn++a7,p.1≠it):Inv X a7 σ H {s with heap:=h',toks:=t'}:=by
 have nit:∀b u,H b=some u→b≠it:=λb u e z=>by rw[z,hn]at e;cases e
 refine I.step (g':=s.gens) (d':=s.drawn) (ch:=[it]) (λb hb=>?_) (λb o _ _ hc e _=>k b o (λz=>hc (by simp[z])) e) (λb o _ _ hc e _=>⟨o.slots,k b o (λz=>hc (by simp[z])) e⟩) (λ_ _ _ _ n=>n)
  (λb o hc e=>⟨o,k b o (λz=>hc (by simp[z])) e⟩) (λ_ _ e=>e) (λ_ _ _ e=>e) (λb ps e=>⟨#[],by rw[e];simp⟩) (λm hm=>?_) (λb u e=>?_) I.bare
 ·have e:b=it:=by simpa using hb
  subst e
  exact⟨h1,hL,h2,h3⟩
 ·obtain ⟨o,es,ep,ho,r⟩:=hm
  exact⟨o,es,ep,k _ o (Qw hL) ho,r⟩
 ·refine (I.hok b u e).stay (fun c v hc q=>k c v ?_ q) (fun _ q=>q) fun _ _ q=>q
  rcases hc with z | z
  ·rw[z];exact nit b u e
  ·exact nit c _ z
def Inv.tok(I:Inv X a7 σ H s)(t:Nat):Inv X a7 σ H {s with toks:=t}:=I.un (h':=s.heap) (t':=t) Un.refl I.hok
def Inv.kept{t':Nat}(I:Inv X a7 σ H s)(k:∀b u,s.heap.get? b=some u→h'.get? b=some u):Inv X a7 σ H {s with heap:=h',toks:=t'}:=I.un (Un.kept k) (I.hok.kept k)
def Inv.laid(I:Inv X a7 σ H s)(k:∀b u,s.heap.get? b=some u→h'.get? b=some u)(hp:s.heap.objs.size≤a)(new:zbs X.prog X.w (upd H a o) h' a o) :
  Inv X a7 σ (upd H a o) {s with heap:=h',toks:=t'}:=I.un (Un.laid k hp (I.hok.fresh hp)) (I.hok.laid k hp new)
def Inv.write(I:Inv X a7 σ H s)(mu:Mut (H x))(he:e=x∨H e=some (.own x))(k:∀b u,b≠e→s.heap.get? b=some u→h'.get? b=some u)(fk:∃u,h'.get? e=some u)(new:zbs X.prog X.w (upd H x o) h' x o):Inv X a7 σ (upd H x o) {s with heap:=h',toks:=t'}:=I.un (Un.write mu he k fk) (I.hok.write mu he k fk new)
def Inv.pins_of(I:Inv X a7 σ H s)(h:∀p∈pins',s.heap.get? p.1=some p.2∧H p.1=none∧p.1≠X.env.locals∧p.1∉X.fs∧∀v,p.2.data≠.cell v):Inv X pins' σ H s :=
 ⟨I.ok,I.os,I.bare,I.base,I.loc,I.cell,I.free,I.freeC,λp hp=>(Qi.mp hp).elim (λz=>I.pin p (Qo _ z)) (h p),I.hok,I.len⟩
def nodup_ix{N:Ng}(hN:N.Nodup){i j:Nat}{x:Str}(a:N[i]?=some x)(b:N[j]?=some x):i=j:=by
 obtain⟨h1,e1⟩:=Zd.mp a
 obtain⟨h2,e2⟩:=Zd.mp b
 exact(Yf hN).mp (e1.trans e2.symm)
def zf3{M:Model}{A:Nn}{E:Nc}{i:Nat}{x:Str}{v:V}{u:Value}{Q:Unit→Shared→Prop}(I:Inv X a7 σ H s)(hN:X.N.Nodup)(hi:X.N[i]?=some x)(hx:Loc X.env.scope x)(r:RelV v u)(h:∀s',Inv X a7 (σ.set i (some v)) H s'→(∃a,Heap.SameBut a s.heap s'.heap∧(a=X.env.locals∨X.env.cells.lookup x=some a))→Q () s')(hf:X.fn x=true∨X.env.scope.names.lookup x=some .local:=by first | exact .inl rfl | exact .inr rfl | assumption):wpAny M A (storeName X.env x u) Q E s:=by
 obtain⟨m,hn,hl⟩:=id I.loc
 have vo:(X.env.scope.kind==.class||(X.env.scope.kind==.module&&X.env.locals != X.env.globals))=false:=by rw[I.ok.kind];rfl
 have hiσ:i<σ.length:=by rw[I.len];exact(Zd.mp hi).1
 have cne:=I.cne
 have tracked:∀{a:Nb} {h':Nm},(∃o,s.heap.get? a=some o∧H a=none)→Heap.SameBut a s.heap h'→HOk X.prog X.w H h':=λ{a h'} ha hs b ob e=>by
  obtain⟨_,_,bo⟩:=ha
  refine(I.hok b ob e).stay (λc w' hc q=>(hs.2 c ?_).trans q) (λ_ q=>q) λ_ _ q=>q
  rintro rfl
  rcases hc with rfl | hc
  ·rw[bo]at e;cases e
  ·rw[bo]at hc;cases hc
 rcases hx with hk | hk
 ·refine wpAny_storeName_local hk hn (fun h' hn' hs=>?_) vo
  obtain⟨oL,_,_,hoL,_⟩:=id hn
  refine h _ ⟨I.ok,I.os,I.bare,⟨λb o e n hb hx=>?_,λb o e n hb hx=>?_,I.base.free,λb o e hx=>?_,I.base.tups,I.base.frzs,I.base.tbls⟩,⟨_,hn',λj y v' e1 e2 e3=>?_⟩,λy c e=>?_,I.free,I.freeC,λp hp=>?_,tracked ⟨oL,hoL,I.free⟩ hs,by simpa using I.len⟩ ⟨_,hs,.inl rfl⟩
  ·exact(hs.2 b (Zc (Zo (Qt e) I.ok.above))).trans (I.base.keep b o e n hb hx)
  ·obtain ⟨sl,e1⟩:=I.base.slot b o e n hb hx
   exact⟨sl,(hs.2 b (Zc (Zo (Qt e) I.ok.above))).trans e1⟩
  ·obtain ⟨o',e1⟩:=I.base.there b o e hx
   exact⟨o',(hs.2 b (Zc (Zo (Qt e) I.ok.above))).trans e1⟩
  ·by_cases hj:j=i
   ·subst hj
    rw[hi]at e1;cases e1
    rw[List.getElem?_set_self hiσ]at e2
    cases e2
    exact⟨u,r,.inl ⟨hk,by simp⟩⟩
   ·rw [List.getElem?_set_ne (Qw hj)] at e2
    obtain⟨u',r',q⟩:=hl j y v' e1 e2 e3
    refine⟨u',r',?_⟩
    rcases q with⟨k,e⟩ | ⟨k,c,e,z⟩
    ·refine .inl ⟨k,?_⟩
     have:y≠x:=λe=>hj (nodup_ix hN e1 (e▸hi))
     simp[this,e]
    ·exact .inr ⟨k,c,e,z.sameBut hs (cne y c e)⟩
  ·obtain ⟨w',z⟩:=I.cell y c e
   exact⟨w',z.sameBut hs (cne y c e)⟩
  ·obtain ⟨e,n,ne,nf,d⟩:=I.pin p hp
   exact⟨(hs.2 p.1 ne).trans e,n,ne,nf,d⟩
 ·have uH:X.fn x=true:=by
   rcases hf with z | z
   ·exact z
   ·rw[z]at hk;cases hk
  obtain⟨c,hc⟩:=I.ok.has x (.inl hk)
  obtain⟨w',z⟩:=I.cell x c hc
  refine wpAny_storeName_cell I.ok.kind hk hc z (λh' bZ hs=>?_)
  obtain⟨oc,hoc,ud⟩:=id z
  refine h {s with heap:=h'} ⟨I.ok,I.os,I.bare,⟨λb o e n hb hx=>?_,λb o e n hb hx=>?_,I.base.free,λb o e hx=>?_,I.base.tups,I.base.frzs,I.base.tbls⟩,⟨m,hn.sameBut hs (Qw (cne x c hc)),λj y v' e1 e2 e3=>?_⟩,λy c' e=>?_,I.free,I.freeC,λp hp=>?_,tracked ⟨oc,hoc,I.freeC x c hc⟩ hs,by simpa using I.len⟩ ⟨c,hs,.inr hc⟩
  ·exact(hs.2 b (Zc (Zo (Qt e) (I.ok.cab x c uH hc)))).trans (I.base.keep b o e n hb hx)
  ·obtain ⟨sl,e1⟩:=I.base.slot b o e n hb hx
   exact⟨sl,(hs.2 b (Zc (Zo (Qt e) (I.ok.cab x c uH hc)))).trans e1⟩
  ·obtain ⟨o',e1⟩:=I.base.there b o e hx
   exact⟨o',(hs.2 b (Zc (Zo (Qt e) (I.ok.cab x c uH hc)))).trans e1⟩
  ·by_cases hj:j=i
   ·subst hj
    rw[hi]at e1;cases e1
    rw[List.getElem?_set_self hiσ]at e2
    cases e2
    exact⟨u,r,.inr ⟨.inl hk,c,hc,bZ⟩⟩
   ·rw [List.getElem?_set_ne (Qw hj)] at e2
    obtain⟨u',r',q⟩:=hl j y v' e1 e2 e3
    refine⟨u',r',?_⟩
    rcases q with q | ⟨k,c',e,z'⟩
    ·exact .inl q
    ·refine .inr ⟨k,c',e,z'.sameBut hs ?_⟩
     rintro rfl
     exact hj (nodup_ix hN e1 (I.ok.inj _ _ _ e hc▸hi))
  ·by_cases eG:c'=c
   ·subst eG;exact⟨_,bZ⟩
   ·obtain ⟨w2,z2⟩:=I.cell y c' e
    exact⟨w2,z2.sameBut hs eG⟩
  ·obtain ⟨e,n,ne,nf,d⟩:=I.pin p hp
   refine⟨(hs.2 p.1 ?_).trans e,n,ne,nf,d⟩
   intro q
   rw[q,hoc]at e
   have q':oc=p.2:=Qk e
   exact d w' (by rw[←q'];exact ud)
def zfp(I:Inv X a7 σ H s)(hN:X.N.Nodup)(hi:X.N[i]?=some x)(hx:Loc X.env.scope x)(r:RelV v u)(h:∀s',Inv X a7 (σ.set i (some v)) H s'→Q () s')(hf:X.fn x=true∨X.env.scope.names.lookup x=some .local:=by first | exact .inl rfl | exact .inr rfl | assumption):wpAny M A (storeName X.env x u) Q E s :=
 zf3 I hN hi hx r (λs' I' _=>h s' I') hf
def Inv.call'(I:Inv X a7 σ H s)(ho:s'.os=s.os)(u:Un (frs X.stack) ch H H' s.heap s'.heap)(hok:HOk X.prog X.w H' s'.heap)(hg:AllBare s'.gens)(gW:∀b∈ch,(b∈X.ex∨X.s₀.heap.objs.size≤b)∧b≠X.env.locals∧(∀x c,X.env.cells.lookup x=some c→c≠b)∧∀p∈X.pn++a7,p.1≠b):Inv X a7 σ H' s':=by
 obtain⟨h',g',d',t',o'⟩:=s'
 have e:o'=s.os:=ho
 subst e
 exact I.call (g':=g') (t':=t') (d':=d') u hok hg gW
end
abbrev XK:=Value→Option Addr→Hp→Prop
abbrev St:=List (Option V)
abbrev VK:=V→Hp→Prop
abbrev TE:=St→Hp→VK→Prop
abbrev TT:=St→Hp→(Bool→Hp→Prop)→Prop
abbrev TA:=St→Hp→(List V→Hp→Prop)→Prop
structure Ends where
 nx:St→Hp→Prop
 rt:VK
 bk:St→Hp→Prop:=λ_ _=>False
 ct:St→Hp→Prop:=λ_ _=>False
abbrev TS:=Ends→St→Hp→Prop
inductive EP(X:Cx)(a7:Nf)(σ:St)(Q:VK)(u:Value)(s':Nh):Prop
 |mk (v:V) (H':Hp) (i:Inv X a7 σ H' s') (r:RelV v u) (q:Q v H'):EP X a7 σ Q u s'
inductive TP(X:Cx)(a7:Nf)(σ:St)(Q:Bool→Hp→Prop)(b:Bool)(s':Nh):Prop
 |mk (H':Hp) (i:Inv X a7 σ H' s') (q:Q b H'):TP X a7 σ Q b s'
inductive AP(X:Cx)(a7:Nf)(σ:St)(Q:List V→Hp→Prop)(us:Nj)(s':Nh):Prop
 |mk (vs:List V) (H':Hp) (i:Inv X a7 σ H' s') (r:Vals vs us) (q:Q vs H'):AP X a7 σ Q us s'
def SP(X:Cx)(a7:Nf)(D:Ends)(f:Flow)(s':Nh):Prop :=
 match f with
 |.next=>Ex2 λ σ' H'=>Aj2 (Inv X a7 σ' H' s') (D.nx σ' H')
 |.brk=>Ex2 λ σ' H'=>Aj2 (Inv X a7 σ' H' s') (D.bk σ' H')
 |.cont=>Ex2 λ σ' H'=>Aj2 (Inv X a7 σ' H' s') (D.ct σ' H')
 |.ret u=>Ex3 λv σ' H'=>Aj3 (Inv X a7 σ' H' s') (RelV v u) (D.rt v H')
def PE(X:Cx)(e:Expr)(t:TE):Prop :=
 ∀(a7:Nf) (s:Nh) (σ:St) (H:Hp) (Q:VK),Inv X a7 σ H s→t σ H Q→wpAny (model X.prog X.w) X.A (eval e X.env) (EP X a7 σ Q) X.xe s
def PT(X:Cx)(e:Expr)(t:TT):Prop :=
 ∀(a7:Nf) (s:Nh) (σ:St) (H:Hp) (Q:Bool→Hp→Prop),Inv X a7 σ H s→t σ H Q→wpAny (model X.prog X.w) X.A (isTrue e X.env (eval e X.env)) (TP X a7 σ Q) X.xe s
def PW(X:Cx)(e:Expr)(t:TT):Prop :=
 ∀(whole:Sem Value) (a7:Nf) (s:Nh) (σ:St) (H:Hp) (Q:Bool→Hp→Prop),Inv X a7 σ H s→t σ H Q→wpAny (model X.prog X.w) X.A (isTrue e X.env whole) (TP X a7 σ Q) X.xe s
def PW.pt(h:PW X e t):PT X e t:=h _
def PA(X:Cx)(es:Np)(t:TA):Prop :=
 ∀(pos:Pos) (a7:Nf) (s:Nh) (σ:St) (H:Hp) (Q:List V→Hp→Prop),Inv X a7 σ H s→t σ H Q→wpAny (model X.prog X.w) X.A (spliced (backTo pos (starEach es X.env))) (AP X a7 σ Q) X.xe s
def PS(X:Cx)(st:Stmt)(t:TS):Prop :=
 ∀(a7:Nf) (s:Nh) (σ:St) (H:Hp) (D:Ends),Inv X a7 σ H s→t D σ H→wpAny (model X.prog X.w) X.A (exec st X.env) (SP X a7 D) X.xe s
def PSs(X:Cx)(st:List Stmt)(t:TS):Prop :=
 ∀(a7:Nf) (s:Nh) (σ:St) (H:Hp) (D:Ends),Inv X a7 σ H s→t D σ H→wpAny (model X.prog X.w) X.A (execs st X.env) (SP X a7 D) X.xe s
def thn{α:Type}{t:Sem α}{Q Q':α→Shared→Prop}{M:Model}{A:Nn}{E:Nc}{s:Nh}(h:wpAny M A t Q E s)(hQ:∀a s,Q a s→Q' a s):wpAny M A t Q' E s:=wpAny_mono h hQ λ_ _ x=>x
end L2
namespace L2
open PySem PySem.Spec PyProof.Rows
section
variable{X:Cx}
def bin{a b:Expr}{ta tb:TE}(ha:PE X a ta)(hb:PE X b tb){a7:Nf}{s:Nh}{σ:St}{H:Hp}{R:V→V→Hp→Prop}(I:Inv X a7 σ H s)(h:ta σ H λx H1=>tb σ H1 λy H2=>R x y H2){α:Type}{Q:α→Shared→Prop}{f:Value→Value→Sem α}(hf:∀v u s2 x y H2,Inv X a7 σ H2 s2→RelV x v→RelV y u→R x y H2→wpAny (model X.prog X.w) X.A (f v u) Q X.xe s2) :
  wpAny (model X.prog X.w) X.A (eval a X.env) (λv s₁=>wpAny (model X.prog X.w) X.A (eval b X.env) (λu s₂=>wpAny (model X.prog X.w) X.A (f v u) Q X.xe s₂) X.xe s₁) X.xe s:=by
 refine thn (ha a7 s σ H _ I h) λv s1 ⟨x,H1,I1,r1,q1⟩=>?_
 refine thn (hb a7 s1 σ H1 _ I1 q1) λu s2 ⟨y,H2,I2,r2,q2⟩=>?_
 exact hf v u s2 x y H2 I2 r1 r2 q2
inductive RVar(o:Option (Option V))(H:Hp)(Q:VK):Prop
 |mk (v:V) (e:o=some (some v)) (q:Q v H):RVar o H Q
def tVar(i:Nat):TE:=λ σ H Q=>RVar σ[i]? H Q
def tC(v:V):TE:=λ_ H Q=>Q v H
def pe_var(hN:X.N[i]?=some x)(hv:Vis X.env.scope x)(hd:(x==("__debug__" : Str))=false:=by decide)(aB:(x==("__classdict__" : Str))=false:=by decide):PE X (.Name x pos) (tVar i):=by
 intro a7 s σ H Q I h
 obtain⟨v,e,h⟩:=h
 obtain⟨m,hn,hl⟩:=I.loc
 obtain⟨u,r,l⟩:=hl i x v hN e hv
 have fin:EP X a7 σ Q u s:=⟨v,H,I,r,h⟩
 rcases l with⟨hk,hm⟩ | ⟨hk,c,hc,jk⟩
 ·exact wpAny_Name (wpAny_loadName_local I.ok.kind hk hn hm fin) hd
 ·rcases hk with hk | hk
  ·exact wpAny_Name (wpAny_loadName_cell I.ok.kind hk hc jk fin) hd
  ·exact wpAny_Name (wpAny_loadName_free I.ok.kind hk hc jk fin aB) hd
def zai{i j pos}:PE X (.Constant (.int i) j pos) (tC (.int i)):=λ_ _ _ H _ I h=>wpAny_Constant_int ⟨.int i,H,I.tok _,⟨_,rfl⟩,h⟩
def pe_bl{b j pos}:PE X (.Constant (.bool b) j pos) (tC (.bl b)):=λ_ _ _ H _ I h=>Constant_bool ⟨.bl b,H,I,rfl,h⟩
def zhk{j pos}:PE X (.Constant .none j pos) (tC .non):=λ_ _ _ H _ I h=>Constant_none ⟨.non,H,I,rfl,h⟩
def pe_str{x j pos}:PE X (.Constant (.str x) j pos) (tC (.str x)):=λ_ _ _ H _ I h=>Calls.Constant_str ⟨.str x,H,I.tok _,⟨_,rfl⟩,h⟩
def Gl(X:Cx)(x:Str):Prop:=X.env.kindOf x=some .globalImplicit
def ld_glob(I:Inv X a7 σ H s)(hg:Gl X x)(hm:X.mg x=some u)(h:Q u s)(hd:(x==("__debug__" : Str))=false:=by decide):wpAny (model X.prog X.w) X.A (eval (.Name x pos) X.env) Q E s :=
 Calls.Name_function_global I.ok.kind hg (Calls.loadGlobal_global (by rw[I.ok.glob];exact I.mod.glob.keeps I.bk) hm h) hd
def zd1(I:Inv X a7 σ H s)(hg:Gl X x)(hm:X.mg x=none)(hv:bootBuiltins x=some u)(h:Q u s)(hn:x ≠ "__name__" := by decide)(hd:(x==("__debug__" : Str))=false:=by decide):wpAny (model X.prog X.w) X.A (eval (.Name x pos) X.env) Q E s:=by
 obtain⟨mb,h1,h2⟩:=I.mod.blt
 exact Calls.Name_function_global I.ok.kind hg (Calls.loadGlobal_builtin (by rw[I.ok.glob];exact I.mod.glob.keeps I.bk) hm (by rw[I.ok.blt];exact h1.keeps I.bk) ((h2 x hn).trans hv) h) hd
def pe_glob(hg:Gl X x)(hm:X.mg x=some u)(r:RelV v u)(hd:(x==("__debug__" : Str))=false:=by decide):PE X (.Name x pos) (tC v) :=
 λ_ _ _ H _ I h=>ld_glob I hg hm ⟨v,H,I,r,h⟩ hd
variable{a b:Expr}{ta tb:TE}{pos:Pos}
def PC(X:Cx)(op:CmpOp)(a b:Expr)(t:TE):Prop :=
 ∀(a7:Nf) (s:Nh) (σ:St) (H:Hp) (Q:VK),Inv X a7 σ H s→t σ H Q →
  wpAny (model X.prog X.w) X.A (eval a X.env) (λv s₁=>wpAny (model X.prog X.w) X.A (eval b X.env) (λu s₂=>wpAny (model X.prog X.w) X.A (compareOp op v u) (EP X a7 σ Q) X.xe s₂) X.xe s₁) X.xe s
def nobehind(b:Expr){op:CmpOp}(h:op≠.In)(h2:op≠.NotIn):behindInMarks op b=false:=by
 have e1:(op==CmpOp.In)=false:=by cases op<;>first | rfl | exact absurd rfl h
 have e2:(op==CmpOp.NotIn)=false:=by cases op<;>first | rfl | exact absurd rfl h2
 cases b<;>simp[behindInMarks,e1,e2]
def tNotN(ta:TE):TE:=λ σ H Q=>ta σ H λx H1=>Q (.bl (!decide (x=.non))) H1
def RelV.none_iff{x:V}{v:Value}(r:RelV x v):(v==Value.none)=decide (x=.non):=by
 cases x with
 |non=>cases r;rfl
 |bl _=>cases r;rfl
 |int _=>obtain⟨t,rfl⟩:=r;rfl
 |str _=>obtain⟨t,rfl⟩:=r;rfl
 |byt _=>obtain⟨t,rfl⟩:=r;rfl
 |flt _=>obtain⟨t,rfl⟩:=r;rfl
 |ref _=>cases r;rfl
 |ty _=>cases r;rfl
def zig{j aU}(ha:PE X a ta):PC X .IsNot a (.Constant .none j aU) (tNotN ta):=by
 intro a7 s σ H Q I h
 refine thn (ha a7 s σ H _ I h) λv s1 ⟨x,H1,I1,r1,q1⟩=>?_
 exact Constant_none (isnot_none_gen ⟨.bl _,H1,I1,by rw[r1.none_iff];rfl,q1⟩)
inductive RB(x:V)(H:Hp)(Q:Bool→Hp→Prop):Prop
 |mk (c:Bool) (e:x=.bl c) (q:Q c H):RB x H Q
def tB(t:TE):TT:=λ σ H Q=>t σ H λx H1=>RB x H1 Q
def zcv{op:CmpOp}{t:TE}(h:PC X op a b t)(h1:behindInMarks op b=false:=by first | exact nobehind _ (by decide) (by decide) | rfl):PT X (.Compare a [op] [b] pos) (tB t):=by
 intro a7 s σ H Q I hw
 refine wpAny_isTrue_Compare1 (thn (h a7 s σ H _ I hw) λv s1 h1=>thn h1 λu s2 h2=>thn h2 λc s3 ⟨x,H1,I1,r1,q1⟩=>?_) h1
 obtain⟨d,rfl,q⟩:=q1
 cases r1
 exact wpAny_truthy_bool ⟨H1,I1,q⟩
def pt_val{e:Expr}{t:TE}(h:PE X e t)(he:∀whole,isTrue e X.env whole=(do let v ←whole;standAt e.pos;holding [v] (truthy v)):=by intro _;rfl):PT X e (tB t):=by
 intro a7 s σ H Q I hw
 refine isTrue_plain (thn (h a7 s σ H _ I hw) λv s1 ⟨x,H1,I1,r1,q1⟩=>?_) (he _)
 obtain⟨d,rfl,q⟩:=q1
 cases r1
 exact wpAny_truthy_bool ⟨H1,I1,q⟩
variable{tA qk:TT}{rest:Np}
def tAnd(t u:TT):TT:=λ σ H Q=>t σ H λc H1=>if c=true then u σ H1 Q else Q false H1
def tOr(t u:TT):TT:=λ σ H Q=>t σ H λc H1=>if c=true then Q true H1 else u σ H1 Q
def tNot(t:TT):TT:=λ σ H Q=>t σ H λc H1=>Q (!c) H1
def zgb(ha:PT X a tA):PW X (.BoolOp .And [a] pos) tA:=by
 intro wh a7 s σ H Q I h
 refine isTrue_and (thn (ha a7 s σ H Q I h) λc s1 e=>?_)
 cases c with
 |true=>exact isTrue_and_nil e
 |false=>exact e
def zhi(ha:PT X a tA):PW X (.BoolOp .Or [a] pos) tA:=by
 intro wh a7 s σ H Q I h
 refine isTrue_or (thn (ha a7 s σ H Q I h) λc s1 e=>?_)
 cases c with
 |false=>exact isTrue_or_nil e
 |true=>exact e
def pw_and(ha:PT X a tA)(hb:PW X (.BoolOp .And (b::rest) pos) qk):PW X (.BoolOp .And (a::b::rest) pos) (tAnd tA qk):=by
 intro wh a7 s σ H Q I h
 refine isTrue_and (thn (ha a7 s σ H _ I h) λc s1 ⟨H1,I1,q1⟩=>?_)
 cases c with
 |true=>exact hb wh a7 s1 σ H1 Q I1 q1
 |false=>exact⟨H1,I1,q1⟩
def pw_or(ha:PT X a tA)(hb:PW X (.BoolOp .Or (b::rest) pos) qk):PW X (.BoolOp .Or (a::b::rest) pos) (tOr tA qk):=by
 intro wh a7 s σ H Q I h
 refine isTrue_or (thn (ha a7 s σ H _ I h) λc s1 ⟨H1,I1,q1⟩=>?_)
 cases c with
 |true=>exact⟨H1,I1,q1⟩
 |false=>exact hb wh a7 s1 σ H1 Q I1 q1
def pt_not(ha:PT X a tA):PT X (.UnaryOp .Not a pos) (tNot tA):=by
 intro a7 s σ H Q I h
 exact isTrue_not (wpAny_mono (ha a7 s σ H (λc H1=>Q (!c) H1) I h) (λc s2 z=>by obtain⟨a,b,d⟩:=z;exact⟨a,b,d⟩) λ_ _ e=>e)
def tAndV(ta tb:TE):TE:=λ σ H Q=>ta σ H λx H1=>RB x H1 λc H1=>if c=true then tb σ H1 Q else Q (.bl false) H1
def pe_one{op}(h:PE X a t):PE X (.BoolOp op [a] pos) t:=λa7 s σ H Q I hw=>BoolOp_one (h a7 s σ H Q I hw)
def pe_and(ha:PE X a ta)(hb:PE X (.BoolOp .And (b::rest) pos) tb):PE X (.BoolOp .And (a::b::rest) pos) (tAndV ta tb):=by
 intro a7 s σ H Q I h
 refine BoolOp_and (thn (ha a7 s σ H _ I h) λv s1 ⟨x,H1,I1,r1,q1⟩=>?_)
 obtain⟨c,rfl,q1⟩:=q1
 cases r1
 refine wpAny_truthy_bool ?_
 cases c with
 |true=>exact hb a7 s1 σ H1 Q I1 q1
 |false=>exact⟨.bl false,H1,I1,rfl,q1⟩
def tIf(t:TT)(ta tb:TE):TE:=λ σ H Q=>t σ H λc H1=>if c=true then ta σ H1 Q else tb σ H1 Q
def pe_ifExp{c:Expr}(hc:PT X c tA)(ha:PE X a ta)(hb:PE X b tb):PE X (.IfExp c a b pos) (tIf tA ta tb):=by
 intro a7 s σ H Q I h
 refine wpAny_IfExp (thn (hc a7 s σ H _ I h) λd s1 ⟨H1,I1,q1⟩=>?_)
 cases d with
 |true=>exact ha a7 s1 σ H1 Q I1 q1
 |false=>exact hb a7 s1 σ H1 Q I1 q1
end
end L2
namespace L2
open PySem PySem.Spec PyProof.Rows
def SqL(K:Na)(H:Hp)(a:Nb)(xs:List V):Prop :=
 Rd H a (.lst xs) ∨
  ∃(o:Obj) (a8:Array Value) (n:Nat),K.lookup a=some o∧o.cls=.type "list" ∧ o.dict=none∧o.data=.seq a8 n∧a8.size≤sizeLine∧Vals xs a8.toList
def SqT(K:Na)(H:Hp)(a:Nb)(xs:List V):Prop :=
 Rd H a (.tup xs) ∨
  ∃(o:Obj) (a8:Array Value) (n:Nat),K.lookup a=some o∧o.cls=.type "tuple" ∧ o.data=.seq a8 n∧a8.size≤sizeLine∧Vals xs a8.toList
def absV:Value→Option V
 |.none=>some .non
 |.bool b=>some (.bl b)
 |.int i _=>some (.int i)
 |.str x _=>some (.str x)
 |.bytes b _=>some (.byt b)
 |.float b _=>some (.flt b)
 |.ref a=>some (.ref a)
 |.type n=>some (.ty n)
 |_=>none
def RelV.abs(r:RelV x u):absV u=some x:=by
 cases x with
 |non=>cases r;rfl
 |bl _=>cases r;rfl
 |int _=>obtain⟨t,rfl⟩:=r;rfl
 |str _=>obtain⟨t,rfl⟩:=r;rfl
 |byt _=>obtain⟨t,rfl⟩:=r;rfl
 |flt _=>obtain⟨t,rfl⟩:=r;rfl
 |ref _=>cases r;rfl
 |ty _=>cases r;rfl
def RelV.inj{x y:V}{u:Value}(r:RelV x u)(q:RelV y u):x=y:=Qk (r.abs.symm.trans q.abs)
theorem Vals.inj:∀{xs ys:List V} {us:Nj},Vals xs us→Vals ys us→xs=ys
 |_,_,_,.nil,.nil=>rfl
 |_,_,_,.cons r t,.cons r' t'=>by rw[r.inj r',Vals.inj t t']
section
variable{X:Cx}{a7:Nf}{σ:St}{H:Hp}{s:Nh}{a:Nb}{xs ys:List V}
def SqL.of{K:Na}(h:H a=some (.lst xs)):SqL K H a xs:=.inl (.inl h)
def SqT.of{K:Na}(h:H a=some (.tup xs)):SqT K H a xs:=.inl (.inl h)
def Inv.list(I:Inv X a7 σ H s)(h:SqL X.K H a xs):∃a8:List Value,Vals xs a8∧PlainL s.heap a a8.toArray∧xs.length≤sizeLine:=by
 rcases h with h | ⟨o,a8,n,hk,hc,hd,hs,hz,r⟩
 ·obtain ⟨z,a8,n,r,e⟩:=h.ok I.hok
  exact⟨a8,r,⟨_,n,e,rfl,rfl,rfl⟩,z⟩
 ·refine ⟨a8.toList,r,⟨o,n,I.kIn a o hk,hc,hd,by simpa using hs⟩,?_⟩
  have e:=r.length
  simp only[Yv]at e
  lia
def Inv.tuple(I:Inv X a7 σ H s)(h:SqT X.K H a xs):∃a8:List Value,Vals xs a8∧IsTup s.heap a a8.toArray∧xs.length≤sizeLine:=by
 rcases h with h | ⟨o,a8,n,hk,hc,hs,hz,r⟩
 ·obtain ⟨z,a8,r,p⟩:=h.ok I.hok
  exact⟨a8,r,p,z⟩
 ·refine ⟨a8.toList,r,⟨o,I.kIn a o hk,hc,n,by simpa using hs⟩,?_⟩
  have e:=r.length
  simp only[Yv]at e
  lia
def Inv.list_inj(I:Inv X a7 σ H s)(h:SqL X.K H a xs)(h':SqL X.K H a ys):xs=ys:=by
 obtain⟨a8,r,⟨o,n,e,_,_,d⟩,_⟩:=I.list h
 obtain⟨its',r',⟨o',n',e',_,_,d'⟩,_⟩:=I.list h'
 rw[e]at e';cases e'
 rw[d]at d'
 injection d' with d1 _
 have:a8=its':=by simpa using congrArg Array.toList d1
 subst this
 exact r.inj r'
def Inv.tuple_inj(I:Inv X a7 σ H s)(h:SqT X.K H a xs)(h':SqT X.K H a ys):xs=ys:=by
 obtain⟨a8,r,⟨o,e,_,n,d⟩,_⟩:=I.tuple h
 obtain⟨its',r',⟨o',e',_,n',d'⟩,_⟩:=I.tuple h'
 rw[e]at e';cases e'
 rw[d]at d'
 injection d' with d1 _
 have:a8=its':=by simpa using congrArg Array.toList d1
 subst this
 exact r.inj r'
end
abbrev Cx.wish(X:Cx)(E:Nc):Cx:={X with xe:=E}
abbrev Cx.nox(X:Cx):Cx:=X.wish λ_ _=>False
def Cx.Ok.wish{X:Cx}(ok:X.Ok)(E:Nc):(X.wish E).Ok :=
 ⟨ok.mod,ok.kind,ok.glob,ok.blt,ok.above,ok.inj,ok.has,ok.cab,ok.hd,ok.frames,ok.stk,ok.exf,ok.bs,ok.bsz,ok.noex,ok.exfs,ok.funs,ok.frf⟩
def Cx.Ok.unwish{X:Cx}{E:Nc}(ok:(X.wish E).Ok):X.Ok :=
 ⟨ok.mod,ok.kind,ok.glob,ok.blt,ok.above,ok.inj,ok.has,ok.cab,ok.hd,ok.frames,ok.stk,ok.exf,ok.bs,ok.bsz,ok.noex,ok.exfs,ok.funs,ok.frf⟩
section
variable{X:Cx}{a7:Nf}{σ:St}{H:Hp}{s:Nh}{E:Nc}
def Inv.wish(I:Inv X a7 σ H s)(E:Nc):Inv (X.wish E) a7 σ H s:=⟨I.ok.wish E,I.os,I.bare,I.base,I.loc,I.cell,I.free,I.freeC,I.pin,I.hok,I.len⟩
def Inv.unwish(I:Inv (X.wish E) a7 σ H s):Inv X a7 σ H s:=⟨I.ok.unwish,I.os,I.bare,I.base,I.loc,I.cell,I.free,I.freeC,I.pin,I.hok,I.len⟩
def SP.unwish(h:SP (X.wish E) a7 D f s'):SP X a7 D f s':=by
 cases f with
 |next=>obtain⟨σ',H',I,q⟩:=h;exact⟨σ',H',I.unwish,q⟩
 |brk=>obtain⟨σ',H',I,q⟩:=h;exact⟨σ',H',I.unwish,q⟩
 |cont=>obtain⟨σ',H',I,q⟩:=h;exact⟨σ',H',I.unwish,q⟩
 |ret u=>obtain⟨v,σ',H',I,r,q⟩:=h;exact⟨v,σ',H',I.unwish,r,q⟩
def PSs.nox{st:List Stmt}{t:TS}(h:PSs X.nox st t):PSs X st t:=λa7 s σ H D I hw =>
 wpAny_mono (h a7 s σ H D (I.wish _) hw) (λ_ _ q=>q.unwish) λ_ _ z=>False.elim z
end
section
variable{X:Cx}{st:Stmt}{rest:List Stmt}{t u:TS}{e:Expr}{te:TE}{pos:Pos}
def tNext:TS:=λD σ H=>D.nx σ H
def tSeq(t u:TS):TS:=λD σ H=>t {D with nx:=u D} σ H
def zaw:PSs X [] tNext:=λ_ _ σ H _ I h=>wpAny_execs_nil ⟨σ,H,I,h⟩
def zad(h1:PS X st t)(h2:PSs X rest u):PSs X (st::rest) (tSeq t u):=by
 intro a7 s σ H D I h
 refine wpAny_execs_cons (thn (h1 a7 s σ H {D with nx:=u D} I h) λf s1 q=>?_)
 cases f with
 |next =>
  obtain⟨σ',H',I',q⟩:=q
  exact h2 a7 s1 σ' H' D I' q
 |ret v=>exact q
 |brk=>exact q
 |cont=>exact q
def zah(h1:PS X st t):PSs X [st] t:=by
 intro a7 s σ H D I h
 refine wpAny_execs_cons (thn (h1 a7 s σ H D I h) λf s1 q=>?_)
 cases f with
 |next=>exact wpAny_execs_nil q
 |ret v=>exact q
 |brk=>exact q
 |cont=>exact q
def Inv.quiet{a7:Nf}{σ:St}{H:Hp}{s:Nh}(I:Inv X a7 σ H s):interactive X.env=false:=by simp[interactive,I.ok.kind]
def tDrop(te:TE):TS:=λD σ H=>te σ H λ_ H1=>D.nx σ H1
def za3(he:PE X e te)(hs:swapsWith e none pos.line X.env=pure false:=by rfl):PS X (.Expr e pos) (tDrop te):=by
 intro a7 s σ H D I h
 exact wpAny_Expr_any (thn (he a7 s σ H _ I h) λv s1 ⟨x,H1,I1,r1,q1⟩=>⟨σ,H1,I1,q1⟩) I.quiet hs
def tRet(te:TE):TS:=λD σ H=>te σ H D.rt
def zbn(he:PE X e te):PS X (.Return (some e) pos) (tRet te):=by
 intro a7 s σ H D I h
 exact wpAny_Return_some (thn (he a7 s σ H _ I h) λv s1 ⟨x,H1,I1,r1,q1⟩=>⟨x,σ,H1,I1,r1,q1⟩)
def tIfS(c:TT)(t u:TS):TS:=λD σ H=>c σ H λb H1=>if b=true then t D σ H1 else u D σ H1
def zbp{c:Expr}{a b:List Stmt}{tc:TT}(hc:PT X c tc)(ha:PSs X a t)(hb:PSs X b u):PS X (.If c a b pos) (tIfS tc t u):=by
 intro a7 s σ H D I h
 refine wpAny_If (thn (hc a7 s σ H _ I h) λd s1 ⟨H1,I1,q1⟩=>?_)
 cases d with
 |true=>exact ha a7 s1 σ H1 D I1 q1
 |false=>exact hb a7 s1 σ H1 D I1 q1
end
abbrev TG:=V→St→Hp→(St→Hp→Prop)→Prop
abbrev TGs:=List V→St→Hp→(St→Hp→Prop)→Prop
def PG(X:Cx)(target:Expr)(t:TG):Prop :=
 ∀(a7:Nf) (s:Nh) (σ:St) (H:Hp) (v:V) (u:Value) (Q:St→Hp→Prop),Inv X a7 σ H s→RelV v u→t v σ H Q →
  wpAny (model X.prog X.w) X.A (assign target X.env u) (λ_ s'=>Ex2 λ σ' H'=>Aj2 (Inv X a7 σ' H' s') (Q σ' H')) X.xe s
def PGs(X:Cx)(ts:Np)(t:TGs):Prop :=
 ∀(a7:Nf) (s:Nh) (σ:St) (H:Hp) (vs:List V) (us:Nj) (Q:St→Hp→Prop),Inv X a7 σ H s→Vals vs us→t vs σ H Q →
  wpAny (model X.prog X.w) X.A (assignInOrder ((assignEach ts X.env).map (·.2)) us) (λ_ s'=>Ex2 λ σ' H'=>Aj2 (Inv X a7 σ' H' s') (Q σ' H')) X.xe s
abbrev TSet:=V→V→V→Hp→(Hp→Prop)→Prop
def PSet(X:Cx)(t:TSet):Prop :=
 ∀(a7:Nf) (s:Nh) (σ:St) (H:Hp) (o i v:V) (ov iv u:Value) (Q:Hp→Prop),Inv X a7 σ H s→RelV o ov→RelV i iv→RelV v u→t o i v H Q →
  wpAny (model X.prog X.w) X.A (setItem ov iv u) (λ_ s'=>∃H',Inv X a7 σ H' s'∧Q H') X.xe s
section
variable{X:Cx}{pos:Pos}
def gName(i:Nat):TG:=λv σ H Q=>Q (σ.set i (some v)) H
def pg_name(hN:X.N.Nodup)(hi:X.N[i]?=some x)(hx:Loc X.env.scope x)(hf:X.fn x=true∨X.env.scope.names.lookup x=some .local:=by first | exact .inl rfl | exact .inr rfl | assumption):PG X (.Name x pos) (gName i):=by
 intro a7 s σ H v u Q I r h
 exact wpAny_assign_Name (zfp I hN hi hx r (λs' I'=>⟨_,H,I',h⟩) hf)
def gNil:TGs:=λvs σ H Q=>vs=[]∧Q σ H
inductive RGC(vs:List V)(R:V→List V→Prop):Prop
 |mk (v:V) (r:List V) (e:vs=v::r) (q:R v r):RGC vs R
def gCons(t:TG)(u:TGs):TGs:=λvs σ H Q=>RGC vs λv r=>t v σ H λ σ' H'=>u r σ' H' Q
def zcl:PGs X [] gNil:=by
 intro a7 s σ H vs us Q I r h
 obtain⟨e,h⟩:=h
 subst e
 cases r
 exact assignInOrder_nil ⟨σ,H,I,h⟩
def za4{e:Expr}{es:Np}{t:TG}{u:TGs}(h1:PG X e t)(h2:PGs X es u)(hs:(assignEach (e::es) X.env).map (·.2)=assign e X.env::(assignEach es X.env).map (·.2):=by rfl):PGs X (e::es) (gCons t u):=by
 intro a7 s σ H vs us Q I r h
 obtain⟨v,vr,e1,h⟩:=h
 subst e1
 cases r with
 |cons r rr =>
  rw[hs]
  refine assignInOrder_cons (thn (h1 a7 s σ H _ _ _ I r h) λ_ s1 ⟨σ1,H1,I1,q1⟩=>?_)
  exact h2 a7 s1 σ1 H1 _ _ Q I1 rr q1
inductive RGT(K:Na)(n:Nat)(v:V)(H:Hp)(R:List V→Prop):Prop
 |mk (a:Nb) (xs:List V) (e:v=.ref a) (s:SqT K H a xs) (l:xs.length=n) (q:R xs):RGT K n v H R
def gTup(K:Na)(n:Nat)(t:TGs):TG:=λv σ H Q=>RGT K n v H λxs=>t xs σ H Q
def zfc(hc:X.calm=true)(h:PGs X es t)(hn:(assignEach es X.env).length=n:=by rfl)(aq:(assignEach es X.env).findIdx? (·.1)=none:=by rfl):PG X (.Tuple es k pos) (gTup X.K n t):=by
 intro a7 s σ H v u Q I r hw
 obtain⟨a,xs,e1,hq,hl,hw⟩:=hw
 subst e1
 cases r
 obtain⟨a8,rv,ht,hz⟩:=I.tuple hq
 refine assign_Tuple_tuple (I.ok.hd hc) ht (by simp[hn,←hl,rv.length]) aq λh' hx=>?_
 have I1:Inv X a7 σ H {s with heap:=h'}:=I.kept (t':=s.toks) λb o e=>hx b o (Zc (Qt e)) e
 exact h a7 _ σ H xs _ Q I1 (by simpa using rv) hw
def gSub(to ti:TE)(t:TSet):TG:=λv σ H Q=>to σ H λo H1=>ti σ H1 λi H2=>t o i v H2 λH3=>Q σ H3
def pg_sub{o i:Expr}{to ti:TE}{t:TSet}(ho:PE X o to)(hi:PE X i ti)(hs:PSet X t)(ha:∀ v,assign (.Subscript o i pos) X.env v=(do
   let ov ←holding [v] (eval o X.env)
   let iv ←holding [v,ov] (eval i X.env)
   standAt pos
   holding [v,ov,iv] (setItem ov iv v)
   release [v,ov,iv] []):=by intro _;rfl):PG X (.Subscript o i pos) (gSub to ti t):=by
 intro a7 s σ H v u Q I r h
 rw[ha]
 refine wpAny_bind (wpAny_holding (thn (ho a7 s σ H _ I h) λov s1 ⟨x,H1,I1,r1,q1⟩=>?_))
 refine wpAny_bind (wpAny_holding (thn (hi a7 s1 σ H1 _ I1 q1) λiv s2 ⟨y,H2,I2,r2,q2⟩=>?_))
 refine wpAny_bind (wpAny_standAt (wpAny_bind (wpAny_holding (thn (hs a7 s2 σ H2 x y v ov iv u _ I2 r1 r2 r q2) λ_ s3 ⟨H3,I3,q3⟩=>?_))))
 exact wpAny_release ⟨σ,H3,I3,q3⟩
def tAsg(te:TE)(g:TG):TS:=λD σ H=>te σ H λx H1=>g x σ H1 D.nx
def ps_asg{tg e:Expr}{te:TE}{g:TG}(he:PE X e te)(hg:PG X tg g)(hs:swapsWithSole [tg] e pos.line X.env=pure false:=by rfl)(hw:swappedStores [tg] e X.env=pure none:=by rfl)(h1:(assignEach [tg] X.env).map (·.2)=[assign tg X.env]:=by rfl):PS X (.Assign [tg] e pos) (tAsg te g):=by
 intro a7 s σ H D I h
 refine wpAny_Assign_stores (thn (he a7 s σ H _ I h) λv s1 ⟨x,H1,I1,r1,q1⟩=>?_) hs hw
 rw[h1]
 exact thn (hg a7 s1 σ H1 x v _ I1 r1 q1) λ_ s2 q=>q
def zen{i:Nat}{x:Str}{e:Expr}{te:TE}{aU:Pos}(hN:X.N.Nodup)(hi:X.N[i]?=some x)(hx:Loc X.env.scope x)(he:PE X e te)(hs:swapsWith e (some (.Name x aU)) pos.line X.env=pure false:=by rfl)(hf:X.fn x=true∨X.env.scope.names.lookup x=some .local:=by first | exact .inl rfl | exact .inr rfl | assumption) :
  PS X (.Assign [.Name x aU] e pos) (tAsg te (gName i)):=by
 intro a7 s σ H D I h
 refine wpAny_Assign_Name (thn (he a7 s σ H _ I h) λv s1 ⟨y,H1,I1,r1,q1⟩=>?_) hs
 exact zfp I1 hN hi hx r1 (λs2 I2=>⟨_,H1,I2,q1⟩) hf
def tPar(i j:Nat)(ta:TA):TS:=λD σ H=>ta σ H λvs H1=>∃v w,vs=[v,w]∧D.nx ((σ.set i (some v)).set j (some w)) H1
def ps_par{i j:Nat}{x y:Str}{a b:Expr}{ta:TA}{px py pt:Pos}{kt k2 pt2}(hc:X.calm=true)(hN:X.N.Nodup)(hi:X.N[i]?=some x)(hj:X.N[j]?=some y)(bg:i≠j)(hx:X.env.scope.names.lookup x=some .local)(hy:X.env.scope.names.lookup y=some .local)(ha:PA X [a,b] ta)(hw:swappedStores [.Tuple [.Name x px,.Name y py] kt pt] (.Tuple [a,b] k2 pt2) X.env=pure (some [x,y]))(hs:swapsWithSole [.Tuple [.Name x px,.Name y py] kt pt] (.Tuple [a,b] k2 pt2) pos.line X.env=pure false:=by rfl) :
  PS X (.Assign [.Tuple [.Name x px,.Name y py] kt pt] (.Tuple [a,b] k2 pt2) pos) (tPar i j ta):=by
 intro a7 s σ H D I h
 rw[exec_Assign_arm]
 refine wpAny_bind (wpAny_standAt ?_)
 rw[hs]
 refine wpAny_bind (wpAny_pure ?_)
 rw[if_neg (by decide)]
 refine wpAny_bind (Tuple_ (thn (ha _ a7 s σ H _ I h) λus s1 ⟨vs,H1,I1,r1,q1⟩=>?_))
 obtain⟨v,w,e1,q1⟩:=q1
 subst e1
 obtain⟨u1,u2,rfl,rv,cr⟩:∃u1 u2,us=[u1,u2]∧RelV v u1∧RelV w u2:=by
  cases r1 with
  | cons p q =>
   cases q with
   |cons p' q' =>
    cases q'
    exact⟨_,_,rfl,p,p'⟩
 refine wpAny_newObj_type ?_ (by show 2≤sizeLine;decide)
 have I2:Inv X a7 σ H1 {s1 with heap:=s1.heap.push {cls:=.type "tuple",data:=.seq [u1,u2].toArray}}:=I1.kept (t':=s1.toks) λb o e=>Qj _ e
 rw[hw]
 refine wpAny_bind (wpAny_pure ?_)
 show wpAny (model X.prog X.w) X.A (do rule "assign.swapped-stores";let items ←unpackItems (.ref s1.heap.objs.size) 2 none;assignInOrder [λv=>bindName X.env y v,λv=>bindName X.env x v] items.reverse;pure Flow.next) _ _ _
 refine wpAny_bind (wpAny_rule (wpAny_bind (unpackItems_tuple (items:=#[u1,u2]) (I.ok.hd hc) (IsTup.new s1.heap _) λh' cv=>?_)))
 have I3:=I2.kept (h':=h') (t':=s1.toks) λb o e=>cv b o (Zc (Qt e)) e
 show wpAny _ _ (assignInOrder [λv=>bindName X.env y v,λv=>bindName X.env x v] [u2,u1] >>= λ_=>pure Flow.next) _ _ _
 refine wpAny_bind (assignInOrder_cons (wpAny_bindName (zfp I3 hN hj (.inl hy) cr (λs2 I4=>?_) (.inr hy))))
 refine assignInOrder_cons (wpAny_bindName (zfp I4 hN hi (.inl hx) rv (λs3 I5=>assignInOrder_nil (wpAny_pure ?_)) (.inr hx)))
 rw[List.set_comm _ _ (Qw bg)]at I5
 exact⟨_,H1,I5,q1⟩
def tWhile(c:TT)(tb:TS):TS:=λD σ H=>∃W:Nat→St→Hp→Prop,(∃m,W m σ H)∧∀m σ H,W m σ H →
 c σ H λb H1=>if b=true then ∃N:St→Hp→Prop,(∀σ' H',N σ' H'→∃m',m'<m∧W m' σ' H')∧tb {D with nx:=N,ct:=N,bk:=D.nx} σ H1 else D.nx σ H1
def zfu(hp:PassesOwn (model X.prog X.w) X.A X.env X.xe)(hc:PT X c tc)(hb:PSs X body tb):PS X (.While c body [] pos) (tWhile tc tb):=by
 intro a7 s σ H D I h
 obtain⟨W,⟨m0,w0⟩,turn⟩:=h
 refine wpAny_While (codeAny_whileLoop (λn s'=>∃σ' H',Inv X a7 σ' H' s'∧W n σ' H') ?_ m0 ⟨σ,H,I,w0⟩)
 rintro n s1 ⟨σ1,H1,I1,w1⟩
 refine wpAny_passesOwn hp (thn (hc a7 s1 σ1 H1 _ I1 (turn n σ1 H1 w1)) λb s2 ⟨H2,I2,q2⟩=>?_)
 cases b with
 | true =>
  obtain⟨N,hN,q2⟩:=q2
  rw[if_pos rfl]
  refine wpAny_passesOwn hp (thn (hb a7 s2 σ1 H2 _ I2 q2) λf s3 q3=>?_)
  cases f with
  |next =>
   obtain⟨σ3,H3,I3,n3⟩:=q3
   obtain⟨m',hm,w3⟩:=hN σ3 H3 n3
   exact⟨m',hm,σ3,H3,I3,w3⟩
  |cont =>
   obtain⟨σ3,H3,I3,n3⟩:=q3
   obtain⟨m',hm,w3⟩:=hN σ3 H3 n3
   exact⟨m',hm,σ3,H3,I3,w3⟩
  |brk=>exact q3
  |ret v=>exact q3
 |false =>
  rw[if_neg Zh]
  exact wpAny_execs_nil ⟨σ1,H2,I2,q2⟩
end
structure It where
 go:Nat→Hp→Prop
 yld:Nat→Hp→V→Hp→Prop
 stop:Nat→Hp→Prop
def FpOk(X:Cx)(a7:Nf)(H:Hp)(b:Nb):Prop :=
 H b=none∧b≠X.env.locals∧b∉X.fs∧(b∈X.ex∨X.s₀.heap.objs.size≤b)∧(∀x c,X.env.cells.lookup x=some c→c≠b)∧∀p∈X.pn++a7,p.1≠b
def Inv.fpOk{X:Cx}{a7:Nf}{σ:St}{H H':Hp}{s:Nh}{b:Nb}(I:Inv X a7 σ H s)(hb:s.heap.objs.size≤b)(hn:H' b=none):FpOk X a7 H' b:=by
 refine⟨hn,Yc (Zo I.lt hb),I.nofs hb,.inr (Zk I.sz hb),λx c e z=>?_,λp hp z=>?_⟩
 ·obtain ⟨v,q⟩:=I.cell x c e
  exact absurd (Zo q.lt (by rw[z];exact hb)) (Yu _)
 ·exact absurd (Zo (Qt (I.pin p hp).1) (by rw[z];exact hb)) (Yu _)
structure Turn(P:Ni)(w:Nk)(K:Na)(tg:Expr)(J:It)(fp:Nl)(it:Nb)(tn:Nat→Heap→Prop):Prop where
 mem:it∈fp
 obj:∀i h,tn i h→∀b∈fp,∃o,h.get? b=some o∧∀v,o.data≠.cell v
 keep:∀i h h',tn i h→(∀b∈fp,∀o,h.get? b=some o→h'.get? b=some o)→tn i h'
 item:∀(X:Cx),X.prog=P→X.w=w→X.K=K→X.calm=true→∀(i:Nat) (a7:Nf) (s:Nh) (σ:St) (H:Hp) (E:Nc),Inv X a7 σ H s→(∀b∈fp,FpOk X a7 H b)→tn i s.heap→J.go i H →
  wpAny (model P w) X.A (pyNext (.ref it)) (λr s1=>∃u,r=some u ∧
   wpAny (model P w) X.A (letOwnedTupleGo tg (.ref it) u) (λ_ s2=>∃x H',Inv X a7 σ H' s2∧RelV x u∧J.yld i H x H'∧tn (i+1) s2.heap∧∀b∈fp,H' b=none) E s1) E s
 done:∀(X:Cx),X.prog=P→X.w=w→X.K=K→X.calm=true→∀(i:Nat) (a7:Nf) (s:Nh) (σ:St) (H:Hp) (E:Nc),Inv X a7 σ H s→(∀b∈fp,FpOk X a7 H b)→tn i s.heap→J.stop i H →
  wpAny (model P w) X.A (pyNext (.ref it)) (λr s1=>r=none∧Inv X a7 σ H s1) E s
 self:∀(A:Nn) (i:Nat) (s:Nh) (Q:Nc) (E:Nc),tn i s.heap→Q (.ref it) s→wpAny (model P w) A (pyIter (.ref it)) Q E s
abbrev TI:=St→Hp→(It→Hp→Prop)→Prop
inductive PIE(X:Cx)(a7:Nf)(σ:St)(tg:Expr)(R:It→Hp→Prop)(itv:Value)(s2:Nh):Prop
 |mk (it:Nb) (fp:Nl) (tn:Nat→Heap→Prop) (J:It) (H':Hp) (h0:itv=.ref it) (h1:Inv X a7 σ H' s2) (h2:Turn X.prog X.w X.K tg J fp it tn) (h3:tn 0 s2.heap) (h4:(∀b∈fp,FpOk X a7 H' b)) (h5:R J H'):PIE X a7 σ tg R itv s2
def PI(X:Cx)(tg iter:Expr)(wi:TI):Prop :=
 ∀(a7:Nf) (s:Nh) (σ:St) (H:Hp) (R:It→Hp→Prop),Inv X a7 σ H s→wi σ H R →
  wpAny (model X.prog X.w) X.A (eval iter X.env) (λv s1=>wpAny (model X.prog X.w) X.A (pyIter v) (PIE X a7 σ tg R) X.xe s1) X.xe s
def go_of(ho:s.heap.get? it=some o)(hc:o.cls=.type n)(hd:o.data=.fields vs)(hn:["enumerate", "zip", "dict_itemiterator", "dict_reverseitemiterator", "odict_iterator", "itertools.zip_longest", "itertools.pairwise"].contains n=false)(hQ:Q () s):wpAny M A (letOwnedTupleGo tg (.ref it) u) Q E s:=by
 unfold letOwnedTupleGo
 cases tg <;> first
  |exact wpAny_pure hQ
  | (cases u <;> first
    |exact wpAny_pure hQ
    | (refine wpAny_bind (wpAny_load ho ?_)
       rw[hc,hd]
       show wpAny M A (if(["enumerate", "zip", "dict_itemiterator", "dict_reverseitemiterator", "odict_iterator", "itertools.zip_longest", "itertools.pairwise"].contains n&&vs[0]?==some (rawInt _))=true then _ else _) Q E s
       rw[if_neg (by intro h;rw[hn,Bool.false_and]at h;cases h)]
       exact wpAny_pure hQ))
def Itl(K:Na)(a:Nb):It :=
 ⟨λi H=>∃xs x,SqL K H a xs∧xs[i]?=some x,λi H x H'=>H'=H∧∀xs,SqL K H a xs→xs[i]?=some x,λi H=>∃xs,SqL K H a xs∧xs.length≤i⟩
def Itt(K:Na)(a:Nb):It :=
 ⟨λi H=>∃xs x,SqT K H a xs∧xs[i]?=some x,λi H x H'=>H'=H∧∀xs,SqT K H a xs→xs[i]?=some x,λi H=>∃xs,SqT K H a xs∧xs.length≤i⟩
def Itr(lo:Int)(n:Nat):It:=⟨λi _=>i<n,λi H x H'=>H'=H∧x=.int (lo+i),λi _=>n≤i⟩
theorem turn_list{P:Ni}{w:Nk}{K:Na}{tg:Expr}(a it:Nb):Turn P w K tg (Itl K a) [it] it (λi h=>h.IsListIter it a i) where
 mem:=by simp
 obj:=λi h st b hb=>by
  have e:b=it:=by simpa using hb
  subst e
  obtain⟨o,e,c,d⟩:=st
  exact⟨o,e,λv z=>by rw[d]at z;cases z⟩
 keep:=λi h h' st k=>st.at λo e=>k it (by simp) o e
 item:=by
  intro X hP hw hK hc i a7 s σ H E I hf st hg
  subst hP hw hK
  obtain⟨xs,x,hq,hx⟩:=hg
  obtain⟨a8,rv,p,hz⟩:=I.list hq
  obtain⟨u,hu,ru⟩:=rv.get hx
  obtain⟨f0,f1,f2,f3,f4,f5⟩:=hf it (by simp)
  refine wpAny_pyNext_list_item st p.isList (x:=u) (by simpa using hu) λh' ae sb=>?_
  have I1:Inv X a7 σ H {s with heap:=h'}:=I.turned (t':=s.toks) (λb o hb e=>(sb.2 b hb).trans e) f0 f1 f3 f4 f5
  obtain⟨o,e,c,d⟩:=id ae
  exact⟨u,rfl,go_of (s:={s with heap:=h'}) e c d (by decide) ⟨x,H,I1,ru,⟨rfl,λys hy=>by rw[I.list_inj hy hq];exact hx⟩,ae,λb hb=>(hf b hb).1⟩⟩
 done:=by
  intro X hP hw hK hc i a7 s σ H E I hf st hg
  subst hP hw hK
  obtain⟨xs,hq,hx⟩:=hg
  obtain⟨a8,rv,p,hz⟩:=I.list hq
  obtain⟨f0,f1,f2,f3,f4,f5⟩:=hf it (by simp)
  have hl:=rv.length
  exact wpAny_pyNext_list_end (I.ok.hd hc) st p.isList (by simp;exact zdu ‹_› ‹_›) λh' eb=>⟨rfl,I.turned (t':=s.toks) (λb o hb e=>eb b o hb e) f0 f1 f3 f4 f5⟩
 self:=λ_ _ _ _ _ st h=>wpAny_pyIter_listiter st h
theorem turn_tuple{P:Ni}{w:Nk}{K:Na}{tg:Expr}(a it:Nb):Turn P w K tg (Itt K a) [it] it (λi h=>h.IsTupleIter it a i) where
 mem:=by simp
 obj:=λi h st b hb=>by
  have e:b=it:=by simpa using hb
  subst e
  obtain⟨o,e,c,d⟩:=st
  exact⟨o,e,λv z=>by rw[d]at z;cases z⟩
 keep:=λi h h' st k=>st.at λo e=>k it (by simp) o e
 item:=by
  intro X hP hw hK hc i a7 s σ H E I hf st hg
  subst hP hw hK
  obtain⟨xs,x,hq,hx⟩:=hg
  obtain⟨a8,rv,p,hz⟩:=I.tuple hq
  obtain⟨u,hu,ru⟩:=rv.get hx
  obtain⟨f0,f1,f2,f3,f4,f5⟩:=hf it (by simp)
  refine wpAny_pyNext_tuple_item st (show s.heap.IsTuple a a8.toArray from p) (x:=u) (by simpa using hu) λh' ae sb=>?_
  have I1:Inv X a7 σ H {s with heap:=h'}:=I.turned (t':=s.toks) (λb o hb e=>(sb.2 b hb).trans e) f0 f1 f3 f4 f5
  obtain⟨o,e,c,d⟩:=id ae
  exact⟨u,rfl,go_of (s:={s with heap:=h'}) e c d (by decide) ⟨x,H,I1,ru,⟨rfl,λys hy=>by rw[I.tuple_inj hy hq];exact hx⟩,ae,λb hb=>(hf b hb).1⟩⟩
 done:=by
  intro X hP hw hK hc i a7 s σ H E I hf st hg
  subst hP hw hK
  obtain⟨xs,hq,hx⟩:=hg
  obtain⟨a8,rv,p,hz⟩:=I.tuple hq
  obtain⟨f0,f1,f2,f3,f4,f5⟩:=hf it (by simp)
  have hl:=rv.length
  exact wpAny_pyNext_tuple_end (I.ok.hd hc) st (show s.heap.IsTuple a a8.toArray from p) (by simp;exact zdu ‹_› ‹_›) λh' eb=>⟨rfl,I.turned (t':=s.toks) (λb o hb e=>eb b o hb e) f0 f1 f3 f4 f5⟩
 self:=λ_ _ _ _ _ st h=>wpAny_pyIter_tupleiter st h
theorem turn_range{P:Ni}{w:Nk}{K:Na}{tg:Expr}(it:Nb)(lo:Int)(n:Nat):Turn P w K tg (Itr lo n) [it] it (λi h=>IsRangeIter h it (lo+(i:Nat)*1) ((n:Int)-(i:Nat)) 1) where
 mem:=by simp
 obj:=λi h st b hb=>by
  have e:b=it:=by simpa using hb
  subst e
  exact⟨_,st,λv z=>by
   have z':Data.fields _=Data.cell v:=z
   cases z'⟩
 keep:=λi h h' st k=>k it (by simp) _ st
 item:=by
  intro X hP hw hK hc i a7 s σ H E I hf st hg
  subst hP hw hK
  obtain⟨f0,f1,f2,f3,f4,f5⟩:=hf it (by simp)
  have W:=Walks.range (prog:=X.prog) (w:=X.w) (I.ok.hd hc) it lo 1 n
  refine W.item i s _ _ hg st λv h' tk hv ae kk=>?_
  obtain⟨t,rfl⟩:=hv
  have I1:Inv X a7 σ H {s with heap:=h',toks:=tk}:=I.turned (λb o hb e=>kk b o (by simpa using hb) e) f0 f1 f3 f4 f5
  refine⟨_,rfl,go_of (s:={s with heap:=h',toks:=tk}) (n := "range_iterator") ae rfl rfl (by decide) ⟨.int (lo+i),H,I1,⟨t,?_⟩,⟨rfl,rfl⟩,ae,λb hb=>(hf b hb).1⟩⟩
  rw[Int.mul_one]
 done:=by
  intro X hP hw hK hc i a7 s σ H E I hf st hg
  subst hP hw hK
  obtain⟨f0,f1,f2,f3,f4,f5⟩:=hf it (by simp)
  exact wpAny_pyNext_range_end (I.ok.hd hc) st (by have:n≤i:=hg;lia) λh' eb=>⟨rfl,I.turned (t':=s.toks) (λb o hb e=>eb b o hb e) f0 f1 f3 f4 f5⟩
 self:=λ_ _ _ _ _ st h=>wpAny_pyIter_rangeiter st h
end L2
namespace L2
open PySem PySem.Spec PyProof.Rows
section
variable{X:Cx}{tg:Expr}
inductive RI1(x:V)(S R:Addr→Prop):Prop
 |mk (a:Nb) (e:x=.ref a) (s:S a) (q:R a):RI1 x S R
def iList(K:Na)(tl:TE):TI:=λ σ H R=>tl σ H λx H1=>RI1 x (λa=>∃xs,SqL K H1 a xs) λa=>R (Itl K a) H1
def iTup(K:Na)(tl:TE):TI:=λ σ H R=>tl σ H λx H1=>RI1 x (λa=>∃xs,SqT K H1 a xs) λa=>R (Itt K a) H1
def za8{l:Expr}{tl:TE}(hl:PE X l tl):PI X tg l (iList X.K tl):=by
 intro a7 s σ H R I h
 refine thn (hl a7 s σ H _ I h) λv s1 ⟨x,H1,I1,r1,q1⟩=>?_
 obtain⟨a,e,⟨xs,hq⟩,q⟩:=q1
 subst e
 cases r1
 obtain⟨a8,rv,p,hz⟩:=I1.list hq
 refine wpAny_pyIter_list p.isList ?_
 refine⟨s1.heap.objs.size,[s1.heap.objs.size],_,_,H1,rfl,I1.kept (t':=s1.toks) λb o e=>Qj _ e,turn_list a _,⟨_,Zf _ rfl,rfl,rfl⟩,λb hb=>?_,q⟩
 have e:b=s1.heap.objs.size:=by simpa using hb
 subst e
 exact I1.fpOk (Qh _) (I1.hok.fresh (Qh _))
def pi_tup{l:Expr}{tl:TE}(hl:PE X l tl):PI X tg l (iTup X.K tl):=by
 intro a7 s σ H R I h
 refine thn (hl a7 s σ H _ I h) λv s1 ⟨x,H1,I1,r1,q1⟩=>?_
 obtain⟨a,e,⟨xs,hq⟩,q⟩:=q1
 subst e
 cases r1
 obtain⟨a8,rv,p,hz⟩:=I1.tuple hq
 refine wpAny_pyIter_tuple (show s1.heap.IsTuple a a8.toArray from p) ?_
 refine⟨s1.heap.objs.size,[s1.heap.objs.size],_,_,H1,rfl,I1.kept (t':=s1.toks) λb o e=>Qj _ e,turn_tuple a _,⟨_,Zf _ rfl,rfl,rfl⟩,λb hb=>?_,q⟩
 have e:b=s1.heap.objs.size:=by simpa using hb
 subst e
 exact I1.fpOk (Qh _) (I1.hok.fresh (Qh _))
def range_it{a7:Nf}{σ:St}{H:Hp}{s:Nh}{R:It→Hp→Prop}{E:Nc}{lo hi:Int}{t u v:Tok}{tk:Nat}(I:Inv X a7 σ H s)(h1:-(2 ^ 62)≤lo)(h2:lo<2 ^ 62)(h3:-(2 ^ 62)≤hi)(h4:hi<2 ^ 62)(q:R (Itr lo (hi-lo).toNat) H):wpAny (model X.prog X.w) X.A (pyIter (.ref s.heap.objs.size)) (PIE X a7 σ tg R) E {s with heap:=s.heap.push {cls:=.type "range",data:=.fields #[.int lo t,.int hi u,.int 1 v]},toks:=tk}:=by
 refine wpAny_pyIter_range (IsRange.new ..) (small_one h1 h2 h3 h4) ?_
 have I1:Inv X a7 σ H {s with heap:=s.heap.push {cls:=.type "range",data:=.fields #[.int lo t,.int hi u,.int 1 v]},toks:=tk}:=I.kept λb o e=>Qj _ e
 refine⟨(s.heap.push {cls:=.type "range",data:=.fields #[.int lo t,.int hi u,.int 1 v]}).objs.size,[(s.heap.push {cls:=.type "range",data:=.fields #[.int lo t,.int hi u,.int 1 v]}).objs.size],_,_,H,rfl,
  I1.kept (t':=tk) λb o e=>Qj _ e,turn_range _ lo (hi-lo).toNat,?_,λb hb=>?_,q⟩
 ·have e1:lo+((0:Nat):Int)*1=lo:=by simp
  have e2:(((hi-lo).toNat:Nat):Int)-((0:Nat):Int)=Builtin.Range.rangeSize lo hi 1:=by rw[rangeSize_one];split<;>lia
  show IsRangeIter _ _ (lo+((0:Nat):Int)*1) ((((hi-lo).toNat:Nat):Int)-((0:Nat):Int)) 1
  rw[e1,e2]
  exact Zf _ rfl
 ·have e:b=(s.heap.push { cls:=.type "range",data:=.fields #[.int lo t,.int hi u,.int 1 v] }).objs.size:=by simpa using hb
  subst e
  exact I1.fpOk (Qh _) (I1.hok.fresh (Qh _))
inductive RR1(vs:List V)(R:Int→Prop):Prop
 |mk (j:Int) (e:vs=[.int j]) (l:-(2 ^ 62)≤j) (u:j<2 ^ 62) (q:R j):RR1 vs R
def iRng1(ta:TA):TI:=λ σ H R=>ta σ H λvs H1=>RR1 vs λj=>R (Itr 0 j.toNat) H1
def iRng2(ta:TA):TI:=λ σ H R=>ta σ H λvs H1=>∃i j:Int,vs=[.int i,.int j]∧(-(2 ^ 62)≤i∧i<2 ^ 62∧-(2 ^ 62)≤j∧j<2 ^ 62)∧R (Itr i (j-i).toNat) H1
def zeo{a:Expr}{ta:TA}{p pos:Pos}(hg:Gl X "range")(hm:X.mg "range" = none)(ha:PA X [a] ta)(hs:starEach [a] X.env=[(false,eval a X.env)]:=by rfl):PI X tg (.Call (.Name "range" p) [a] [] pos) (iRng1 ta):=by
 intro a7 s σ H R I h
 refine Call_ (zd1 I hg hm boot_range (Yo (thn (ha pos a7 s σ H _ I h) λus s1 ⟨vs,H1,I1,r1,q1⟩=>?_) hs rfl))
 obtain⟨j,e,q1,q2,q⟩:=q1
 subst e
 cases r1 with
 |cons r rr =>
  cases rr
  obtain⟨t,rfl⟩:=r
  exact call_range_1 (range_it I1 (by lia) (by lia) q1 q2 (by simpa using q))
def pi_range2(hg:Gl X "range")(hm:X.mg "range" = none)(ha:PA X [a,b] ta)(hs:starEach [a,b] X.env=[(false,eval a X.env),(false,eval b X.env)]:=by rfl)(dQ:starEach [b] X.env=[(false,eval b X.env)]:=by rfl) :
  PI X tg (.Call (.Name "range" p) [a,b] [] pos) (iRng2 ta):=by
 intro a7 s σ H R I h
 refine Call_ (zd1 I hg hm boot_range (Yo (thn (ha pos a7 s σ H _ I h) λus s1 ⟨vs,H1,I1,r1,q1⟩=>?_) (by rw[hs,dQ]) (by rw[dQ];rfl)))
 obtain⟨i,j,e,⟨q1,q2,q3,q4⟩,q⟩:=q1
 subst e
 cases r1 with
 | cons r rr =>
  cases rr with
  |cons r' rr =>
   cases rr
   obtain⟨t,rfl⟩:=r
   obtain⟨t',rfl⟩:=r'
   exact call_range_2 (range_it I1 q1 q2 q3 q4 q)
def tFor(wi:TI)(g:TG)(tb:TS):TS:=λD σ H=>wi σ H λJ H1=>∃W:Nat→Nat→St→Hp→Prop,(∃m,W 0 m σ H1)∧∀i m σ H,W i m σ H →
 (J.stop i H∧D.nx σ H)∨(J.go i H∧∃N:St→Hp→Prop,(∀σ' H',N σ' H'→∃m',m'<m∧W (i+1) m' σ' H')∧∀x H',J.yld i H x H'→g x σ H' λ σ2 H2=>tb {D with nx:=N,ct:=N,bk:=D.nx} σ2 H2)
def zcr(fp:Nl)(h:Nm):List (Addr×Obj):=fp.filterMap λb=>(h.get? b).map λo=>(b,o)
def zb2(hb:b∈fp)(e:h.get? b=some o):(b,o)∈zcr fp h:=List.mem_filterMap.mpr ⟨b,hb,by rw[e];rfl⟩
def zgf(hp:p∈zcr fp h):p.1∈fp∧h.get? p.1=some p.2:=by
 obtain⟨b,hb,e⟩:=List.mem_filterMap.mp hp
 cases q:h.get? b with
 |none=>rw[q]at e;cases e
 |some o =>
  rw[q]at e
  have e':(b,o)=p:=Qk e
  subst e'
  exact⟨hb,q⟩
def Inv.pinned(I:Inv X a7 σ H s)(hf:∀b∈fp,FpOk X a7 H b)(ho:∀b∈fp,∃o,s.heap.get? b=some o∧∀v,o.data≠.cell v):Inv X (a7++zcr fp s.heap) σ H s :=
 I.pins_of λp hp=>(Qi.mp hp).elim (λz=>I.pin p (Qn _ z)) λz=>by
  obtain⟨hb,e⟩:=zgf z
  obtain⟨f0,f1,f2,_⟩:=hf p.1 hb
  obtain⟨o,e',d⟩:=ho p.1 hb
  rw[e]at e';cases e'
  exact⟨e,f0,f1,f2,d⟩
def Inv.unpinned(I:Inv X (a7++pl) σ H s):Inv X a7 σ H s:=I.pins_of λp hp=>I.pin p (Qn _ (Qo _ hp))
def zbq(hp:PassesOwn (model X.prog X.w) X.A X.env X.xe)(hc:X.calm=true)(hi:PI X tg iter wi)(hg:PG X tg g)(hb:PSs X body tb)(hs:∀x,foldedSetIterable iter X.env x=pure x:=by intro _;rfl):PS X (.For tg iter body [] pos) (tFor wi g tb):=by
 intro a7 s σ H D I h
 refine wpAny_For (thn (hi a7 s σ H _ I h) λv s1 h1=>thn h1 λitv s2 h2=>?_) hs
 obtain⟨it,fp,tn,J,H2,e,I2,T,c8,f2,W,⟨m0,w0⟩,turn⟩:=h2
 subst e
 have stat:∀{H':Hp},(∀b∈fp,H' b=none)→∀b∈fp,FpOk X a7 H' b:=λhn b hb=>⟨hn b hb,(f2 b hb).2⟩
 refine codeAny_forLoop_any (λn s'=>Ex3 λi σ' H'=>Aj4 (Inv X a7 σ' H' s') (tn i s'.heap) (∀b∈fp,H' b=none) (W i n σ' H')) ?_ m0 ⟨0,σ,H2,I2,c8,λb hb=>(f2 b hb).1,w0⟩
 rintro n s3 ⟨i,σ3,H3,I3,ay,fr3,w3⟩
 rcases turn i n σ3 H3 w3 with⟨stop,qn⟩ | ⟨go,N,hN,step⟩
 ·refine wpAny_passesOwn hp (thn (T.done X rfl rfl rfl hc i a7 s3 σ3 H3 X.xe I3 (stat fr3) ay stop) fun r s4 ⟨hr,I4⟩=>?_)
  subst hr
  exact wpAny_execs_nil ⟨σ3,H3,I4,qn⟩
 ·refine wpAny_passesOwn hp (thn (T.item X rfl rfl rfl hc i a7 s3 σ3 H3 X.xe I3 (stat fr3) ay go) fun r s4 ⟨u,hr,h4⟩=>?_)
  subst hr
  refine wpAny_passesOwn hp (thn h4 λ_ s5 ⟨x,H5,I5,r5,y5,mo,fr5⟩=>?_)
  have lr:=I5.pinned (stat fr5) (T.obj _ _ mo)
  refine wpAny_passesOwn hp (thn (hg _ s5 σ3 H5 x u _ lr r5 (step x H5 y5)) λ_ s6 ⟨σ6,H6,I6,q6⟩=>?_)
  refine wpAny_passesOwn hp (thn (hb _ s6 σ6 H6 _ I6 q6) λf s7 q7=>?_)
  have again:∀{σ7:St} {H7:Hp},Inv X (a7++zcr fp s5.heap) σ7 H7 s7→N σ7 H7→∃m,m<n∧Ex3 λi σ' H'=>Aj4 (Inv X a7 σ' H' s7) (tn i s7.heap) (∀b∈fp,H' b=none) (W i m σ' H'):=λ{σ7 H7} I7 n7=>by
   obtain⟨m',hm,w7⟩:=hN σ7 H7 n7
   refine⟨m',hm,i+1,σ7,H7,I7.unpinned,T.keep _ _ _ mo λb hb o e=>(I7.pin (b,o) (Qn _ (Qn _ (zb2 hb e)))).1,λb hb=>?_,w7⟩
   obtain⟨o,e,d⟩:=T.obj _ _ mo b hb
   exact(I7.pin (b,o) (Qn _ (Qn _ (zb2 hb e)))).2.1
  cases f with
  |next=>obtain⟨σ7,H7,I7,n7⟩:=q7;exact again I7 n7
  |cont=>obtain⟨σ7,H7,I7,n7⟩:=q7;exact again I7 n7
  |brk=>obtain⟨σ7,H7,I7,q7⟩:=q7;exact⟨σ7,H7,I7.unpinned,q7⟩
  |ret v=>obtain⟨x7,σ7,H7,I7,r7,q7⟩:=q7;exact⟨x7,σ7,H7,I7.unpinned,r7,q7⟩
end
def zby{K:Na}{a:Nb}{xs:List V}{g:TG}{tb:TS}{D:Ends}{σ:St}{H:Hp}(Pv:Nat→St→Hp→Prop)(h0:Pv 0 σ H)(hl:∀i σ H,i≤xs.length→Pv i σ H→SqL K H a xs)(hs:∀i x σ H,xs[i]?=some x→Pv i σ H→g x σ H λ σ2 H2=>tb {D with nx:=Pv (i+1),ct:=Pv (i+1),bk:=D.nx} σ2 H2)(hd:∀σ H,Pv xs.length σ H→D.nx σ H) :
  ∃W:Nat→Nat→St→Hp→Prop,(∃m,W 0 m σ H)∧∀i m σ H,W i m σ H →
   ((Itl K a).stop i H∧D.nx σ H)∨((Itl K a).go i H∧∃N:St→Hp→Prop,(∀σ' H',N σ' H'→∃m',m'<m∧W (i+1) m' σ' H')∧∀x H',(Itl K a).yld i H x H'→g x σ H' λ σ2 H2=>tb {D with nx:=N,ct:=N,bk:=D.nx} σ2 H2):=by
 refine⟨λi m σ H=>m=xs.length-i∧i≤xs.length∧Pv i σ H,⟨xs.length,by simp,Zg _,h0⟩,?_⟩
 rintro i m σ H ⟨rfl,hi,p⟩
 have q:=hl i σ H hi p
 by_cases ag:i<xs.length
 ·refine .inr ⟨⟨xs,xs[i],q,by simp [ag]⟩,Pv (i+1),fun σ' H' p'=>⟨xs.length - (i+1),by exact zar1 ‹_›,rfl,ag,p'⟩,fun x H' y=>?_⟩
  obtain⟨e,y⟩:=y
  subst e
  exact hs i x σ _ (y xs q) p
 ·have e:i=xs.length:=by exact zar3 ‹_› ‹_›
  subst e
  exact .inl ⟨⟨xs,q,Qh _⟩,hd σ H p⟩
def for_tup{K:Na}{a:Nb}{xs:List V}{g:TG}{tb:TS}{D:Ends}{σ:St}{H:Hp}(Pv:Nat→St→Hp→Prop)(h0:Pv 0 σ H)(hl:∀i σ H,i≤xs.length→Pv i σ H→SqT K H a xs)(hs:∀i x σ H,xs[i]?=some x→Pv i σ H→g x σ H λ σ2 H2=>tb {D with nx:=Pv (i+1),ct:=Pv (i+1),bk:=D.nx} σ2 H2)(hd:∀σ H,Pv xs.length σ H→D.nx σ H) :
  ∃W:Nat→Nat→St→Hp→Prop,(∃m,W 0 m σ H)∧∀i m σ H,W i m σ H →
   ((Itt K a).stop i H∧D.nx σ H)∨((Itt K a).go i H∧∃N:St→Hp→Prop,(∀σ' H',N σ' H'→∃m',m'<m∧W (i+1) m' σ' H')∧∀x H',(Itt K a).yld i H x H'→g x σ H' λ σ2 H2=>tb {D with nx:=N,ct:=N,bk:=D.nx} σ2 H2):=by
 refine⟨λi m σ H=>m=xs.length-i∧i≤xs.length∧Pv i σ H,⟨xs.length,by simp,Zg _,h0⟩,?_⟩
 rintro i m σ H ⟨rfl,hi,p⟩
 have q:=hl i σ H hi p
 by_cases ag:i<xs.length
 ·refine .inr ⟨⟨xs,xs[i],q,by simp [ag]⟩,Pv (i+1),fun σ' H' p'=>⟨xs.length - (i+1),by exact zar1 ‹_›,rfl,ag,p'⟩,fun x H' y=>?_⟩
  obtain⟨e,y⟩:=y
  subst e
  exact hs i x σ _ (y xs q) p
 ·have e:i=xs.length:=by exact zar3 ‹_› ‹_›
  subst e
  exact .inl ⟨⟨xs,q,Qh _⟩,hd σ H p⟩
def zdh{lo:Int}{n:Nat}{g:TG}{tb:TS}{D:Ends}{σ:St}{H:Hp}(Pv:Nat→St→Hp→Prop)(h0:Pv 0 σ H)(hs:∀i σ H,i<n→Pv i σ H→g (.int (lo+i)) σ H λ σ2 H2=>tb {D with nx:=Pv (i+1),ct:=Pv (i+1),bk:=D.nx} σ2 H2)(hd:∀σ H,Pv n σ H→D.nx σ H) :
  ∃W:Nat→Nat→St→Hp→Prop,(∃m,W 0 m σ H)∧∀i m σ H,W i m σ H →
   ((Itr lo n).stop i H∧D.nx σ H)∨((Itr lo n).go i H∧∃N:St→Hp→Prop,(∀σ' H',N σ' H'→∃m',m'<m∧W (i+1) m' σ' H')∧∀x H',(Itr lo n).yld i H x H'→g x σ H' λ σ2 H2=>tb {D with nx:=N,ct:=N,bk:=D.nx} σ2 H2):=by
 refine⟨λi m σ H=>m=n-i∧i≤n∧Pv i σ H,⟨n,by simp,Zg _,h0⟩,?_⟩
 rintro i m σ H ⟨rfl,hi,p⟩
 by_cases ag:i<n
 ·refine .inr ⟨ag,Pv (i+1),fun σ' H' p'=>⟨n - (i+1),by exact zar1 ‹_›,rfl,ag,p'⟩,fun x H' y=>?_⟩
  obtain⟨e,y⟩:=y
  subst e y
  exact hs i σ _ ag p
 ·have e:i=n:=by exact zar3 ‹_› ‹_›
  subst e
  exact .inl ⟨Qh _,hd σ H p⟩
end L2
namespace L2
open PySem PySem.Spec PyProof.Rows
abbrev R2:=V→V→Hp→VK→Prop
def OpR(X:Cx)(f:Value→Value→Sem Value)(r:R2):Prop :=
 ∀(a7:Nf) (s:Nh) (σ:St) (H:Hp) (x y:V) (v u:Value) (Q:VK),Inv X a7 σ H s→RelV x v→RelV y u→r x y H Q →
  wpAny (model X.prog X.w) X.A (f v u) (EP X a7 σ Q) X.xe s
def UnR(X:Cx)(f:Value→Sem Value)(r:V→Hp→VK→Prop):Prop :=
 ∀(a7:Nf) (s:Nh) (σ:St) (H:Hp) (x:V) (v:Value) (Q:VK),Inv X a7 σ H s→RelV x v→r x H Q →
  wpAny (model X.prog X.w) X.A (f v) (EP X a7 σ Q) X.xe s
def zci(X:Cx)(f:Value)(r:List V→Hp→VK→Prop):Prop :=
 ∀(a7:Nf) (s:Nh) (σ:St) (H:Hp) (xs:List V) (us:Nj) (Q:VK),Inv X a7 σ H s→Vals xs us→r xs H Q →
  wpAny (model X.prog X.w) X.A (call f us) (EP X a7 σ Q) X.xe s
def TruR(X:Cx)(r:V→Hp→(Bool→Hp→Prop)→Prop):Prop :=
 ∀(a7:Nf) (s:Nh) (σ:St) (H:Hp) (x:V) (v:Value) (Q:Bool→Hp→Prop),Inv X a7 σ H s→RelV x v→r x H Q →
  wpAny (model X.prog X.w) X.A (truthy v) (TP X a7 σ Q) X.xe s
def tOp(r:R2)(ta tb:TE):TE:=λ σ H Q=>ta σ H λx H1=>tb σ H1 λy H2=>r x y H2 Q
def tUn(r:V→Hp→VK→Prop)(ta:TE):TE:=λ σ H Q=>ta σ H λx H1=>r x H1 Q
inductive RrI(C:Int→Int→Prop)(g:Int→Int→V)(x:V)(y:V)(H:Hp)(Q:VK):Prop
 |mk (i:_) (j:_) (h0:x=.int i) (h1:y=.int j) (h2:C i j) (h3:Q (g i j) H):RrI C g x y H Q
def rI(C:Int→Int→Prop)(g:Int→Int→V):R2:=λx y H Q=>RrI C g x y H Q
inductive RrI0(g:Int→Int→V)(x:V)(y:V)(H:Hp)(Q:VK):Prop
 |mk (i:_) (j:_) (h0:x=.int i) (h1:y=.int j) (h2:Q (g i j) H):RrI0 g x y H Q
def rI0(g:Int→Int→V):R2:=λx y H Q=>RrI0 g x y H Q
def rU(g:Int→V):V→Hp→VK→Prop:=λx H Q=>∃i,x=.int i∧Q (g i) H
section
variable{X:Cx}{a b c:Expr}{ta tb tc:TE}{pos:Pos}
def binT(ha:PE X a ta)(hb:PE X b tb){a7:Nf}{s:Nh}{σ:St}{H:Hp}{R:V→V→Hp→Prop}(I:Inv X a7 σ H s)(h:ta σ H λx H1=>tb σ H1 λy H2=>R x y H2){Q:Nc}{f:Value→Value→Sem Value}(hf:∀v u s2 x y H2,Inv X a7 σ H2 s2→RelV x v→RelV y u→R x y H2→wpAny (model X.prog X.w) X.A (f v u) Q X.xe s2) :
  wpAny (model X.prog X.w) X.A (eval a X.env) (λv s₁=>wpAny (model X.prog X.w) X.A (eval b X.env) (λu s₂=>wpAny (model X.prog X.w) X.A (f v u) Q X.xe s₂) X.xe s₁) X.xe s:=by
 refine thn (ha a7 s σ H _ I h) λv s1 ⟨x,H1,I1,r1,q1⟩=>?_
 refine thn (hb a7 s1 σ H1 _ I1 q1) λu s2 ⟨y,H2,I2,r2,q2⟩=>?_
 exact hf v u s2 x y H2 I2 r1 r2 q2
def zav{op:Operator}{r:R2}(ho:OpR X (binaryOp op) r)(ha:PE X a ta)(hb:PE X b tb):PE X (.BinOp a op b pos) (tOp r ta tb):=by
 intro a7 s σ H Q I h
 exact wpAny_BinOp (binT ha hb I h λv u s2 x y H2 I2 rx ry q=>ho a7 s2 σ H2 x y v u Q I2 rx ry q)
def pe_un(ho:UnR X (unaryOp op) r)(ha:PE X a ta):PE X (.UnaryOp op a pos) (tUn r ta):=by
 intro a7 s σ H Q I h
 exact UnaryOp_ (thn (ha a7 s σ H _ I h) λv s1 ⟨x,H1,I1,r1,q1⟩=>ho a7 s1 σ H1 x v Q I1 r1 q1)
def opI{f:Value→Value→Sem Value}{C:Int→Int→Prop}{g:Int→Int→Int}(rule:∀(i j:Int) (t u:Tok) (s:Nh) (Q:Nc) (E:Nc),C i j→Q (.int (g i j) s.toks) {s with toks:=s.toks+1}→wpAny (model X.prog X.w) X.A (f (.int i t) (.int j u)) Q E s) :
  OpR X f (rI C λi j=>.int (g i j)):=by
 intro a7 s σ H x y v u Q I rx ry h
 obtain⟨i,j,rfl,rfl,hc,q⟩:=h
 obtain⟨t,rfl⟩:=rx
 obtain⟨t',rfl⟩:=ry
 exact rule i j t t' s _ _ hc ⟨.int (g i j),H,I.tok _,⟨_,rfl⟩,q⟩
def opI0{f:Value→Value→Sem Value}{g:Int→Int→Int}(rule:∀(i j:Int) (t u:Tok) (s:Nh) (Q:Nc) (E:Nc),Q (.int (g i j) s.toks) {s with toks:=s.toks+1}→wpAny (model X.prog X.w) X.A (f (.int i t) (.int j u)) Q E s) :
  OpR X f (rI0 λi j=>.int (g i j)):=by
 intro a7 s σ H x y v u Q I rx ry h
 obtain⟨i,j,rfl,rfl,q⟩:=h
 obtain⟨t,rfl⟩:=rx
 obtain⟨t',rfl⟩:=ry
 exact rule i j t t' s _ _ ⟨.int (g i j),H,I.tok _,⟨_,rfl⟩,q⟩
def opB0{f:Value→Value→Sem Value}{g:Int→Int→Bool}(rule:∀(i j:Int) (t u:Tok) (s:Nh) (Q:Nc) (E:Nc),Q (.bool (g i j)) s→wpAny (model X.prog X.w) X.A (f (.int i t) (.int j u)) Q E s) :
  OpR X f (rI0 λi j=>.bl (g i j)):=by
 intro a7 s σ H x y v u Q I rx ry h
 obtain⟨i,j,rfl,rfl,q⟩:=h
 obtain⟨t,rfl⟩:=rx
 obtain⟨t',rfl⟩:=ry
 exact rule i j t t' s _ _ ⟨.bl (g i j),H,I,rfl,q⟩
def CDiv(i j:Int):Prop:=0<j∧j<1073741824
def CPow(i j:Int):Prop:=0≤j∧j≤1000000∧i.natAbs<2 ^ 64
def CMul(i j:Int):Prop:=(-(2 ^ 64)<i∧i<2 ^ 64)∨(-(2 ^ 64)<j∧j<2 ^ 64)
def CMul.ok{i j:Int}(h:CMul i j):IntMulOk i j:=by
 rcases h with⟨h1,h2⟩ | ⟨h1,h2⟩
 ·exact .of_left (intBits_le_64 h1 h2)
 ·exact .of_right (intBits_le_64 h1 h2)
def zbv:OpR X (binaryOp .Add) (rI0 λi j=>.int (i+j)):=opI0 λ_ _ _ _ _ _ _ q=>add_int q
def zfd:OpR X (binaryOp .Sub) (rI0 λi j=>.int (i-j)):=opI0 λ_ _ _ _ _ _ _ q=>sub_int q
def zfe:OpR X (binaryOp .Mult) (rI CMul λi j=>.int (i*j)):=opI λ_ _ _ _ _ _ _ hc q=>mul_int q hc.ok
def zii:OpR X (binaryOp .FloorDiv) (rI CDiv λi j=>.int (i/j)):=opI λi j _ _ _ _ _ hc q=>by
 have h1:(0:Int)<j:=hc.1
 have h2:j<1073741824:=hc.2
 exact floordiv_int (by lia) (by rw[Int.fdiv_eq_ediv_of_nonneg i (by lia)];exact q) (.inl (PyProof.noPylong_small (by lia)))
def zff:OpR X (binaryOp .Mod) (rI (λ_ j=>0<j) λi j=>.int (i%j)):=opI λi j _ _ _ _ _ hc q=>by
 have h1:(0:Int)<j:=hc
 exact mod_int' (by lia) (by rw[Int.fmod_eq_emod_of_nonneg i (by lia)];exact q)
def op_pow:OpR X (binaryOp .Pow) (rI CPow λi j=>.int (i ^ j.toNat)):=opI λ_ _ _ _ _ _ _ hc q=>pow_int_small hc.1 hc.2.1 hc.2.2 q
def unI{f:Value→Sem Value}{g:Int→Int}(rule:∀(i:Int) (t:Tok) (s:Nh) (Q:Nc) (E:Nc),Q (.int (g i) s.toks) {s with toks:=s.toks+1}→wpAny (model X.prog X.w) X.A (f (.int i t)) Q E s) :
  UnR X f (rU λi=>.int (g i)):=by
 intro a7 s σ H x v Q I rx h
 obtain⟨i,rfl,q⟩:=h
 obtain⟨t,rfl⟩:=rx
 exact rule i t s _ _ ⟨.int (g i),H,I.tok _,⟨_,rfl⟩,q⟩
def un_neg:UnR X (unaryOp .USub) (rU λi=>.int (-i)):=unI λ_ _ _ _ _ q=>neg_int q
def scal:V→V→Bool
 |.non,.non=>true | .non,.int _=>true | .int _,.non=>true | .non,.bl _=>true | .bl _,.non=>true | .non,.str _=>true | .str _,.non=>true
 |.int _,.int _=>true | .bl _,.bl _=>true | .str _,.str _=>true | .byt _,.byt _=>true
 |.int _,.str _=>true | .str _,.int _=>true | .bl _,.str _=>true | .str _,.bl _=>true
 |_,_=>false
def rEq:R2:=λx y H Q=>scal x y=true∧Q (.bl (decide (x=y))) H
def rNe:R2:=λx y H Q=>scal x y=true∧Q (.bl (!decide (x=y))) H
def dec_int:decide (V.int i=V.int j)=(i==j):=by
 rw[Wj]
 simp
def dec_bl:decide (V.bl i=V.bl j)=(i==j):=by
 rw[Wj]
 simp
def dec_str:decide (V.str i=V.str j)=(i==j):=by
 rw[Wj]
 simp
def dec_byt:decide (V.byt i=V.byt j)=(i.toList==j.toList):=by
 rw[Wj]
 cases i
 cases j
 simp
def zbg(I:Inv X a7 σ H s)(q:Q (.bl k) H)(e:k=k'):EP X a7 σ Q (.bool k') s:=by
 subst e
 exact⟨.bl k,H,I,rfl,q⟩
def op_eq:OpR X (compareOp .Eq) rEq:=by
 intro a7 s σ H x y v u Q I rx ry h
 obtain⟨hs,q⟩:=h
 cases x with
 |non =>
  cases rx
  cases y with
  |non=>cases ry;exact PySem.EqNone.eq_none_none (zbg I q (by simp))
  |bl j=>cases ry;exact PySem.EqNone.eq_none_bool (zbg I q (by simp))
  |int j=>obtain⟨t',rfl⟩:=ry;exact PySem.EqNone.eq_none_int (zbg I q (by simp))
  |str j=>obtain⟨t',rfl⟩:=ry;exact PySem.EqNone.eq_none_str (zbg I q (by simp))
  |_=>exact absurd (show false=true from hs) Zh
 |bl i =>
  cases rx
  cases y with
  |non=>cases ry;exact PySem.EqNone.eq_bool_none (zbg I q (by simp))
  |bl j=>cases ry;exact eq_bool (zbg I q dec_bl)
  |str j=>obtain⟨t',rfl⟩:=ry;exact PySem.EqMixed.eq_bool_str (zbg I q (by simp))
  |_=>exact absurd (show false=true from hs) Zh
 |int i =>
  obtain⟨t,rfl⟩:=rx
  cases y with
  |non=>cases ry;exact PySem.EqNone.eq_int_none (zbg I q (by simp))
  |int j=>obtain⟨t',rfl⟩:=ry;exact eq_int (zbg I q dec_int)
  |str j=>obtain⟨t',rfl⟩:=ry;exact PySem.EqMixed.eq_int_str (zbg I q (by simp))
  |_=>exact absurd (show false=true from hs) Zh
 |str i =>
  obtain⟨t,rfl⟩:=rx
  cases y with
  |non=>cases ry;exact PySem.EqNone.eq_str_none (zbg I q (by simp))
  |bl j=>cases ry;exact PySem.EqMixed.eq_str_bool (zbg I q (by simp))
  |int j=>obtain⟨t',rfl⟩:=ry;exact PySem.EqMixed.eq_str_int (zbg I q (by simp))
  |str j=>obtain⟨t',rfl⟩:=ry;exact eq_str (zbg I q dec_str)
  |_=>exact absurd (show false=true from hs) Zh
 |byt i =>
  obtain⟨t,rfl⟩:=rx
  cases y with
  |byt j=>obtain⟨t',rfl⟩:=ry;exact PySem.W.eq_bytes (zbg I q dec_byt)
  |_=>exact absurd (show false=true from hs) Zh
 |_=>cases y<;>exact absurd (show false=true from hs) Zh
def op_ne:OpR X (compareOp .NotEq) rNe:=by
 intro a7 s σ H x y v u Q I rx ry h
 obtain⟨hs,q⟩:=h
 cases x with
 |non =>
  cases rx
  cases y with
  |non=>cases ry;exact PySem.EqNone.ne_none_none (zbg I q (by simp))
  |bl j=>cases ry;exact PySem.EqNone.ne_none_bool (zbg I q (by simp))
  |int j=>obtain⟨t',rfl⟩:=ry;exact PySem.EqNone.ne_none_int (zbg I q (by simp))
  |str j=>obtain⟨t',rfl⟩:=ry;exact PySem.EqNone.ne_none_str (zbg I q (by simp))
  |_=>exact absurd (show false=true from hs) Zh
 |bl i =>
  cases rx
  cases y with
  |non=>cases ry;exact PySem.EqNone.ne_bool_none (zbg I q (by simp))
  |bl j=>cases ry;exact ne_bool (zbg I q (congrArg not dec_bl))
  |str j=>obtain⟨t',rfl⟩:=ry;exact PySem.EqMixed.ne_bool_str (zbg I q (by simp))
  |_=>exact absurd (show false=true from hs) Zh
 |int i =>
  obtain⟨t,rfl⟩:=rx
  cases y with
  |non=>cases ry;exact PySem.EqNone.ne_int_none (zbg I q (by simp))
  |int j=>obtain⟨t',rfl⟩:=ry;exact ne_int (zbg I q (congrArg not dec_int))
  |str j=>obtain⟨t',rfl⟩:=ry;exact PySem.EqMixed.ne_int_str (zbg I q (by simp))
  |_=>exact absurd (show false=true from hs) Zh
 |str i =>
  obtain⟨t,rfl⟩:=rx
  cases y with
  |non=>cases ry;exact PySem.EqNone.ne_str_none (zbg I q (by simp))
  |bl j=>cases ry;exact PySem.EqMixed.ne_str_bool (zbg I q (by simp))
  |int j=>obtain⟨t',rfl⟩:=ry;exact PySem.EqMixed.ne_str_int (zbg I q (by simp))
  |str j=>obtain⟨t',rfl⟩:=ry;exact ne_str (zbg I q (congrArg not dec_str))
  |_=>exact absurd (show false=true from hs) Zh
 |byt i =>
  obtain⟨t,rfl⟩:=rx
  cases y with
  |byt j=>obtain⟨t',rfl⟩:=ry;exact PySem.W.ne_bytes (zbg I q (congrArg not dec_byt))
  |_=>exact absurd (show false=true from hs) Zh
 |_=>cases y<;>exact absurd (show false=true from hs) Zh
def op_lt:OpR X (compareOp .Lt) (rI0 λi j=>.bl (decide (i<j))):=opB0 λ_ _ _ _ _ _ _ q=>lt_int q
def op_le:OpR X (compareOp .LtE) (rI0 λi j=>.bl (decide (i≤j))):=opB0 λ_ _ _ _ _ _ _ q=>le_int q
def op_gt:OpR X (compareOp .Gt) (rI0 λi j=>.bl (decide (j<i))):=opB0 λ_ _ _ _ _ _ _ q=>gt_int q
def op_ge:OpR X (compareOp .GtE) (rI0 λi j=>.bl (decide (j≤i))):=opB0 λ_ _ _ _ _ _ _ q=>ge_int q
def zba(b:Expr)(h:op≠.In:=by decide)(h2:op≠.NotIn:=by decide):behindInMarks op b=false:=by
 have e1:(op==CmpOp.In)=false:=by cases op<;>first | rfl | exact absurd rfl h
 have e2:(op==CmpOp.NotIn)=false:=by cases op<;>first | rfl | exact absurd rfl h2
 cases b<;>simp[behindInMarks,e1,e2]
def pe_cmpR{op:CmpOp}{r:R2}(ho:OpR X (compareOp op) r)(ha:PE X a ta)(hb:PE X b tb)(hm:behindInMarks op b=false):PE X (.Compare a [op] [b] pos) (tOp r ta tb):=by
 intro a7 s σ H Q I h
 exact wpAny_Compare1 (binT ha hb I h λv u s2 x y H2 I2 rx ry q=>ho a7 s2 σ H2 x y v u Q I2 rx ry q) hm
def tTest(t:TE):TT:=λ σ H Q=>t σ H λx H'=>RB x H' Q
def zaq(ho:OpR X (compareOp op) r)(ha:PE X a ta)(hb:PE X b tb)(hm:behindInMarks op b=false):PT X (.Compare a [op] [b] pos) (tTest (tOp r ta tb)):=by
 intro a7 s σ H Q I h
 refine wpAny_isTrue_Compare1 (thn (ha a7 s σ H _ I h) λv s1 ⟨x,H1,I1,r1,q1⟩=>thn (hb a7 s1 σ H1 _ I1 q1) λu s2 ⟨y,H2,I2,r2,q2⟩ =>
  thn (ho a7 s2 σ H2 x y v u _ I2 r1 r2 q2) λc s3 ⟨z,H3,I3,r3,k,e,q3⟩=>?_) hm
 subst e
 cases r3
 exact wpAny_truthy_bool ⟨H3,I3,q3⟩
def tChain(r r':R2)(ta tb tc:TE):TE:=λ σ H Q=>ta σ H λx H1=>tb σ H1 λy H2=>r x y H2 λz H3=>RB z H3 λk H3 =>
 (if k=true then tc σ H3 λw' H4=>r' y w' H4 Q else Q (.bl false) H3)
def pe_chain(ho:OpR X (compareOp op) r)(de:OpR X (compareOp op') r')(ha:PE X a ta)(hb:PE X b tb)(hc:PE X c tc)(hm:lastMarks [op,op'] [b,c]=false:=by with_unfolding_all rfl):PE X (.Compare a [op,op'] [b,c] pos) (tChain r r' ta tb tc):=by
 intro a7 s σ H Q I h
 refine Compare_chain (thn (ha a7 s σ H _ I h) λv s1 ⟨x,H1,I1,r1,q1⟩=>chain_link (thn (hb a7 s1 σ H1 _ I1 q1) λu s2 ⟨y,H2,I2,r2,q2⟩ =>
  thn (ho a7 s2 σ H2 x y v u _ I2 r1 r2 q2) λd s3 ⟨z,H3,I3,r3,k,e,q3⟩=>?_)) hm
 subst e
 cases r3
 refine wpAny_truthy_bool ?_
 cases k with
 |false=>exact ite_ff ⟨.bl false,H3,I3,rfl,q3⟩
 |true=>exact ite_tt (chain_last (thn (hc a7 s3 σ H3 _ I3 q3) λw' s4 ⟨z',H4,I4,r4,q4⟩=>de a7 s4 σ H4 y z' u w' Q I4 r2 r4 q4))
def TruV(K:Na)(x:V)(H:Hp)(k:Bool):Prop :=
 match x with
 |.non=>k=false
 |.bl b=>k=b
 |.int i=>k=(i != 0)
 |.str y=>y.length≤sizeLine∧k=((y.length:Int) != 0)
 |.byt y=>y.size≤sizeLine∧k=((y.size:Int) != 0)
 |.ref p=>(∃xs,SqL K H p xs∧k=!xs.isEmpty)∨(∃xs,SqT K H p xs∧k=!xs.isEmpty)∨∃kvs,H p=some (.dK kvs)∧k=!kvs.isEmpty
 |_=>False
def isEmpty_kv{κ:Type}{kvs:List (κ×V)}{vs:List (κ×Value)}(r:KV kvs vs):(!vs.isEmpty)=!kvs.isEmpty:=by
 cases r<;>rfl
def zhn{xs:List V}{a8:Nj}(r:Vals xs a8):(!a8.toArray.isEmpty)=!xs.isEmpty:=by
 cases r<;>simp
def zes:(sizeLine:Nat)<2 ^ 63:=by rw[sizeLine_eq];decide
inductive RTr(K:Na)(x:V)(H:Hp)(Q:Bool→Hp→Prop):Prop
 |mk (k:Bool) (t:TruV K x H k) (q:Q k H):RTr K x H Q
def tru_ok:TruR X (λx H Q=>RTr X.K x H Q):=by
 intro a7 s σ H x v Q I rx h
 obtain⟨k,e,q⟩:=h
 have hl:=zes
 have hs:sizeLine=16777216:=sizeLine_eq
 cases x with
 |non =>
  cases rx
  have e':k=false:=e
  subst e'
  exact truthy_none ⟨H,I,q⟩
 |bl b =>
  cases rx
  have e':k=b:=e
  subst e'
  exact wpAny_truthy_bool ⟨H,I,q⟩
 |int i =>
  obtain⟨t,rfl⟩:=rx
  have e':k=(i != 0):=e
  subst e'
  exact PySem.P.truthy_int ⟨H,I,q⟩
 |str y =>
  obtain⟨t,rfl⟩:=rx
  obtain⟨hy,e'⟩:y.length≤sizeLine∧k=((y.length:Int) != 0):=e
  subst e'
  exact PySem.P.truthy_str (by lia) ⟨H,I.tok _,q⟩
 |byt y =>
  obtain⟨t,rfl⟩:=rx
  obtain⟨hy,e'⟩:y.size≤sizeLine∧k=((y.size:Int) != 0):=e
  subst e'
  exact PySem.W.truthy_bytes (by lia) ⟨H,I.tok _,q⟩
 | ref p =>
  cases rx
  have e':(∃xs,SqL X.K H p xs∧k=!xs.isEmpty)∨(∃xs,SqT X.K H p xs∧k=!xs.isEmpty)∨∃kvs,H p=some (.dK kvs)∧k=!kvs.isEmpty:=e
  rcases e' with⟨xs,hx,e'⟩ | ⟨xs,hx,e'⟩ | ⟨kvs,hx,e'⟩
  ·subst e'
   obtain⟨a8,r,pl,hz⟩:=I.list hx
   have af:=r.length
   exact wpAny_truthy_list pl.isList (by simp only[Qu];lia) ⟨H,I.tok _,by rw[zhn r];exact q⟩
  ·subst e'
   obtain⟨a8,r,pl,hz⟩:=I.tuple hx
   have af:=r.length
   exact truthy_tuple pl (by simp only[Qu];lia) ⟨H,I.tok _,by rw[zhn r];exact q⟩
  ·subst e'
   obtain⟨hz,hS,vs,r,m⟩:kvs.length≤sizeLine∧(p==sysModules)=false∧∃vs,KV kvs vs∧s.heap.DictOf (zam X.prog X.w) p vs:=I.hok p _ hx
   have af:kvs.length=vs.length:=Yp r
   exact wpAny_truthy_dict hS m (by lia) ⟨H,I.tok _,by rw[isEmpty_kv r];exact q⟩
 |_=>exact(show False from e).elim
def zft(ha:PE X a ta)(he:∀whole,isTrue a X.env whole=(do let v ←whole;standAt a.pos;holding [v] (truthy v))) :
  PT X a (λ σ H Q=>ta σ H λx H'=>RTr X.K x H' Q):=by
 intro a7 s σ H Q I h
 exact isTrue_plain (thn (ha a7 s σ H _ I h) λv s1 ⟨x,H1,I1,r1,q1⟩=>tru_ok a7 s1 σ H1 x v Q I1 r1 q1) (he _)
def zhm:OpR X (binaryOp .Add) (λx y H Q=>Ex2 λi j=>Aj4 (x=.str i) (y=.str j) (i.length+j.length≤sizeLine) (Q (.str (i++j)) H)):=by
 intro a7 s σ H x y v u Q I rx ry h
 obtain⟨i,j,rfl,rfl,hz,q⟩:=h
 obtain⟨t,rfl⟩:=rx
 obtain⟨t',rfl⟩:=ry
 exact add_str (λt' tk=>⟨.str (i++j),H,I.tok _,⟨_,rfl⟩,q⟩) hz
def vals1(r:Vals [x] us):∃u,us=[u]∧RelV x u:=by
 cases r with
 |cons r1 r2=>cases r2;exact⟨_,rfl,r1⟩
def vals2(r:Vals [x,y] us):∃u w',us=[u,w']∧RelV x u∧RelV y w':=by
 cases r with
 |cons r1 r2 =>
  cases r2 with
  |cons r3 r4=>cases r4;exact⟨_,_,rfl,r1,r3⟩
def call_min2(hc:X.calm=true):zci X (.builtin "min") (λxs H Q=>Ex2 λi j=>Aj2 (xs=[.int i,.int j]) (Q (.int (if j<i then j else i)) H)):=by
 intro a7 s σ H xs us Q I r h
 obtain⟨i,j,rfl,q⟩:=h
 obtain⟨u,w',rfl,⟨t,rfl⟩,⟨t',rfl⟩⟩:=vals2 r
 refine min_two_ints (I.ok.hd hc) λh' tk k=>⟨_,H,I.kept k,?_,q⟩
 by_cases hj:j<i
 ·rw[if_pos hj,if_pos hj];exact⟨_,rfl⟩
 ·rw[if_neg hj,if_neg hj];exact⟨_,rfl⟩
def zgx:zci X (.type "int") (λxs H Q=>(∃i,xs=[.int i]∧Q (.int i) H)∨∃k,xs=[.bl k]∧Q (.int (if k then 1 else 0)) H):=by
 intro a7 s σ H xs us Q I r h
 rcases h with⟨i,rfl,q⟩ | ⟨k,rfl,q⟩
 ·obtain ⟨u,rfl,t,rfl⟩:=vals1 r
  exact call_int_int ⟨.int i,H,I,⟨_,rfl⟩,q⟩
 ·obtain ⟨u,rfl,r1⟩:=vals1 r
  cases r1
  exact call_int_bool ⟨.int (if k then 1 else 0),H,I.tok _,⟨_,rfl⟩,q⟩
end
end L2
namespace L2
open PySem PySem.Spec PyProof.Rows
structure ObjM(h:Nm)(x dx C:Nb)(mA:Nd):Prop where
 obj:h.get? x=some (PySem.W.instObj C dx)
 ns:h.Ns1 dx mA
 ne:dx≠x
def lookIn_ns{h:Nm}{mA:Nd}(n:h.Ns1 dx mA):∃od,h.get? dx=some od∧∀name,PySem.W.lookIn name od=some (mA name):=by
 obtain⟨o,es,ep,ho,hd,hk,_,hm⟩:=n
 refine⟨o,ho,λname=>?_⟩
 have e:=hm name
 unfold nsFind findBy at e
 rw[←Array.find?_toList]at e
 unfold PySem.W.lookIn
 rw[hd]
 dsimp only
 split
 ·rename_i y q
  rw[q]at e
  exact congrArg some e
 ·rename_i q
  rw[q]at e
  have a:es.toList.any (·.refKey)=false:=by
   rw[List.any_eq_false]
   intro y hy
   obtain⟨z,t,kM⟩:=hk y (Array.mem_toList_iff.mp hy)
   simp[DictEntry.refKey,kM]
  have a':¬es.toList.any (·.refKey)=true:=by rw[a];exact Zh
  rw[if_neg a']
  exact congrArg some e
def ObjM.look(I:ObjM h x dx C mA):∃od,PySem.W.InstAt h x (PySem.W.instObj C dx) C (some od)∧∀name,PySem.W.lookIn name od=some (mA name) :=
 let⟨od,ho,hl⟩:=lookIn_ns I.ns
 ⟨od,⟨I.obj,rfl,rfl,ho⟩,hl⟩
section
variable{prog:Ni}{w:Nk}{A:Nn}{E:Nc}{s:Nh}{K:Na}{x dx C f:Nb}{mA:Nd}{name:Str}{v:Value}
def get_map(X:K.In s.heap)(I:ObjM s.heap x dx C mA)(hg:PySem.W.plainGet K C name=true)(hh:PySem.W.hasDictIn K C=true)(ha:PySem.W.findIn K (.ref C) name=some none)(hv:mA name=some v)(fO:PySem.W.handedIn v=true)(h:Q v {s with toks:=s.toks+1}) :
  wpAny (model prog w) A (getAttr (.ref x) name expr) Q E s:=by
 obtain⟨od,J,hl⟩:=I.look
 exact PySem.W.get_value X J (PySem.W.plainGet_of hg).1 (PySem.W.findObj_own hh ha rfl (by rw[hl,hv])) fO h
def get_meth(X:K.In s.heap)(I:ObjM s.heap x dx C mA)(hg:PySem.W.plainGet K C name=true)(hf:PySem.W.findIn K (.ref C) name=some (some (.ref f)))(ht:PySem.W.isFn K (.ref f)=true)(hv:mA name=none)(h:Q (.ref f,[.ref x]) s) :
  wpAny (model prog w) A (getMethod (.ref x) name pl) Q E s:=by
 obtain⟨od,J,hl⟩:=I.look
 exact PySem.W.method_fn X J (PySem.W.plainGet_of hg).1 (PySem.W.plainGet_of hg).2 hf (beq_iff_eq.mp ht) (by show(PySem.W.lookIn name od).map (·.isSome)=some false;rw[hl,hv];rfl) h
def set_map(X:K.In s.heap)(I:ObjM s.heap x dx C mA)(hs:PySem.W.findIn K (.ref C) "__setattr__" = some (some (.builtin "object.__setattr__")))(hp:PySem.W.plainOver K C=true)(ht:PySem.W.takerIn K C name=some none)(hh:PySem.W.hasDictIn K C=true)(hw:PySem.Within mA ns)(hsz:ns.length≤sizeLine)(h:∀h',ObjM h' x dx C (λy=>if y=name then some v else mA y)→Heap.SameBut dx s.heap h'→Q () {s with heap:=h',toks:=s.toks+2}) :
  wpAny (model prog w) A (setAttr (.ref x) name v) Q E s:=by
 obtain⟨od,J,hl⟩:=I.look
 refine PySem.W.set_plain X J hs (PySem.W.osa_open (s:={s with toks:=s.toks+1}) (r:=none) X J hp ht λb=>?_)
 obtain⟨cd,hc,iJ⟩:=PySem.W.any_some hh
 have hx:s.heap.get? x=some ⟨.ref C,some dx,.plain,#[]⟩:=I.obj
 refine wpAny_bind (wpAny_pure (wpAny_bind (wpAny_bind (wpAny_loadPart hx (wpAny_bind (PySem.W.Looks.here (s:={s with toks:=s.toks+1}) (PySem.W.looks_clsIn X hc) ?_))))))
 rw[iJ]
 refine wpAny_pure (a:=some dx) (wpAny_bind (wpAny_pure (wpAny_bind ?_)))
 refine wpAny_nsSet1 (s:={s with toks:=s.toks+1}) I.ns λh' bm dQ=>?_
 obtain⟨oD,esD,epD,hoD,hdD,hcD⟩:=bm.count (PySem.Within.cons name v hw)
 refine wpAny_bind (wpAny_lookBehind hoD (by rw[hdD];exact pastItsLine_dict (Zk hcD (by rw[Qz];exact zar4 ‹_›))) ?_)
 exact wpAny_pure (h _ ⟨(dQ.2 _ (Qw I.ne)).trans I.obj,bm,I.ne⟩ dQ)
def make_map(X:K.In s.heap)(hm:PySem.W.makesIn K C=true)(hi:PySem.W.findIn K (.ref C) "__init__" = some (some (.ref f)))(hf:PySem.W.typeIn K (.ref f)=some (.type "function"))(h:codeAny (model prog w) (A.under (.builtin "type.__call__" ⟨.ref C::vs,kw⟩)) (.call (.ref f) ⟨.ref (s.heap.objs.size+1)::vs,kw⟩) (PySem.W.InitBack (s.heap.objs.size+1) R)
   {s with heap:=(s.heap.push PySem.W.emptyDict).push (PySem.W.instObj C s.heap.objs.size)}) :
  codeAny (model prog w) A (.call (.ref C) ⟨vs,kw⟩) R s:=by
 obtain⟨hh,g,d,t,os⟩:=s
 exact PySem.W.make_core (PySem.W.makes_of X hm) (PySem.W.looks_findIn X hi) (λself=>PySem.W.bind_fn X self hf) (.inl rfl) h
end
def putF(f:Str)(v:V):List (Str×V)→List (Str×V)
 |[]=>[(f,v)]
 |(g,x)::r=>if g=f then(g,v)::r else(g,x)::putF f v r
theorem zgj(f g:Str)(v:V):∀fs:List (Str×V),(putF f v fs).lookup g=if g=f then some v else fs.lookup g
 | []=>by
  show List.lookup g [(f,v)]=_
  by_cases h:g=f
  ·have hb:(g == f)=true:=beq_iff_eq.mpr h
   simp only[List.lookup,hb,if_pos h]
  ·have hb:(g == f)=false:=beq_eq_false_iff_ne.mpr h
   simp only[List.lookup,hb,if_neg h]
 | (k,x)::r=>by
  have ih:=zgj f g v r
  rw[show putF f v ((k,x)::r)=(if k=f then(k,v)::r else(k,x)::putF f v r) from rfl]
  by_cases hk:k=f
  ·rw [if_pos hk]
   by_cases h:g=k
   ·have hb:(g == k)=true:=beq_iff_eq.mpr h
    simp only[List.lookup,hb,if_pos (h.trans hk)]
   ·have hb:(g == k)=false:=beq_eq_false_iff_ne.mpr h
    simp only[List.lookup,hb,if_neg (λe:g=f=>h (e.trans hk.symm))]
  ·rw [if_neg hk]
   by_cases h:g=k
   ·have hb:(g == k)=true:=beq_iff_eq.mpr h
    simp only[List.lookup,hb,if_neg (λe:g=f=>hk (h.symm.trans e))]
   ·have hb:(g == k)=false:=beq_eq_false_iff_ne.mpr h
    simp only[List.lookup,hb]
    exact ih
theorem zgn(f:Str)(v:V):∀fs:List (Str×V),f∈(putF f v fs).map (·.1)∧∀g,g∈fs.map (·.1)→g∈(putF f v fs).map (·.1)
 |[]=>⟨by simp[putF],λg h=>by simp at h⟩
 | (k,x)::r=>by
  obtain⟨i1,i2⟩:=zgn f v r
  rw[show putF f v ((k,x)::r)=(if k=f then(k,v)::r else(k,x)::putF f v r) from rfl]
  by_cases hk:k=f
  ·rw [if_pos hk]
   subst hk
   exact⟨by simp,λg h=>by simpa using h⟩
  ·rw [if_neg hk]
   refine⟨?_,λg h=>?_⟩
   ·rw [Ql]
    exact Qg _ i1
   ·rw [Ql] at h ⊢
    rcases Qe.mp h with e | e
    ·exact Qe.mpr (.inl e)
    ·exact Qg _ (i2 g e)
theorem zgl(f:Str)(v:V):∀fs:List (Str×V),(putF f v fs).length≤fs.length+1
 |[]=>by simp[putF]
 |(k,x)::r=>by
  have ih:=zgl f v r
  rw[show putF f v ((k,x)::r)=(if k=f then(k,v)::r else(k,x)::putF f v r) from rfl]
  by_cases hk:k=f
  ·rw[if_pos hk,Qz,Qz];exact Yl _ _
  ·rw[if_neg hk,Qz,Qz];exact zar4 ‹_›
def RelO.some_of(r:RelO (some v) o):∃u,o=some u∧RelV v u:=by
 cases o with
 |none=>exact(show False from r).elim
 |some u=>exact⟨u,rfl,r⟩
def RelO.none_of(r:RelO none o):o=none:=by
 cases o with
 |none=>rfl
 |some u=>exact(show False from r).elim
def handed_of(r:RelV v u):PySem.W.handedIn u=true:=by
 cases v with
 |non=>cases(show u=Value.none from r);rfl
 |bl b=>cases(show u=Value.bool b from r);rfl
 |int i=>obtain⟨t,e⟩:=(show ∃t,u=Value.int i t from r);cases e;rfl
 |str x=>obtain⟨t,e⟩:=(show ∃t,u=Value.str x t from r);cases e;rfl
 |byt b=>obtain⟨t,e⟩:=(show ∃t,u=Value.bytes b t from r);cases e;rfl
 |flt b=>obtain⟨t,e⟩:=(show ∃t,u=Value.float b t from r);cases e;rfl
 |ref a=>cases(show u=Value.ref a from r);rfl
 |ty n=>cases(show u=Value.type n from r);rfl
section
variable{P:Ni}{w:Nk}{H H':Hp}{h h':Nm}{a C dx:Nb}{fs vK:List (Str×V)}
def ins_get(hok:HOk P w H h)(e:H a=some (.ins C dx fs)):∃mA,ObjM h a dx C mA∧(∀f,RelO (fs.lookup f) (mA f))∧PySem.Within mA (fs.map (·.1))∧fs.length≤1000∧H dx=some (.own a):=by
 obtain⟨d,z,ne,ob,mA,n,r,q⟩:=(show zbs P w H h a (.ins C dx fs) from hok a _ e)
 exact⟨mA,⟨ob,n,ne⟩,r,q,z,d⟩
end
structure Cls(K:Na)(C:Nb):Prop where
 pg:PySem.W.plainGet K C Str.empty=true
 hd:PySem.W.hasDictIn K C=true
 po:PySem.W.plainOver K C=true
 sa:PySem.W.findIn K (.ref C) "__setattr__" = some (some (.builtin "object.__setattr__"))
def Cls.get{K:Na}{C:Nb}(c:Cls K C)(f:Str):PySem.W.plainGet K C f=true:=c.pg
def zd3(K:Na)(C:Nb)(f:Str):Prop:=PySem.W.findIn K (.ref C) f=some none
def zd3.taker{K:Na}{C:Nb}{f:Str}(n:zd3 K C f):PySem.W.takerIn K C f=some none:=by
 unfold PySem.W.takerIn
 rw[show PySem.W.findIn K (.ref C) f=some none from n]
 rfl
structure Meth(K:Na)(C:Nb)(m:Str)(f:Nb):Prop where
 at_:PySem.W.findIn K (.ref C) m=some (some (.ref f))
 fn:PySem.W.isFn K (.ref f)=true
 kp:PySem.W.keepIn K (.ref f)=true
section
variable{X:Cx}{a7:Nf}{σ:St}{H:Hp}{s:Nh}{a C dx:Nb}{fs:List (Str×V)}{f:Str}{v:V}{A:Nn}{E:Nc}
def getattr_ok(I:Inv X a7 σ H s)(e:H a=some (.ins C dx fs))(c:Cls X.K C)(n:zd3 X.K C f)(l:fs.lookup f=some v)(h:∀u s',Inv X a7 σ H s'→RelV v u→Q u s'):wpAny (model X.prog X.w) A (getAttr (.ref a) f b) Q E s:=by
 obtain⟨mA,O,r,_,_,_⟩:=ins_get I.hok e
 obtain⟨u,hu,ru⟩:=RelO.some_of (v:=v) (o:=mA f) (by rw[←l];exact r f)
 exact get_map I.kIn O (c.get f) c.hd n hu (handed_of ru) (h u _ (I.tok _) ru)
def ze8(I:Inv X a7 σ H s)(e:H a=some (.ins C dx fs))(c:Cls X.K C)(k:Meth X.K C m g)(l:fs.lookup m=none)(h:Q (.ref g,[.ref a]) s):wpAny (model X.prog X.w) A (getMethod (.ref a) m pl) Q E s:=by
 obtain⟨mA,O,r,_,_,_⟩:=ins_get I.hok e
 have hn:mA m=none:=RelO.none_of (by rw[←l];exact r m)
 exact get_meth I.kIn O (c.get m) k.at_ k.fn hn h
def setattr_ok(I:Inv X a7 σ H s)(e:H a=some (.ins C dx fs))(c:Cls X.K C)(n:zd3 X.K C f)(hl:fs.length<1000)(ry:RelV y u)(h:∀s',Inv X a7 σ (upd H a (.ins C dx (putF f y fs))) s'→Q () s'):wpAny (model X.prog X.w) A (setAttr (.ref a) f u) Q E s:=by
 obtain⟨mA,O,r,wi,_,ho⟩:=ins_get I.hok e
 have hz:(fs.map (·.1)).length≤sizeLine:=by rw[Qa,sizeLine_eq];lia
 refine set_map I.kIn O c.sa c.po n.taker c.hd wi hz λh' O' sb=>h _ ?_
 have hd:∃o,h'.get? dx=some o:=let⟨o,_,_,e',_⟩:=O'.ns;⟨o,e'⟩
 refine I.write (x:=a) (e:=dx) (by rw[e];exact True.intro) (.inr ho) (λb q hb z=>(sb.2 b hb).trans z) hd ?_
 refine⟨by rw[zae O.ne];exact ho,?_,O.ne,O'.obj,_,O'.ns,λg=>?_,λg hg=>?_⟩
 ·have:=zgl f y fs;exact Zk ‹_› ‹_›
 ·show RelO ((putF f y fs).lookup g) (if g=f then some u else mA g)
  rw[zgj]
  by_cases q:g=f
  ·rw[if_pos q,if_pos q];exact ry
  ·rw[if_neg q,if_neg q];exact r g
 ·by_cases q:g=f
  ·rw[q];exact(zgn f y fs).1
  ·refine (zgn f y fs).2 g (wi g fun z=>hg ?_)
   show(if g=f then some u else mA g)=none
   rw[if_neg q];exact z
def Inv.made(I:Inv X a7 σ H s):Inv X a7 σ (upd (upd H s.heap.objs.size (.own (s.heap.objs.size+1))) (s.heap.objs.size+1) (.ins C s.heap.objs.size []))
  {s with heap:=(s.heap.push PySem.W.emptyDict).push (PySem.W.instObj C s.heap.objs.size)}:=by
 have e1:(s.heap.push PySem.W.emptyDict).get? s.heap.objs.size=some PySem.W.emptyDict:=Zf s.heap rfl
 have e2:((s.heap.push PySem.W.emptyDict).push (PySem.W.instObj C s.heap.objs.size)).get? (s.heap.objs.size+1)=some (PySem.W.instObj C s.heap.objs.size):=by
  have:=Zf (s.heap.push PySem.W.emptyDict) (o:=PySem.W.instObj C s.heap.objs.size) rfl
  rwa[Wt]at this
 have e3:(s.heap.push PySem.W.emptyDict).Ns s.heap.objs.size (λ_=>none):=⟨PySem.W.emptyDict,#[],_,e1,rfl,(λe he=>absurd he (by simp)),λ_=>rfl⟩
 have I1:=I.laid (a:=s.heap.objs.size) (o:=.own (s.heap.objs.size+1)) (h':=s.heap.push PySem.W.emptyDict) (t':=s.toks) (λb u q=>Qj _ q) (Qh _) ⟨_,e1⟩
 refine I1.laid (a:=s.heap.objs.size+1) (o:=.ins C s.heap.objs.size []) (t':=s.toks) (λb u q=>Qj _ q) (Nat.le_of_eq (Wt _ _)) ?_
 have ne:s.heap.objs.size≠s.heap.objs.size+1:=Zc (Ys _)
 refine⟨by rw[zae ne,zac],Zg _,ne,e2,λ_=>none,(Heap.Ns1.of_empty e3).at λo q=>Qj _ q,λ_=>True.intro,λy hy=>absurd rfl hy⟩
def attr_of(hb:attributeBase e f env (eval e env)=eval e env)(h:wpAny (model prog w) A (eval e env) (λo s₁=>wpAny (model prog w) A (getAttr o f true) Q E s₁) E s):wpAny (model prog w) A (eval (.Attribute e f pos) env) Q E s :=
 Attribute_any_ h (by rw[arm_eval_Attribute,hb])
end
inductive RFld(K:Na)(f:Str)(x:V)(H:Hp)(Q:VK):Prop
 |mk (a C dx:Nb) (fs:List (Str×V)) (v:V) (e:x=.ref a) (h:H a=some (.ins C dx fs)) (c:Cls K C) (n:zd3 K C f) (l:fs.lookup f=some v) (q:Q v H):RFld K f x H Q
def tFld(K:Na)(ta:TE)(f:Str):TE:=λ σ H Q=>ta σ H λx H1=>RFld K f x H1 Q
inductive RFs(K:Na)(f:Str)(x y:V)(H:Hp)(N:Hp→Prop):Prop
 |mk (a C dx:Nb) (fs:List (Str×V)) (e:x=.ref a) (h:H a=some (.ins C dx fs)) (c:Cls K C) (n:zd3 K C f) (l:fs.length<1000) (q:N (upd H a (.ins C dx (putF f y fs)))):RFs K f x y H N
def sFld(K:Na)(ta tv:TE)(f:Str):TS:=λD σ H=>tv σ H λy H1=>ta σ H1 λx H2=>RFs K f x y H2 (D.nx σ)
section
variable{X:Cx}{o e value:Expr}{f:Str}{pos aU tpos:Pos}{ta tv:TE}
def pe_fld(he:PE X e ta)(hb:attributeBase e f X.env (eval e X.env)=eval e X.env):PE X (.Attribute e f pos) (tFld X.K ta f):=by
 intro a7 s σ H Q I h
 refine attr_of hb (thn (he a7 s σ H _ I h) λu s1 ⟨x,H1,I1,rx,a,C,dx,fs,v,ex,ea,c,n,l,q⟩=>?_)
 subst ex
 obtain rfl:u=Value.ref a:=rx
 exact getattr_ok I1 ea c n l λu' s2 I2 ru=>⟨v,H1,I2,ru,q⟩
def ps_fld(ha:PE X o ta)(hv:PE X value tv)(hs:swapsWith value (some (.Attribute o f aU)) pos.line X.env=pure false):PS X (.Assign [.Attribute o f aU] value pos) (sFld X.K ta tv f):=by
 intro a7 s σ H D I h
 refine plainObj_wpAny_Assign_Attribute (thn (hv a7 s σ H _ I h) λu s1 ⟨y,H1,I1,ry,q⟩=>thn (ha a7 s1 σ H1 _ I1 q) λov s2 ⟨x,H2,I2,rx,a,C,dx,fs,ex,ea,c,n,l,q2⟩=>?_) hs
 subst ex
 obtain rfl:ov=Value.ref a:=rx
 exact setattr_ok I2 ea c n l ry λs3 I3=>⟨σ,_,I3,q2⟩
def methcall_of(he:PE X e te)(I:Inv X a7 σ H s)(h:te σ H fun x H1=>∃ a C dx fs g,x=.ref a∧H1 a=some (.ins C dx fs)∧Cls X.K C∧Meth X.K C m g∧fs.lookup m=none ∧
   ∀s1,Inv X a7 σ H1 s1→wpAny (model X.prog X.w) X.A (callWith pos (.ref g) [.ref a] (backTo pos (starEach args X.env)) (backToKw pos (keywordEach [] X.env))) Q X.xe s1)(ht:eval (.Call (.Attribute e m apos) args [] pos) X.env=(do
   let ov ←eval e X.env
   standAt apos.atName
   let(f,first) ←holding [ov] (getMethod ov m pl)
   callWith pos f first (backTo pos (starEach args X.env)) (backToKw pos (keywordEach [] X.env)))) :
  wpAny (model X.prog X.w) X.A (eval (.Call (.Attribute e m apos) args [] pos) X.env) Q X.xe s:=by
 refine Xf (pl:=pl) (thn (he a7 s σ H _ I h) λu s1 ⟨x,H1,I1,rx,a,C,dx,fs,g,ex,ea,c,k,l,q⟩=>?_) ht
 subst ex
 obtain rfl:u=Value.ref a:=rx
 exact ze8 I1 ea c k l (q s1 I1)
end
section
variable{X:Cx}{a7:Nf}{σ:St}{H:Hp}{s:Nh}{A:Nn}{E:Nc}{Q:Nc}{c:Value}{b:Bool}
end
end L2
namespace L2
open PySem PySem.Spec PyProof.Rows
structure Room(k:Nat)(A:Nn):Prop where
 hd:A.handled=none
 dp:A.depth+3*k+5<recursionLimit
 un:A.units+16*k+200<cLine
def Room.mono(r:Room k A)(h:j≤k):Room j A:=⟨r.hd,by have:=r.dp;lia,by have:=r.un;lia⟩
def Room.deeper{k:Nat}{A:Nn}(r:Room (k+1) A)(env:Env):Room k (A.deeper env) :=
 ⟨r.hd,by have:=r.dp;show A.depth+1+3*k+5<_;lia,by have:=r.un;show A.units+3+16*k+200<_;lia⟩
def make_depth{A:Nn}:(A.under (.builtin "type.__call__" ⟨.ref C::us,kw⟩)).depth=A.depth+1:=by
 first | rfl | simp[Around.under,Code.weight,Code.isCreation,Code.isGuard,Code.isCaller,Code.frames,Code.isFrame,guardIds]
def make_units{A:Nn}:(A.under (.builtin "type.__call__" ⟨.ref C::us,kw⟩)).units=A.units+1:=by
 first | rfl | simp[Around.under,Code.cUnits,Code.frames,Code.isFrame]
def Room.make(r:Room (k+1) A)(C:Nb)(us:Nj)(kw:List (Str×Value)):Room k (A.under (.builtin "type.__call__" ⟨.ref C::us,kw⟩)) :=
 ⟨r.hd,by have:=r.dp;rw[make_depth];lia,by have:=r.un;rw[make_units];lia⟩
def Room.depth{k:Nat}{A:Nn}(r:Room k A):A.depth<recursionLimit:=by have:=r.dp;lia
def Room.units(r:Room k A):A.units+64<cLine:=by have:=r.un;lia
def tNil:TA:=λ_ H Q=>Q [] H
def tCons(ta:TE)(tr:TA):TA:=λ σ H Q=>ta σ H λx H1=>tr σ H1 λxs H2=>Q (x::xs) H2
section
variable{X:Cx}{e:Expr}{es:Np}{te:TE}{t:TA}{pos:Pos}
def zaf:PA X [] tNil:=λ_ _ _ _ H Q I h=>Jt ⟨[],H,I,.nil,h⟩
def zab(ha:PE X e te)(hr:PA X es t)(hs:starEach (e::es) X.env=(false,eval e X.env)::starEach es X.env:=by rfl):PA X (e::es) (tCons te t):=by
 intro pos a7 s σ H Q I h
 rw[hs]
 show wpAny _ _ (spliced ((false,eval e X.env)::backTo pos (starEach es X.env))) _ _ s
 refine Us (thn (ha a7 s σ H _ I h) λu s1 ⟨x,H1,I1,r1,q1⟩=>?_)
 exact thn (hr pos a7 s1 σ H1 _ I1 q1) λus s2 ⟨xs,H2,I2,r2,q2⟩=>⟨x::xs,H2,I2,.cons r1 r2,q2⟩
def tTup(t:TA):TE:=λ σ H Q=>t σ H λxs H1=>xs.length≤sizeLine∧∀p,H1 p=none→Q (.ref p) (upd H1 p (.tup xs))
def tLst(t:TA):TE:=λ σ H Q=>t σ H λxs H1=>xs.length≤sizeLine∧∀p,H1 p=none→Q (.ref p) (upd H1 p (.lst xs))
def zgd{x1}(h:PA X es t):PE X (.Tuple es x1 pos) (tTup t):=by
 intro a7 s σ H Q I hq
 refine wpAny_Tuple_spliced (thn (h pos a7 s σ H _ I hq) λus s1 ⟨xs,H1,I1,r,z,q⟩=>⟨by rw[←r.length];exact z,?_⟩)
 have hf:H1 s1.heap.objs.size=none:=I1.hok.fresh (Qh _)
 refine⟨.ref s1.heap.objs.size,upd H1 s1.heap.objs.size (.tup xs),I1.laid (t':=s1.toks) (λb u e=>Qj _ e) (Qh _) ?_,rfl,q _ hf⟩
 exact⟨z,us,r,⟨_,Zf _ rfl,rfl,_,rfl⟩⟩
def zbd(h:PA X es t):PE X (.List es pos) (tLst t):=by
 intro a7 s σ H Q I hq
 refine wpAny_List_spliced (thn (h pos a7 s σ H _ I hq) λus s1 ⟨xs,H1,I1,r,z,q⟩=>⟨by rw[←r.length];exact z,?_⟩)
 have hf:H1 s1.heap.objs.size=none:=I1.hok.fresh (Qh _)
 refine⟨.ref s1.heap.objs.size,upd H1 s1.heap.objs.size (.lst xs),I1.laid (t':=s1.toks) (λb u e=>Qj _ e) (Qh _) ?_,rfl,q _ hf⟩
 exact⟨z,us,0,r,Zf _ rfl⟩
end
abbrev Sp:=List V→Hp→VK→XK→Prop
abbrev CXT:=List Env→Hp→Shared→XK→Value→Shared→Prop
structure Env0(P:Ni)(w:Nk)(K:Na)(mg:Nd)(base:Nm)(A:Nn)(outer:List Env)(s:Nh)(H:Hp):Prop where
 frames:A.frames=some outer
 mod:Mod K mg base
 bs:∀b o,base.get? b=some o→s.heap.get? b=some o∧H b=none
 bsz:base.objs.size≤s.heap.objs.size
 funs:s.heap.FunFrames base outer
 frf:∀b∈frs outer,H b=none
 hok:HOk P w H s.heap
 bare:AllBare s.gens
inductive CE(outer:List Env)(P:Ni)(w:Nk)(H:Hp)(s:Nh)(Q:VK)(u:Value)(s':Nh):Prop
 |mk (v:_) (H':_) (h0:s'.os=s.os) (h1:AllBare s'.gens) (h2:Un (frs outer) [] H H' s.heap s'.heap) (h3:HOk P w H' s'.heap) (h4:RelV v u) (h5:Q v H'):CE outer P w H s Q u s'
def CR(CX:CXT)(outer:List Env)(P:Ni)(w:Nk)(H:Hp)(s:Nh)(Q:VK)(E:XK)(r:Result)(s':Nh):Prop :=
 match r with
 |.ok (.ret u)=>CE outer P w H s Q u s'
 |.ok _=>False
 |.error e=>CX outer H s E e s'
structure FnOk(P:Ni)(w:Nk)(K:Na)(mg:Nd)(base:Nm)(CX:CXT)(k:Nat)(f:Nb)(fd:No)(ps:Ng)(sp:Sp):Prop where
 len:∀vs H Q E,sp vs H Q E→vs.length=ps.length
 run:∀(A:Nn) (outer:List Env) (s:Nh) (H:Hp) (args:Args) (us:Nj) (vs:List V) (Q:VK) (E:XK),Room k A→Env0 P w K mg base A outer s H→BindsTo s fd args (ps.zip us)→Vals vs us→sp vs H Q E →
  codeAny (model P w) A (.call (.ref f) args) (CR CX outer P w H s Q E) s
def FnOk.imp{P:Ni}{w:Nk}{K:Na}{mg:Nd}{base:Nm}{CX:CXT}{k:Nat}{f:Nb}{fd:No}{ps:Ng}{sp sp':Sp}(F:FnOk P w K mg base CX k f fd ps sp)(h:∀vs H Q E,sp' vs H Q E→sp vs H Q E):FnOk P w K mg base CX k f fd ps sp' :=
 ⟨λvs H Q E q=>F.len vs H Q E (h _ _ _ _ q),λA outer s H args us vs Q E hr he hb hv hs=>F.run A outer s H args us vs Q E hr he hb hv (h _ _ _ _ hs)⟩
def Env0.make{P:Ni}{w:Nk}{K:Na}{mg:Nd}{base:Nm}{A:Nn}{outer:List Env}{s:Nh}{H:Hp}(e:Env0 P w K mg base A outer s H)(C:Nb)(us:Nj)(kw:List (Str×Value)) :
  Env0 P w K mg base (A.under (.builtin "type.__call__" ⟨.ref C::us,kw⟩)) outer s H:=⟨by first | exact e.frames | (simpa[Around.under,Code.envs,Code.isFrame,pushEnvs] using e.frames),e.mod,e.bs,e.bsz,e.funs,e.frf,e.hok,e.bare⟩
section
variable{X:Cx}{a7:Nf}{σ:St}{H:Hp}{s s':Nh}
def Inv.env0(I:Inv X a7 σ H s):Env0 X.prog X.w X.K X.mg X.base X.A X.stack s H :=
 ⟨I.ok.frames,I.ok.mod,I.bs,Zk I.ok.bsz I.sz,I.stack,I.stkFree,I.hok,I.bare⟩
def Inv.after(I:Inv X a7 σ H s)(h:CE X.stack X.prog X.w H s Q u s'):EP X a7 σ Q u s':=by
 obtain⟨v,H',os,bare,un,hok,r,q⟩:=h
 obtain⟨hh,g,d,t,sr⟩:=s'
 obtain rfl:sr=s.os:=os
 exact⟨v,H',I.call (h':=hh) (g':=g) (d':=d) (t':=t) (ch:=[]) un hok bare (λb z=>absurd z (by simp)),r,q⟩
end
def tCall(sp:Sp)(dvs:List V)(E:XK)(t:TA):TE:=λ σ H Q=>t σ H λvs H1=>sp (vs++dvs) H1 Q E
inductive RMe(C:Nb)(m:Str)(x:V)(H:Hp)(R:Prop):Prop
 |mk (a dx:Nb) (fs:List (Str×V)) (e:x=.ref a) (h:H a=some (.ins C dx fs)) (l:fs.lookup m=none) (q:R):RMe C m x H R
def tMeth(C:Nb)(m:Str)(sp:Sp)(dvs:List V)(E:XK)(ta:TE)(t:TA):TE:=λ σ H Q=>ta σ H λx H1=>RMe C m x H1 <|
 t σ H1 λvs H2=>sp (x::(vs++dvs)) H2 Q E
def tMake(C:Nb)(sp:Sp)(dvs:List V)(E:XK)(t:TA):TE:=λ σ H Q=>t σ H λvs H1=>∀x dx,H1 x=none→H1 dx=none→dx≠x →
 sp (.ref x::(vs++dvs)) (upd (upd H1 dx (.own x)) x (.ins C dx [])) (λv H2=>v=.non∧Q (.ref x) H2) E
def Binds(K:Na)(fd:No)(ps:Ng)(ds:Nj):Prop :=
 ∀(s:Nh) (us:Nj),K.In s.heap→(us++ds).length=ps.length→BindsTo s fd ⟨us,[]⟩ (ps.zip (us++ds))
def Binds.all{K:Na}{fd:No}{ps:Ng}(h:∀us:List Value,us.length=ps.length→bindArgs fd ⟨us,[]⟩=pure (ps.zip us)):Binds K fd ps []:=λs us _ hl=>by
 rw[Zy]at hl ⊢
 exact .of_eq (h us hl)
def zg2(CX:CXT)(X:Cx)(E:XK):Prop:=∀(a7:Nf) (σ:St) (H:Hp) (s:Nh) (e:Value) (s':Nh),Inv X a7 σ H s→CX X.stack H s E e s'→X.xe e s'
section
variable{X:Cx}{CX:CXT}{k:Nat}{f C:Nb}{fd:No}{ps:Ng}{sp:Sp}{dvs:List V}{ds:Nj}{E:XK}{x m:Str}{p pos apos:Pos}{e o:Expr}{es:Np}{ta:TE}{t:TA}
def run_fn(F:FnOk X.prog X.w X.K X.mg X.base CX k f fd ps sp)(hr:Room k X.A)(hb:Binds X.K fd ps ds)(hd:Vals dvs ds)(hx:zg2 CX X E)(I:Inv X a7 σ H s)(r:Vals vs us)(h:sp (vs++dvs) H Q E):wpAny (model X.prog X.w) X.A (call (.ref f) us) (EP X a7 σ Q) X.xe s:=by
 have r2:Vals (vs++dvs) (us++ds):=r.append hd
 have hl:(us++ds).length=ps.length:=by rw[←r2.length];exact F.len _ _ _ _ h
 refine wpAny_call (codeAny_mono (F.run X.A X.stack s H ⟨us,[]⟩ (us++ds) (vs++dvs) Q E hr I.env0 (hb s us I.kIn hl) r2 h) λr s' hq=>?_)
 cases r with
 |error e=>exact hx a7 σ H s e s' I hq
 |ok fl =>
  cases fl with
  |ret u=>exact I.after hq
  |next=>exact False.elim hq
  |brk=>exact False.elim hq
  |cont=>exact False.elim hq
def zaj(F:FnOk X.prog X.w X.K X.mg X.base CX k f fd ps sp)(hr:Room k X.A)(hg:Gl X x)(hm:X.mg x=some (.ref f))(hk:PySem.W.keepIn X.K (.ref f)=true)(hb:Binds X.K fd ps ds)(hd:Vals dvs ds)(hx:zg2 CX X E)(ha:PA X (e::es) t)(iI:(x==("__debug__" : Str))=false:=by decide)(he:starEach (e::es) X.env=(false,eval e X.env)::starEach es X.env:=by rfl)(cg:(backTo pos (starEach es X.env)).any (·.1)=false:=by rfl) :
  PE X (.Call (.Name x p) (e::es) [] pos) (tCall sp dvs E t):=by
 intro a7 s σ H Q I h
 refine wpAny_Call_Name_kw (ld_glob I hg hm ?_ iI)
 refine PySem.W.callWith_K (h₀:=X.base) I.ok.mod.kin hk (thn (ha pos a7 s σ H _ I h) λus s1 ⟨vs,H1,I1,r,q⟩=>⟨I1.kIn,?_⟩) he cg
 exact run_fn F hr hb hd hx I1 r q
def pe_meth(he:PE X o ta)(c:Cls X.K C)(hm:Meth X.K C m f)(F:FnOk X.prog X.w X.K X.mg X.base CX k f fd ps sp)(hr:Room k X.A)(hb:Binds X.K fd ps ds)(hd:Vals dvs ds)(hx:zg2 CX X E)(ha:PA X (e::es) t)(aq:starEach (e::es) X.env=(false,eval e X.env)::starEach es X.env:=by rfl)(cg:(backTo pos (starEach es X.env)).any (·.1)=false:=by rfl)(ht:eval (.Call (.Attribute o m apos) (e::es) [] pos) X.env=(do
   let ov ←eval o X.env
   standAt apos.atName
   let(f,first) ←holding [ov] (getMethod ov m pl)
   callWith pos f first (backTo pos (starEach (e::es) X.env)) (backToKw pos (keywordEach [] X.env))):=by rfl) :
  PE X (.Call (.Attribute o m apos) (e::es) [] pos) (tMeth C m sp dvs E ta t):=by
 intro a7 s σ H Q I h
 refine Xf (pl:=pl) (thn (he a7 s σ H _ I h) λu s1 ⟨x,H1,I1,rx,a,dx,fs,ex,ea,l,q⟩=>?_) ht
 subst ex
 obtain rfl:u=Value.ref a:=rx
 refine ze8 I1 ea c hm l ?_
 refine PySem.W.callWith_K (first:=[.ref a]) (h₀:=X.base) I.ok.mod.kin hm.kp (thn (ha pos a7 s1 σ H1 _ I1 q) λus s2 ⟨vs,H2,I2,r,q2⟩=>⟨I2.kIn,?_⟩) aq cg
 exact run_fn (us:=.ref a::us) (vs:=.ref a::vs) F hr hb hd hx I2 (.cons rfl r) q2
def pe_meth0(he:PE X o ta)(c:Cls X.K C)(hm:Meth X.K C m f)(F:FnOk X.prog X.w X.K X.mg X.base CX k f fd ps sp)(hr:Room k X.A)(hb:Binds X.K fd ps ds)(hd:Vals dvs ds)(hx:zg2 CX X E)(ht:eval (.Call (.Attribute o m apos) [] [] pos) X.env=(do
   let ov ←eval o X.env
   standAt apos.atName
   let(f,first) ←holding [ov] (getMethod ov m pl)
   callWith pos f first (backTo pos (starEach [] X.env)) (backToKw pos (keywordEach [] X.env))):=by rfl) :
  PE X (.Call (.Attribute o m apos) [] [] pos) (tMeth C m sp dvs E ta tNil):=by
 intro a7 s σ H Q I h
 refine Xf (pl:=pl) (thn (he a7 s σ H _ I h) λu s1 ⟨x,H1,I1,rx,a,dx,fs,ex,ea,l,q⟩=>?_) ht
 subst ex
 obtain rfl:u=Value.ref a:=rx
 refine ze8 I1 ea c hm l ?_
 exact PySem.W.callWith_K0 (first:=[.ref a]) I1.kIn hm.kp (run_fn (us:=[.ref a]) (vs:=[.ref a]) F hr hb hd hx I1 (.cons rfl .nil) q)
structure Mk(K:Na)(C f:Nb):Prop where
 makes:PySem.W.makesIn K C=true
 init:PySem.W.findIn K (.ref C) "__init__" = some (some (.ref f))
 fn:PySem.W.isFn K (.ref f)=true
 kp:PySem.W.keepIn K (.ref C)=true
def run_make(M:Mk X.K C f)(F:FnOk X.prog X.w X.K X.mg X.base CX k f fd ps sp)(hr:Room (k+1) X.A)(hb:Binds X.K fd ps ds)(hd:Vals dvs ds)(hx:zg2 CX X E)(I:Inv X a7 σ H s)(r:Vals vs us)(h:∀x dx,H x=none→H dx=none→dx≠x→sp (.ref x::(vs++dvs)) (upd (upd H dx (.own x)) x (.ins C dx [])) (λv H2=>v=.non∧Q (.ref x) H2) E) :
  wpAny (model X.prog X.w) X.A (call (.ref C) us) (EP X a7 σ Q) X.xe s:=by
 have hq:=h (s.heap.objs.size+1) s.heap.objs.size (I.hok.fresh (Ww _)) (I.hok.fresh (Qh _)) (Zc (Ys _))
 have I2:=Inv.made (C:=C) I
 have r2:Vals (V.ref (s.heap.objs.size+1)::(vs++dvs)) (Value.ref (s.heap.objs.size+1)::(us++ds)):=.cons rfl (r.append hd)
 have hl:(Value.ref (s.heap.objs.size+1)::us++ds).length=ps.length:=by
  have e:=r2.length
  rw[F.len _ _ _ _ hq]at e
  exact e.symm
 refine wpAny_call (make_map (f:=f) I.kIn M.makes M.init (beq_iff_eq.mp M.fn) (codeAny_mono (F.run _ X.stack _ _ ⟨Value.ref (s.heap.objs.size+1)::us,[]⟩ (Value.ref (s.heap.objs.size+1)::(us++ds)) _ _ E (hr.make C us [])
  (I2.env0.make C us []) (hb _ (Value.ref (s.heap.objs.size+1)::us) I2.kIn hl) r2 hq) λr s' g8=>?_))
 cases r with
 |error e=>exact hx a7 σ _ _ e s' I2 g8
 | ok fl =>
  cases fl with
  |ret u =>
   obtain⟨v,H',I3,rv,ev,q3⟩:=I2.after g8
   subst ev
   exact⟨rv,⟨V.ref (s.heap.objs.size+1),H',I3,rfl,q3⟩⟩
  |next=>exact False.elim g8
  |brk=>exact False.elim g8
  |cont=>exact False.elim g8
def pe_make(M:Mk X.K C f)(F:FnOk X.prog X.w X.K X.mg X.base CX k f fd ps sp)(hr:Room (k+1) X.A)(hg:Gl X x)(hm:X.mg x=some (.ref C))(hb:Binds X.K fd ps ds)(hd:Vals dvs ds)(hx:zg2 CX X E)(ha:PA X (e::es) t)(iI:(x==("__debug__" : Str))=false:=by decide)(he:starEach (e::es) X.env=(false,eval e X.env)::starEach es X.env:=by rfl)(cg:(backTo pos (starEach es X.env)).any (·.1)=false:=by rfl) :
  PE X (.Call (.Name x p) (e::es) [] pos) (tMake C sp dvs E t):=by
 intro a7 s σ H Q I h
 refine wpAny_Call_Name_kw (ld_glob I hg hm ?_ iI)
 refine PySem.W.callWith_K (h₀:=X.base) I.ok.mod.kin M.kp (thn (ha pos a7 s σ H _ I h) λus s1 ⟨vs,H1,I1,r,q⟩=>⟨I1.kIn,?_⟩) he cg
 exact run_make M F hr hb hd hx I1 r q
end
section
variable{X:Cx}{CX:CXT}{k:Nat}{f C:Nb}{fd:No}{ps ks:Ng}{sp:Sp}{E:XK}{x m:Str}{p pos apos kpos:Pos}{e o:Expr}{es:Np}{kws:List Keyword}{te ta:TE}{t tk:TA}{nm:Option Str}
variable{g:List Value→List Value→List Value}{gV:List V→List V→List V}
end
structure zap(N P:Ng)(sc:Scope):Prop where
 kind:sc.kind=.function
 co:sc.isCoroutine=false
 gen:sc.isGenerator=false
 nd:N.Nodup
 pre:N.take P.length=P
 par:∀x∈P,sc.names.lookup x=some .local∨sc.names.lookup x=some .cell
 nofree:∀y∈sc.names,y.2≠.free
theorem bindL_out{kindOf:Str→Option NameKind}{x:Str}:∀{binds:List (Str×Value)} {m:Nd},(∀v,(x,v)∉binds)→bindL kindOf binds m x=m x
 |[],_,_=>rfl
 | (n,v)::r,m,h=>by
  unfold bindL
  rw[bindL_out λw hw=>h w (Qg _ hw)]
  split
  ·have:x≠n:=by rintro rfl;exact h v Qc
   simp[this]
  ·rfl
theorem bindC_out{kindOf:Str→Option NameKind}{x:Str}:∀{binds:List (Str×Value)} {m:Nd},(∀v,(x,v)∉binds)→bindC kindOf binds m x=m x
 |[],_,_=>rfl
 | (n,v)::r,m,h=>by
  unfold bindC
  rw[bindC_out λw hw=>h w (Qg _ hw)]
  split
  ·rfl
  ·have:x≠n:=by rintro rfl;exact h v Qc
   simp[this]
theorem bindL_get{kindOf:Str→Option NameKind}{x:Str}{v:Value}:∀{P:Ng} {vs:Nj} {i:Nat} {m:Nd},P.Nodup→P[i]?=some x→vs[i]?=some v→kindOf x=some .local →
  bindL kindOf (P.zip vs) m x=some v
 |[],_,_,_,_,h,_,_=>by simp at h
 |_::_,[],_,_,_,_,h,_=>by simp at h
 |p::P,w::vs,0,m,nd,h1,h2,hk=>by
  simp at h1 h2;subst h1;subst h2
  show bindL kindOf ((p,w)::P.zip vs) m p=_
  unfold bindL
  rw[bindL_out λv hv=>(Qr.mp nd).1 (List.of_mem_zip hv).1,if_pos hk]
  simp
 |p::P,w::vs,i+1,m,nd,h1,h2,hk=>by
  show bindL kindOf ((p,w)::P.zip vs) m x=_
  unfold bindL
  exact bindL_get (i:=i) (Qr.mp nd).2 (by simpa using h1) (by simpa using h2) hk
theorem bindC_get{kindOf:Str→Option NameKind}{x:Str}{v:Value}:∀{P:Ng} {vs:Nj} {i:Nat} {m:Nd},P.Nodup→P[i]?=some x→vs[i]?=some v→kindOf x≠some .local →
  bindC kindOf (P.zip vs) m x=some v
 |[],_,_,_,_,h,_,_=>by simp at h
 |_::_,[],_,_,_,_,h,_=>by simp at h
 |p::P,w::vs,0,m,nd,h1,h2,hk=>by
  simp at h1 h2;subst h1;subst h2
  show bindC kindOf ((p,w)::P.zip vs) m p=_
  unfold bindC
  rw[bindC_out λv hv=>(Qr.mp nd).1 (List.of_mem_zip hv).1,if_neg hk]
  simp
 |p::P,w::vs,i+1,m,nd,h1,h2,hk=>by
  show bindC kindOf ((p,w)::P.zip vs) m x=_
  unfold bindC
  exact bindC_get (i:=i) (Qr.mp nd).2 (by simpa using h1) (by simpa using h2) hk
def start(N:Ng)(vs:List V):St:=vs.map some++List.replicate (N.length-vs.length) none
def cxOf(CX:CXT)(P:Ni)(w:Nk)(K:Na)(mg:Nd)(base:Nm)(N:Ng)(qual:Str)(scope:Scope)(f:Nb)(cd:Value)(A:Nn)(outer:List Env)(s:Nh)(H:Hp)(E:XK):Cx where
 prog:=P
 w:=w
 K:=K
 mg:=mg
 base:=base
 A:=A.deeper (envOfC qual scope s.heap.objs.size f cd)
 N:=N
 s₀:=s
 H₀:=H
 env:=envOfC qual scope s.heap.objs.size f cd
 outer:=outer
 stack:=envOfC qual scope s.heap.objs.size f cd::outer
 ex:=[]
 calm:=true
 fn:=λ_=>true
 pn:=[]
 xe:=λe s'=>wpAny (model P w) (A.deeper (envOfC qual scope s.heap.objs.size f cd)) (leaving (envOfC qual scope s.heap.objs.size f cd) e) (λ_ mt=>CX outer H s E e mt) (λe' mt=>CX outer H s E e' mt) s'
def cell_has{sc:Scope}{n:Nat}{x:Str}(h:sc.names.lookup x=some .cell):∃c,(cellsFrom n sc.names []).lookup x=some c:=by
 have q:=PySem.W.cellsFrom_some sc.names n [] (.inl h)
 exact Option.isSome_iff_exists.mp q
def inv_start{CX:CXT}{P:Ni}{w:Nk}{K:Na}{mg:Nd}{base:Nm}{N ps:Ng}{qual:Str}{scope:Scope}{f:Nb}{cd:Value}{A:Nn}{outer:List Env}{s s1:Nh}{H:Hp}{E:XK}{us:Nj}{vs:List V}(S:zap N ps scope)(hd:A.handled=none)(e0:Env0 P w K mg base A outer s H)(hl:vs.length=ps.length)(r:Vals vs us)(x:InCallC s s.heap.objs.size (bindL (envOfC qual scope s.heap.objs.size f cd).kindOf (ps.zip us) λ_=>none) (cellsFrom (s.heap.objs.size+1) scope.names []) (bindC (envOfC qual scope s.heap.objs.size f cd).kindOf (ps.zip us) λ_=>none) s1) :
  Inv (cxOf CX P w K mg base N qual scope f cd A outer s H E) [] (start N vs) H s1:=by
 have cg:ps.length≤N.length:=by have:=congrArg List.length S.pre;rw[Zi]at this;lia
 obtain⟨h1,tk,rfl,hk⟩:=x.done
 have noA:∀b:Addr,b∉(cxOf CX P w K mg base N qual scope f cd A outer s H E).ex:=λb z=>absurd (show b∈([]:List Addr) from z) (by simp)
 refine⟨⟨e0.mod,S.kind,rfl,rfl,Qh _,λy z c h1 h2=>?_,λy hy=>?_,λy c _ h=>?_,λ_=>hd,Around.frames_deeper e0.frames,.inr ⟨rfl,rfl⟩,λb z=>absurd z (noA b),e0.bs,e0.bsz,λb _ _=>noA b,λb z=>absurd z (noA b),e0.funs,e0.frf⟩,
  rfl,e0.bare,Un.kept hk,⟨_,x.toInCall.ns,λi y v h1 h2 h3=>?_⟩,λy c h=>⟨_,x.cell y c h⟩,e0.hok.fresh (Qh _),λy c h=>?_,λp hp=>absurd (show p∈([]:List (Addr×Obj)) from hp) (by simp),e0.hok.kept hk,?_⟩
 ·exact name_of_addr x.apart (Wf h1) (Wf h2)
 ·have hy:scope.names.lookup y=some .cell∨scope.names.lookup y=some .free:=hy
  rcases hy with hy | hy
  ·exact cell_has hy
  ·exact absurd rfl (S.nofree _ (Wf hy))
 ·exact Ug (x.above y c (Wf h))
 ·have hi:i < vs.length:=by
   unfold start at h2
   by_cases hi:i<vs.length
   ·exact hi
   ·rw [Uw (by simpa using hi)] at h2
    rw[List.getElem?_replicate]at h2
    split at h2<;>cases h2
  have ha:vs[i]?=some v:=by
   unfold start at h2
   rw[List.getElem?_append_left (by simpa using hi),Qq]at h2
   cases e:vs[i]? with
   |none=>rw[e]at h2;cases h2
   |some a=>rw[e]at h2;cases h2;rfl
  obtain⟨u,hu,rv⟩:=r.get ha
  have hp:ps[i]?=some y:=by
   rw[←S.pre,List.getElem?_take_of_lt (by exact zar7 ‹_› ‹_›)];exact h1
  have ndP:ps.Nodup:=by rw[←S.pre];exact S.nd.sublist (Uq _ _)
  refine⟨u,rv,?_⟩
  rcases S.par y (Yy hp) with k | k
  ·exact .inl ⟨k,bindL_get ndP hp hu k⟩
  ·obtain ⟨c,e⟩:=cell_has (n:=s.heap.objs.size+1) k
   refine .inr ⟨.inl k,c,e,?_⟩
   have q:=x.cell y c e
   rw[bindC_get ndP hp hu (by show scope.names.lookup y≠_;rw[k];decide)]at q
   exact q
 ·exact e0.hok.fresh (Ug (x.above y c (Wf h)))
 ·unfold start
  show _=N.length
  rw[Qs,Qa,Jn]
  lia
def fn_of{CX:CXT}{P:Ni}{w:Nk}{K:Na}{mg:Nd}{base:Nm}{k:Nat}{f:Nb}{name qual:Str}{params:Arguments}{body:List Stmt}{scope:Scope}{dV kV doc pm cdv ct oc:Value}{an od:Option Addr}{osl:Array (Option Value)}{N ps:Ng}{sp:Sp}(lk:K.lookup f=some ⟨oc,od,.func (PySem.W.fnOf name qual params body scope dV kV doc pm an cdv ct),osl⟩)(aB:PySem.W.codeIn K cdv qual=true)(S:zap N ps scope)(len:∀vs H Q E,sp vs H Q E→vs.length=ps.length)(cS:∀ (A:Nn) (outer:List Env) (s:Nh) (H:Hp) (vs:List V) (Q:VK) (E:XK),Room k (A.deeper (envOfC qual scope s.heap.objs.size f cdv))→sp vs H Q E →
   ∃t,PSs (cxOf CX P w K mg base N qual scope f cdv A outer s H E) body t∧t {nx:=λ_ H'=>Q .non H',rt:=Q} (start N vs) H) :
  FnOk P w K mg base CX (k+1) f (PySem.W.fnOf name qual params body scope dV kV doc pm an cdv ct) ps sp:=by
 refine⟨len,λA outer s H args us vs Q E hr e0 hb r cc=>?_⟩
 have hl:=len _ _ _ _ cc
 have KX:K.In s.heap:=e0.mod.kin.keeps λb o e=>(e0.bs b o e).1
 have lim:s.heap.NoLimit:=e0.mod.nolimit.keeps λb o e=>(e0.bs b o e).1
 have dB:∀y∈ps.zip us,scope.names.lookup y.1=some .local∨(scope.names.lookup y.1=some .cell∧((cellsFrom (s.heap.objs.size+1) scope.names []).lookup y.1).isSome=true):=λ⟨n,v⟩ hy=>by
  rcases S.par n (List.of_mem_zip hy).1 with q | q
  ·exact .inl q
  ·exact .inr ⟨q,PySem.W.cellsFrom_some _ _ _ (.inl q)⟩
 refine codeAny_call_function hr.depth (KX _ _ lk) rfl S.co S.gen rfl (PySem.W.codeRec_of KX aB) (hb _ _ _ _ ?_)
 refine wpAny_newFunctionEnv_cells S.kind dB λenv he s1 x=>?_
 subst he
 refine⟨lim.keeps x.toInCall.keep,codeAny_func ?_⟩
 obtain⟨t,ht,hq⟩:=cS A outer s H vs Q E (hr.deeper _) cc
 have I:Inv (cxOf CX P w K mg base N qual scope f cdv A outer s H E) [] (start N vs) H s1:=inv_start S hr.hd e0 hl r x
 refine wpAny_mono (ht [] s1 (start N vs) H _ I hq) (λfl s' hs=>?_) λe s' hs=>hs
 have fin:∀{σ':St} {H':Hp} {v:V} {u:Value},Inv (cxOf CX P w K mg base N qual scope f cdv A outer s H E) [] σ' H' s'→RelV v u→Q v H'→CE outer P w H s Q u s' :=
  λ{σ' H' v u} J rv q=>⟨v,H',J.os,J.bare,J.base,J.hok,rv,q⟩
 cases fl with
 |ret u =>
  obtain⟨v,σ',H',J,rv,q⟩:=hs
  exact fin J rv q
 |next =>
  obtain⟨σ',H',J,q⟩:=hs
  exact fin (v:=V.non) (u:=Value.none) J rfl q
 |brk =>
  obtain⟨_,_,_,q⟩:=hs
  exact False.elim q
 |cont =>
  obtain⟨_,_,_,q⟩:=hs
  exact False.elim q
end L2
namespace L2
open PySem PySem.Spec PyProof.Rows
section
variable{X:Cx}{x:Str}{p pos:Pos}{e:Expr}{es:Np}{t:TA}{id T:String}{r:List V→Hp→VK→Prop}
def tCB(r:List V→Hp→VK→Prop)(t:TA):TE:=λ σ H Q=>t σ H λvs H1=>r vs H1 Q
def zal(hc:zci X (.builtin id) r)(hg:Gl X x)(hm:X.mg x=none)(hv:bootBuiltins x=some (.builtin id))(ha:PA X (e::es) t)(hn:x ≠ "__name__" := by decide)(iI:(x==("__debug__" : Str))=false:=by decide)(he:starEach (e::es) X.env=(false,eval e X.env)::starEach es X.env:=by rfl)(cg:(backTo pos (starEach es X.env)).any (·.1)=false:=by rfl):PE X (.Call (.Name x p) (e::es) [] pos) (tCB r t):=by
 intro a7 s σ H Q I h
 refine wpAny_Call_Name_kw (zd1 I hg hm hv ?_ hn iI)
 exact PyProof.Rows.callWith_builtin1 (thn (ha pos a7 s σ H _ I h) λus s1 ⟨vs,H1,I1,r1,q1⟩=>hc a7 s1 σ H1 vs us Q I1 r1 q1) he cg
def zbe(hc:zci X (.type T) r)(hg:Gl X x)(hm:X.mg x=none)(hv:bootBuiltins x=some (.type T))(ha:PA X (e::es) t)(hn:x ≠ "__name__" := by decide)(iI:(x==("__debug__" : Str))=false:=by decide)(he:starEach (e::es) X.env=(false,eval e X.env)::starEach es X.env:=by rfl)(cg:(backTo pos (starEach es X.env)).any (·.1)=false:=by rfl):PE X (.Call (.Name x p) (e::es) [] pos) (tCB r t):=by
 intro a7 s σ H Q I h
 refine wpAny_Call_Name_kw (zd1 I hg hm hv ?_ hn iI)
 exact Yo (thn (ha pos a7 s σ H _ I h) λus s1 ⟨vs,H1,I1,r1,q1⟩=>hc a7 s1 σ H1 vs us Q I1 r1 q1) he cg
end
end L2
namespace L2
open PySem PySem.Spec PyProof.Rows
section
variable{κ:Type}[DecidableEq κ]
def valV(kvs:List (κ×V))(k:κ):Option V:=(kvs.find? λkv=>decide (kv.1=k)).map (·.2)
def putK(kvs:List (κ×V))(k:κ)(v:V):List (κ×V) :=
 if(kvs.any λkv=>decide (kv.1=k))=true then kvs.map (λkv=>if kv.1=k then(kv.1,v) else kv) else kvs++[(k,v)]
def zbw{p:κ×V}{r:List (κ×V)}{k:κ}(e:p.1=k):valV (p::r) k=some p.2:=by simp[valV,Jd,e]
def zbh{p:κ×V}{r:List (κ×V)}{k:κ}(e:¬p.1=k):valV (p::r) k=valV r k:=by simp[valV,Jd,e]
theorem zhw(k:κ):∀kvs:List (κ×V),(kvs.any λkv=>decide (kv.1=k))=(valV kvs k).isSome
 |[]=>rfl
 |p::r=>by
  rw[Kq]
  by_cases e:p.1=k
  ·simp only[zbw e,decide_eq_true e,Bool.true_or,Option.isSome_some]
  ·rw[zbh e,decide_eq_false e,Bool.false_or];exact zhw k r
def zec(kvs:List (κ×V))(k:κ)(v:V):(putK kvs k v).length≤kvs.length+1:=by
 unfold putK
 split
 ·rw[Qa];exact Yl _ _
 ·rw[Qs,Qz,Ul];exact Qh _
def zdp{kvs:List (κ×V)}{k:κ}(v:V)(h:valV kvs k=none):putK kvs k v=kvs++[(k,v)]:=by
 unfold putK
 rw[zhw,h]
 exact if_neg (by decide)
def RelO.isSome_eq(r:RelO o u):o.isSome=u.isSome:=by
 cases o with
 |none=>cases u with
  |none=>rfl
  |some _=>exact(show False from r).elim
 |some _=>cases u with
  |none=>exact(show False from r).elim
  |some _=>rfl
def RelO.getD(r:RelO o u)(rd:RelV d d'):RelV (o.getD d) (u.getD d'):=by
 cases o with
 |none=>cases u with
  |none=>exact rd
  |some _=>exact(show False from r).elim
 |some _=>cases u with
  |none=>exact(show False from r).elim
  |some _=>exact r
def KV.val{kvs:List (κ×V)}{vs:List (κ×Value)}(r:KV kvs vs)(k:κ):RelO (valV kvs k) (valueAt vs k):=by
 unfold KV at r
 induction r with
 |nil=>exact True.intro
 | @cons p q ps qs h t ih =>
  obtain⟨h1,h2⟩:=h
  by_cases e:p.1=k
  ·have e':q.1=k:=h1.symm.trans e
   have b:valueAt (q::qs) k=some q.2:=by simp[valueAt,Jd,e']
   rw[zbw e,b];exact h2
  ·have e':¬ q.1=k:=fun z=>e (h1.trans z)
   have b:valueAt (q::qs) k=valueAt qs k:=by simp[valueAt,Jd,e']
   rw[zbh e,b];exact ih
def KV.any(r:KV kvs vs)(k:κ):(kvs.any λkv=>decide (kv.1=k))=vs.any λkv=>decide (kv.1=k):=by
 unfold KV at r
 induction r with
 |nil=>rfl
 |cons h t ih=>rw[Kq,Kq,ih,h.1]
def KV.repl(r:KV kvs vs)(k:κ)(ry:RelV y u) :
  KV (kvs.map λkv=>if kv.1=k then(kv.1,y) else kv) (vs.map λkv=>if kv.1=k then(kv.1,u) else kv):=by
 unfold KV at r ⊢
 induction r with
 |nil=>exact .nil
 |@cons p q ps qs h t ih =>
  rw[Ql,Ql]
  refine .cons ?_ ih
  obtain⟨h1,h2⟩:=h
  by_cases e:p.1=k
  ·rw[if_pos e,if_pos (h1.symm.trans e)];exact⟨h1,ry⟩
  ·rw[if_neg e,if_neg (λz=>e (h1.trans z))];exact⟨h1,h2⟩
def KV.put(r:KV kvs vs)(k:κ)(ry:RelV y u):KV (putK kvs k y) (stored vs k u):=by
 unfold putK stored
 rw[r.any k]
 by_cases e:(vs.any λkv=>decide (kv.1=k))=true
 ·rw[if_pos e,if_pos e];exact r.repl k ry
 ·rw[if_neg e,if_neg e];exact Paired.snoc r ⟨rfl,ry⟩
def KV.length{kvs:List (κ×V)}{vs:List (κ×Value)}(r:KV kvs vs):kvs.length=vs.length:=Yp r
end
def kV_is(r:RelV (kV k) u):(zam P w).is k u=true:=by
 cases k with
 |inl i=>obtain⟨t,e⟩:=(show ∃t,u=Value.int i t from r);subst e;exact mixKind_int P w i t
 |inr x=>obtain⟨t,e⟩:=(show ∃t,u=Value.str x t from r);subst e;exact zgh P w x t
theorem items_are:∀{ks:List Key} {us:Nj},Vals (ks.map kV) us→ItemsAre (zam P w) ks us
 |[],_,r=>by rw[Jk]at r;cases r;exact .nil
 |k::ks,_,r=>by
  rw[Ql]at r
  cases r with
  |cons h t=>exact .cons (kV_is h) (items_are t)
abbrev KT(H:Hp):List (List Key×V)→List (List Key×Addr×Value)→Prop:=Paired λp q=>p.1=q.1∧H q.2.1=some (.tup (p.1.map kV))∧RelV p.2 q.2.2
def KT.val{H:Hp}{kvs:List (List Key×V)}{xs:List (List Key×Addr×Value)}(r:KT H kvs xs)(k:List Key):RelO (valV kvs k) ((atKey xs k).map (·.2)):=by
 induction r with
 |nil=>exact True.intro
 | @cons p q ps qs h t ih =>
  obtain⟨h1,_,h2⟩:=h
  by_cases e:p.1=k
  ·have e':q.1=k:=h1.symm.trans e
   have b:atKey (q::qs) k=some q.2:=by simp[atKey,Jd,e']
   rw[zbw e,b];exact h2
  ·have e':¬ q.1=k:=fun z=>e (h1.trans z)
   have b:atKey (q::qs) k=atKey qs k:=by simp[atKey,Jd,e']
   rw[zbh e,b];exact ih
def KT.repl(r:KT H kvs xs)(k:List Key)(ry:RelV y u) :
  KT H (kvs.map λkv=>if kv.1=k then(kv.1,y) else kv) (xs.map (putAt k u)):=by
 induction r with
 |nil=>exact .nil
 |@cons p q ps qs h t ih =>
  rw[Ql,Ql]
  refine .cons ?_ ih
  obtain⟨h1,h2,h3⟩:=h
  unfold putAt
  by_cases e:p.1=k
  ·rw[if_pos e,if_pos (h1.symm.trans e)];exact⟨h1,h2,ry⟩
  ·rw[if_neg e,if_neg (λz=>e (h1.trans z))];exact⟨h1,h2,h3⟩
def KT.put(r:KT H kvs xs)(k:List Key)(hb:H b=some (.tup (k.map kV)))(ry:RelV y u) :
  KT H (putK kvs k y) (storedH xs k b u):=by
 have e:(kvs.any λkv=>decide (kv.1=k))=(atKey xs k).isSome:=by
  rw[zhw,(r.val k).isSome_eq,Option.isSome_map]
 unfold putK storedH
 rw[e]
 by_cases q:(atKey xs k).isSome=true
 ·rw[if_pos q,if_pos q];exact r.repl k ry
 ·rw[if_neg q,if_neg q];exact Paired.snoc r ⟨rfl,hb,ry⟩
def KT.keeps(r:KT H kvs xs)(ht:∀b ys,H b=some (.tup ys)→H' b=some (.tup ys)):KT H' kvs xs :=
 Paired.mapP r λ_ _ z=>⟨z.1,ht _ _ z.2.1,z.2.2⟩
section
variable{P:Ni}{w:Nk}{H:Hp}{h:Nm}{a:Nb}
def rd_of(ok:HOk P w H h)(e:Rd H a u):zbs P w H h a u:=e.ok ok
def zha(ok:HOk P w H h)(e:Rd H a (.dK kvs)):kvs.length≤sizeLine∧(a==sysModules)=false∧∃vs,KV kvs vs∧h.DictOf (zam P w) a vs :=
 show zbs P w H h a (.dK kvs) from rd_of ok e
def dk_of(ok:HOk P w H h)(e:H a=some (.dK kvs)):kvs.length≤sizeLine∧(a==sysModules)=false∧∃vs,KV kvs vs∧h.DictOf (zam P w) a vs:=zha ok (.inl e)
def zgo(ok:HOk P w H h)(e:H a=some (.tup (ks.map kV))):(tupleKind (zam P w)).is h ks a:=by
 obtain⟨_,a8,r,o,h1,h2,n,h3⟩:=(show zbs P w H h a (.tup (ks.map kV)) from ok a _ e)
 exact⟨o,a8.toArray,n,h1,h2,h3,by simpa using items_are r⟩
def dt_rd(ok:HOk P w H h)(e:Rd H a (.dT kvs)):kvs.length≤sizeLine∧(a == sysModules)=false ∧
  ∃xs,KT H kvs xs∧h.DictOfH (tupleKind (zam P w)) a xs:=by
 obtain⟨z,y,xs,r,o,es,ep,h1,h2,h3,h4,h5⟩:=(show zbs P w H h a (.dT kvs) from rd_of ok e)
 refine⟨z,y,xs,r,o,es,ep,h1,h2,h3,h4,λx hx=>?_,h5⟩
 have all:∀{l:List (List Key×V)} {m:List (List Key×Addr×Value)},KT H l m→∀x∈m,(tupleKind (zam P w)).is h x.1 x.2.1:=by
  intro l m q
  induction q with
  |nil=>intro x hx;exact nomatch hx
  | @cons p q ps qs hq t ih =>
   intro x hx
   rcases Qe.mp hx with e | hx
   ·subst e
    exact zgo ok (by rw[←hq.1];exact hq.2.1)
   ·exact ih x hx
 exact all r x hx
def dt_of(ok:HOk P w H h)(e:H a=some (.dT kvs)):kvs.length≤sizeLine∧(a==sysModules)=false ∧
  ∃xs,KT H kvs xs∧h.DictOfH (tupleKind (zam P w)) a xs:=dt_rd ok (.inl e)
end
def DGet(H:Hp)(a:Nb)(y:V)(r:Option V):Prop :=
 (∃kvs k,Rd H a (.dK kvs)∧y=kV k∧r=valV kvs k)∨∃kvs k b,Rd H a (.dT kvs)∧y=.ref b∧H b=some (.tup (k.map kV))∧r=valV kvs k
def DPut(H:Hp)(a:Nb)(y v:V)(H':Hp):Prop :=
 (∃kvs k,H a=some (.dK kvs)∧y=kV k∧kvs.length<sizeLine∧H'=upd H a (.dK (putK kvs k v))) ∨
 ∃kvs k b,H a=some (.dT kvs)∧y=.ref b∧H b=some (.tup (k.map kV))∧kvs.length<sizeLine∧H'=upd H a (.dT (putK kvs k v))
def DGet.k{H:Hp}{a:Nb}{kvs:List (Key×V)}{k:Key}(e:H a=some (.dK kvs)):DGet H a (kV k) (valV kvs k):=.inl ⟨kvs,k,.inl e,rfl,rfl⟩
def DGet.t{H:Hp}{a b:Nb}{kvs:List (List Key×V)}{k:List Key}(e:H a=some (.dT kvs))(eb:H b=some (.tup (k.map kV))):DGet H a (.ref b) (valV kvs k):=.inr ⟨kvs,k,b,.inl e,rfl,eb,rfl⟩
def DPut.k{H:Hp}{a:Nb}{kvs:List (Key×V)}{k:Key}{v:V}(e:H a=some (.dK kvs))(hl:kvs.length<sizeLine):DPut H a (kV k) v (upd H a (.dK (putK kvs k v))):=.inl ⟨kvs,k,e,rfl,hl,rfl⟩
def DPut.t{H:Hp}{a b:Nb}{kvs:List (List Key×V)}{k:List Key}{v:V}(e:H a=some (.dT kvs))(eb:H b=some (.tup (k.map kV)))(hl:kvs.length<sizeLine) :
  DPut H a (.ref b) v (upd H a (.dT (putK kvs k v))):=.inr ⟨kvs,k,b,e,rfl,eb,hl,rfl⟩
section
variable{X:Cx}{a7:Nf}{σ:St}{H:Hp}{s:Nh}{a:Nb}{y v:V}{u r:Value}{o:Option V}{A:Nn}{E:Nc}
def Inv.big(I:Inv X a7 σ H s):sysModules<s.heap.objs.size:=by
 have h:mainGlobals<s.heap.objs.size:=(I.mod.glob.keeps I.bk).lt
 exact Wp (by decide) h
def d_getItem(hu:A.units+1<cLine)(I:Inv X a7 σ H s)(g:DGet H a y (some v))(ry:RelV y u)(h:∀w' s',Inv X a7 σ H s'→RelV v w'→Q w' s') :
  wpAny (model X.prog X.w) A (getItem (.ref a) u) Q E s:=by
 rcases g with⟨kvs,k,e,ey,l⟩ | ⟨kvs,k,b,e,ey,eb,l⟩
 ·subst ey
  obtain⟨z,hd,vs,rel,dd⟩:=zha I.hok e
  obtain⟨w',hw,cr⟩:=RelO.some_of (v:=v) (o:=valueAt vs k) (by rw[l];exact rel.val k)
  exact wpAny_getItem_of (kV_is ry) dd.mapOf hw (h w' _ (I.tok _) cr)
 ·subst ey
  cases(show u=Value.ref b from ry)
  obtain⟨z,hd,xs,rel,dd⟩:=dt_rd I.hok e
  obtain⟨w',hw,cr⟩:=RelO.some_of (v:=v) (o:=(atKey xs k).map (·.2)) (by rw[l];exact rel.val k)
  obtain⟨p,hp,aw⟩:=Option.map_eq_some_iff.mp hw
  refine wpAny_getItem_heap (tupleKind_room_in1 hu) (zgo I.hok eb) dd hp ?_
  rw[aw]
  exact h w' _ (I.tok _) cr
def d_in(hu:A.units+1<cLine)(I:Inv X a7 σ H s)(g:DGet H a y o)(ry:RelV y u)(h:∀s',Inv X a7 σ H s'→Q (.bool o.isSome) s') :
  wpAny (model X.prog X.w) A (compareOp .In u (.ref a)) Q E s:=by
 rcases g with⟨kvs,k,e,ey,l⟩ | ⟨kvs,k,b,e,ey,eb,l⟩
 ·subst ey
  obtain⟨z,hd,vs,rel,dd⟩:=zha I.hok e
  refine wpAny_in_of (kV_is ry) hd dd.mapOf ?_
  rw[←(rel.val k).isSome_eq,←l]
  exact h _ (I.tok _)
 ·subst ey
  cases(show u=Value.ref b from ry)
  obtain⟨z,hd,xs,rel,dd⟩:=dt_rd I.hok e
  refine wpAny_in_heap (tupleKind_room_in1 hu) (zgo I.hok eb) hd dd ?_
  have q:=(rel.val k).isSome_eq
  rw[Option.isSome_map]at q
  rw[←q,←l]
  exact h _ (I.tok _)
def d_notIn(hu:A.units+1<cLine)(I:Inv X a7 σ H s)(g:DGet H a y o)(ry:RelV y u)(h:∀s',Inv X a7 σ H s'→Q (.bool (!o.isSome)) s') :
  wpAny (model X.prog X.w) A (compareOp .NotIn u (.ref a)) Q E s:=by
 rcases g with⟨kvs,k,e,ey,l⟩ | ⟨kvs,k,b,e,ey,eb,l⟩
 ·subst ey
  obtain⟨z,hd,vs,rel,dd⟩:=zha I.hok e
  refine wpAny_notIn_of (kV_is ry) hd dd.mapOf ?_
  rw[←(rel.val k).isSome_eq,←l]
  exact h _ (I.tok _)
 ·subst ey
  cases(show u=Value.ref b from ry)
  obtain⟨z,hd,xs,rel,dd⟩:=dt_rd I.hok e
  refine wpAny_notIn_heap (tupleKind_room_in1 hu) (zgo I.hok eb) hd dd ?_
  have q:=(rel.val k).isSome_eq
  rw[Option.isSome_map]at q
  rw[←q,←l]
  exact h _ (I.tok _)
def ziu(I:Inv X a7 σ H s)(mu:Mut (H a))(hs:Heap.SameBut a s.heap h')(he:∃q,h'.get? a=some q)(new:zbs X.prog X.w (upd H a ob) h' a ob) :
  Inv X a7 σ (upd H a ob) {s with heap:=h',toks:=t'} :=
 I.write (x:=a) (e:=a) mu (.inl rfl) (λb q hb z=>(hs.2 b hb).trans z) he new
def dk_new(z:kvs.length≤sizeLine)(hd:(a==sysModules)=false)(rel:KV kvs vs)(dd:h'.DictOf (zam P w) a vs) :
  zbs P w H' h' a (.dK kvs):=⟨z,hd,vs,rel,dd⟩
def d_setItem(hu:A.units+1<cLine)(I:Inv X a7 σ H s)(g:DPut H a y v H')(ry:RelV y u)(rv:RelV v r)(h:∀s',Inv X a7 σ H' s'→Q () s') :
  wpAny (model X.prog X.w) A (setItem (.ref a) u r) Q E s:=by
 rcases g with⟨kvs,k,e,ey,l,eH⟩ | ⟨kvs,k,b,e,ey,eb,l,eH⟩
 ·subst ey eH
  obtain⟨z,hd,vs,rel,dd⟩:=dk_of I.hok e
  have hz:vs.length≤sizeLine:=by rw[←rel.length];exact z
  have hl:(putK kvs k v).length≤sizeLine:=by have:=zec kvs k v;exact Zk ‹_› ‹_›
  refine wpAny_setItem_pairs (hsz:=hz) (kV_is ry) dd λh' hV hs=>h _ ?_
  have he:∃q,h'.get? a=some q:=let⟨q,_,_,hq,_⟩:=hV;⟨q,hq⟩
  exact ziu I (by rw[e];exact True.intro) hs he (dk_new hl hd (rel.put k rv) hV)
 ·subst ey eH
  cases(show u=Value.ref b from ry)
  obtain⟨z,hd,xs,rel,dd⟩:=dt_of I.hok e
  have hz:xs.length≤sizeLine:=by rw[←Yp rel];exact z
  have hl:(putK kvs k v).length≤sizeLine:=by have:=zec kvs k v;exact Zk ‹_› ‹_›
  refine wpAny_setItem_heap (hsz:=hz) (tupleKind_room_in1 hu) (zgo I.hok eb) dd λh' hV hs=>h _ ?_
  obtain⟨q,es,ep,hq,h2,h3,h4,_,h5⟩:=hV
  refine ziu I (by rw[e];exact True.intro) hs ⟨q,hq⟩ ⟨hl,hd,_,(rel.put k eb rv).keeps λc ys ec=>?_,q,es,ep,hq,h2,h3,h4,h5⟩
  rw[zae (za2 ec e (λz=>nomatch z))]
  exact ec
end
section
variable{X:Cx}{a7:Nf}{σ:St}{H:Hp}{s:Nh}{a:Nb}{kvs:List (Key×V)}{k:Key}{u:Value}{A:Nn}{E:Nc}
def d_len(I:Inv X a7 σ H s)(e:Rd H a (.dK kvs))(h:∀t s',Inv X a7 σ H s'→Q (.int kvs.length t) s'):wpAny (model X.prog X.w) A (call (.builtin "len") [.ref a]) Q E s:=by
 obtain⟨z,hd,vs,rel,dd⟩:=zha I.hok e
 refine call_len_dict hd dd (by rw[←rel.length];rw[sizeLine_eq]at z;lia) ?_
 rw[←rel.length]
 exact h _ _ (I.tok _)
end
def NoSl(i:Expr):Prop:=∀ov iv,subscripted i false ov iv=operate [ov,iv] (getItem ov iv)
def subD_of{prog:Ni}{w:Nk}{A:Nn}{E:Nc}{s:Nh}{env:Env}{value slice:Expr}{pos:Pos}{T id:String}{Q:Nc}(hl:typeLookup (.type T) "__getitem__" = pure (some (.builtin id)))(hs:NoSl slice)(h:wpAny (model prog w) A (eval value env) (λo s₁=>wpAny (model prog w) A (eval slice env) (λi s₂=>s₂.TypeIs o T∧wpAny (model prog w) A (getItem o i) Q E s₂) E s₁) E s) :
  wpAny (model prog w) A (eval (.Subscript value slice pos) env) Q E s:=by
 refine Subscript_ (wpAny_mono h (λo s₁ h₁=>wpAny_mono h₁ (λi s₂ h₂=>?_) λ_ _ x=>x) λ_ _ x=>x)
 obtain⟨hT,h₂⟩:=h₂
 unfold subscriptTail
 refine wpAny_bind ?_
 rw[getitemInPython_of_ne hT.not_modules]
 refine wpAny_bind (wpAny_specialOf hT hl ?_)
 have fin:wpAny (model prog w) A (subscripted slice false o i) (λr s₃=>wpAny (model prog w) A (letTemporaryGo value o r >>= λ_=>pure r) Q E s₃) E s₂:=by
  rw[hs o i]
  exact wpAny_operating (wpAny_mono h₂ (λr s₃ h₃=>wpAny_bind (wpAny_letTemporaryGo (wpAny_pure h₃))) λ_ _ x=>x)
 first
  |exact wpAny_pure (wpAny_bind fin)
  |exact wpAny_bind (wpAny_pure (wpAny_bind fin))
  |exact wpAny_bind fin
def dict_typeIs(I:Inv X a7 σ H s)(g:DGet H a y o):s.TypeIs (.ref a) "dict" := by
 rcases g with⟨kvs,k,e,_,_⟩ | ⟨kvs,k,b,e,_,_,_⟩
 ·obtain ⟨_,_,vs,_,dd⟩:=zha I.hok e
  exact dd.typeIs
 ·obtain ⟨_,_,xs,_,dd⟩:=dt_rd I.hok e
  exact dd.typeIs
inductive RDG(x y:V)(H:Hp)(Q:VK):Prop
 |mk (a:Nb) (v:V) (e:x=.ref a) (g:DGet H a y (some v)) (q:Q v H):RDG x y H Q
inductive RDI(x y:V)(H:Hp)(R:Option V→Prop):Prop
 |mk (a:Nb) (o:Option V) (e:x=.ref a) (g:DGet H a y o) (q:R o):RDI x y H R
inductive RDP(x y v:V)(H:Hp)(N:Hp→Prop):Prop
 |mk (a:Nb) (H4:Hp) (e:x=.ref a) (p:DPut H a y v H4) (q:N H4):RDP x y v H N
def tDGet(td ty:TE):TE:=λ σ H Q=>td σ H λx H1=>ty σ H1 λy H2=>RDG x y H2 Q
def tDIn(ty td:TE):TE:=λ σ H Q=>ty σ H λy H1=>td σ H1 λx H2=>RDI x y H2 λo=>Q (.bl o.isSome) H2
def tDNotIn(ty td:TE):TE:=λ σ H Q=>ty σ H λy H1=>td σ H1 λx H2=>RDI x y H2 λo=>Q (.bl (!o.isSome)) H2
def sDPut(td ty tv:TE):TS:=λD σ H=>tv σ H λv H1=>td σ H1 λx H2=>ty σ H2 λy H3=>RDP x y v H3 (D.nx σ)
section
variable{X:Cx}{o i e value:Expr}{pos aU tpos:Pos}{td ty tv:TE}
def pe_dget(hu:X.A.units+1<cLine)(ho:PE X o td)(hi:PE X i ty)(hs:NoSl i):PE X (.Subscript o i pos) (tDGet td ty):=by
 intro a7 s σ H Q I h
 refine subD_of PySem.F.slot_dict_getitem.lookup hs (thn (ho a7 s σ H _ I h) λu s1 ⟨x,H1,I1,rx,q1⟩=>thn (hi a7 s1 σ H1 _ I1 q1) λiv s2 ⟨y,H2,I2,ry,a,v,ex,g,q2⟩=>?_)
 subst ex
 obtain rfl:u=Value.ref a:=rx
 exact⟨dict_typeIs I2 g,d_getItem hu I2 g ry λw' s3 I3 cr=>⟨v,H2,I3,cr,q2⟩⟩
def pc_din(hu:X.A.units+1<cLine)(hi:PE X i ty)(ho:PE X o td):PC X .In i o (tDIn ty td):=by
 intro a7 s σ H Q I h
 refine thn (hi a7 s σ H _ I h) λiv s1 ⟨y,H1,I1,ry,q1⟩=>thn (ho a7 s1 σ H1 _ I1 q1) λu s2 ⟨x,H2,I2,rx,a,ov,ex,g,q2⟩=>?_
 subst ex
 obtain rfl:u=Value.ref a:=rx
 exact d_in hu I2 g ry λs3 I3=>⟨.bl ov.isSome,H2,I3,rfl,q2⟩
def zcm(hu:X.A.units+1<cLine)(hi:PE X i ty)(ho:PE X o td):PC X .NotIn i o (tDNotIn ty td):=by
 intro a7 s σ H Q I h
 refine thn (hi a7 s σ H _ I h) λiv s1 ⟨y,H1,I1,ry,q1⟩=>thn (ho a7 s1 σ H1 _ I1 q1) λu s2 ⟨x,H2,I2,rx,a,ov,ex,g,q2⟩=>?_
 subst ex
 obtain rfl:u=Value.ref a:=rx
 exact d_notIn hu I2 g ry λs3 I3=>⟨.bl (!ov.isSome),H2,I3,rfl,q2⟩
def zcg(hu:X.A.units+1<cLine)(ho:PE X o td)(hi:PE X i ty)(hv:PE X value tv)(hs:swapsWith value (some (.Subscript o i aU)) pos.line X.env=pure false) :
  PS X (.Assign [.Subscript o i aU] value pos) (sDPut td ty tv):=by
 intro a7 s σ H D I h
 refine wpAny_Assign_Subscript (thn (hv a7 s σ H _ I h) λr s1 ⟨v,H1,I1,rv,q1⟩=>thn (ho a7 s1 σ H1 _ I1 q1) λu s2 ⟨x,H2,I2,rx,q2⟩=>thn (hi a7 s2 σ H2 _ I2 q2) λiv s3 ⟨y,H3,I3,ry,a,H4,ex,g,q3⟩=>?_) hs
 subst ex
 obtain rfl:u=Value.ref a:=rx
 exact d_setItem hu I3 g ry rv λs4 I4=>⟨σ,H4,I4,q3⟩
end
def dk_empty(h:Nm)(hb:sysModules<h.objs.size):zbs P w H (h.push {cls:=.type "dict",data:=.dict #[]}) h.objs.size (.dK []) :=
 ⟨Zg _,beq_eq_false_iff_ne.mpr (Qw (Zc hb)),[],.nil,Heap.DictOf.new h⟩
def dt_empty(h:Nm)(hb:sysModules<h.objs.size):zbs P w H (h.push {cls:=.type "dict",data:=.dict #[]}) h.objs.size (.dT []) :=
 ⟨Zg _,beq_eq_false_iff_ne.mpr (Qw (Zc hb)),[],.nil,_,#[],0,Zf _ rfl,⟨rfl,rfl,rfl⟩,rfl,rfl,Zn⟩
def tDNewK:TE:=λ_ H Q=>∀p,H p=none→Q (.ref p) (upd H p (.dK []))
def tDNewT:TE:=λ_ H Q=>∀p,H p=none→Q (.ref p) (upd H p (.dT []))
section
variable{X:Cx}{pos:Pos}
def zfv:PE X (.Dict [] [] pos) tDNewK:=λa7 s σ H Q I h =>
 wpAny_Dict_empty ⟨.ref s.heap.objs.size,_,I.laid (a:=s.heap.objs.size) (o:=.dK []) (t':=s.toks) (λ_ _ q=>Qj _ q) (Qh _) (dk_empty s.heap I.big),rfl,h _ (I.hok.fresh (Qh _))⟩
def pe_dnewT:PE X (.Dict [] [] pos) tDNewT:=λa7 s σ H Q I h =>
 wpAny_Dict_empty ⟨.ref s.heap.objs.size,_,I.laid (a:=s.heap.objs.size) (o:=.dT []) (t':=s.toks) (λ_ _ q=>Qj _ q) (Qh _) (dt_empty s.heap I.big),rfl,h _ (I.hok.fresh (Qh _))⟩
end
def tPairs:List (TE×TE)→St→Hp→(List (V×V)→Hp→Prop)→Prop
 |[],_,H,Q=>Q [] H
 |(tk,tv)::r,σ,H,Q=>tk σ H λx H1=>tv σ H1 λy H2=>tPairs r σ H2 λps H3=>Q ((x,y)::ps) H3
abbrev VV:List (V×V)→List (Value×Value)→Prop:=Paired λp q=>RelV p.1 q.1∧RelV p.2 q.2
def PPs(X:Cx)(pos:Pos)(keys:List (Option Expr))(values:Np)(trs:List (TE×TE)):Prop :=
 ∀(a7:Nf) (s:Nh) (σ:St) (H:Hp) (Q:List (V×V)→Hp→Prop),Inv X a7 σ H s→tPairs trs σ H Q →
  wpAny (model X.prog X.w) X.A (evalPairs (pairTrees keys values X.env pos)) (λvs s'=>∃ps H',Inv X a7 σ H' s'∧VV ps vs∧Q ps H') X.xe s
def zgc:PPs X pos [] [] []:=λa7 s σ H Q I h=>pairTrees_nil_walk ⟨[],H,I,.nil,h⟩
def zcz(hk:PE X k tk)(hv:PE X v tv)(hr:PPs X pos ks vs trs) :
  PPs X pos (some k::ks) (v::vs) ((tk,tv)::trs):=λa7 s σ H Q I h =>
 pairTrees_cons_walk (thn (hk a7 s σ H _ I h) λu s1 ⟨x,H1,I1,rx,q1⟩=>thn (hv a7 s1 σ H1 _ I1 q1) λw2 s2 ⟨y,H2,I2,ry,q2⟩ =>
  thn (hr a7 s2 σ H2 _ I2 q2) λws s3 ⟨ps,H3,I3,rel,q3⟩=>⟨(x,y)::ps,H3,I3,.cons ⟨rx,ry⟩ rel,q3⟩)
def zcn(kvs more:List (Key×V)):List (Key×V):=more.foldl (λaj kv=>putK aj kv.1 kv.2) kvs
def KV.merge:∀{more:List (Key×V)} {rs:List (Key×Value)} {kvs:List (Key×V)} {vs:List (Key×Value)},KV more rs→KV kvs vs→KV (zcn kvs more) (merged vs rs):=by
 intro more rs kvs vs r
 unfold KV at r
 induction r generalizing kvs vs with
 |nil=>intro q;exact q
 | @cons p q ps qs h t ih =>
  intro r0
  have e:KV (putK kvs p.1 p.2) (stored vs q.1 q.2):=by
   have:=r0.put p.1 h.2
   rw[←h.1];exact this
  exact ih e
theorem zet:∀(more kvs:List (Key×V)),(zcn kvs more).length≤kvs.length+more.length
 |[],kvs=>by show kvs.length≤kvs.length+0;exact Qh _
 |p::r,kvs=>by
  have h1:=zet r (putK kvs p.1 p.2)
  have h2:=zec kvs p.1 p.2
  show(zcn (putK kvs p.1 p.2) r).length≤_
  rw[Qz];lia
theorem zhr:∀{kvs:List (Key×V)} {ws:List (Value×Value)},VV (kvs.map λkv=>(kV kv.1,kv.2)) ws→∃rs,Carries (zam P w) ws rs∧KV kvs rs
 |[],_,r=>by rw[Jk]at r;cases r;exact⟨[],True.intro,.nil⟩
 | p::kvs,_,r=>by
  rw[Ql]at r
  cases r with
  |@cons a b as bs h t =>
   obtain⟨rs,c,q⟩:=zhr (P:=P) (w:=w) t
   obtain⟨b1,b2⟩:=b
   exact⟨(p.1,b2)::rs,⟨kV_is h.1,rfl,c⟩,.cons ⟨rfl,h.2⟩ q⟩
def tDisp(trs:List (TE×TE)):TE:=λ σ H Q=>∀p,H p=none→tPairs trs σ (upd H p (.dK [])) λps H2=>H2 p=some (.dK [])∧∃kvs:List (Key×V),ps=kvs.map (λkv=>(kV kv.1,kv.2))∧kvs.length≤15∧Q (.ref p) (upd H2 p (.dK (zcn [] kvs)))
def zge(h:PPs X pos keys values trs)(cU:keys.all (·.isSome)=true)(hl:keys.length=values.length)(h0:keys≠[])(h15:keys.length≤15):PE X (.Dict keys values pos) (tDisp trs):=by
 intro a7 s σ H Q I q
 have hn:=I.hok.fresh (Qh s.heap.objs.size)
 have I1:=I.laid (a:=s.heap.objs.size) (o:=.dK []) (h':=s.heap.push {cls:=.type "dict",data:=.dict #[]}) (t':=s.toks) (λ_ _ q=>Qj _ q) (Qh _) (dk_empty s.heap I.big)
 refine wpAny_Dict_walk (knd:=zam X.prog X.w) cU hl h0 h15 (thn (h a7 _ σ _ _ I1 (q _ hn)) λws s2 ⟨ps,H2,I2,rel,e,kvs,ep,lk,q2⟩=>?_)
 subst ep
 obtain⟨rs,c,rk⟩:=zhr (P:=X.prog) (w:=X.w) rel
 obtain⟨z,hd,vs0,r0,dd⟩:=dk_of I2.hok e
 cases r0
 refine⟨rs,c,dd,λh' hV hs=>⟨.ref s.heap.objs.size,_,?_,rfl,q2⟩⟩
 have hz:(zcn [] kvs).length≤sizeLine:=by
  have h1:=zet kvs []
  rw[Ul]at h1
  rw[sizeLine_eq];lia
 have he:∃q,h'.get? s.heap.objs.size=some q:=let⟨q,_,_,hq,_⟩:=hV;⟨q,hq⟩
 exact ziu I2 (by rw[e];exact True.intro) hs he (dk_new hz hd (rk.merge .nil) hV)
structure M1(X:Cx)(o:Expr)(m:Str)(apos:Pos)(e:Expr)(cpos:Pos):Prop where
 base:attributeBase o m X.env (eval o X.env)=eval o X.env
 few:((backTo cpos (starEach [e] X.env)).all (λx=>!x.1)&&(backToKw cpos (keywordEach [] X.env)).all (λx=>x.1.isSome)
  && decide (([e]:List Expr).length+([]:List Keyword).length+(if([]:List Keyword).isEmpty then 0 else 1)<30))=true
 line:(apos.endLine==cpos.line)=true
 trees:backTo cpos (starEach [e] X.env)=[(false,eval e X.env)]
structure M2(X:Cx)(o:Expr)(m:Str)(apos:Pos)(e f:Expr)(cpos:Pos):Prop where
 base:attributeBase o m X.env (eval o X.env)=eval o X.env
 few:((backTo cpos (starEach [e,f] X.env)).all (λx=>!x.1)&&(backToKw cpos (keywordEach [] X.env)).all (λx=>x.1.isSome)
  && decide (([e,f]:List Expr).length+([]:List Keyword).length+(if([]:List Keyword).isEmpty then 0 else 1)<30))=true
 line:(apos.endLine==cpos.line)=true
 trees:backTo cpos (starEach [e,f] X.env)=[(false,eval e X.env),(false,eval f X.env)]
def IsD(H:Hp)(a:Nb):Prop:=(∃kvs,Rd H a (.dK kvs))∨∃kvs,Rd H a (.dT kvs)
def isD_at(I:Inv X a7 σ H s)(d:IsD H a) :
  s.TypeIs (.ref a) "dict" ∧ (∀b,Value.ref a=.ref b→∃ob,s.heap.get? b=some ob∧ob.dict=none)∧(a==sysModules)=false:=by
 rcases d with⟨kvs,e⟩ | ⟨kvs,e⟩
 ·obtain ⟨_,hd,vs,_,dd⟩:=zha I.hok e
  refine⟨dd.typeIs,λb q=>?_,hd⟩
  cases q
  obtain⟨ob,_,_,h1,h2,_⟩:=dd
  exact⟨ob,h1,h2.2.1⟩
 ·obtain ⟨_,hd,xs,_,dd⟩:=dt_rd I.hok e
  refine⟨dd.typeIs,λb q=>?_,hd⟩
  cases q
  obtain⟨ob,_,_,h1,h2,_⟩:=dd
  exact⟨ob,h1,h2.2.1⟩
section
variable{X:Cx}{a7:Nf}{σ:St}{H:Hp}{s:Nh}{a:Nb}{y d:V}{u r:Value}{o:Option V}{A:Nn}{E:Nc}
def d_get1(hu:A.units+1<cLine)(I:Inv X a7 σ H s)(g:DGet H a y o)(ry:RelV y u)(h:∀w' s',Inv X a7 σ H s'→RelV (o.getD .non) w'→Q w' s') :
  wpAny (model X.prog X.w) A (call (.builtin "dict.get") [.ref a,u]) Q E s:=by
 rcases g with⟨kvs,k,e,ey,l⟩ | ⟨kvs,k,b,e,ey,eb,l⟩
 ·subst ey
  obtain⟨z,hd,vs,rel,dd⟩:=zha I.hok e
  refine call_meetsIn Ub dd.typeIs Ji (PySem.F.args_dict_get_2 _ _) (meets_dict_get (zam X.prog X.w) a (kV_is ry) hd) ⟨_,dd.mapOf,h _ _ (I.tok _) ?_⟩
  rw[l]
  exact(rel.val k).getD rfl
 ·subst ey
  cases(show u=Value.ref b from ry)
  obtain⟨z,hd,xs,rel,dd⟩:=dt_rd I.hok e
  refine call_meetsIn Ub dd.typeIs Ji (PySem.F.args_dict_get_2 _ _) (meetsH_dict_get (tupleKind (zam X.prog X.w)) a b hd) ⟨tupleKind_room_in1 hu,k,xs,zgo I.hok eb,dd,h _ _ (I.tok _) ?_⟩
  rw[l]
  exact(rel.val k).getD rfl
def d_get2(hu:A.units+1<cLine)(I:Inv X a7 σ H s)(g:DGet H a y o)(ry:RelV y u)(rd:RelV d r)(h:∀w' s',Inv X a7 σ H s'→RelV (o.getD d) w'→Q w' s') :
  wpAny (model X.prog X.w) A (call (.builtin "dict.get") [.ref a,u,r]) Q E s:=by
 rcases g with⟨kvs,k,e,ey,l⟩ | ⟨kvs,k,b,e,ey,eb,l⟩
 ·subst ey
  obtain⟨z,hd,vs,rel,dd⟩:=zha I.hok e
  refine call_meetsIn Ub dd.typeIs Ji (PySem.F.args_dict_get_3 _ _ _) (meets_dict_get_default (zam X.prog X.w) a (kV_is ry) hd r) ⟨_,dd.mapOf,h _ _ (I.tok _) ?_⟩
  rw[l]
  exact(rel.val k).getD rd
 ·subst ey
  cases(show u=Value.ref b from ry)
  obtain⟨z,hd,xs,rel,dd⟩:=dt_rd I.hok e
  refine call_meetsIn Ub dd.typeIs Ji (PySem.F.args_dict_get_3 _ _ _) (meetsH_dict_get_default (tupleKind (zam X.prog X.w)) a b hd r) ⟨tupleKind_room_in1 hu,k,xs,zgo I.hok eb,dd,h _ _ (I.tok _) ?_⟩
  rw[l]
  exact(rel.val k).getD rd
end
def tDGet1(td ty:TE):TE:=λ σ H Q=>td σ H λx H1=>∃a,x=.ref a∧IsD H1 a∧ty σ H1 λy H2=>∃o,DGet H2 a y o∧Q (o.getD .non) H2
def tDGet2(td ty tx:TE):TE:=λ σ H Q=>td σ H λx H1=>∃a,x=.ref a∧IsD H1 a∧ty σ H1 λy H2=>tx σ H2 λz H3=>∃o,DGet H3 a y o∧Q (o.getD z) H3
section
variable{X:Cx}{o e f:Expr}{apos cpos:Pos}{td ty tx:TE}
def zif(hu:X.A.units+1<cLine)(ho:PE X o td)(he:PE X e ty)(m:M1 X o "get" apos e cpos):PE X (.Call (.Attribute o "get" apos) [e] [] cpos) (tDGet1 td ty):=by
 intro a7 s σ H Q I h
 refine wpAny_Call_method m.base m.few m.line Kv Ub PySem.F.type_dict_get (thn (ho a7 s σ H _ I h) λu s1 ⟨x,H1,I1,rx,a,ex,d,q1⟩=>?_)
 subst ex
 obtain rfl:u=Value.ref a:=rx
 obtain⟨t1,t2,_⟩:=isD_at I1 d
 refine⟨t1,t2,?_⟩
 rw[m.trees]
 refine Ju rfl (Calls.evalArgs_plain (Us (thn (he a7 s1 σ H1 _ I1 q1) λiv s2 ⟨y,H2,I2,ry,ov,g,q2⟩=>Jt ?_)))
 exact d_get1 hu I2 g ry λw' s3 I3 cr=>⟨_,H2,I3,cr,q2⟩
def pe_dget2(hu:X.A.units+1<cLine)(ho:PE X o td)(he:PE X e ty)(hf:PE X f tx)(m:M2 X o "get" apos e f cpos):PE X (.Call (.Attribute o "get" apos) [e,f] [] cpos) (tDGet2 td ty tx):=by
 intro a7 s σ H Q I h
 refine wpAny_Call_method m.base m.few m.line Kv Ub PySem.F.type_dict_get (thn (ho a7 s σ H _ I h) λu s1 ⟨x,H1,I1,rx,a,ex,d,q1⟩=>?_)
 subst ex
 obtain rfl:u=Value.ref a:=rx
 obtain⟨t1,t2,_⟩:=isD_at I1 d
 refine⟨t1,t2,?_⟩
 rw[m.trees]
 refine Ju rfl (Calls.evalArgs_plain (Us (thn (he a7 s1 σ H1 _ I1 q1) λiv s2 ⟨y,H2,I2,ry,q2⟩ =>
  Us (thn (hf a7 s2 σ H2 _ I2 q2) λfv s3 ⟨z,H3,I3,rz,ov,g,q3⟩=>Jt ?_))))
 exact d_get2 hu I3 g ry rz λw' s4 I4 cr=>⟨_,H3,I4,cr,q3⟩
end
section
variable{X:Cx}{a7:Nf}{σ:St}{H:Hp}{s:Nh}{a:Nb}{kvs:List (Key×V)}{A:Nn}{E:Nc}
end
section
variable{X:Cx}{a7:Nf}{σ:St}{H:Hp}{s:Nh}{a:Nb}{y:V}{u:Value}{A:Nn}{E:Nc}
end
end L2
namespace HT
open PySem PyProof.Rows
section
open PySem.SeqAt
open PySem.AutoSeq1 (wpAny_loadPart')
open PySem.MeetsSeq PySem.MeetsSeq2 PySem.MeetsSeq3
end
section
variable{prog:Ni}{w:Nk}{A:Nn}{E:Nc}{s:Nh}
def sIx(n d:Nat):Option Int→Nat
 |none=>d
 |some v=>if v<0 then(v+(n:Int)).toNat else min v.toNat n
def sIx_nat(n d k:Nat):sIx n d (some (k:Int))=min k n:=by
 show(if(k:Int)<0 then((k:Int)+(n:Int)).toNat else min (k:Int).toNat n)=min k n
 rw[if_neg (by lia),Ur]
end
end HT
namespace L2
open PySem PySem.Spec PyProof.Rows
abbrev TO:=St→Hp→(Option Int→Hp→Prop)→Prop
def PO(X:Cx)(e:Option Expr)(t:TO):Prop :=
 ∀(a7:Nf) (s:Nh) (σ:St) (H:Hp) (Q:Option Int→Hp→Prop),Inv X a7 σ H s→t σ H Q →
  wpAny (model X.prog X.w) X.A (evalPart e X.env) (λu s'=>∃o H',Inv X a7 σ H' s'∧IsPart u o∧Q o H') X.xe s
def tNoPart:TO:=λ_ H Q=>Q none H
inductive RPt(x:V)(R:Int→Prop):Prop
 |mk (i:Int) (e:x=.int i) (q:R i):RPt x R
def tPart(t:TE):TO:=λ σ H Q=>t σ H λx H1=>RPt x λi=>Q (some i) H1
section
variable{X:Cx}{e:Expr}{te:TE}{lo hi:Option Expr}{tl th:TO}{pos p2:Pos}
def zd7:PO X none tNoPart:=by
 intro a7 s σ H Q I h
 rw[evalPart_none]
 exact wpAny_pure ⟨none,H,I,.none,h⟩
def zc0(h:PE X e te):PO X (some e) (tPart te):=by
 intro a7 s σ H Q I hw
 rw[evalPart_some]
 refine thn (h a7 s σ H _ I hw) λu s1 ⟨x,H1,I1,r1,q1⟩=>?_
 obtain⟨i,rfl,q⟩:=q1
 obtain⟨t,rfl⟩:=r1
 exact⟨some i,H1,I1,.int i t,q⟩
def SlR(X:Cx)(r:V→Option Int→Option Int→Hp→VK→Prop):Prop :=
 ∀(a7:Nf) (s:Nh) (σ:St) (H:Hp) (x:V) (v vl vu:Value) (lo hi:Option Int) (sl:Nb) (Q:VK),Inv X a7 σ H s→RelV x v→s.heap.IsSliceOf sl vl vu .none→IsPart vl lo→IsPart vu hi→r x lo hi H Q →
  ∃T id,typeLookup (.type T) "__getitem__" = pure (some (.builtin id))∧s.TypeIs v T∧wpAny (model X.prog X.w) X.A (getItem v (.ref sl)) (EP X a7 σ Q) X.xe s
def tSl(r:V→Option Int→Option Int→Hp→VK→Prop)(te:TE)(tl th:TO):TE:=λ σ H Q=>te σ H λx H1=>tl σ H1 λl H2=>th σ H2 λu H3=>r x l u H3 Q
def zcs(hr:SlR X r)(he:PE X e te)(hl:PO X lo tl)(hu:PO X hi th):PE X (.Subscript e (.Slice lo hi none p2) pos) (tSl r te tl th):=by
 intro a7 s σ H Q I h
 refine Subscript_ (thn (he a7 s σ H _ I h) λv s1 ⟨x,H1,I1,r1,q1⟩=>?_)
 refine wpAny_Slice (thn (hl a7 s1 σ H1 _ I1 q1) λvl s2 ⟨l,H2,I2,pl,q2⟩=>thn (hu a7 s2 σ H2 _ I2 q2) λvu s3 ⟨u,H3,I3,pu,q3⟩=>?_)
 rw[evalPart_none]
 refine wpAny_pure ?_
 have I4:Inv X a7 σ H3 {s3 with heap:=s3.heap.push {cls:=.type "slice",data:=.fields #[vl,vu,.none]}}:=I3.kept (t':=s3.toks) λb ob q=>Qj _ q
 obtain⟨T,id,hT,ht,hg⟩:=hr a7 {s3 with heap:=s3.heap.push {cls:=.type "slice",data:=.fields #[vl,vu,.none]}} σ H3 x v vl vu l u s3.heap.objs.size Q I4 r1 (Heap.IsSliceOf.new ..) pl pu q3
 show wpAny (model X.prog X.w) X.A (subscriptTail e (.Slice lo hi none p2) v (.ref s3.heap.objs.size)) (EP X a7 σ Q) X.xe {s3 with heap:=s3.heap.push {cls:=.type "slice",data:=.fields #[vl,vu,.none]}}
 exact tail_any (ops:=[.ref s3.heap.objs.size,v]) ht hT hg (by with_unfolding_all rfl)
def cutV(xs:List V)(lo hi:Option Int):List V:=(xs.drop (HT.sIx xs.length 0 lo)).take (HT.sIx xs.length xs.length hi-HT.sIx xs.length 0 lo)
def zb0(xs:List V)(lo hi:Option Int):(cutV xs lo hi).length≤xs.length:=by
 unfold cutV
 rw[Zi,Jp]
 lia
end
end L2
namespace L2
open PySem PySem.Spec PyProof.Rows
def ixN(n:Nat)(i:Int):Option Nat:=if 0≤i then(if i<n then some i.toNat else none) else if -(n:Int)≤i then some (i+n).toNat else none
def atI{α:Type}(xs:List α)(i:Int):Option α:=(ixN xs.length i).bind λj=>xs[j]?
def ixN_seq(h:ixN n i=some j):seqIndex? i n=some j∧j<n∧-(n:Int)≤i∧i<n:=by
 unfold ixN at h
 by_cases h0:0≤i
 ·rw [if_pos h0] at h
  by_cases h1:i<n
  ·rw [if_pos h1] at h
   have e:i.toNat=j:=Qk h
   exact⟨by rw[seqIndex_of h0 h1,e],by lia,by lia,h1⟩
  ·rw[if_neg h1]at h;cases h
 ·rw [if_neg h0] at h
  by_cases h1:-(n:Int)≤i
  ·rw [if_pos h1] at h
   have e:(i+n).toNat=j:=Qk h
   exact⟨by rw[seqIndex_neg (by lia) h1,e],by lia,h1,by lia⟩
  ·rw[if_neg h1]at h;cases h
def atI_get{α:Type}{xs:List α}{i:Int}{v:α}(h:atI xs i=some v):∃j,seqIndex? i xs.length=some j∧xs[j]?=some v∧j<xs.length∧-(xs.length:Int)≤i∧i<xs.length:=by
 unfold atI at h
 cases e:ixN xs.length i with
 |none=>rw[e]at h;cases h
 |some j =>
  rw[e]at h
  obtain⟨h1,h2,h3,h4⟩:=ixN_seq e
  exact⟨j,h1,h,h2,h3,h4⟩
def zar{α:Type}{xs:List α}{j:Nat}{v:α}(h:xs[j]?=some v):atI xs (j:Int)=some v:=by
 have hj:j<xs.length:=(Zd.mp h).1
 have e:ixN xs.length (j:Int)=some j:=by
  unfold ixN
  rw[if_pos (by lia),if_pos (by exact zar9 ‹_›)];simp
 unfold atI;rw[e];exact h
def PlainIx(b:Expr):Prop:=∀o i,subscripted b false o i=operate [o,i] (getItem o i)
def IxR(X:Cx)(r:R2):Prop :=
 ∀(value slice:Expr) (a7:Nf) (s:Nh) (σ:St) (H:Hp) (x y:V) (v u:Value) (Q:VK),Inv X a7 σ H s→RelV x v→RelV y u→r x y H Q →
  subscripted slice false v u=operate [v,u] (getItem v u)→wpAny (model X.prog X.w) X.A (subscriptTail value slice v u) (EP X a7 σ Q) X.xe s
def MtR(X:Cx)(id:String)(r:V→List V→Hp→VK→Prop):Prop :=
 ∀(a7:Nf) (s:Nh) (σ:St) (H:Hp) (x:V) (xs:List V) (v:Value) (us:Nj) (Q:VK),Inv X a7 σ H s→RelV x v→Vals xs us→r x xs H Q →
  wpAny (model X.prog X.w) X.A (call (.builtin id) (v::us)) (EP X a7 σ Q) X.xe s
section
variable{X:Cx}{a b:Expr}{ta tb:TE}{pos:Pos}
def zay(hr:IxR X r)(ha:PE X a ta)(hb:PE X b tb)(hs:PlainIx b):PE X (.Subscript a b pos) (tOp r ta tb):=by
 intro a7 s σ H Q I h
 exact Subscript_ (binT ha hb I h λv u s2 x y H2 I2 rx ry q=>hr a b a7 s2 σ H2 x y v u Q I2 rx ry q (hs _ _))
inductive RrIxL(K:Na)(x:V)(y:V)(H:Hp)(Q:VK):Prop
 |mk (p:_) (xs:_) (i:_) (v:_) (h0:x=.ref p) (h1:y=.int i) (h2:SqL K H p xs) (h3:atI xs i=some v) (h4:Q v H):RrIxL K x y H Q
def rIxL(K:Na):R2:=λx y H Q=>RrIxL K x y H Q
inductive RrIxT(K:Na)(x:V)(y:V)(H:Hp)(Q:VK):Prop
 |mk (p:_) (xs:_) (i:_) (v:_) (h0:x=.ref p) (h1:y=.int i) (h2:SqT K H p xs) (h3:atI xs i=some v) (h4:Q v H):RrIxT K x y H Q
def rIxT(K:Na):R2:=λx y H Q=>RrIxT K x y H Q
inductive RrIxS(x:V)(y:V)(H:Hp)(Q:VK):Prop
 |mk (z:_) (i:_) (c:_) (h0:x=.str z) (h1:y=.int i) (h2:z.length≤sizeLine) (h3:atI z.cps.toList i=some c) (h4:Q (.str ⟨#[c]⟩) H):RrIxS  x y H Q
def rIxS:R2:=λx y H Q=>RrIxS  x y H Q
def zao:IxR X (rIxL X.K):=by
 intro value slice a7 s σ H x y v u Q I rx ry h hs
 obtain⟨p,xs,i,z,rfl,rfl,hq,he,q⟩:=h
 cases rx
 obtain⟨t,rfl⟩:=ry
 obtain⟨a8,r,pl,hz⟩:=I.list hq
 obtain⟨j,h1,h2,h3,h4,h5⟩:=atI_get he
 obtain⟨w,ew,cr⟩:=r.get h2
 have hl:=r.length
 have hn:=zes
 have fin:EP X a7 σ Q w s:=⟨z,H,I,cr,q⟩
 by_cases h0:0≤i
 ·have hj:i.toNat=j:=by
   rw[seqIndex_of h0 h5]at h1
   exact Qk h1
  exact item_listR pl.isList h0 (by lia) (by rw[hj];simpa using ew) fin hs
 ·have hj:(i+(a8.toArray.size:Int)).toNat=j:=by
   rw[seqIndex_neg (by lia) h4]at h1
   rw[Qu,←hl]
   exact Qk h1
  exact subscriptTail_builtinR (x:=w) pl.isList.typeIs slot_list_getitem.lookup
   (wpAny_getItem_list_neg (Q:=λr s'=>r=w∧EP X a7 σ Q r s') pl.isList (by lia) (by rw[Qu]<;>lia) (by lia) (by rw[hj];simpa using ew) ⟨rfl,fin⟩) hs
def zcd:IxR X (rIxT X.K):=by
 intro value slice a7 s σ H x y v u Q I rx ry h hs
 obtain⟨p,xs,i,z,rfl,rfl,hq,he,q⟩:=h
 cases rx
 obtain⟨t,rfl⟩:=ry
 obtain⟨a8,r,pl,hz⟩:=I.tuple hq
 obtain⟨j,h1,h2,h3,h4,h5⟩:=atI_get he
 obtain⟨w,ew,cr⟩:=r.get h2
 have hl:=r.length
 have hn:=zes
 have fin:EP X a7 σ Q w s:=⟨z,H,I,cr,q⟩
 exact subscriptTail_builtinR (x:=w) pl.typeIs slot_tuple_getitem.lookup
  (getItem_tuple (j:=j) (Q:=λr s'=>r=w∧EP X a7 σ Q r s') pl (by lia) (by lia) (by rw[Qu,←hl];exact h1) (by simpa using ew) ⟨rfl,fin⟩) hs
def ix_str:IxR X rIxS:=by
 intro value slice a7 s σ H x y v u Q I rx ry h hs
 obtain⟨z,i,c,rfl,rfl,hz,he,q⟩:=h
 obtain⟨t,rfl⟩:=rx
 obtain⟨t',rfl⟩:=ry
 obtain⟨j,h1,h2,h3,h4,h5⟩:=atI_get he
 have hl:z.cps.toList.length=z.length:=by simp[Str.length]
 rw[hl]at h1 h4 h5
 have hn:=zes
 exact tail_any (typeIs_str s z t) slot_str_getitem.lookup (getItem_str (c:=c) (by
  have e1:decide (i < -(2 ^ 63:Int))=false:=decide_eq_false (by lia)
  have e2:decide (i≥2 ^ 63)=false:=decide_eq_false (by lia)
  rw[e1,e2,Bool.or_false]) (by rw[h1];simpa using h2) ⟨.str ⟨#[c]⟩,H,I.tok _,⟨_,rfl⟩,q⟩) hs
def mapSeq_set(a8:Nj)(n j:Nat)(u:Value):Obj.mapSeq (·.setIfInBounds j u) {cls:=.type "list",data:=.seq a8.toArray n}={cls:=.type "list",data:=.seq (a8.set j u).toArray n}:=by
 simp[Obj.mapSeq]
def Inv.lst{a7:Nf}{σ:St}{H:Hp}{s:Nh}{p:Nb}{xs:List V}(I:Inv X a7 σ H s)(h:H p=some (.lst xs)) :
  ∃(a8:Nj) (n:Nat),Vals xs a8∧s.heap.get? p=some {cls:=.type "list",data:=.seq a8.toArray n}∧xs.length≤sizeLine:=by
 obtain⟨z,a8,n,r,e⟩:=I.hok p _ h
 exact⟨a8,n,r,e,z⟩
def Inv.lstUpd{s:Nh}{xs ys:List V}{a8 its':Nj}{n n':Nat}{f:Obj→Obj}(I:Inv X a7 σ H s)(h:H p=some (.lst xs))(ho:s.heap.get? p=some {cls:=.type "list",data:=.seq a8.toArray n})(hf:f {cls:=.type "list",data:=.seq a8.toArray n}={cls:=.type "list",data:=.seq its'.toArray n'})(r:Vals ys its')(hz:ys.length≤sizeLine)(t:Nat) :
  Inv X a7 σ (upd H p (.lst ys)) {s with heap:=s.heap.update p f,toks:=t}:=by
 have e:(s.heap.update p f).get? p=some {cls:=.type "list",data:=.seq its'.toArray n'}:=by
  rw[Kc f ho (by rw[hf]<;>rfl),hf]
 refine I.write (x:=p) (e:=p) (by rw[h];trivial) (.inl rfl) (λb u hb q=>(Ue _ _ (Qw hb)).trans q) ⟨_,e⟩ ?_
 exact⟨hz,its',n',r,e⟩
inductive RrSetL(o:V)(i:V)(v:V)(H:Hp)(Q:Hp→Prop):Prop
 |mk (p:_) (xs:_) (k:_) (j:_) (h0:o=.ref p) (h1:i=.int k) (h2:H p=some (.lst xs)) (h3:ixN xs.length k=some j) (h4:Q (upd H p (.lst (xs.set j v)))):RrSetL  o i v H Q
def rSetL:V→V→V→Hp→(Hp→Prop)→Prop:=λo i v H Q=>RrSetL  o i v H Q
def set_list:PSet X rSetL:=by
 intro a7 s σ H o i v ov iv u Q I ro ri rv h
 obtain⟨p,xs,k,j,rfl,rfl,hp,hj,q⟩:=h
 cases ro
 obtain⟨t,rfl⟩:=ri
 obtain⟨a8,n,r,ho,hz⟩:=I.lst hp
 obtain⟨h1,h2,h3,h4⟩:=ixN_seq hj
 have hl:=r.length
 have hn:=zes
 have I':Inv X a7 σ (upd H p (.lst (xs.set j v))) {s with heap:=s.heap.update p (Obj.mapSeq (·.setIfInBounds j u))} :=
  I.lstUpd hp ho (mapSeq_set a8 n j u) (r.set rv j) (by rw[List.length_set];exact hz) s.toks
 by_cases h0:0≤k
 ·have hk:k.toNat=j:=by
   rw[seqIndex_of h0 h4]at h1
   exact Qk h1
  exact PySem.W.ki_setAt ho h0 (by lia) (by rw[Qu,←hl];exact h4) (by rw[hk];exact⟨_,I',q⟩)
 ·have hk:(k+(a8.toArray.size:Int)).toNat=j:=by
   rw[seqIndex_neg (by lia) h3]at h1
   rw[Qu,←hl]
   exact Qk h1
  exact PySem.W.ki_setBack ho (by lia) (by rw[Qu,←hl];exact h3) (by lia) (by rw[hk];exact⟨_,I',q⟩)
def slice_bounds(lo hi:Option Int)(n:Nat):(sliceBounds lo hi none n).1=((HT.sIx n 0 lo:Nat):Int)∧(sliceBounds lo hi none n).2.1=((HT.sIx n n hi:Nat):Int)∧(sliceBounds lo hi none n).2.2=1:=by
 refine⟨?_,?_,rfl⟩
 ·cases lo with
  |none=>simp[sliceBounds,HT.sIx]
  |some i =>
   simp only[sliceBounds,HT.sIx,Option.getD_none,show(1:Int)>0 by decide,if_true]
   by_cases h:i<0
   ·simp only[h,if_true]<;>lia
   ·simp only[h,if_false]<;>lia
 ·cases hi with
  |none=>simp[sliceBounds,HT.sIx]
  |some i =>
   simp only[sliceBounds,HT.sIx,Option.getD_none,show(1:Int)>0 by decide,if_true]
   by_cases h:i<0
   ·simp only[h,if_true]<;>lia
   ·simp only[h,if_false]<;>lia
def zh0(a8:Nj)(lo hi:Option Int):slicePick a8.toArray lo hi none=((a8.drop (HT.sIx a8.length 0 lo)).take (HT.sIx a8.length a8.length hi-HT.sIx a8.length 0 lo)).toArray:=by
 obtain⟨h1,h2,h3⟩:=slice_bounds lo hi a8.toArray.size
 unfold slicePick
 rw[h1,h2,h3]
 simp only[sliceRange_one,pick_run,Qu]<;>rfl
inductive RrSlL(K:Na)(x:V)(lo:Option Int)(hi:Option Int)(H:Hp)(Q:VK):Prop
 |mk (a:_) (xs:_) (h0:x=.ref a) (h1:SqL K H a xs) (h2:∀p,H p=none→Q (.ref p) (upd H p (.lst (cutV xs lo hi)))):RrSlL K x lo hi H Q
def rSlL(K:Na):V→Option Int→Option Int→Hp→VK→Prop:=λx lo hi H Q=>RrSlL K x lo hi H Q
def zc9:SlR X (rSlL X.K):=by
 intro a7 s σ H x v vl vu lo hi sl Q I rx hs pl pu h
 obtain⟨a,xs,rfl,hx,q⟩:=h
 cases rx
 obtain⟨a8,r,ht,hz⟩:=I.list hx
 have af:=r.length
 refine⟨"list",_,slot_list_getitem.lookup,ht.isList.typeIs,?_⟩
 refine wpAny_getItem_list_slice ht.isList hs pl pu .none (by simp) ?_ (by rw[Qu]<;>exact zdu ‹_› ‹_›)
 rw[zh0,←af]
 refine⟨.ref s.heap.objs.size,_,I.laid (t':=s.toks) (o:=.lst (cutV xs lo hi)) (λb ob q=>Qj _ q) (Qh _) ?_,rfl,q _ (I.hok.fresh (Qh _))⟩
 exact⟨Zk (zb0 xs lo hi) hz,_,0,(r.drop (HT.sIx xs.length 0 lo)).take (HT.sIx xs.length xs.length hi-HT.sIx xs.length 0 lo),Zf _ rfl⟩
def zdw:V→Bool
 |.non=>true
 |.bl _=>true
 |.int _=>true
 |.str _=>true
 |_=>false
def eqV:V→V→Bool
 |.non,.non=>true
 |.bl a,.bl b=>a==b
 |.bl a,.int b=>(if a then 1 else 0)==b
 |.int a,.bl b=>a==(if b then 1 else 0)
 |.int a,.int b=>a==b
 |.str a,.str b=>a==b
 |_,_=>false
def zgu(ry:RelV y u)(rx:RelV x v)(fy:zdw y=true)(fx:zdw x=true):SeqAt.EqAt A s u v (eqV y x):=by
 cases y with
 |non =>
  cases ry
  cases x with
  |non=>cases rx;exact SeqAt.EqAt.same _
  |bl b=>cases rx;exact SeqAt.EqAt.none_bool b
  |int b=>obtain⟨t,rfl⟩:=rx;exact SeqAt.EqAt.none_int b t
  |str b=>obtain⟨t,rfl⟩:=rx;exact SeqAt.EqAt.none_str b t
  |_=>exact absurd (show false=true from fx) Zh
 |bl a =>
  cases ry
  cases x with
  |non=>cases rx;exact SeqAt.EqAt.bool_none a
  |bl b=>cases rx;exact SeqAt.EqAt.bool_bool a b
  |int b=>obtain⟨t,rfl⟩:=rx;exact SeqAt.EqAt.bool_int a b t
  |str b=>obtain⟨t,rfl⟩:=rx;exact SeqAt.EqAt.bool_str a b t
  |_=>exact absurd (show false=true from fx) Zh
 |int a =>
  obtain⟨t',rfl⟩:=ry
  cases x with
  |non=>cases rx;exact SeqAt.EqAt.int_none a t'
  |bl b=>cases rx;exact SeqAt.EqAt.int_bool a t' b
  |int b=>obtain⟨t,rfl⟩:=rx;exact SeqAt.EqAt.int_int a t' b t
  |str b=>obtain⟨t,rfl⟩:=rx;exact SeqAt.EqAt.int_str a t' b t
  |_=>exact absurd (show false=true from fx) Zh
 |str a =>
  obtain⟨t',rfl⟩:=ry
  cases x with
  |non=>cases rx;exact SeqAt.EqAt.str_none a t'
  |bl b=>cases rx;exact SeqAt.EqAt.str_bool a t' b
  |int b=>obtain⟨t,rfl⟩:=rx;exact SeqAt.EqAt.str_int a t' b t
  |str b=>obtain⟨t,rfl⟩:=rx;exact SeqAt.EqAt.str_str a t' b t
  |_=>exact absurd (show false=true from fx) Zh
 |_=>exact absurd (show false=true from fy) Zh
def eqU(x:V)(u:Value):Bool:=match u with
 |.none=>eqV .non x
 |.bool b=>eqV (.bl b) x
 |.int i _=>eqV (.int i) x
 |.str z _=>eqV (.str z) x
 |_=>false
def eqU_of(r:RelV y u)(f:zdw y=true):eqU x u=eqV y x:=by
 cases y with
 |non=>cases r;rfl
 |bl b=>cases r;rfl
 |int i=>obtain⟨t,rfl⟩:=r;rfl
 |str z=>obtain⟨t,rfl⟩:=r;rfl
 |_=>exact absurd (show false=true from f) Zh
theorem zgz:∀{xs:List V} {us:Nj},Vals xs us→xs.all zdw=true→us.any (eqU x)=xs.any λy=>eqV y x
 |_,_,.nil,_=>rfl
 |y::xs,u::us,.cons r t,f=>by
  rw[List.all_cons,Xa]at f
  rw[Kq,Kq,eqU_of r f.1,zgz t f.2]
theorem zdt(rx:RelV x v)(fx:zdw x=true):∀{xs:List V} {us:Nj},Vals xs us→xs.all zdw=true→∀u∈us,SeqAt.EqAt A s u v (eqU x u)
 |_,_,.nil,_=>λu hu=>by cases hu
 |y::xs,u::us,.cons r t,f=>λu' hu=>by
  rw[List.all_cons,Xa]at f
  rcases Qe.mp hu with rfl | hu
  ·rw[eqU_of r f.1];exact zgu r rx f.1 fx
  ·exact zdt rx fx t f.2 u' hu
def inV(x:V)(xs:List V):Bool:=xs.any λy=>eqV y x
inductive RrIn(K:Na)(neg:Bool)(x:V)(y:V)(H:Hp)(Q:VK):Prop
 |mk (p:_) (xs:_) (h0:y=.ref p) (h1:(SqL K H p xs∨SqT K H p xs)) (h2:zdw x=true) (h3:xs.all zdw=true) (h4:Q (.bl (if neg then !inV x xs else inV x xs)) H):RrIn K neg x y H Q
def rIn(K:Na)(neg:Bool):R2:=λx y H Q=>RrIn K neg x y H Q
def op_in_seq:OpR X (compareOp .In) (rIn X.K false):=by
 intro a7 s σ H x y v u Q I rx ry h
 obtain⟨p,xs,rfl,hq,fx,fs,q⟩:=h
 cases ry
 rcases hq with hq | hq
 ·obtain ⟨a8,r,pl,hz⟩:=I.list hq
  refine SeqAt.in_listAt (eqU x) pl.isList (λw hw=>zdt rx fx r fs w (by simpa using hw)) ⟨.bl _,H,I,rfl,?_⟩
  rw[show a8.toArray.any (eqU x)=a8.any (eqU x) by simp,zgz r fs]
  exact q
 ·obtain ⟨a8,r,pl,hz⟩:=I.tuple hq
  refine SeqAt.in_tupleAt (eqU x) pl (λw hw=>zdt rx fx r fs w (by simpa using hw)) ⟨.bl _,H,I,rfl,?_⟩
  rw[show a8.toArray.any (eqU x)=a8.any (eqU x) by simp,zgz r fs]
  exact q
def zct:OpR X (compareOp .NotIn) (rIn X.K true):=by
 intro a7 s σ H x y v u Q I rx ry h
 obtain⟨p,xs,rfl,hq,fx,fs,q⟩:=h
 cases ry
 rcases hq with hq | hq
 ·obtain ⟨a8,r,pl,hz⟩:=I.list hq
  refine SeqAt.notIn_listAt (eqU x) pl.isList (λw hw=>zdt rx fx r fs w (by simpa using hw)) ⟨.bl _,H,I,rfl,?_⟩
  rw[show a8.toArray.any (eqU x)=a8.any (eqU x) by simp,zgz r fs]
  exact q
 ·obtain ⟨a8,r,pl,hz⟩:=I.tuple hq
  refine SeqAt.notIn_tupleAt (eqU x) pl (λw hw=>zdt rx fx r fs w (by simpa using hw)) ⟨.bl _,H,I,rfl,?_⟩
  rw[show a8.toArray.any (eqU x)=a8.any (eqU x) by simp,zgz r fs]
  exact q
def zas:zci X (.builtin "len") (λxs H Q=>Ex2 λp ys=>Aj3 (xs=[.ref p]) ((SqL X.K H p ys)∨( SqT X.K H p ys)) (Q (.int ys.length) H)):=by
 intro a7 s σ H xs us Q I r h
 obtain⟨p,ys,rfl,hq,q⟩:=h
 obtain⟨u,rfl,rx⟩:=vals1 r
 cases rx
 have hn:=zes
 rcases hq with hq | hq
 ·obtain ⟨a8,r',pl,hz⟩:=I.list hq
  have af:=r'.length
  exact Calls.call_len_list pl.isList (by simp only[Qu]<;>lia) ⟨.int ys.length,H,I.tok _,⟨s.toks+1,by rw[Qu,af]⟩,q⟩
 ·obtain ⟨a8,r',pl,hz⟩:=I.tuple hq
  have af:=r'.length
  exact len_tuple pl (by simp only[Qu]<;>lia) ⟨.int ys.length,H,I.tok _,⟨s.toks+1,by rw[Qu,af]⟩,q⟩
def call_len_str:zci X (.builtin "len") (λxs H Q=>Ex1 λz=>Aj3 (xs=[.str z]) (z.length≤sizeLine) (Q (.int z.length) H)):=by
 intro a7 s σ H xs us Q I r h
 obtain⟨z,rfl,hz,q⟩:=h
 obtain⟨u,rfl,t,rfl⟩:=vals1 r
 have hn:=zes
 exact len_str (by lia) ⟨.int z.length,H,I.tok _,⟨_,rfl⟩,q⟩
def zdj:zci X (.type "list") (λxs H Q=>Ex2 λp ys=>Aj3 (xs=[.ref p]) ((SqL X.K H p ys)∨( SqT X.K H p ys)) (∀l,H l=none→Q (.ref l) (upd H l (.lst ys)))):=by
 intro a7 s σ H xs us Q I r h
 obtain⟨p,ys,rfl,hq,q⟩:=h
 obtain⟨u,rfl,rx⟩:=vals1 r
 cases rx
 have fin:∀(a8:Nj),Vals ys a8→ys.length≤sizeLine→∀(h':Nm) (c':Nat),(∀b o',s.heap.get? b=some o'→h'.get? b=some o') →
   h'.get? s.heap.objs.size=some {cls:=.type "list",dict:=none,data:=.seq a8.toArray c',slots:=#[]}→EP X a7 σ Q (.ref s.heap.objs.size) {s with heap:=h'}:=λa8 r' hz h' c' kp e =>
  ⟨.ref s.heap.objs.size,_,I.laid (t':=s.toks) kp (Qh _) (show zbs X.prog X.w _ h' _ (.lst ys) from⟨hz,a8,c',r',e⟩),rfl,q _ (I.hok.fresh (Qh _))⟩
 rcases hq with hq | hq
 ·obtain ⟨a8,r',pl,hz⟩:=I.list hq
  have af:=r'.length
  obtain⟨o,ho,hc,n,hd⟩:=pl.isList
  exact call_list_seq p (.inl rfl) ho hc hd (λh' c' kp e=>fin a8 r' hz h' c' kp e) (by simp only[Qu]<;>exact zdu ‹_› ‹_›)
 ·obtain ⟨a8,r',pl,hz⟩:=I.tuple hq
  have af:=r'.length
  obtain⟨o,ho,hc,n,hd⟩:=pl
  exact call_list_seq p (.inr rfl) ho hc hd (λh' c' kp e=>fin a8 r' hz h' c' kp e) (by simp only[Qu]<;>exact zdu ‹_› ‹_›)
def zi0:zci X (.type "tuple") (λxs H Q=>Ex2 λp ys=>Aj2 (xs=[.ref p]) ((Aj2 (SqL X.K H p ys) (∀l,H l=none→Q (.ref l) (upd H l (.tup ys))))∨(Aj2 (SqT X.K H p ys) (Q (.ref p) H)))):=by
 intro a7 s σ H xs us Q I r h
 obtain⟨p,ys,rfl,h⟩:=h
 obtain⟨u,rfl,rx⟩:=vals1 r
 cases rx
 rcases h with⟨hq,q⟩ | ⟨hq,q⟩
 ·obtain ⟨a8,r',pl,hz⟩:=I.list hq
  have af:=r'.length
  refine call_tuple_list pl.isList (λh' kp=>?_) (by simp only[Qu]<;>exact zdu ‹_› ‹_›)
  have I1:Inv X a7 σ H {s with heap:=h'}:=I.kept (t':=s.toks) kp
  have I2:Inv X a7 σ (upd H h'.objs.size (.tup ys)) {s with heap:=h'.push {cls:=.type "tuple",data:=.seq a8.toArray}} :=
   I1.laid (t':=s.toks) (λb o e=>Qj _ e) (Qh _) (show zbs X.prog X.w _ _ _ (.tup ys) from⟨hz,a8,r',IsTup.new _ _⟩)
  exact⟨.ref h'.objs.size,_,I2,rfl,q _ (I1.hok.fresh (Qh _))⟩
 ·obtain ⟨a8,r',pl,hz⟩:=I.tuple hq
  exact call_tuple_same pl ⟨.ref p,H,I,rfl,q⟩
def tyV(K:Na)(T:String)(x:V)(H:Hp):Prop:=match x with
 |.str _=>T = "str"
 |.int _=>T = "int"
 | .ref p=>(T = "list" ∧ ∃ xs,SqL K H p xs)∨(T = "tuple" ∧ ∃ o,K.lookup p=some o∧o.cls=.type "tuple" ∧ o.dict=none) ∨
   (T = "dict" ∧ ((∃kvs,H p=some (.dK kvs))∨∃kvs,H p=some (.dT kvs)))∨(T = "set" ∧ ∃S n,H p=some (.set S n))
 |_=>False
def tyV_is(I:Inv X a7 σ H s)(r:RelV x v)(ty:tyV X.K T x H) :
  s.TypeIs v T∧∀a,v=.ref a→∃ob,s.heap.get? a=some ob∧ob.dict=none:=by
 cases x with
 |str z =>
  obtain⟨t,rfl⟩:=r
  cases(show T = "str" from ty)
  exact⟨typeIs_str s z t,λ_ e=>nomatch e⟩
 |int i =>
  obtain⟨t,rfl⟩:=r
  cases(show T = "int" from ty)
  exact⟨typeIs_int s i t,λ_ e=>nomatch e⟩
 | ref p =>
  cases r
  rcases ty with⟨rfl,xs,hq⟩ | ⟨rfl,o,hk,hc,hd⟩ | ⟨rfl,hk⟩ | ⟨rfl,S,n,hk⟩
  ·obtain ⟨a8,_,pl,_⟩:=I.list hq
   refine⟨pl.isList.typeIs,λa e=>?_⟩
   cases e
   obtain⟨o,n,e,c,hd,_⟩:=pl
   exact⟨o,e,hd⟩
  ·refine ⟨⟨o,I.kIn p o hk,hc⟩,fun a e=>?_⟩
   cases e
   exact⟨o,I.kIn _ o hk,hd⟩
  ·have z:∃ o,s.heap.get? p=some o∧o.ExactDict:=by
    rcases hk with⟨kvs,hk⟩ | ⟨kvs,hk⟩
    ·obtain ⟨_,_,_,_,o,_,_,e,ex,_⟩:=I.hok p _ hk
     exact⟨o,e,ex⟩
    ·obtain ⟨_,_,_,_,o,_,_,e,ex,_⟩:=I.hok p _ hk
     exact⟨o,e,ex⟩
   obtain⟨o,e,ex⟩:=z
   refine⟨⟨o,e,ex.1⟩,λa e2=>?_⟩
   cases e2
   exact⟨o,e,ex.2.1⟩
  ·obtain ⟨o,_,_,_,e,ex,_⟩:=I.hok p _ hk
   refine⟨⟨o,e,ex.1⟩,λa e2=>?_⟩
   cases e2
   exact⟨o,e,ex.2.1⟩
 |_=>exact False.elim ty
def tBM0(K:Na)(T:String)(r:V→List V→Hp→VK→Prop)(to:TE):TE:=λ σ H Q=>to σ H λx H1=>tyV K T x H1∧r x [] H1 Q
def tBM(K:Na)(T:String)(r:V→List V→Hp→VK→Prop)(to:TE)(t:TA):TE:=λ σ H Q=>to σ H λx H1=>tyV K T x H1∧t σ H1 λxs H2=>r x xs H2 Q
variable{o e:Expr}{es:Np}{to:TE}{t:TA}{name:Str}{apos cpos:Pos}{T id:String}{r:V→List V→Hp→VK→Prop}
def pe_bm0(pa:PlainAttrs T)(slot:Slot T name id)(tm:typeOf (.builtin id)=pure (.type "method_descriptor"))(hm:MtR X id r)(ho:PE X o to)(gE:attributeBase o name X.env (eval o X.env)=eval o X.env:=by rfl)(gb:(apos.endLine==cpos.line)=true:=by rfl):PE X (.Call (.Attribute o name apos) [] [] cpos) (tBM0 X.K T r to):=by
 intro a7 s σ H Q I h
 refine wpAny_Call_method0_late gE gb (thn (ho a7 s σ H _ I h) λv s1 ⟨x,H1,I1,r1,ty,q1⟩=>?_)
 obtain⟨h1,h2⟩:=tyV_is I1 r1 ty
 exact⟨T,id,pa,slot,tm,h1,h2,Ju rfl (PySem.evalArgs_none (hm a7 s1 σ H1 x [] v [] Q I1 r1 .nil q1))⟩
def zd8(pa:PlainAttrs T)(slot:Slot T name id)(tm:typeOf (.builtin id)=pure (.type "method_descriptor"))(hm:MtR X id r)(ho:PE X o to)(ha:PA X (e::es) t)(gE:attributeBase o name X.env (eval o X.env)=eval o X.env:=by rfl)(uJ:((backTo cpos (starEach (e::es) X.env)).all (fun x=>!x.1) && (backToKw cpos (keywordEach [] X.env)).all (fun x=>x.1.isSome)
   && decide ((e::es).length+([]:List Keyword).length+(if([]:List Keyword).isEmpty then 0 else 1)<30))=true:=by rfl)(gb:(apos.endLine==cpos.line)=true:=by rfl)(hs:starEach (e::es) X.env=(false,eval e X.env)::starEach es X.env:=by rfl)(ko:(backTo cpos (starEach es X.env)).any (·.1)=false:=by rfl) :
  PE X (.Call (.Attribute o name apos) (e::es) [] cpos) (tBM X.K T r to t):=by
 intro a7 s σ H Q I h
 refine wpAny_Call_method_late gE uJ gb rfl (thn (ho a7 s σ H _ I h) λv s1 ⟨x,H1,I1,r1,ty,q1⟩=>?_)
 obtain⟨h1,h2⟩:=tyV_is I1 r1 ty
 refine⟨T,id,pa,slot,tm,h1,h2,?_⟩
 have hA:=ha cpos a7 s1 σ H1 _ I1 q1
 rw[hs]at hA ⊢
 refine Ju (by show(false||(backTo cpos (starEach es X.env)).any (·.1))=false;rw[ko]<;>rfl) (Calls.evalArgs_plain ?_)
 exact thn hA λus s2 ⟨vs,H2,I2,r2,q2⟩=>hm a7 s2 σ H2 x vs v us Q I2 r1 r2 q2
end
end L2
namespace L2
open PySem PySem.Spec PyProof.Rows
def MtM(X:Cx)(id:String)(r:V→List V→Hp→VK→Prop):Prop :=
 ∀(a7:Nf) (s:Nh) (σ:St) (H:Hp) (x:V) (xs:List V) (v:Value) (us:Nj) (Q:VK),Inv X a7 σ H s→RelV x v→Vals xs us→r x xs H Q →
  wpAny (model X.prog X.w) X.A (call (.builtin id) (v::us)) (EP X a7 σ Q) X.xe s
theorem Vals.one:∀{x:V} {us:Nj},Vals [x] us→∃u,us=[u]∧RelV x u
 |_,_,.cons r .nil=>⟨_,rfl,r⟩
theorem Vals.two:∀{x y:V} {us:Nj},Vals [x,y] us→∃u v,us=[u,v]∧RelV x u∧RelV y v
 |_,_,_,.cons r (.cons q .nil)=>⟨_,_,rfl,r,q⟩
theorem Vals.zero:∀{us:Nj},Vals [] us→us=[]
 |_,.nil=>rfl
def Vals.dropLast{xs:List V}{us:Nj}(h:Vals xs us):Vals xs.dropLast us.dropLast:=by
 induction h with
 |nil=>exact .nil
 |cons r t ih =>
  cases t with
  |nil=>exact .nil
  |cons q t'=>exact .cons r ih
theorem Vals.eraseIdx:∀{xs:List V} {us:Nj} (i:Nat),Vals xs us→Vals (xs.eraseIdx i) (us.eraseIdx i)
 |_,_,_,.nil=>.nil
 |_,_,0,.cons _ t=>t
 |_,_,i+1,.cons r t=>.cons r (Vals.eraseIdx i t)
def Vals.reverse{xs:List V}{us:Nj}(h:Vals xs us):Vals xs.reverse us.reverse:=by
 induction h with
 |nil=>exact .nil
 |cons r t ih=>rw[Kl,Kl];exact Vals.append ih (.cons r .nil)
def erase_last{α:Type}(l:List α):l.eraseIdx (l.length - 1)=l.dropLast:=by
 induction l with
 |nil=>rfl
 | cons a r ih =>
  cases r with
  |nil=>rfl
  | cons b r =>
   have e:(a::b::r).length-1=((b::r).length-1)+1:=by
    have h1:(a::b::r).length=r.length+2:=rfl
    have h2:(b::r).length=r.length+1:=rfl
    assumption
   rw[e,List.eraseIdx_cons_succ,ih]
   all_goals rfl
theorem len_erase{α:Type}:∀(l:List α) (i:Nat),(l.eraseIdx i).length≤l.length
 |[],_=>Qh _
 |_::_,0=>Ww _
 |_::r,i+1=>Ky (len_erase r i)
section
variable{X:Cx}{a7:Nf}{σ:St}{H:Hp}{s:Nh}{l b:Nb}{xs ys zs:List V}
def Inv.lset{a8 its':Nj}{n:Nat}{f:Array Value→Array Value}{t':Nat}(I:Inv X a7 σ H s)(hH:H l=some (.lst xs))(e:s.heap.get? l=some {cls:=.type "list",data:=.seq a8.toArray n})(hf:f a8.toArray=its'.toArray)(hv:Vals ys its')(hz:ys.length≤sizeLine) :
  Inv X a7 σ (upd H l (.lst ys)) {s with heap:=s.heap.update l (Obj.mapSeq f),toks:=t'}:=by
 have q:=PySem.IsL.update e f
 rw[hf]at q
 refine I.write (x:=l) (e:=l) (by rw[hH];exact trivial) (.inl rfl) (λb' u hb hu=>(Ue s.heap (Obj.mapSeq f) (Qw hb)).trans hu) ⟨_,q⟩ ?_
 exact⟨hz,its',_,hv,q⟩
def Inv.lnew(I:Inv X a7 σ H s)(hv:Vals ys a8)(hz:ys.length≤sizeLine) :
  Inv X a7 σ (upd H s.heap.objs.size (.lst ys)) {s with heap:=s.heap.push {cls:=.type "list",data:=.seq a8.toArray},toks:=t'} :=
 I.laid (λ_ _ q=>Qj _ q) (Qh _) ⟨hz,a8,0,hv,Zf _ rfl⟩
def Inv.fresh(I:Inv X a7 σ H s):H s.heap.objs.size=none:=I.hok.fresh (Qh _)
def Inv.lstM(I:Inv X a7 σ H s)(hH:H l=some (.lst xs)):xs.length≤sizeLine∧∃(a8:Nj) (n:Nat),Vals xs a8∧xs.length=a8.length∧s.heap.get? l=some {cls:=.type "list",data:=.seq a8.toArray n}:=by
 obtain⟨z,a8,n,r,e⟩:=I.hok l _ hH
 exact⟨z,a8,n,r,r.length,e⟩
def notLongL{n:Nat}(h:n≤sizeLine):Builtin.List.listTooLong n=false:=by
 unfold Builtin.List.listTooLong
 exact decide_eq_false (by lia)
end
section
variable{X:Cx}
inductive RrAppend(x:V)(vs:List V)(H:Hp)(Q:VK):Prop
 |mk (l:_) (xs:_) (y:_) (h0:x=.ref l) (h1:vs=[y]) (h2:H l=some (.lst xs)) (h3:xs.length<sizeLine) (h4:Q .non (upd H l (.lst (xs++[y])))):RrAppend  x vs H Q
def rAppend:V→List V→Hp→VK→Prop:=λx vs H Q=>RrAppend  x vs H Q
def zcw:MtM X "list.append" rAppend:=by
 intro a7 s σ H x vs v us Q I rx rv h
 obtain⟨l,xs,y,rfl,rfl,hH,hz,q⟩:=h
 cases rx
 obtain⟨u,rfl,ru⟩:=rv.one
 obtain⟨z,a8,n,r,hl,e⟩:=I.lstM hH
 refine call_meets F.slot_list_append ⟨_,e,rfl⟩ F.entry_list_append (F.args_list_append_2 _ _) (PySem.list_append l a8.toArray n u (by rw[Qu];exact zdu ‹_› ‹_›)) ⟨e,?_⟩
 refine⟨.non,_,I.lset (its':=a8++[u]) hH e (by simp) (r.append (.cons ru .nil)) ?_,rfl,q⟩
 rw[Qs,Xj]
 assumption
def rExtend:V→List V→Hp→VK→Prop:=λx vs H Q=>∃l b xs zs,x=.ref l∧vs=[.ref b]∧H l=some (.lst xs)∧H b=some (.lst zs)∧xs.length+zs.length≤sizeLine∧Q .non (upd H l (.lst (xs++zs)))
def mt_extend:MtM X "list.extend" rExtend:=by
 intro a7 s σ H x vs v us Q I rx rv h
 obtain⟨l,b,xs,zs,rfl,rfl,hH,hB,hz,q⟩:=h
 cases rx
 obtain⟨u,rfl,ru⟩:=rv.one
 cases ru
 obtain⟨z,a8,n,r,hl,e⟩:=I.lstM hH
 obtain⟨z2,bh,n2,r2,ak,e2⟩:=I.lstM hB
 have hsz:a8.toArray.size+bh.toArray.size≤sizeLine:=by rw[Qu,Qu];lia
 have oy:¬(!a8.toArray.isEmpty&&Builtin.List.listTooLong (a8.toArray.size+bh.toArray.size))=true:=by
  rw[notLongL hsz,Bool.and_false]
  exact Zh
 refine call_meets F.slot_list_extend ⟨_,e,rfl⟩ F.entry_list_extend (F.args_list_extend_2 _ _)
  (AutoSeq1.list_extend_list_list_0 l a8.toArray n b bh.toArray n2 oy (by rw[Qu];lia) (by exact zar16 ‹_›)) ⟨e,e2,?_⟩
 refine⟨.non,_,I.lset (its':=a8++bh) hH e (by simp) (r.append r2) ?_,rfl,q⟩
 rw[Qs]
 assumption
inductive RrPop(x:V)(vs:List V)(H:Hp)(Q:VK):Prop
 |mk (l:_) (xs:_) (y:_) (h0:x=.ref l) (h1:vs=[]) (h2:H l=some (.lst xs)) (h3:xs[xs.length-1]?=some y) (h4:Q y (upd H l (.lst xs.dropLast))):RrPop  x vs H Q
def rPop:V→List V→Hp→VK→Prop:=λx vs H Q=>RrPop  x vs H Q
def mt_pop:MtM X "list.pop" rPop:=by
 intro a7 s σ H x vs v us Q I rx rv h
 obtain⟨l,xs,y,rfl,rfl,hH,hy,q⟩:=h
 cases rx
 have nn:=rv.zero
 subst nn
 obtain⟨z,a8,n,r,hl,e⟩:=I.lstM hH
 obtain⟨u,hu,ru⟩:=r.get hy
 have fI:a8.toArray[a8.toArray.size-1]?=some u:=by
  show a8.toArray[a8.length-1]?=some u
  rw[←Wk,←hl]
  exact hu
 refine call_meets F.slot_list_pop ⟨_,e,rfl⟩ F.entry_list_pop (F.args_list_pop_1 _) (MeetsSeq.list_pop_last l a8.toArray n u fI (by rw[Qu];exact zdu ‹_› ‹_›)) ⟨e,?_⟩
 refine⟨y,_,I.lset (its':=a8.dropLast) hH e ?_ r.dropLast ?_,ru,q⟩
 ·show a8.toArray.eraseIdxIfInBounds (a8.toArray.size - 1)=a8.dropLast.toArray
  rw[Qu,Jm,erase_last]
 ·rw [List.length_dropLast]
  lia
def rPopAt:V→List V→Hp→VK→Prop:=λx vs H Q=>∃l xs i k y,x=.ref l∧vs=[.int i]∧H l=some (.lst xs)∧-(2 ^ 63)≤i∧i<2 ^ 63∧seqIndex? i xs.length=some k∧xs[k]?=some y∧Q y (upd H l (.lst (xs.eraseIdx k)))
def mt_popAt:MtM X "list.pop" rPopAt:=by
 intro a7 s σ H x vs v us Q I rx rv h
 obtain⟨l,xs,i,k,y,rfl,rfl,hH,h1,h2,hk,hy,q⟩:=h
 cases rx
 obtain⟨u,rfl,ru⟩:=rv.one
 obtain⟨t,rfl⟩:=ru
 obtain⟨z,a8,n,r,hl,e⟩:=I.lstM hH
 obtain⟨w,hw,cr⟩:=r.get hy
 refine call_meets F.slot_list_pop ⟨_,e,rfl⟩ F.entry_list_pop (F.args_list_pop_2 _ _)
  (MeetsSeq.list_pop_at l a8.toArray n i t k w (fitsIndex_both h1 h2) (by rw[Qu,←hl];exact hk) (by rw[←Wk];exact hw) (by rw[Qu];exact zdu ‹_› ‹_›)) ⟨e,?_⟩
 refine⟨y,_,I.lset (its':=a8.eraseIdx k) hH e ?_ (r.eraseIdx k) ?_,cr,q⟩
 ·show a8.toArray.eraseIdxIfInBounds k=(a8.eraseIdx k).toArray
  rw[Jm]
 ·have:=len_erase xs k
  exact Zk ‹_› ‹_›
def rReverse:V→List V→Hp→VK→Prop:=λx vs H Q=>∃l xs,x=.ref l∧vs=[]∧H l=some (.lst xs)∧Q .non (upd H l (.lst xs.reverse))
def mt_reverse:MtM X "list.reverse" rReverse:=by
 intro a7 s σ H x vs v us Q I rx rv h
 obtain⟨l,xs,rfl,rfl,hH,q⟩:=h
 cases rx
 have nn:=rv.zero
 subst nn
 obtain⟨z,a8,n,r,hl,e⟩:=I.lstM hH
 refine call_meets F.slot_list_reverse ⟨_,e,rfl⟩ F.entry_list_reverse (F.args_list_reverse_1 _) (AutoSeq1.list_reverse_list_0 l a8.toArray n (by rw[Qu];exact zdu ‹_› ‹_›)) ⟨e,?_⟩
 refine⟨.non,_,I.lset (its':=a8.reverse) hH e (by simp) r.reverse ?_,rfl,q⟩
 rw[List.length_reverse]
 assumption
inductive RrCat(x:V)(y:V)(H:Hp)(Q:VK):Prop
 |mk (l:_) (b:_) (xs:_) (zs:_) (h0:x=.ref l) (h1:y=.ref b) (h2:H l=some (.lst xs)) (h3:H b=some (.lst zs)) (h4:xs.length+zs.length≤sizeLine) (h5:∀p,H p=none→Q (.ref p) (upd H p (.lst (xs++zs)))):RrCat  x y H Q
def rCat:R2:=λx y H Q=>RrCat  x y H Q
def zd0:OpR X (binaryOp .Add) rCat:=by
 intro a7 s σ H x y v u Q I rx ry h
 obtain⟨l,b,xs,zs,rfl,rfl,hH,hB,hz,q⟩:=h
 cases rx
 cases ry
 obtain⟨z,a8,n,r,hl,e⟩:=I.lstM hH
 obtain⟨z2,bh,n2,r2,ak,e2⟩:=I.lstM hB
 refine PySem.P.add_list e e2 ?_ (by rw[Qu,Qu];lia)
 have ea:a8.toArray++bh.toArray=(a8++bh).toArray:=by simp
 rw[ea]
 exact⟨.ref _,_,I.lnew (t':=s.toks) (r.append r2) (by rw[Qs];assumption),rfl,q _ I.fresh⟩
end
section
variable{prog:Ni}{w:Nk}{A:Nn}{E:Nc}{s:Nh}
end
section
variable{X:Cx}
end
end L2
namespace Att
open PySem PySem.W PySem.Calls PyProof.Rows
def zgr:∀(ns:List Int) (vs:Nj),WellAll P h vs (ns.map WData.int)→IntsAre vs ns:=by
 intro ns
 induction ns with
 |nil =>
  intro vs w
  rw[Jk]at w
  cases w
  exact .nil
 | cons n ns ih =>
  intro vs w
  rw[Ql]at w
  cases w with
  |cons a b =>
   cases a
   exact .cons _ _ (ih _ b)
def script_of{l:OpenLaw}{n:Nat}(hn:l.most=some n){P:Params}{h:Nm}{args:List WData}{jy:Nj}(ik:l.row.toRowW.claim.pre args=true)(cY:WellAll P h jy args) :
  ∃a vs ns,jy=[Value.ref a]∧args=[WData.list (ns.map WData.int)]∧h.get? a=some {cls:=.type "list",data:=.seq vs.toArray}∧IntsAre vs ns∧ns.length≤n:=by
 have ce:WShape.hasAll [] args [.list .int]=true:=(pre_splitW ik).1
 have hc:l.pre.holds [] {args:=args}=true:=(pre_splitW ik).2
 obtain⟨d,r,rfl,h1,h2⟩:=hasAllW_cons ce
 obtain rfl:=hasAllW_nil h2
 obtain⟨xs,rfl,h3⟩:=hasW_list h1
 obtain⟨ns,rfl⟩:=items_int h3
 have af:ns.length≤n:=by
  unfold OpenLaw.pre at hc
  have h4:(WTm.not (.lt (.lit (.int (n:Int))) (.len (.arg 0)))).holds [] {args:=[.list (ns.map .int)]}=true:=by
   have h4:=(holds_andW hc).1
   rw[hn]at h4
   exact h4
  have h5:=condW_of h4 (w_not (w_lt w_lit (w_len_list (w_arg rfl))))
  rw[Qa]at h5
  refine Nat.le_of_not_lt λq=>?_
  have q':(n:Int)<((ns.length:Nat):Int):=by exact zar9 ‹_›
  first
   |(rw[decide_eq_true q']at h5;exact absurd h5 (by decide))
   |(simp at h5;lia)
 cases cY with
 |cons w1 w2 =>
  cases w2
  cases w1 with
  |list ho cU=>exact⟨_,_,ns,rfl,rfl,ho,zgr ns _ cU,af⟩
def post_true(l:OpenLaw)(args:List WData):l.row.toRowW.claim.post args (.bool true) args=true :=
 postW_of (r:=l.row.toRowW) (X:=(true==true))
  (show WShape.has [] (.bool true) .bool=true by first | rfl | decide | simp[WShape.has,WShape.arms,WShape.armsAll])
  (show(WTm.eq .res (.lit (.bool true))).value [] {args:=args,res:=some (.bool true),after:=args}=some (.bool (true==true)) from w_eq_bool (w_res rfl) w_lit) rfl
def attach_call{l:OpenLaw}{n:Nat}{q:Ni}{loose:Ng}{XP:(Str→Option Value)→Heap→Prop}{YP:World→Heap→Prop}{d:DefRec}(hn:l.most=some n)(pi:d.params.defaults=[])(call:∀ (w:Nk) (s₀ s₁:Nh) (mg mb:Nd) (fa:Nb) (o:Obj) (pm cd doc:Value) (a:Nb) (vs:Nj) (ns:List Int),
   Ground q loose [] XP w s₀ mg mb s₁.heap→YP w s₁.heap →
   s₁.heap.get? fa=some o→o.data=.func (docDef d.name d.params d.body d.scope pm cd doc)→s₁.heap.CodeRec cd d.name→mg d.name=some (.ref fa) →
   s₁.heap.get? a=some {cls:=.type "list",data:=.seq vs.toArray}→IntsAre vs ns→ns.length≤n→s₁.gens=#[] →
   codeAny (model l.prog w) callerA (.call (.ref fa) ⟨[.ref a],[]⟩) (λr s'=>r=.ok (.ret (.bool true))∧OldK s₁.heap s'.heap∧s'.os=s₁.os∧AllBare s'.gens) s₁) :
  WalkO q loose XP YP l.row.toRowW d [] (λf vs=>PySem.call f vs):=by
 intro w s₀ s₁ mg mb G Y fa o pm cd doc dV kV ho hd aB hD uk hg args jy as ik hlay hrd cY lR
 obtain rfl:dV=.none:=Dflts.none hD pi
 obtain rfl:kV=.none:=Dflts.noKw hD
 obtain⟨a,vs,ns,rfl,rfl,kH,gn,af⟩:=script_of hn ik cY
 refine enter_call (codeAny_mono (call w s₀ s₁ mg mb fa o pm cd doc a vs ns G Y ho (fd_plain hd) aB uk kH gn af hg) λr s' hq=>?_)
 obtain⟨rfl,h2,h3,h4⟩:=hq
 exact⟨.inl ⟨.bool true,.bool true,[],rfl,λ_=>rfl,.bool true,post_true l _,λ_=>⟨List.Pairwise.nil,λ_ hm=>(nomatch hm)⟩⟩,h2,h3,h4⟩
section
variable{prog:Ni}{w:Nk}{A:Nn}{E:Nc}{s:Nh}{K:Frag}
end
end Att
namespace L2
open PySem PySem.Spec PyProof.Rows
theorem vals_ints:∀{vs:Nj} {ns:List Int},IntsAre vs ns→Vals (ns.map V.int) vs
 |_,_,.nil=>.nil
 |_,_,.cons n t h=>.cons ⟨t,rfl⟩ (vals_ints h)
def Only(H:Hp):Prop:=∀b,H b=none∨∃o xs,H b=some (.frz o (.lst xs))
def law_call{P:Ni}{w:Nk}{K:Na}{mg mb:Nd}{CX:CXT}{k:Nat}{fa a:Nb}{fd:No}{x:Str}{sp:Sp}{s₁:Nh}{vs:Nj}{ns:List Int}(KX:K.In s₁.heap)(df:s₁.heap.Ns mainGlobals mg)(hb:s₁.heap.Ns builtinsNs mb)(hbb:∀x:Str,x ≠ "__name__" → mb x=bootBuiltins x)(ur:s₁.heap.NoLimit)(hg:s₁.gens=#[])(ha:s₁.heap.get? a=some {cls:=.type "list",data:=.seq vs.toArray})(hi:IntsAre vs ns)(hl:ns.length≤sizeLine)(hr:Room k callerA)(F:∀base:Heap,K.In base→base.Ns mainGlobals mg→FnOk P w K mg base CX k fa fd [x] sp)(pE:∀(s:Shared) (u:Value),BindsTo s fd ⟨[u],[]⟩ [(x,u)])(cc:∀H:Hp,Only H→SqL K H a (ns.map V.int)→sp [.ref a] H (λv _=>v=.bl true) λ_ _ _=>False)(vG:∀H e s',CX [] H s₁ (λ_ _ _=>False) e s'→False) :
  codeAny (model P w) callerA (.call (.ref fa) ⟨[.ref a],[]⟩) (λr s'=>r=.ok (.ret (.bool true))∧OldK s₁.heap s'.heap∧s'.os=s₁.os∧AllBare s'.gens) s₁:=by
 have rv:=vals_ints hi
 have lenV:=hi.length
 have core:∀ H:Hp,Only H→SqL K H a (ns.map V.int)→HOk P w H s₁.heap→(∀ b,H b≠none→b=a)→(H a≠none→K.lookup a=none) →
   codeAny (model P w) callerA (.call (.ref fa) ⟨[.ref a],[]⟩) (λr s'=>r=.ok (.ret (.bool true))∧OldK s₁.heap s'.heap∧s'.os=s₁.os∧AllBare s'.gens) s₁:=by
  intro H hO hS hok hA hK
  have base_of:∀{b:Nb} {o:Obj},s₁.heap.get? b=some o→H b=none→(hidT s₁.heap H).get? b=some o:=λe n=>hidT_get e n
  have noA:∀{b:Nb} {o:Obj} {es:Array DictEntry} {ep:Nat},s₁.heap.get? b=some o→o.data=.dict es ep→H b=none:=λ{b o es ep} e d=>by
   cases q:H b with
   |none=>rfl
   |some u =>
    have e':b=a:=hA b (by rw[q];simp)
    subst e'
    rw[ha]at e;cases e
    have d':Data.seq vs.toArray _=Data.dict es ep:=d
    cases d'
  have nsK:∀{b:Nb} {m:Nd},s₁.heap.Ns b m→(hidT s₁.heap H).Ns b m:=λ{b m} ⟨o,es,ep,e,d,r⟩=>⟨o,es,ep,base_of e (noA e d),d,r⟩
  have hKb:K.In (hidT s₁.heap H):=λb o e=>base_of (KX b o e) (by
   cases q:H b with
   |none=>rfl
   |some u =>
    have e':b=a:=hA b (by rw[q];simp)
    subst e'
    rw[hK (by rw[q];simp)]at e;cases e)
  have hM:Mod K mg (hidT s₁.heap H):=⟨hKb,nsK df,⟨mb,nsK hb,hbb⟩,let⟨mc,h1,h2⟩:=ur;⟨mc,nsK h1,h2⟩⟩
  have e0:Env0 P w K mg (hidT s₁.heap H) callerA [] s₁ H:=⟨rfl,hM,λb o e=>of_hidT e,Nat.le_of_eq (hidT_size _ _),trivial,λb hb=>absurd (show b∈([]:List Addr) from hb) (by simp),hok,.of_eq hg⟩
  refine codeAny_mono ((F _ hKb (nsK df)).run callerA [] s₁ H ⟨[.ref a],[]⟩ [.ref a] [.ref a] _ _ hr e0 (pE s₁ (.ref a)) (.cons rfl .nil) (cc H hO hS)) λr s' h=>?_
  cases r with
  |error e=>exact(vG H e s' h).elim
  | ok fl =>
   cases fl with
   |next=>exact False.elim h
   |brk=>exact False.elim h
   |cont=>exact False.elim h
   | ret u =>
    obtain⟨v,H',os,bare,un,uc,r',q⟩:=h
    have q':v=.bl true:=q
    subst q'
    obtain rfl:u=Value.bool true:=r'
    refine⟨rfl,OldK.of_keep λb o e=>?_,os,bare⟩
    cases q:H b with
    |none=>exact un.keep b o e q (by intro z;exact absurd (show b∈([]:List Addr) from z) (by simp)) (by simp)
    | some u =>
     rcases hO b with z | ⟨ob,xs,z⟩
     ·rw[q]at z;cases z
     ·have z2:=un.frzs b ob _ z
      obtain⟨e1,_⟩:=hok b _ z
      obtain⟨e2,_⟩:=uc b _ z2
      rw[e]at e1;cases e1
      exact e2
 cases hk:K.lookup a with
 |some o =>
  have e:=KX a o hk
  rw[ha]at e
  cases e
  refine core (λ_=>none) (λ_=>.inl rfl) (.inr ⟨_,vs.toArray,_,hk,rfl,rfl,rfl,by rw[Qu,lenV];exact hl,by simpa using rv⟩) (λb u z=>by have z':(none:Option HO)=some u:=z;cases z') (λb z=>absurd rfl z) λz=>absurd rfl z
 | none =>
  refine core (λb=>if b=a then some (.frz {cls:=.type "list",data:=.seq vs.toArray} (.lst (ns.map V.int))) else none) (λb=>?_) (.inl (.inr ⟨{cls:=.type "list",data:=.seq vs.toArray},if_pos rfl⟩)) (λb u z=>?_) (λb z=>?_) λ_=>hk
  ·by_cases hb:b=a
   ·exact .inr ⟨_,_,if_pos hb⟩
   ·exact .inl (if_neg hb)
  ·by_cases hb:b=a
   ·have z':=(if_pos hb).symm.trans z
    cases z'
    subst hb
    exact⟨ha,by rw[Qa];exact hl,vs,_,rv,ha⟩
   ·have z':=(if_neg hb).symm.trans z
    cases z'
  ·by_cases hb:b=a
   ·exact hb
   ·exact absurd (if_neg hb) z
end L2
namespace L2
open PySem PySem.Spec PyProof.Rows
def walk_of{l:PySem.W.OpenLaw}{n k:Nat}{q:Ni}{loose:Ng}{XP:(Str→Option Value)→Heap→Prop}{YP:World→Heap→Prop}{d:DefRec}{K:Params→PySem.W.Frag}{CX:World→CXT}{sp:World→Sp}{x:Str}(hn:l.most=some n)(bm:n≤sizeLine)(pi:d.params.defaults=[])(hr:Room k callerA)(hY:∀(w:World) (h:Heap),YP w h→(K w.params).In h)(F:∀ (w:Nk) (mg:Nd) (fa:Nb) (h:Nm),(K w.params).In h→h.Ns mainGlobals mg→mg d.name=some (.ref fa) →
   ∃fd:FuncData,(∀(s:Nh) (u:Value),BindsTo s fd ⟨[u],[]⟩ [(x,u)]) ∧
    ∀base:Heap,(K w.params).In base→base.Ns mainGlobals mg→FnOk l.prog w (K w.params) mg base (CX w) k fa fd [x] (sp w))(cc:∀(w:Nk) (H:Hp) (a:Nb) (ns:List Int),ns.length≤n→Only H→SqL (K w.params) H a (ns.map V.int)→sp w [.ref a] H (λv _=>v=.bl true) λ_ _ _=>False)(vG:∀(w:World) (H:Hp) (s:Shared) (e:Value) (s':Shared),CX w [] H s (λ_ _ _=>False) e s'→False) :
  PySem.W.WalkO q loose XP YP l.row.toRowW d [] (λf vs=>PySem.call f vs):=by
 refine Att.attach_call hn pi λw s₀ s₁ mg mb fa o pm cd doc a vs ns G Y ho hd aB uk kH gn af hg=>?_
 have KX:=hY w _ Y
 obtain⟨fd,hb,hF⟩:=F w mg fa _ KX G.T.g uk
 exact law_call KX G.T.g G.T.b G.T.builtins G.T.nolimit hg kH gn (Zk af bm) hr hF hb (λH hO hS=>cc w H a ns af hO hS) λH e s'=>vG w H s₁ e s'
end L2
namespace L2
open PySem PySem.Spec PyProof.Rows
def inClass(s:Stmt)(j:Nat):Stmt:=match s with
 |.ClassDef _ _ _ body _ _ _ _ _ _ _=>body.getD j (.Pass ⟨0,0,0,0⟩)
 |_=>.Pass ⟨0,0,0,0⟩
def zco(s:Stmt):Arguments:=match s with
 |.FunctionDef _ a _ _ _ _ _ _ _ _=>a
 |_=>{posonlyargs:=[],args:=[],vararg:=none,kwonlyargs:=[],kw_defaults:=[],kwarg:=none,defaults:=[]}
def zb7(s:Stmt):List Stmt:=match s with
 |.FunctionDef _ _ b _ _ _ _ _ _ _=>b
 |_=>[]
def zag(s:Stmt):Scope:=match s with
 |.FunctionDef _ _ _ _ _ _ sc _ _ _=>sc
 |_=>{kind:=.function,names:=[],isGenerator:=false,isCoroutine:=false}
abbrev CX0:CXT:=λ_ _ _ _ _ _=>False
abbrev E0:XK:=λ_ _ _=>False
def zat:zg2 CX0 X E0:=λ_ _ _ _ _ _ _ h=>h.elim
structure Fun(K:Na)(x qual:Str)(st:Stmt)(f:Nb)(fd:No):Prop where
 ex:∃(oc:Value) (od:Option Addr) (kV doc pm:Value) (an:Option Addr) (cdv ct:Value) (osl:Array (Option Value)),
  fd=PySem.W.fnOf x qual (zco st) (zb7 st) (zag st) .none kV doc pm an cdv ct∧K.lookup f=some ⟨oc,od,.func fd,osl⟩∧PySem.W.codeIn K cdv qual=true
 kp:PySem.W.keepIn K (.ref f)=true
section
variable{P:Ni}{w:Nk}{K:Na}{mg:Nd}{base:Nm}
def Fun.ok{x qual:Str}{st:Stmt}{f:Nb}{fd:No}{N ps:Ng}{k:Nat}{sp:Sp}(F:Fun K x qual st f fd)(S:zap N ps (zag st))(len:∀vs H Q E,sp vs H Q E→vs.length=ps.length)(cS:∀ (cdv:Value) (A:Nn) (outer:List Env) (s:Nh) (H:Hp) (vs:List V) (Q:VK) (E:XK),Room k (A.deeper (envOfC qual (zag st) s.heap.objs.size f cdv))→sp vs H Q E →
   ∃t,PSs (cxOf CX0 P w K mg base N qual (zag st) f cdv A outer s H E).nox (zb7 st) t∧t {nx:=λ_ H'=>Q .non H',rt:=Q} (start N vs) H):FnOk P w K mg base CX0 (k+1) f fd ps sp:=by
 obtain⟨oc,od,kV,doc,pm,an,cdv,ct,osl,rfl,lk,aB⟩:=F.ex
 refine fn_of lk aB S len λA outer s H vs Q E hr cc=>?_
 obtain⟨t,h,q⟩:=cS cdv A outer s H vs Q E hr cc
 exact⟨t,h.nox,q⟩
def Fun.binds{x qual:Str}{st:Stmt}{f:Nb}{fd:No}{ps:Ng}(F:Fun K x qual st f fd)(h:∀(kV doc pm:Value) (an:Option Addr) (cdv ct:Value) (us:Nj),us.length=ps.length→bindArgs (PySem.W.fnOf x qual (zco st) (zb7 st) (zag st) .none kV doc pm an cdv ct) ⟨us,[]⟩=pure (ps.zip us)):Binds K fd ps []:=by
 obtain⟨oc,od,kV,doc,pm,an,cdv,ct,osl,rfl,lk,aB⟩:=F.ex
 exact .all (h kV doc pm an cdv ct)
def fun_mk{x qual:Str}{st:Stmt}{f:Nb}{oc:Value}{od an:Option Addr}{osl:Array (Option Value)}{kV doc pm cdv ct:Value}(l:K.lookup f=some ⟨oc,od,.func (PySem.W.fnOf x qual (zco st) (zb7 st) (zag st) .none kV doc pm an cdv ct),osl⟩)(c:PySem.W.codeIn K cdv qual=true)(k:PySem.W.keepIn K (.ref f)=true):Fun K x qual st f (PySem.W.fnOf x qual (zco st) (zb7 st) (zag st) .none kV doc pm an cdv ct):=⟨⟨oc,od,kV,doc,pm,an,cdv,ct,osl,rfl,l,c⟩,k⟩
end
def zbz(hr:Room k A):A.units+1<cLine:=Nat.lt_of_le_of_lt (Nat.add_le_add_left (by decide:1≤64) _) hr.units
section
variable{X:Cx}
def pv(i:Nat)(hN:X.N[i]?=some x:=by rfl)(hv:Vis X.env.scope x:=by first | exact Or.inl rfl | exact Or.inr (Or.inl rfl) | exact Or.inr (Or.inr rfl))(hd:(x==("__debug__" : Str))=false:=by decide)(aB:(x==("__classdict__" : Str))=false:=by decide):PE X (.Name x pos) (tVar i):=pe_var hN hv hd aB
def zdk:zci X (.builtin "len") (λxs H Q=>Ex2 λa kvs=>Aj3 (xs=[V.ref a]) (H a=some (.dK kvs)) (Q (.int kvs.length) H)):=by
 intro a7 s σ H xs us Q I r h
 obtain⟨a,kvs,rfl,ha,q⟩:=h
 obtain⟨u,rfl,ru⟩:=vals1 r
 cases ru
 exact d_len I (.inl ha) λt s' I'=>⟨.int kvs.length,H,I',⟨t,rfl⟩,q⟩
end
def iteF{A B:Prop}(h:B):if false=true then A else B:=by
 rw[if_neg Zh]
 exact h
def iteT{A B:Prop}(h:A):if true=true then A else B:=by
 rw[if_pos rfl]
 exact h
def ite2{c A B:Prop}[Decidable c](h1:c→A)(h2:¬c→B):if c then A else B:=by
 by_cases h:c
 ·rw [if_pos h]
  exact h1 h
 ·rw [if_neg h]
  exact h2 h
section
variable{κ:Type}[DecidableEq κ]
end
end L2
end
section
namespace L2
open PySem PySem.Spec PyProof.Rows
def clOf(sc:Scope)(env:Env):List (Str×Addr):=sc.names.foldl (λcs y=>if(y.2==NameKind.free)=true then(y.1,(env.cells.lookup y.1).getD 0)::cs else cs) []
theorem cl_fold:∀(l:List (Str×NameKind)) (cs:List (Str×Addr)),(∀y∈l,y.2=.free→∃c,env.cells.lookup y.1=some c) →
  (forIn l cs (fun (y:Str×NameKind) (r:List (Str×Addr))=>(do
   let(name,kind):=y
   if(kind==.free)=true then do
    let a ←cellOf env name
    pure (ForInStep.yield ((name,a)::r))
   else pure (ForInStep.yield r):Sem (ForInStep (List (Str×Addr))))))=(pure (l.foldl (λcs y=>if(y.2==NameKind.free)=true then(y.1,(env.cells.lookup y.1).getD 0)::cs else cs) cs):Sem (List (Str×Addr)))
 |[],cs,_=>rfl
 | (n,k)::r,cs,h=>by
  rw[List.forIn_cons]
  have ih:=λcs=>cl_fold (env:=env) r cs λy hy=>h y (Qg _ hy)
  by_cases hk:(k==NameKind.free)=true
  ·obtain ⟨c,hc⟩:=h (n,k) Qc (by simpa using hk)
   have bZ:env.cells.lookup n=some c:=hc
   have e:cellOf env n=pure c:=by unfold cellOf;rw[bZ]
   rw[Jx]
   dsimp only
   rw[if_pos hk,if_pos hk,e,bZ]
   exact ih _
  ·rw [Jx]
   dsimp only
   rw[if_neg hk,if_neg hk]
   exact ih _
def zcp(h:∀y∈sc.names,y.2=.free→∃c,env.cells.lookup y.1=some c):closureFor sc env=pure (clOf sc env):=by
 unfold closureFor
 have e:=cl_fold (env:=env) sc.names [] h
 exact(congrArg (λt:Sem (List (Str×Addr))=>t >>= λcs=>pure cs) e).trans rfl
theorem clOf_in{env:Env}{x:Str}{c:Nb}:∀(l:List (Str×NameKind)) (cs:List (Str×Addr)),(∀y∈l,y.2=.free→∃c,env.cells.lookup y.1=some c)→(∀x c,cs.lookup x=some c→env.cells.lookup x=some c) →
  (l.foldl (λcs y=>if(y.2==NameKind.free)=true then(y.1,(env.cells.lookup y.1).getD 0)::cs else cs) cs).lookup x=some c→env.cells.lookup x=some c
 |[],cs,_,hc,e=>hc _ _ e
 | (n,k)::r,cs,h,hc,e=>by
  rw[Jx]at e
  refine clOf_in r _ (λy hy=>h y (Qg _ hy)) ?_ e
  by_cases hk:(k==NameKind.free)=true
  ·obtain ⟨a,ha⟩:=h (n,k) Qc (by simpa using hk)
   have ha':env.cells.lookup n=some a:=ha
   dsimp only
   rw[if_pos hk,ha']
   intro x c q
   rw[Wx]at q
   cases hx:x==n with
   |true =>
    rw[hx]at q
    have q':a=c:=Qk q
    have:x=n:=by simpa using hx
    rw[this,←q'];exact ha'
   |false =>
    rw[hx]at q
    exact hc x c q
  ·dsimp only
   rw[if_neg hk]
   exact hc
theorem zix{env:Env}{x:Str}:∀(l:List (Str×NameKind)) (cs:List (Str×Addr)),((x,NameKind.free)∈l∨∃c,cs.lookup x=some c) →
  ∃c,(l.foldl (λcs y=>if(y.2==NameKind.free)=true then(y.1,(env.cells.lookup y.1).getD 0)::cs else cs) cs).lookup x=some c
 |[],cs,h=>by
  rcases h with h | h
  ·exact absurd h (by simp)
  ·exact h
 | (n,k)::r,cs,h=>by
  rw[Jx]
  refine zix r _ ?_
  rcases h with h | ⟨c,h⟩
  ·rcases Qe.mp h with e | e
   ·obtain ⟨rfl,rfl⟩:=Ut e
    exact .inr ⟨(env.cells.lookup x).getD 0,by dsimp only;rw[if_pos (by rfl),List.lookup_cons];simp⟩
   ·exact .inl e
  ·refine .inr ?_
   dsimp only
   by_cases hk:(k==NameKind.free)=true
   ·rw [if_pos hk,Wx]
    cases hx:x==n with
    |true=>exact⟨_,rfl⟩
    |false=>exact⟨c,h⟩
   ·rw[if_neg hk];exact⟨c,h⟩
structure Blk(X:Cx)(sc:Scope)(M:Ng)(ix:Nq):Prop where
 kind:sc.kind=.function
 nocell:∀y∈sc.names,y.2≠.cell
 names:∀y∈sc.names,y.2=.local→sc.names.lookup y.1=some .local
 frees:∀y∈sc.names,y.2=.free→X.env.scope.names.lookup y.1=some .cell∨X.env.scope.names.lookup y.1=some .free
 len:ix.length=M.length
 nd:M.Nodup
 caps:∀(j i:Nat) (x:Str),M[j]?=some x→ix[j]?=some (some i)→X.N[i]?=some x∧sc.names.lookup x=some .free
def inner(ix:Nq)(σ:St):St:=ix.map λo=>match o with | none=>none | some i=>(σ[i]?).join
def zia{sc:Scope}{env:Env}{x:Str}{oz:Option Str}(hn:∀ y∈sc.names,y.2=.cell→oz=some y.1)(h:(relabel sc env).names.lookup x=some .cell∨(relabel sc env).names.lookup x=some .free):(x,NameKind.free)∈sc.names∨oz=some x:=by
 have key:∀k',k'=.cell∨k'=.free→(x,k')∈(relabel sc env).names→(x,NameKind.free)∈sc.names∨oz=some x:=λk' dC hm=>by
  obtain⟨⟨n,k⟩,hy,e⟩:=Qf.mp hm
  dsimp only at e
  by_cases hb:(k==NameKind.free&&env.scope.kind==.function&&env.kindOf n==some .cell)=true
  ·rw [if_pos hb] at e
   obtain⟨rfl,_⟩:=Ut e
   have hk:k=.free:=by
    have:=(Bool.and_eq_true_iff.mp (Bool.and_eq_true_iff.mp hb).1).1
    simpa using this
   rw[hk]at hy
   exact .inl hy
  ·rw [if_neg hb] at e
   obtain⟨rfl,rfl⟩:=Ut e
   rcases dC with q | q
   ·exact .inr (hn _ hy q)
   ·rw[q]at hy;exact .inl hy
 rcases h with h | h
 ·exact key _ (.inl rfl) (Wf h)
 ·exact key _ (.inr rfl) (Wf h)
def ocl(oz:Option Str)(C:Nb)(cl:List (Str×Addr)):List (Str×Addr):=match oz with
 |none=>cl
 |some z=>(z,C+1)::cl
def och(oz:Option Str)(h:Nm):Heap:=match oz with
 |none=>h
 |some _=>h.push {cls:=.type "cell",data:=.cell none}
structure BlkG(X:Cx)(sc:Scope)(oz:Option Str)(M:Ng)(ix:Nq):Prop where
 kind:sc.kind=.function
 own:∀y∈sc.names,y.2=.cell→oz=some y.1
 one:∀n cl,cellsFrom (n+1) sc.names cl=ocl oz n cl
 psh:∀h,pushCells h sc.names=och oz h
 zc:∀z,oz=some z→sc.names.lookup z=some .cell
 names:∀y∈sc.names,y.2=.local→sc.names.lookup y.1=some .local
 frees:∀y∈sc.names,y.2=.free→X.env.scope.names.lookup y.1=some .cell∨X.env.scope.names.lookup y.1=some .free
 len:ix.length=M.length
 nd:M.Nodup
 caps:∀(j i:Nat) (x:Str),M[j]?=some x→ix[j]?=some (some i)→X.N[i]?=some x∧sc.names.lookup x=some .free
theorem ziz:∀{l:List (Str×NameKind)} (_:∀y∈l,y.2≠.cell),(∀n cl,cellsFrom n l cl=cl)∧∀h,pushCells h l=h
 |[],_=>⟨λ_ _=>rfl,λ_=>rfl⟩
 |(a,k)::t,h=>by
  obtain⟨h1,h2⟩:=ziz λy hy=>h y (Qg _ hy)
  have hk:(k==NameKind.cell)=false:=beq_eq_false_iff_ne.mpr (h (a,k) Qc)
  exact⟨λn cl=>by unfold cellsFrom;rw[hk];exact h1 n cl,λg=>by unfold pushCells;rw[hk];exact h2 g⟩
def Blk.g{X:Cx}{sc:Scope}{M:Ng}{ix:Nq}(B:Blk X sc M ix):BlkG X sc none M ix :=
 ⟨B.kind,λy hy h=>absurd h (B.nocell y hy),λn cl=>(ziz B.nocell).1 _ cl,(ziz B.nocell).2,λ_ h=>(by cases h),B.names,B.frees,B.len,B.nd,B.caps⟩
def zev(X:Cx)(sc:Scope)(oz:Option Str)(M:Ng)(C:Nb)(a7:Nf)(ex:Nl)(s:Nh)(H:Hp):Cx :=
 {X with N:=M,s₀:=s,H₀:=H,env:=compEnvC sc (ocl oz C (clOf sc X.env)) C X.env,outer:=X.stack,ex:=ex,fn:=λx=>oz==some x,pn:=X.pn++a7,xe:=λ_ _=>False}
abbrev zc5(X:Cx)(sc:Scope)(M:Ng)(C:Nb)(a7:Nf)(ex:Nl)(s:Nh)(H:Hp):Cx:=zev X sc none M C a7 ex s H
section
variable{M:Model}{A:Nn}{E:Nc}{s:Nh}
def newEnv_own{sc:Scope}{g:Nb}{cl:List (Str×Addr)}{q:Str}{env:Env}{oz:Option Str}{Q:Env→Shared→Prop}(one:∀n cl,cellsFrom (n+1) sc.names cl=ocl oz n cl)(psh:∀h,pushCells h sc.names=och oz h)(hQ:Q (newEnv sc s.heap.objs.size g (ocl oz s.heap.objs.size cl) q none .none (some env) builtinsNs) {s with heap:=och oz (s.heap.push {cls:=.type "dict",data:=.dict #[]})}) :
  wpAny M A (newFunctionEnv sc g cl [] q none .none (some env)) Q E s:=by
 simp only[newFunctionEnv,Option.isSome_some,if_true]
 refine wpAny_bind (wpAny_alloc ?_)
 refine wpAny_bind (wpAny_layCells _ (λname kind cells=>by cases hkc:kind==NameKind.cell<;>simp[hkc]) _ _ _ _ ?_)
 rw[psh,show({s with heap:=s.heap.push {cls:=.type "dict",data:=.dict #[]}}:Shared).heap.objs.size=s.heap.objs.size+1 from Wt ..,one]
 exact wpAny_pure hQ
end
section
variable{X:Cx}{sc:Scope}{oz:Option Str}{M:Ng}{ix:Nq}{a7:Nf}{σ:St}{H:Hp}{s:Nh}
def BlkG.clos(B:BlkG X sc oz M ix)(I:Inv X a7 σ H s):∀y∈sc.names,y.2=.free→∃c,X.env.cells.lookup y.1=some c:=λy hy hf =>
 I.ok.has y.1 (by rcases B.frees y hy hf with z | z;exact .inl z;exact .inr z)
def Blk.clos(B:Blk X sc M ix)(I:Inv X a7 σ H s):∀y∈sc.names,y.2=.free→∃c,X.env.cells.lookup y.1=some c:=B.g.clos I
def inv_blkG{ex:Nl}{s':Nh}{C:Nb}(B:BlkG X sc oz M ix)(I:Inv X a7 σ H s)(hx:∀ b∈ex,FpOk X a7 H b)(ag:∀ b∈ex,b < s.heap.objs.size)(hC:C=s.heap.objs.size)(hn:s'.heap.Ns C λ_=>none)(hz:∀z,oz=some z→s'.heap.IsCell (C+1) none)(hk:∀b o,s.heap.get? b=some o→s'.heap.get? b=some o)(hg:s'.gens=s.gens)(ho:s'.os=s.os):Inv (zev X sc oz M C a7 ex s H) [] (inner ix σ) H s':=by
 have cls:=B.clos I
 have cin:∀x c,(clOf sc X.env).lookup x=some c→X.env.cells.lookup x=some c:=λx c e=>clOf_in sc.names [] cls (λ_ _ z=>by cases z) e
 have cne:∀x c,(clOf sc X.env).lookup x=some c→c<s.heap.objs.size:=λx c e=>by
  obtain⟨v,q⟩:=I.cell x c (cin x c e)
  exact q.lt
 have zne:∀c:Addr,c<s.heap.objs.size→c≠C+1:=λc h e=>by
  rw[e,hC]at h;exact absurd (Uo h) (Yu _)
 have zin:∀x c,(ocl oz C (clOf sc X.env)).lookup x=some c→(oz=some x∧c=C+1)∨oz≠some x∧(clOf sc X.env).lookup x=some c:=λx c e=>by
  cases oz with
  |none=>exact .inr ⟨λz=>(by cases z),e⟩
  |some zn =>
   have e:((zn,C+1)::clOf sc X.env).lookup x=some c:=e
   rw[Wx]at e
   cases q:x==zn with
   |true=>rw[q]at e;exact .inl ⟨by rw[eq_of_beq q],(Qk e).symm⟩
   |false=>rw[q]at e;exact .inr ⟨λz=>(by rw[Qk z,beq_self_eq_true]at q;cases q),e⟩
 have zout:∀x c,oz≠some x→(clOf sc X.env).lookup x=some c→(ocl oz C (clOf sc X.env)).lookup x=some c:=λx c hx e=>by
  cases oz with
  |none=>exact e
  |some zn =>
   show((zn,C+1)::clOf sc X.env).lookup x=_
   rw[Wx,beq_eq_false_iff_ne.mpr λz=>hx (by rw[z])];exact e
 refine⟨⟨I.ok.mod,?_,I.ok.glob,I.ok.blt,?_,λx y c h1 h2=>?_,λx hx=>?_,λx c h e=>?_,I.ok.hd,I.ok.frames,.inl rfl,λb hb=>?_,I.bs,?_,λb o e hb=>?_,λb hb=>?_,I.stack,I.stkFree⟩,
  ?_,?_,Un.kept hk,⟨_,hn,λj x v e1 e2 e3=>?_⟩,λx c e=>?_,?_,λx c e=>?_,λp hp=>?_,I.hok.kept hk,?_⟩
 ·show (relabel sc X.env).kind=.function
  exact B.kind
 ·show s.heap.objs.size≤C
  rw[hC];exact Qh _
 ·rcases zin x c h1 with ⟨a,b⟩ | ⟨_,a⟩ <;> rcases zin y c h2 with ⟨a',b'⟩ | ⟨_,a'⟩
  ·exact Qk (a.symm.trans a')
  ·exact absurd b (zne c (cne y c a'))
  ·exact absurd b' (zne c (cne x c a))
  ·exact I.ok.inj x y c (cin x c a) (cin y c a')
 ·by_cases q:oz=some x
  ·exact⟨C+1,by show(ocl oz C (clOf sc X.env)).lookup x=_;rw[q];show((x,C+1)::clOf sc X.env).lookup x=_;rw[Wx,beq_self_eq_true]⟩
  ·obtain ⟨c,hc⟩:=zix (env:=X.env) sc.names [] (.inl ((zia B.own hx).resolve_right q))
   exact⟨c,zout x c q hc⟩
 ·have h':oz=some x:=by
   have:(oz==some x)=true:=h
   exact eq_of_beq this
  rcases zin x c e with⟨_,b⟩ | ⟨b,_⟩
  ·show s.heap.objs.size≤c
   rw[b,hC];exact Ww _
  ·exact absurd h' b
 ·have:=ag b hb
  refine⟨λz=>?_,λx c e=>(zin x c e).elim (λq h=>zne b this (h.symm.trans q.2)) λe=>(hx b hb).2.2.2.2.1 x c (cin x c e.2)⟩
  have z':b=C:=z
  rw[z',hC]at this
  exact Yu _ this
 ·exact Zk I.ok.bsz I.sz
 ·rcases (hx b hb).2.2.2.1 with z | z
  ·exact I.ok.noex b o e z
  ·have h1:b < X.base.objs.size:=Qt e
   have h2:=I.ok.bsz
   have h3:X.s₀.heap.objs.size≤b:=z
   exact absurd (Zo h1 (Zk h2 h3)) (Yu _)
 ·intro z
  rcases Qe.mp (I.stkSub b z) with q | q
  ·exact(hx b hb).2.1 q
  ·exact(hx b hb).2.2.1 q
 ·exact ho
 ·rw[hg];exact I.bare
 ·have hj:∃ i,ix[j]?=some (some i)∧σ[i]?=some (some v):=by
   unfold inner at e2
   rw[Qq]at e2
   cases q:ix[j]? with
   |none=>rw[q]at e2;cases e2
   | some o =>
    rw[q]at e2
    cases o with
    |none=>cases e2
    |some i =>
     have ll:(σ[i]?).join=some v:=Qk e2
     cases q2:σ[i]? with
     |none=>rw[q2]at ll;cases ll
     |some w=>rw[q2]at ll;exact⟨i,rfl,by rw[q2];exact congrArg some ll⟩
  obtain⟨i,hi,hσ⟩:=hj
  obtain⟨hN,bo⟩:=B.caps j i x e1 hi
  have hm:=Wf bo
  have dB:=B.frees (x,.free) hm rfl
  obtain⟨m,_,hl⟩:=I.loc
  obtain⟨u,ru,lk⟩:=hl i x v hN hσ (by rcases dB with z | z;exact .inr (.inl z);exact .inr (.inr z))
  refine⟨u,ru,.inr ?_⟩
  obtain⟨c,hc⟩:=zix (env:=X.env) sc.names [] (.inl hm)
  have bZ:=cin x c hc
  have lk2:s.heap.IsCell c (some u):=by
   rcases lk with⟨k,_⟩ | ⟨_,c',e',z⟩
   ·have k':X.env.scope.names.lookup x=some .local:=k
    rcases dB with q | q<;>(rw[show X.env.scope.names.lookup x=_ from q]at k';cases k')
   ·rw[bZ]at e';cases e';exact z
  refine⟨?_,c,zout x c (λq=>by rw[B.zc x q]at bo;cases bo) hc,?_⟩
  ·have e3':Vis (relabel sc X.env) x:=e3
   rcases e3' with z | z | z
   ·exfalso
    have:=@lookup_relabel_local
    have aZ:∀(l:List (Str×NameKind)),l.lookup x=some .free→(l.map λ(y:Str×NameKind)=>match y with | (n,k)=>if(k==NameKind.free&&X.env.scope.kind==.function&&X.env.kindOf n==some .cell) then(n,NameKind.cell) else(n,k)).lookup x≠some .local:=by
     intro l
     induction l with
     |nil=>intro h;cases h
     | cons y r ih =>
      obtain⟨n,k⟩:=y
      intro h
      rw[Wx]at h
      rw[Ql]
      dsimp only
      by_cases hb:(k==NameKind.free&&X.env.scope.kind==.function&&X.env.kindOf n==some .cell)=true
      ·rw [if_pos hb,Wx]
       cases hx:x==n with
       |true=>intro q;cases q
       |false=>rw[hx]at h;exact ih h
      ·rw [if_neg hb,Wx]
       cases hx:x==n with
       |true =>
        rw[hx]at h
        intro q
        have h':k=NameKind.free:=Qk h
        have q':k=NameKind.local:=Qk q
        rw[h']at q';cases q'
       |false=>rw[hx]at h;exact ih h
    exact aZ sc.names bo z
   ·exact .inl z
   ·exact .inr z
  ·obtain ⟨o,de,iJ⟩:=lk2
   exact⟨o,hk c o de,iJ⟩
 ·rcases zin x c e with ⟨a,b⟩ | ⟨_,b⟩
  ·rw[b];exact⟨none,hz x a⟩
  ·obtain ⟨v,o,de,iJ⟩:=I.cell x c (cin x c b)
   exact⟨v,o,hk c o de,iJ⟩
 ·show H C=none
  rw[hC]
  exact I.hok.fresh (Qh _)
 ·rcases zin x c e with ⟨_,b⟩ | ⟨_,b⟩
  ·rw[b];exact I.hok.fresh (by rw[hC];exact Ww _)
  ·exact I.freeC x c (cin x c b)
 ·have cG:p∈X.pn++a7:=by
   have:p∈(X.pn++a7)++[]:=hp
   rwa[Zy]at this
  obtain⟨e,n,ne,nf,d⟩:=I.pin p cG
  refine⟨hk _ _ e,n,?_,λz=>?_,d⟩
  ·intro z
   have z':p.1=C:=z
   have:=Qt e
   rw[z',hC]at this
   exact Yu _ this
  ·rcases Qe.mp (I.stkSub _ z) with q | q
   ·exact ne q
   ·exact nf q
 ·unfold inner
  rw[Qa]
  exact B.len
def inv_blk(B:Blk X sc M ix)(I:Inv X a7 σ H s)(hx:∀b∈ex,FpOk X a7 H b)(ag:∀b∈ex,b<s.heap.objs.size)(hC:C=s.heap.objs.size)(hn:s'.heap.Ns C λ_=>none)(hk:∀b o,s.heap.get? b=some o→s'.heap.get? b=some o)(hg:s'.gens=s.gens)(ho:s'.os=s.os):Inv (zc5 X sc M C a7 ex s H) [] (inner ix σ) H s':=inv_blkG B.g I hx ag hC hn (λ_ h=>by cases h) hk hg ho
def PTs(X:Cx)(ifs:Np)(t:TT):Prop :=
 ∀(a7:Nf) (s:Nh) (σ:St) (H:Hp) (Q:Bool→Hp→Prop),Inv X a7 σ H s→t σ H Q →
  wpAny (model X.prog X.w) X.A (forIn ifs true λc r=>if r=true then do let ok ←isTrue c X.env (eval c X.env);pure (ForInStep.yield ok) else pure (ForInStep.yield r)) (TP X a7 σ Q) X.xe s
def tAll:TT:=λ_ H Q=>Q true H
def zck:PTs X [] tAll:=λ_ _ _ H _ I h=>wpAny_tests_nil ⟨H,I,h⟩
def zdc(h:PT X c t):PTs X [c] t:=λa7 s σ H Q I q=>wpAny_tests_one (h a7 s σ H Q I q)
def compLoop_any{prog:Ni}{w:Nk}{A:Nn}{s:Nh}{elt target iter:Expr}{ifs:Np}{scope:Scope}{pos:Pos}{it aj:Value}{env:Env}{R:Nt}(I:Nat→Shared→Prop)(turn:∀ n s,I n s→wpAny (model prog w) A (pyNext it) (fun r s₁=>match r with
   |none=>R (.ok .next) s₁
   | some v=>wpAny (model prog w) A (letOwnedTupleGo target it v) (fun _ s₁'=>wpAny (model prog w) A (assign target env v) (fun _ s₂ =>
     wpAny (model prog w) A (forIn ifs true λc r=>if r=true then do let ok ←isTrue c env (eval c env);pure (ForInStep.yield ok) else pure (ForInStep.yield r)) (λok s₃ =>
      if ok=true then wpAny (model prog w) A (eval elt env) (λx s₄ =>
       wpAny (model prog w) A (call (.builtin "list.append") [aj,x]) (λ_ s₅=>∃m,m<n∧I m s₅) (λ_ _=>False) s₄) (λ_ _=>False) s₃
      else ∃m,m<n∧I m s₃) (λ_ _=>False) s₂) (λ_ _=>False) s₁') (λ_ _=>False) s₁) (λ_ _=>False) s)(n:Nat)(h:I n s):codeAny (model prog w) A (.compLoop (.ListComp elt [⟨target,iter,ifs,0⟩] scope pos) 0 it aj env) R s:=by
 refine codeAny_loop rfl I (λn s hI=>?_) n h
 show wpAny _ A ((compTurn (.ListComp elt [⟨target,iter,ifs,0⟩] scope pos) 0 it aj env).onRaise (λx=>do noteFrame x env;theTreesLotGoes x)) _ _ s
 refine wpAny_noted ?_
 rw[compTurn_list]
 refine wpAny_bind (wpAny_standAt (wpAny_bind (wpAny_mono (turn n s hI) (λr s₁ h₁=>?_) λ_ _ h'=>h'.elim)))
 cases r with
 |none=>exact wpAny_pure h₁
 | some v =>
  refine wpAny_bind (wpAny_mono h₁ (λ_ s₁' h₁'=>?_) λ_ _ h'=>h'.elim)
  refine wpAny_bind (wpAny_mono h₁' (λ_ s₂ h₂=>wpAny_bind (wpAny_mono h₂ (λok s₃ h₃=>?_) λ_ _ h'=>h'.elim)) λ_ _ h'=>h'.elim)
  cases ok with
  |false=>exact wpAny_pure ⟨rfl,h₃⟩
  |true =>
   exact wpAny_bind (wpAny_bind (wpAny_mono h₃ (λx s₄ h₄=>wpAny_bind (wpAny_mono h₄ (λ_ s₅ h₅=>wpAny_pure (wpAny_pure ⟨rfl,h₅⟩)) λ_ _ h'=>h'.elim)) λ_ _ h'=>h'.elim))
def rLC(g:TG)(tc:TT)(te:TE)(Q:VK)(J:It)(τ:St)(H1:Hp):Prop:=∃W:Nat→Nat→List V→St→Hp→Prop,(∃m,W 0 m [] τ H1)∧∀i m ys τ H,W i m ys τ H →
 (J.stop i H∧∀D,H D=none→Q (.ref D) (upd H D (.lst ys))) ∨
 (J.go i H∧ys.length<sizeLine∧∀x H',J.yld i H x H'→g x τ H' λ τ2 H2=>tc τ2 H2 λb H3=>if b=true then te τ2 H3 λy H4=>∃m',m'<m∧W (i+1) m' (ys++[y]) τ2 H4 else ∃m',m'<m∧W (i+1) m' ys τ2 H3)
def tLC(ix:Nq)(wi:TI)(g:TG)(tc:TT)(te:TE):TE:=λ σ H Q=>wi σ H λJ H1=>rLC g tc te Q J (inner ix σ) H1
def lc_blockG{tg elt iter:Expr}{ifs:Np}{pos:Pos}{g:TG}{tc:TT}{te:TE}{fp:Nl}{it:Nb}{tn:Nat→Heap→Prop}{J:It}{Q:VK}{RR:Value→Addr→Result→Shared→Prop}{E:Nc}(B:BlkG X sc oz M ix)(hc:X.calm=true)(hg:∀C ex s H,PG (zev X sc oz M C a7 ex s H) tg g)(ht:∀C ex s H,PTs (zev X sc oz M C a7 ex s H) ifs tc)(he:∀C ex s H,PE (zev X sc oz M C a7 ex s H) elt te)(I:Inv X a7 σ H s)(T:Turn X.prog X.w X.K tg J fp it tn)(h0:tn 0 s.heap)(hf:∀b∈fp,FpOk X a7 H b)(q:rLC g tc te Q J (inner ix σ) H)(pP:∀D C m ys H' s',Inv X a7 σ (upd H' D (.lst ys)) s'→Q (.ref D) (upd H' D (.lst ys))→s'.heap.Ns C m→upd H' D (.lst ys) C=none→s.heap.objs.size<C→RR (.ref D) C (.ok .next) s') :
  wpAny (model X.prog X.w) X.A (newList []) (λaj s₃=>wpAny (model X.prog X.w) X.A (newFunctionEnv sc X.env.globals (clOf sc X.env) [] X.env.qual none .none (some X.env)) (λcenv s₄ =>
   codeAny (model X.prog X.w) X.A (.compStart (.ListComp elt [⟨tg,iter,ifs,0⟩] sc pos) 0 (.ref it) aj {cenv with scope:=relabel sc X.env}) (RR aj cenv.locals) s₄) E s₃) E s:=by
 refine wpAny_newObj_type (newEnv_own B.one B.psh ?_)
 dsimp only
 generalize hD:s.heap.objs.size=D
 generalize jo:s.heap.push {cls:=.type "list",dict:=none,data:=.seq ([]:List Value).toArray}=g2
 generalize uC:och oz (g2.push {cls:=.type "dict",data:=.dict #[]})=h₁
 have kp:∀(q:Nm) (b:Nb) (o:Obj),q.get? b=some o→(och oz q).get? b=some o:=λq b o e=>by
  cases oz with
  |none=>exact e
  |some _=>exact Qj _ e
 have hns₁:h₁.Ns g2.objs.size (λ_=>none):=uC▸(Heap.Ns.new g2 (.type "dict")).keeps λb o e=>kp _ b o e
 have hz₁:∀z,oz=some z→h₁.IsCell (g2.objs.size+1) none:=λz ez=>by
  have e:(g2.push {cls:=.type "dict",data:=.dict #[]}).objs.size=g2.objs.size+1:=Wt ..
  rw[←uC,←e,ez]
  exact⟨_,Zf _ rfl,rfl⟩
 have hC:g2.objs.size=D+1:=by rw[←jo,Wt,hD]
 have k2:∀b o,s.heap.get? b=some o→g2.get? b=some o:=λb o e=>by rw[←jo];exact Qj _ e
 have I3:Inv X a7 σ H {s with heap:=g2}:=I.kept (t':=s.toks) k2
 have HD:H D=none:=I.hok.fresh (by rw[hD];exact Qh _)
 have fD:FpOk X a7 H D:=I.fpOk (by rw[hD];exact Qh _) HD
 have D2:g2.get? D=some {cls:=.type "list",dict:=none,data:=.seq ([]:List Value).toArray}:=by rw[←jo,←hD];exact Zf _ rfl
 have k1:∀b o,g2.get? b=some o→h₁.get? b=some o:=λb o e=>uC▸kp _ b o (Qj _ e)
 have fpx:∀b∈D::fp,FpOk X a7 H b:=λb hb=>by
  rcases Qe.mp hb with e | e
  ·rw[e];exact fD
  ·exact hf b e
 have fplt:∀b∈D::fp,b<g2.objs.size:=λb hb=>by
  rcases Qe.mp hb with e | e
  ·rw[e,hC];exact Ys _
  ·obtain ⟨o,q,_⟩:=T.obj _ _ h0 b e
   exact Qt (k2 b o q)
 have fpD:D∉fp:=λhm=>by
  obtain⟨o,q,_⟩:=T.obj _ _ h0 D hm
  have:=Qt q
  rw[hD]at this
  exact Yu _ this
 generalize aG:zev X sc oz M g2.objs.size a7 (D::fp) {s with heap:=g2} H=Y
 have IY:Inv Y [] (inner ix σ) H {s with heap:=h₁,toks:=s.toks+([]:List (Str×Value)).length}:=by
  rw[←aG]
  exact inv_blkG B I3 fpx fplt rfl hns₁ hz₁ k1 rfl rfl
 have Yg:=aG▸hg g2.objs.size (D::fp) {s with heap:=g2} H
 have Yt:=aG▸ht g2.objs.size (D::fp) {s with heap:=g2} H
 have Ye:=aG▸he g2.objs.size (D::fp) {s with heap:=g2} H
 have eP:Y.prog=X.prog:=by rw[←aG];rfl
 have eW:Y.w=X.w:=by rw[←aG];rfl
 have eK:Y.K=X.K:=by rw[←aG];rfl
 have eA:Y.A=X.A:=by rw[←aG];rfl
 have eC:Y.calm=true:=by rw[←aG];exact hc
 have eE:Y.env=compEnvC sc (ocl oz g2.objs.size (clOf sc X.env)) g2.objs.size X.env:=by rw[←aG];rfl
 have eX:Y.xe=λ_ _=>False:=by rw[←aG];rfl
 have eEx:Y.ex=D::fp:=by rw[←aG];rfl
 have eFs:Y.fs=frs X.stack:=by rw[←aG];rfl
 have ePn:Y.pn=X.pn++a7:=by rw[←aG];rfl
 have eL:Y.env.locals=g2.objs.size:=by rw[eE];rfl
 have vP:Y.H₀=H:=by rw[←aG];rfl
 have qc:Y.s₀={s with heap:=g2}:=by rw[←aG];rfl
 have fY:∀{H':Hp} {pl:Nf} {b:Nb},b∈D::fp→H' b=none→(∀p∈pl,p.1≠b)→FpOk Y pl H' b:=λ{H' pl b} hb hn hp=>by
  obtain⟨f0,f1,f2,f3,f4,f5⟩:=fpx b hb
  refine⟨hn,?_,?_,.inl (by rw[eEx];exact hb),IY.ok.exf b (by rw[eEx];exact hb) |>.2,λp cG=>?_⟩
  ·rw[eL];exact Zc (fplt b hb)
  ·rw [eFs]
   intro z
   rcases Qe.mp (I3.stkSub b z) with q | q
   ·exact f1 q
   ·exact f2 q
  ·rw [ePn] at cG
   rcases Qi.mp cG with z | z
   ·exact f5 p z
   ·exact hp p z
 obtain⟨W,⟨m0,w0⟩,turn⟩:=q
 have loop:∀ sN:Shared,sN={ s with heap:=h₁,toks:=s.toks+([]:List (Str×Value)).length } →
   codeAny (model X.prog X.w) X.A (.compLoop (.ListComp elt [⟨tg,iter,ifs,0⟩] sc pos) 0 (.ref it) (.ref D) (compEnvC sc (ocl oz g2.objs.size (clOf sc X.env)) g2.objs.size X.env)) (RR (.ref D) g2.objs.size) sN:=by
  rintro sN rfl
  refine compLoop_any (λn s'=>Ex6 λi τ H' ys a8 k=>Aj7 (Inv Y [] τ H' s') (tn i s'.heap) (∀b∈D::fp,H' b=none) (s'.heap.get? D=some {cls:=.type "list",data:=.seq (a8:Nj).toArray k}) (Vals ys a8) (ys.length≤sizeLine) (W i n ys τ H')) ?_ m0
   ⟨0,inner ix σ,H,[],[],0,IY,T.keep _ _ _ h0 λb _ o e=>k1 b o (k2 b o e),λb hb=>(fpx b hb).1,k1 _ _ D2,.nil,Zg _,w0⟩
  rintro n s5 ⟨i,τ,H5,ys,a8,k,I5,t5,n5,d5,v5,z5,w5⟩
  have oD:∀{s':Nh} {its':Nj} {k':Nat},s'.heap.get? D=some {cls:=.type "list",data:=.seq its'.toArray k'}→∀b∈[D],∃o,s'.heap.get? b=some o∧∀v,o.data≠.cell v:=λ{s' its' k'} e b hb=>by
   rw[Qb.mp hb]
   exact⟨_,e,λv z=>by cases z⟩
  have lr:Inv Y ([]++zcr [D] s5.heap) τ H5 s5:=I5.pinned (λb hb=>fY (by rw[Qb.mp hb];exact Qc) (n5 b (by rw[Qb.mp hb];exact Qc)) (by simp)) (oD d5)
  have pD:∀p∈zcr [D] s5.heap,p.1=D∧p.2={cls:=.type "list",data:=.seq a8.toArray k}:=λp hp=>by
   obtain⟨e1,e2⟩:=zgf hp
   have eJ:p.1=D:=Qb.mp e1
   rw[eJ,d5]at e2
   exact⟨eJ,(Qk e2).symm⟩
  have fN:∀{H':Hp},(∀b∈fp,H' b=none)→∀b∈fp,FpOk Y ([]++zcr [D] s5.heap) H' b:=λhn b hb=>fY (Qg _ hb) (hn b hb) λp hp z=>by
   rw[Jw]at hp
   rw[(pD p hp).1]at z
   exact fpD (z▸hb)
  rcases turn i n ys τ H5 w5 with⟨stop,qn⟩ | ⟨go,zl,step⟩
  ·have h6:=T.done Y eP eW eK eC i _ s5 τ H5 (fun _ _=>False) lr (fN fun b hb=>n5 b (Qg _ hb)) t5 stop
   rw[eA]at h6
   refine thn h6 λr s6 ⟨hr,I6⟩=>?_
   subst hr
   have d6:s6.heap.get? D=some {cls:=.type "list",data:=.seq a8.toArray k}:=by
    have hp:=zb2 (fp:=[D]) (Qb.mpr rfl) d5
    exact(I6.pin (D,_) (Qn _ hp)).1
   have H5D:H5 D=none:=n5 D Qc
   obtain⟨mL,nL,_⟩:=I6.loc
   rw[eL]at nL
   have CD:g2.objs.size≠D:=by rw[hC];exact Kx _
   refine pP D _ mL ys H5 s6 ?_ (qn D H5D) nL ?_ (by rw[hC,hD];exact Ys _)
   ·have u6:=I6.base
    rw[eFs,eEx,vP,qc]at u6
    refine I3.call' (ch:=D::fp) (I6.os.trans (by rw[qc])) ⟨u6.keep,u6.slot,λb o e n hx=>?_,u6.there,λb xs e=>?_,λb o u e=>?_,λb ps e=>?_⟩ ?_ I6.bare λb hb=>?_
    ·rw[zae (λz=>hx (by rw[z];exact Qc))];exact u6.free b o e n hx
    ·rw[zae (zaa e HD)];exact u6.tups b xs e
    ·rw[zae (zaa e HD)];exact u6.frzs b o u e
    ·rw[zae (zaa e HD)];exact u6.tbls b ps e
    ·have mw:=I6.hok
     rw[eP,eW]at mw
     intro b u e
     by_cases hb:b=D
     ·subst hb
      rw[zac]at e
      cases e
      exact⟨z5,a8,k,v5,d6⟩
     ·rw [zae hb] at e
      exact(mw b u e).stay (λc v _ q=>q) (λc q=>by rw[zae (zaa q H5D)];exact q) λc xs q=>by rw[zae (zaa q H5D)];exact q
    ·obtain ⟨f0,f1,f2,f3,f4,f5⟩:=fpx b hb
     exact⟨f3,f1,f4,f5⟩
   ·rw [zae CD]
    have:=I6.free
    rw[eL]at this
    exact this
  ·have h6:=T.item Y eP eW eK eC i _ s5 τ H5 (fun _ _=>False) lr (fN fun b hb=>n5 b (Qg _ hb)) t5 go
   rw[eA]at h6
   refine thn h6 λr s6 ⟨u,hr,h7⟩=>?_
   subst hr
   refine thn h7 λ_ s7 ⟨x,H7,I7,r7,y7,t7,n7⟩=>?_
   have wB:=I7.pinned (fN n7) (T.obj _ _ t7)
   have h8:=Yg _ s7 τ H7 x u _ wB r7 (step x H7 y7)
   rw[eP,eW,eA,eX,eE]at h8
   refine thn h8 λ_ s8 ⟨τ8,H8,I8,q8⟩=>?_
   have h9:=Yt _ s8 τ8 H8 _ I8 q8
   rw[eP,eW,eA,eX,eE]at h9
   refine thn h9 λok s9 ⟨H9,I9,q9⟩=>?_
   have again:∀{τ':St} {H':Hp} {s':Nh},Inv Y (([]++zcr [D] s5.heap)++zcr fp s7.heap) τ' H' s'→s'.heap.get? D=some {cls:=.type "list",data:=.seq a8.toArray k}∧H' D=none∧tn (i+1) s'.heap∧∀b∈fp,H' b=none:=λ{τ' H' s'} I'=>by
    have pp:∀{b:Nb} {o:Obj},b∈fp→s7.heap.get? b=some o→s'.heap.get? b=some o∧H' b=none:=λ{b o} hb e =>
     let z:=I'.pin (b,o) (Qn _ (Qn _ (zb2 hb e)))
     ⟨z.1,z.2.1⟩
    have hp:=zb2 (fp:=[D]) (Qb.mpr rfl) d5
    have z:=I'.pin (D,_) (Qn _ (Qo _ hp))
    refine⟨z.1,z.2.1,T.keep _ _ _ t7 λb hb o e=>(pp hb e).1,λb hb=>?_⟩
    obtain⟨o,e,_⟩:=T.obj _ _ t7 b hb
    exact(pp hb e).2
   have drop:∀{pl:Nf} {τ':St} {H':Hp} {s':Nh},Inv Y pl τ' H' s'→Inv Y [] τ' H' s':=λI'=>I'.pins_of (by simp)
   cases ok with
   |false =>
    rw[if_neg (by decide)]at q9 ⊢
    obtain⟨m',hm,w9⟩:=q9
    obtain⟨d9,H9D,t9,n9⟩:=again I9
    exact⟨m',hm,i+1,τ8,H9,ys,a8,k,drop I9,t9,λb hb=>(Qe.mp hb).elim (λe=>e▸H9D) (n9 b),d9,v5,z5,w9⟩
   | true =>
    rw[if_pos rfl]at q9 ⊢
    have iQ:=Ye _ s9 τ8 H9 _ I9 q9
    rw[eP,eW,eA,eX,eE]at iQ
    refine thn iQ λy jz ⟨yv,gH,rV,ql,m',hm,w10⟩=>?_
    obtain⟨vS,H10D,t10,n10⟩:=again rV
    refine call_meets F.slot_list_append ⟨_,vS,rfl⟩ F.entry_list_append (F.args_list_append_2 _ _) (PySem.list_append D a8.toArray k y (by rw[Qu,←v5.length];assumption)) ⟨vS,?_⟩
    have q:=PySem.IsL.update vS (λa=>a.push y)
    have vQ:(a8.toArray.push y)=(a8++[y]).toArray:=by simp
    rw[vQ]at q
    have kk:∀b o,b≠D→jz.heap.get? b=some o→(jz.heap.update D (Obj.mapSeq λa=>a.push y)).get? b=some o:=λb o hb e=>(Ue jz.heap (Obj.mapSeq λa=>a.push y) (Qw hb)).trans e
    obtain⟨g0,g1,g2',g3,g4,g5⟩:=fY (pl:=[]) (H':=gH) (b:=D) Qc H10D (by simp)
    have rT:=(drop rV).turned (h':=jz.heap.update D (Obj.mapSeq λa=>a.push y)) (t':=jz.toks) (it:=D) kk H10D g1 g3 g4 g5
    exact⟨m',hm,i+1,τ8,gH,ys++[yv],a8++[y],_,rT,T.keep _ _ _ t10 λb hb o e=>kk b o (λz=>fpD (z▸hb)) e,λb hb=>(Qe.mp hb).elim (λe=>e▸H10D) (n10 b),q,v5.append (.cons ql .nil),
     by rw[Qs,Xj];assumption,w10⟩
 exact codeAny_compStart_list (loop _ rfl) (T.self _ 0 _ _ _ (T.keep _ _ _ h0 λb _ o e=>k1 b o (k2 b o e)) (loop _ rfl))
def lc_block{tg elt iter:Expr}{ifs:Np}{pos:Pos}{g:TG}{tc:TT}{te:TE}{fp:Nl}{it:Nb}{tn:Nat→Heap→Prop}{J:It}{Q:VK}{RR:Value→Addr→Result→Shared→Prop}{E:Nc}(B:Blk X sc M ix)(hc:X.calm=true)(hg:∀C ex s H,PG (zc5 X sc M C a7 ex s H) tg g)(ht:∀C ex s H,PTs (zc5 X sc M C a7 ex s H) ifs tc)(he:∀C ex s H,PE (zc5 X sc M C a7 ex s H) elt te)(I:Inv X a7 σ H s)(T:Turn X.prog X.w X.K tg J fp it tn)(h0:tn 0 s.heap)(hf:∀b∈fp,FpOk X a7 H b)(q:rLC g tc te Q J (inner ix σ) H)(pP:∀D C m ys H' s',Inv X a7 σ (upd H' D (.lst ys)) s'→Q (.ref D) (upd H' D (.lst ys))→s'.heap.Ns C m→upd H' D (.lst ys) C=none→s.heap.objs.size<C→RR (.ref D) C (.ok .next) s') :
  wpAny (model X.prog X.w) X.A (newList []) (λaj s₃=>wpAny (model X.prog X.w) X.A (newFunctionEnv sc X.env.globals (clOf sc X.env) [] X.env.qual none .none (some X.env)) (λcenv s₄ =>
   codeAny (model X.prog X.w) X.A (.compStart (.ListComp elt [⟨tg,iter,ifs,0⟩] sc pos) 0 (.ref it) aj {cenv with scope:=relabel sc X.env}) (RR aj cenv.locals) s₄) E s₃) E s:=lc_blockG B.g hc hg ht he I T h0 hf q pP
def Inv.letgo{C:Nb}{m:Nd}{h':Nm}{s₀:Nm}(I:Inv X a7 σ H s)(hn:s.heap.Ns C m)(hC:H C=none)(ag:X.env.locals<s₀.objs.size)(gC:∀x c,X.env.cells.lookup x=some c→c<s₀.objs.size)(hp:∀p∈X.pn++a7,p.1<s₀.objs.size)(av:X.s₀.heap.objs.size≤s₀.objs.size)(hc:s₀.objs.size<C)(hs:Heap.SameBut C s.heap h'):Inv X a7 σ H {s with heap:=h'} :=
 I.turned (t':=s.toks) (it:=C) (λb o hb e=>(hs.2 b hb).trans e) hC (Yc (Wp ag hc)) (.inr (Zk av (Ug hc))) (λx c e=>Zc (Wp (gC x c e) hc)) λp q=>Zc (Wp (hp p q) hc)
def Inv.cl_lt(I:Inv X a7 σ H s):∀x c,X.env.cells.lookup x=some c→c<s.heap.objs.size:=λx c e=>by
 obtain⟨v,q⟩:=I.cell x c e
 exact q.lt
def Inv.pin_lt(I:Inv X a7 σ H s):∀p∈X.pn++a7,p.1<s.heap.objs.size:=λp hp=>Qt (I.pin p hp).1
def pe_lcC(B:BlkG X sc oz M ix)(hc:X.calm=true)(hi:PI X tg iter wi)(hg:∀C a7 ex s H,PG (zev X sc oz M C a7 ex s H) tg g)(ht:∀C a7 ex s H,PTs (zev X sc oz M C a7 ex s H) ifs tc)(he:∀C a7 ex s H,PE (zev X sc oz M C a7 ex s H) elt te)(hs:∀x,foldedSetIterable iter X.env x=pure x:=by intro _;rfl):PE X (.ListComp elt [⟨tg,iter,ifs,0⟩] sc pos) (tLC ix wi g tc te):=by
 intro a7 s σ H Q I h
 rw[eval_ListComp]
 refine wpAny_comprehension_free (use:=none) rfl hs (zcp (B.clos I)) B.kind B.names (thn (hi a7 s σ H _ I h) λv s1 h1=>thn h1 λitv s2 h2=>?_)
 obtain⟨it,fp,tn,J,H2,e,I2,T,c8,f2,q⟩:=h2
 subst e
 refine lc_blockG (RR:=λaj C=>compPost (model X.prog X.w) X.A X.xe none (EP X a7 σ Q) aj C) B hc (hg · a7) (ht · a7) (he · a7) I2 T c8 f2 q ?_
 intro D C m ys H' s' I' q' hn hC ag
 refine⟨m,hn,λh' ai=>⟨.ref D,_,I'.letgo hn hC I2.lt I2.cl_lt I2.pin_lt I2.sz ag ai,rfl,q'⟩⟩
def zg8(B:Blk X sc M ix)(hc:X.calm=true)(hi:PI X tg iter wi)(hg:∀C a7 ex s H,PG (zc5 X sc M C a7 ex s H) tg g)(ht:∀C a7 ex s H,PTs (zc5 X sc M C a7 ex s H) ifs tc)(he:∀C a7 ex s H,PE (zc5 X sc M C a7 ex s H) elt te)(hs:∀x,foldedSetIterable iter X.env x=pure x:=by intro _;rfl):PE X (.ListComp elt [⟨tg,iter,ifs,0⟩] sc pos) (tLC ix wi g tc te):=pe_lcC B.g hc hi hg ht he hs
def ps_lc(hN:X.N.Nodup)(dj:X.N[i]?=some y)(hy:X.env.scope.names.lookup y=some .local)(B:Blk X sc M ix)(hc:X.calm=true)(hi:PI X tg iter wi)(hg:∀C a7 ex s H,PG (zc5 X sc M C a7 ex s H) tg g)(ht:∀C a7 ex s H,PTs (zc5 X sc M C a7 ex s H) ifs tc)(he:∀C a7 ex s H,PE (zc5 X sc M C a7 ex s H) elt te)(lK:swapsWith (.ListComp elt [⟨tg,iter,ifs,0⟩] sc pos) (some (.Name y py)) spos.line X.env=pure true)(hs:∀x,foldedSetIterable iter X.env x=pure x:=by intro _;rfl):PS X (.Assign [.Name y py] (.ListComp elt [⟨tg,iter,ifs,0⟩] sc pos) spos) (tAsg (tLC ix wi g tc te) (gName i)):=by
 intro a7 s σ H D' I h
 rw[exec_Assign_Name_used _ _ _ _ lK]
 refine wpAny_bind (wpAny_standAt (wpAny_bind ?_))
 show wpAny _ X.A (do let _ ←comprehension (.ListComp elt [⟨tg,iter,ifs,0⟩] sc pos) sc X.env _ (newList []) false (eval iter X.env) (some (assign (.Name y py) X.env))) _ _ s
 refine wpAny_bind (wpAny_mono (wpAny_comprehension_free (use:=some (assign (.Name y py) X.env)) (Q:=λ_ s'=>SP X a7 D' .next s') rfl hs (zcp (B.clos I)) B.kind B.names
  (thn (hi a7 s σ H _ I h) λv s1 h1=>thn h1 λitv s2 h2=>?_)) (λ_ s' hq=>wpAny_pure (wpAny_pure hq)) λ_ _ e=>e)
 obtain⟨it,fp,tn,J,H2,e,I2,T,c8,f2,q⟩:=h2
 subst e
 refine lc_block (RR:=λaj C=>compPost (model X.prog X.w) X.A X.xe (some (assign (.Name y py) X.env)) (λ_ s'=>SP X a7 D' .next s') aj C) B hc (hg · a7) (ht · a7) (he · a7) I2 T c8 f2 q ?_
 intro D C m ys H' s' I' q' hn hC ag
 show wpAny _ X.A (assign (.Name y py) X.env (.ref D)) _ _ s'
 refine wpAny_assign_Name (zf3 I' hN dj (.inl hy) (v:=.ref D) rfl (λmt wC ⟨a,sb,ha⟩=>?_) (.inr hy))
 have aC:C≠a:=by
  rcases ha with z | z
  ·rw[z];exact Yc (Wp I2.lt ag)
  ·exact Yc (Wp (I2.cl_lt _ _ z) ag)
 have bm:=hn.sameBut sb aC
 exact⟨m,bm,λh' ai=>⟨_,_,wC.letgo bm hC I2.lt I2.cl_lt I2.pin_lt I2.sz ag ai,q'⟩⟩
end
end L2
end
section
namespace Tm
open PySem PyProof.Rows
def gallopT:Bool→Keyed→Array Keyed→Nat→Nat→Nat→StateT SortSt Sem (Option Nat):=sortPriv% PySem.Builtin.gallop
def mergeLoT:Array Keyed→Array Keyed→StateT SortSt Sem (Array Keyed):=sortPriv% PySem.Builtin.mergeLo
def mergeHiT:Array Keyed→Array Keyed→StateT SortSt Sem (Array Keyed):=sortPriv% PySem.Builtin.mergeHi
section
variable{σ α β:Type}{M:Model}{A:Nn}{E:Nc}{s:Nh}{Q:α→σ→Prop}{st:σ}{c:Prop}[Decidable c]
def zc2(h:∀Q0:α→σ→Prop,(∀r ae,Q r ae→Q0 r ae)→wpS M A E s m Q0 st):wpS M A E s m Q st:=h Q λ_ _ z=>z
def jp_if{f:Unit→β→StateT σ Sem α}(h:∀z,wpS M A E s (f () z) Q st):wpS M A E s (if c then f () x else f () y) Q st:=by
 split
 ·exact h _
 ·exact h _
def zan{x y:StateT σ Sem α}(h1:c→wpS M A E s x Q st)(h2:¬c→wpS M A E s y Q st):wpS M A E s (if c then x else y) Q st:=by
 split
 next z=>exact h1 z
 next z=>exact h2 z
end
section
variable{prog:Ni}{w:Nk}{A:Nn}{E:Nc}{s:Nh}{kd:SortKind}{a₀:Array Keyed}
def Cmp(prog:Ni)(w:Nk)(A:Nn)(E:Nc)(s:Nh)(kd:SortKind)(a₀:Array Keyed):Prop :=
 ∀(x y:Keyed) (st:SortSt) (Q:Option Bool→SortSt→Prop),x∈a₀.toList→y∈a₀.toList→kindOf st=kd→(∀b,Q (some b) st)→wpS (model prog w) A E s (lt' x y) Q st
def Of(a₀ xs:Array Keyed):Prop:=∀(i:Nat) (p:Keyed),xs[i]?=some p→p∈a₀.toList
def za0{arr:Array Keyed}{i:Nat}{p:Keyed}{Q:Keyed→SortSt→Prop}{st:SortSt}(h:arr[i]?=some p)(q:Q p st):wpS (model prog w) A E s (elem' arr i) Q st:=by
 rw[elem'_eq,h];exact wpS_pure q
def beyondT(left:Bool)(ky:Keyed)(arr:Array Keyed)(i:Nat):StateT SortSt Sem (Option Bool):=do
 let x ←elem' arr i
 if left=true then lt' x ky else do
  let r ←lt' ky x
  pure (r.map λz=>!z)
def wpS_beyond{left:Bool}{ky:Keyed}{arr:Array Keyed}{i:Nat}{Q:Option Bool→SortSt→Prop}{st:SortSt}(C:Cmp prog w A E s kd a₀)(hk:kindOf st=kd)(hO:Of a₀ arr)(hy:ky∈a₀.toList)(hi:i<arr.size)(q:∀b,Q (some b) st):wpS (model prog w) A E s (beyondT left ky arr i) Q st:=by
 have e:=getElem?_pos arr i hi
 unfold beyondT
 refine wpS_bind (za0 e ?_)
 have m:=hO _ _ e
 cases left with
 |true=>exact C _ _ _ _ m hy hk q
 |false=>exact wpS_bind (C _ _ _ _ hy m hk λb=>wpS_pure (q _))
def zcj{left:Bool}{ky:Keyed}{arr:Array Keyed}{base n hint:Nat}{Q:Option Nat→SortSt→Prop}{st:SortSt}(C:Cmp prog w A E s kd a₀)(hk:kindOf st=kd)(hO:Of a₀ arr)(hy:ky∈a₀.toList)(hb:base+n≤arr.size)(hh:hint<n)(h:∀k,k≤n→Q (some k) st):wpS (model prog w) A E s (gallopT left ky arr base n hint) Q st:=by
 have ask:∀{i:Nat} {Q':Option Bool→SortSt→Prop},i<n→(∀b,Q' (some b) st)→wpS (model prog w) A E s (beyondT left ky arr (base+i)) Q' st:=λ{i Q'} hi q=>wpS_beyond C hk hO hy (by omega) q
 have last:∀(f:Nat→(Option (Option Nat)×Nat×Nat)→StateT SortSt Sem (ForInStep (Option (Option Nat)×Nat×Nat))) (lo hi:Nat),lo≤hi→hi≤n →
   (∀x l r Q',l≥r→Q' (ForInStep.done (none,l,r)) st→wpS (model prog w) A E s (f x (none,l,r)) Q' st) →
   (∀x l r Q',¬l≥r→r≤n→Q' (ForInStep.yield (none,l+(r-l)/2+1,r)) st→Q' (ForInStep.yield (none,l,l+(r-l)/2)) st→wpS (model prog w) A E s (f x (none,l,r)) Q' st) →
   wpS (model prog w) A E s (forIn [:n] (none,lo,hi) f) (λc ae=>ae=st∧∃k,c=(none,k,k)∧k≤n) st:=by
  intro f lo hi h1 h2 f1 f2
  refine wpS_forRange (I:=λx c ae=>Aj2 (ae=st) (Ex2 λl r=>Aj4 (c=(none,l,r)) (l≤r) (r≤n) (r-l≤n-x))) ?step ?fin ?init
  case init=>exact⟨rfl,lo,hi,rfl,h1,h2,by omega⟩
  case fin =>
   rintro c ae ⟨rfl,l,r,rfl,a1,a2,a3⟩
   have:l=r:=by omega
   subst this
   exact⟨rfl,l,rfl,a2⟩
  case step =>
   rintro x c ae _ hx ⟨rfl,l,r,rfl,a1,a2,a3⟩
   by_cases dZ:l≥r
   ·refine f1 x l r _ dZ ?_
    have:l=r:=Nat.le_antisymm a1 dZ
    subst this
    exact⟨rfl,l,rfl,a2⟩
   ·exact f2 x l r _ dZ a2 ⟨rfl,_,_,rfl,by omega,a2,by omega⟩ ⟨rfl,_,_,rfl,Yl _ _,by omega,by omega⟩
 unfold gallopT
 refine wpS_bind (ask (i:=hint) hh λb0=>?_)
 cases b0 with
 | true =>
  refine wpS_bind (wpS_mono (wpS_forRange
   (I:=λx c ae=>Aj2 (ae=st) (Ex2 λla of=>Aj4 (c=(none,la,of)) (hint+la<n) (la<of) (x<of)))
   (Q:=λc ae=>Aj2 (ae=st) (Ex2 λla of=>Aj3 (c=(none,la,of)) (hint+la<n) (la<of))) ?step ?fin ?init) ?post)
  case init=>exact⟨rfl,0,1,rfl,hh,Qh _,Qh _⟩
  case fin =>
   rintro c ae ⟨rfl,la,of,rfl,a2,a3,a4⟩
   exact⟨rfl,la,of,rfl,a2,a3⟩
  case step =>
   rintro x c ae _ hx ⟨rfl,la,of,rfl,a2,a3,a4⟩
   dsimp only
   refine zan (λ_=>wpS_pure ⟨rfl,la,of,rfl,a2,a3⟩) λdZ=>wpS_bind (ask (i:=hint+of) (by omega) λb=>?_)
   cases b with
   |true=>exact wpS_pure ⟨rfl,of,2*of+1,rfl,by omega,by omega,by omega⟩
   |false=>exact wpS_pure ⟨rfl,la,of,rfl,a2,a3⟩
  case post =>
   rintro c ae ⟨rfl,la,of,rfl,a2,a3⟩
   refine wpS_bind (wpS_mono (last _ (hint+la+1) (hint+min of (n-hint)) (by omega) (by omega) ?_ ?_) ?_)
   ·intro x l r Q' dZ q
    exact zan (λ_=>wpS_pure q) λz=>absurd dZ z
   ·intro x l r Q' dZ hr q1 q2
    refine zan (λz=>absurd z dZ) λ_=>wpS_bind (ask (i:=l+(r-l)/2) (by omega) λb=>?_)
    cases b with
    |true=>exact wpS_pure q1
    |false=>exact wpS_pure q2
   ·rintro c ae ⟨rfl,k,rfl,b1⟩
    exact wpS_pure (h k b1)
 | false =>
  refine wpS_bind (wpS_mono (wpS_forRange
   (I:=λx c ae=>Aj2 (ae=st) (Ex2 λla of=>Aj4 (c=(none,la,of)) (la≤hint) (la<of) (x<of)))
   (Q:=λc ae=>Aj2 (ae=st) (Ex2 λla of=>Aj3 (c=(none,la,of)) (la≤hint) (la<of))) ?step ?fin ?init) ?post)
  case init=>exact⟨rfl,0,1,rfl,Zg _,Qh _,Qh _⟩
  case fin =>
   rintro c ae ⟨rfl,la,of,rfl,a2,a3,a4⟩
   exact⟨rfl,la,of,rfl,a2,a3⟩
  case step =>
   rintro x c ae _ hx ⟨rfl,la,of,rfl,a2,a3,a4⟩
   dsimp only
   refine zan (λ_=>wpS_pure ⟨rfl,la,of,rfl,a2,a3⟩) λdZ=>wpS_bind (ask (i:=hint-of) (by omega) λb=>?_)
   cases b with
   |true=>exact wpS_pure ⟨rfl,la,of,rfl,a2,a3⟩
   |false=>exact wpS_pure ⟨rfl,of,2*of+1,rfl,by omega,by omega,by omega⟩
  case post =>
   rintro c ae ⟨rfl,la,of,rfl,a2,a3⟩
   refine wpS_bind (wpS_mono (last _ (hint+1-min of (hint+1)) (hint-la) (by omega) (by omega) ?_ ?_) ?_)
   ·intro x l r Q' dZ q
    exact zan (λ_=>wpS_pure q) λz=>absurd dZ z
   ·intro x l r Q' dZ hr q1 q2
    refine zan (λz=>absurd z dZ) λ_=>wpS_bind (ask (i:=l+(r-l)/2) (by omega) λb=>?_)
    cases b with
    |true=>exact wpS_pure q1
    |false=>exact wpS_pure q2
   ·rintro c ae ⟨rfl,k,rfl,b1⟩
    exact wpS_pure (h k b1)
end
section
variable{prog:Ni}{w:Nk}{A:Nn}{E:Nc}{s:Nh}{kd:SortKind}{a₀:Array Keyed}
variable{all out ra rb seg:List Keyed}
def Pm(all out ra rb:List Keyed):Prop:=(out++(ra++rb)).Perm all
def Pm.appA(j:Pm all out (seg++ra) rb):Pm all (out++seg) ra rb:=by
 unfold Pm at *
 rw[Qy,←Qy seg];exact j
def Pm.appB(j:Pm all out ra (seg++rb)):Pm all (out++seg) ra rb:=by
 unfold Pm at *
 rw[Qy]
 refine List.Perm.trans (Ya _ ?_) j
 rw[←Qy,←Qy]
 exact Yw.append_right _
def drop_cons{a:Array Keyed}{i:Nat}(h:i<a.size):a.toList.drop i=a[i]::a.toList.drop (i+1):=by
 rw[Ki (by simpa using h)];simp
def zc3{a:Array Keyed}{i:Nat}:(a.extract i a.size).toList=a.toList.drop i:=by
 simp[Qx]
def zgs{a:Array Keyed}{i k:Nat}(h:i+k≤a.size):(a.extract i (i+k)).toList++a.toList.drop (i+k)=a.toList.drop i:=by
 rw[Array.toList_extract,Kh]
 have:i+k-i=k:=by omega
 rw[this,←List.drop_drop,Yz]
abbrev Pa(a b o:Array Keyed)(i k:Nat):Prop:=Pm (a.toList++b.toList) o.toList (a.toList.drop i) (b.toList.drop k)
variable{a b o:Array Keyed}{i k n:Nat}
def Pa.pushA(j:Pa a b o i k)(h:i<a.size):Pa a b (o.push a[i]) (i+1) k:=by
 have:=Pm.appA (seg:=[a[i]]) (ra:=a.toList.drop (i+1)) (by rw[Xi,←drop_cons h];exact j)
 rwa[←Jl]at this
def Pa.pushB(j:Pa a b o i k)(h:k<b.size):Pa a b (o.push b[k]) i (k+1):=by
 have:=Pm.appB (seg:=[b[k]]) (rb:=b.toList.drop (k+1)) (by rw[Xi,←drop_cons h];exact j)
 rwa[←Jl]at this
def Pa.runA(j:Pa a b o i k)(h:i+n≤a.size):Pa a b (o++a.extract i (i+n)) (i+n) k:=by
 have:=Pm.appA (seg:=(a.extract i (i+n)).toList) (ra:=a.toList.drop (i+n)) (by rw[zgs h];exact j)
 show Pm _ (o++a.extract i (i+n)).toList _ _
 rw[Yb];exact this
def Pa.runB(j:Pa a b o i k)(h:k+n≤b.size):Pa a b (o++b.extract k (k+n)) i (k+n):=by
 have:=Pm.appB (seg:=(b.extract k (k+n)).toList) (rb:=b.toList.drop (k+n)) (by rw[zgs h];exact j)
 show Pm _ (o++b.extract k (k+n)).toList _ _
 rw[Yb];exact this
def Pa.end1(j:Pa a b o i k):(o++a.extract i++b.extract k).toList.Perm (a.toList++b.toList):=by
 rw[Yb,Yb,zc3,zc3,Qy];exact j
def Pa.end2(j:Pa a b o i k):(o++b.extract k++a.extract i).toList.Perm (a.toList++b.toList):=by
 rw[Yb,Yb,zc3,zc3,Qy]
 exact(Ya _ Yw).trans j
def SG(st ae:SortSt):Prop:=∃g,ae=SortSt.mk' (kindOf st) (arrOf st) (pendingOf st) g (failedOf st)
def wpS_mergeLo{Q:Array Keyed→SortSt→Prop}{st:SortSt}(C:Cmp prog w A E s kd a₀)(hk:kindOf st=kd)(oa:Of a₀ a)(ob:Of a₀ b)(ha:0 < a.size)(hb:0 < b.size)(h:∀(res:Array Keyed) (ae:SortSt),res.toList.Perm (a.toList++b.toList)→SG st ae→Q res ae):wpS (model prog w) A E s (mergeLoT a b) Q st:=by
 have ia_:∀i (hi:i<a.size),a[i]∈a₀.toList:=λi hi=>oa i _ (getElem?_pos a i hi)
 have ib_:∀i (hi:i<b.size),b[i]∈a₀.toList:=λi hi=>ob i _ (getElem?_pos b i hi)
 have ea:∀i (hi:i<a.size),a[i]?=some a[i]:=λi hi=>getElem?_pos a i hi
 have eb:∀i (hi:i<b.size),b[i]?=some b[i]:=λi hi=>getElem?_pos b i hi
 have sgk:∀{ae},SG st ae→kindOf ae=kd:=λ⟨g,e⟩=>by rw[e];exact hk
 unfold mergeLoT
 refine wpS_bind (wpS_lift (wpAny_rule ⟨rfl,?_⟩))
 refine wpS_bind (za0 (eb 0 hb) ?_)
 have j0:Pa a b (#[b[0]]:Array Keyed) 0 1:=by
  have j:Pa a b (#[]:Array Keyed) 0 0:=by show List.Perm _ _;simp
  exact j.pushB hb
 refine zan (λc1=>wpS_pure (h _ _ j0.end1 ⟨_,rfl⟩)) λc1=>zan (λc2=>wpS_pure (h _ _ j0.end2 ⟨_,rfl⟩)) λc2=>?_
 have vT:¬b.size=1:=λz=>c1 (by simp[z])
 have c2':¬a.size=1:=λz=>c2 (by simp[z])
 refine wpS_bind (wpS_get ?_)
 refine wpS_bind (wpS_mono (wpS_forRange
  (I:=λx c ae=>Aj2 (SG st ae) (Ex4 λo i k g=>Aj5 (c=(none,o,i,k,g)) (i+1<a.size) (k<b.size) (Pa a b o i k) (x≤i+k)))
  (Q:=λc ae=>Aj2 (SG st ae) (Ex2 λres r=>Aj2 (c=(some res,r)) (res.toList.Perm (a.toList++b.toList)))) ?step ?fin ?init) ?post)
 case init=>exact⟨⟨_,rfl⟩,_,0,1,_,rfl,by omega,by omega,j0,by omega⟩
 case fin =>
  rintro c ae ⟨_,o,i,k,g,rfl,a1,a2,a3,a4⟩
  exfalso;omega
 case post =>
  rintro c ae ⟨g,res,r,rfl,m⟩
  exact wpS_pure (h res ae m g)
 case step =>
  rintro x c bd _ hx ⟨g1,o1,i1,k1,mg,rfl,a1,a2,a3,a4⟩
  dsimp -zeta only
  refine wpS_bind (wpS_mono (wpS_forRange
   (I:=λy c ae=>Aj2 (ae=bd) (Ex5 λo i k ac bc=>Aj5 (c=(none,o,i,k,ac,bc)) (i+1<a.size) (k<b.size) (Pa a b o i k) (i1+k1+y≤i+k)))
   (Q:=λc ae=>Aj2 (ae=bd) ((Ex2 λres r=>Aj2 (c=(some res,r)) (res.toList.Perm (a.toList++b.toList)))∨Ex5 λo i k ac bc=>Aj5 (c=(none,o,i,k,ac,bc)) (i+1<a.size) (k<b.size) (Pa a b o i k) (i1+k1<i+k))) ?step1 ?fin1 ?init1) ?post1)
  case init1=>exact⟨rfl,o1,i1,k1,0,0,rfl,a1,a2,a3,Qh _⟩
  case fin1 =>
   rintro c ae ⟨_,o,i,k,ac,bc,rfl,b1,b2,b3,b4⟩
   exfalso;omega
  case step1 =>
   rintro y c c8 _ hy ⟨rfl,o,i,k,ac,bc,rfl,b1,b2,b3,b4⟩
   have rR:i<a.size:=by omega
   dsimp -zeta only
   refine wpS_bind (za0 (eb k b2) (wpS_bind (za0 (ea i rR) (wpS_bind (C _ _ _ _ (ib_ k b2) (ia_ i rR) (sgk g1) λe=>?_)))))
   dsimp -zeta only
   refine zan (λ_=>?_) (λ_=>?_)
   ·refine wpS_bind (za0 (eb k b2) ?_)
    have j:=b3.pushB b2
    refine zan (λ_=>wpS_pure ⟨rfl,.inl ⟨_,_,rfl,j.end1⟩⟩) λd1=>?_
    have qd:¬k+1=b.size:=λz=>d1 (beq_iff_eq.mpr z)
    exact zan (λ_=>wpS_pure ⟨rfl,.inr ⟨_,i,k+1,_,_,rfl,b1,by omega,j,by omega⟩⟩) λ_=>wpS_pure ⟨rfl,_,i,k+1,_,_,rfl,b1,by omega,j,by omega⟩
   ·refine wpS_bind (za0 (ea i rR) ?_)
    have j:=b3.pushA rR
    refine zan (λ_=>wpS_pure ⟨rfl,.inl ⟨_,_,rfl,j.end2⟩⟩) λd1=>?_
    have qd:¬i+1+1=a.size:=λz=>d1 (beq_iff_eq.mpr z)
    exact zan (λ_=>wpS_pure ⟨rfl,.inr ⟨_,i+1,k,_,_,rfl,by omega,b2,j,by omega⟩⟩) λ_=>wpS_pure ⟨rfl,_,i+1,k,_,_,rfl,by omega,b2,j,by omega⟩
  case post1 =>
   rintro c c8 ⟨rfl,⟨res,r,rfl,m⟩ | ⟨o2,i2,k2,ac2,bc2,rfl,b1,b2,b3,b4⟩⟩
   ·exact wpS_pure ⟨g1,res,_,rfl,m⟩
   dsimp -zeta only
   refine wpS_bind (wpS_lift (wpAny_rule ⟨rfl,?_⟩))
   refine wpS_bind (wpS_mono (wpS_forRange
    (I:=λy c ae=>Aj2 (SG st ae) (Ex6 λo i k g ac bc=>Aj5 (c=(none,o,i,k,g,ac,bc)) (i+1<a.size) (k<b.size) (Pa a b o i k) (i2+k2≤i+k)))
    (Q:=λc ae=>Aj2 (SG st ae) ((Ex2 λres r=>Aj2 (c=(some res,r)) (res.toList.Perm (a.toList++b.toList)))∨Ex6 λo i k g ac bc=>Aj5 (c=(none,o,i,k,g,ac,bc)) (i+1<a.size) (k<b.size) (Pa a b o i k) (i2+k2≤i+k))) ?step2 ?fin2 ?init2) ?post2)
   case init2=>exact⟨g1,o2,i2,k2,_,_,_,rfl,b1,b2,b3,Qh _⟩
   case fin2 =>
    rintro c ae ⟨g,o,i,k,g',ac,bc,rfl,c1,c2,c3,c4⟩
    exact⟨g,.inr ⟨o,i,k,g',ac,bc,rfl,c1,c2,c3,c4⟩⟩
   case post2 =>
    rintro c ay ⟨g3,⟨res,r,rfl,m⟩ | ⟨o3,i3,k3,g',wA,vU,rfl,c1,c2,c3,c4⟩⟩
    ·exact wpS_pure ⟨g3,res,_,rfl,m⟩
    dsimp -zeta only
    refine wpS_bind (wpS_modify ?_)
    obtain⟨gg,e3⟩:=g3
    exact wpS_pure ⟨⟨_,by rw[e3]⟩,o3,i3,k3,_,rfl,c1,c2,c3,by omega⟩
   case step2 =>
    rintro y c ay _ hy ⟨g3,o3,i3,k3,mg3,wA,vU,rfl,c1,c2,c3,c4⟩
    refine zc2 λQ0 bx=>?_
    dsimp -zeta only
    have sgm:∀g',SG st (SortSt.mk' (kindOf ay) (arrOf ay) (pendingOf ay) g' (failedOf ay)):=λg'=>by
     obtain⟨g,e⟩:=g3
     exact⟨g',by rw[e]⟩
    extract_lets -underBinder +onlyGivenNames s1 out s2 ia s3 ib s4 mn s5 ac bc jp
    refine jp_if (f:=jp) λm'=>?_
    refine wpS_bind (wpS_modify ?_)
    refine wpS_bind (za0 (eb k3 c2) ?_)
    refine wpS_bind (zcj (base:=i3) (n:=a.size-i3) (hint:=0) C (sgk (sgm _)) oa (ib_ k3 c2) (by omega) (by omega) λk q1=>?_)
    dsimp -zeta only
    have jr:=c3.runA (n:=k) (by omega)
    extract_lets -underBinder +onlyGivenNames ac' jp2
    have h2:∀(n':Nat) (o':Array Keyed) (f1:n'+1<a.size),i3≤n'→Pa a b o' n' k3→wpS (model prog w) A E s (jp2 () o' n') Q0 (SortSt.mk' (kindOf ay) (arrOf ay) (pendingOf ay) m' (failedOf ay)):=by
     intro n' o' f1 f2 fJ
     have f0:n'<a.size:=by omega
     refine wpS_bind (za0 (eb k3 c2) ?_)
     have fK:=fJ.pushB c2
     refine zan (λ_=>wpS_pure (bx _ _ ⟨sgm _,.inl ⟨_,_,rfl,fK.end1⟩⟩)) λd=>?_
     have d':¬k3+1=b.size:=λz=>d (beq_iff_eq.mpr z)
     refine wpS_bind (za0 (ea n' f0) ?_)
     refine wpS_bind (zcj (base:=k3+1) (n:=b.size-(k3+1)) (hint:=0) C (sgk (sgm _)) ob (ia_ n' f0) (by omega) (by omega) λk' r1=>?_)
     dsimp -zeta only
     have js:=fK.runB (n:=k') (by omega)
     extract_lets -underBinder +onlyGivenNames bc' jp3
     have h3:∀(m2:Nat) (o2:Array Keyed) (p1:m2<b.size),k3+1≤m2→Pa a b o2 n' m2→wpS (model prog w) A E s (jp3 () o2 m2) Q0 (SortSt.mk' (kindOf ay) (arrOf ay) (pendingOf ay) m' (failedOf ay)):=by
      intro m2 o2 p1 p2 pJ
      refine wpS_bind (za0 (ea n' f0) ?_)
      have pK:=pJ.pushA f0
      refine zan (λ_=>wpS_pure (bx _ _ ⟨sgm _,.inl ⟨_,_,rfl,pK.end2⟩⟩)) λd=>?_
      have d2:¬n'+1+1=a.size:=λz=>d (beq_iff_eq.mpr z)
      exact zan (λ_=>wpS_pure (bx _ _ ⟨sgm _,.inr ⟨_,n'+1,m2,_,_,_,rfl,by omega,p1,pK,by omega⟩⟩)) λ_=>wpS_pure (bx _ _ ⟨sgm _,_,n'+1,m2,_,_,_,rfl,by omega,p1,pK,by omega⟩)
     refine zan (λkz=>?_) (λkz=>?_)
     ·refine zan (fun _=>wpS_pure (bx _ _ ⟨sgm _,.inl ⟨_,_,rfl,js.end1⟩⟩)) fun d4=>?_
      have d4':¬k3+1+k'=b.size:=λz=>d4 (beq_iff_eq.mpr z)
      exact h3 (k3+1+k') _ (by omega) (Yl _ _) js
     ·exact h3 (k3+1) _ (by omega) (Qh _) fK
    refine zan (λkz=>?_) (λkz=>?_)
    ·refine zan (fun _=>wpS_pure (bx _ _ ⟨sgm _,.inl ⟨_,_,rfl,jr.end2⟩⟩)) fun d=>zan (fun _=>wpS_pure (bx _ _ ⟨sgm _,.inl ⟨_,_,rfl,jr.end1⟩⟩)) fun e=>?_
     have d':¬i3+k+1=a.size:=λz=>d (beq_iff_eq.mpr z)
     have e':¬i3+k=a.size:=λz=>e (beq_iff_eq.mpr z)
     exact h2 (i3+k) _ (by omega) (Yl _ _) jr
    ·exact h2 i3 _ c1 (Qh _) c3
end
section
variable{prog:Ni}{w:Nk}{A:Nn}{E:Nc}{s:Nh}{kd:SortKind}{a₀:Array Keyed}
variable{a b o:Array Keyed}{na nb at_:Nat}
def zfy:(a.extract 0 n).toList=a.toList.take n:=by simp
def zfo{a:Array Keyed}{i n:Nat}(hi:i≤n)(h:n≤a.size):a.toList.take i++(a.extract i n).toList=a.toList.take n:=by
 rw[Array.toList_extract,Kh]
 have e:a.toList.take i=(a.toList.take n).take i:=by rw[List.take_take];congr 1;omega
 have e2:(a.toList.drop i).take (n-i)=(a.toList.take n).drop i:=by rw[List.drop_take]
 rw[e,e2,Yz]
def Ph(a b o:Array Keyed)(na nb:Nat):Prop:=(a.toList.take na++(b.toList.take nb++o.toList)).Perm (a.toList++b.toList)
def mvA{t sg mr u r all:List Keyed}(h:((t++sg)++(u++r)).Perm all)(hs:mr.Perm sg):(t++(u++(r++mr))).Perm all:=by
 refine List.Perm.trans ?_ h
 rw[Qy,←Qy u]
 exact Ya _ ((Ya _ hs).trans Yw)
def mvB{t sg mr u r all:List Keyed}(h:(t++((u++sg)++r)).Perm all)(hs:mr.Perm sg):(t++(u++(r++mr))).Perm all:=by
 refine List.Perm.trans ?_ h
 rw[Qy]
 exact Ya _ (Ya _ ((Ya _ hs).trans Yw))
def Ph.runA(j:Ph a b o na nb)(hi:at_≤na)(h:na≤a.size):Ph a b (o++(a.extract at_ na).reverse) at_ nb:=by
 unfold Ph at *
 rw[←zfo hi h]at j
 rw[Yb,Jv]
 exact mvA j (Jj _)
def Ph.runB(j:Ph a b o na nb)(hi:at_≤nb)(h:nb≤b.size):Ph a b (o++(b.extract at_ nb).reverse) na at_:=by
 unfold Ph at *
 rw[←zfo hi h]at j
 rw[Yb,Jv]
 exact mvB j (Jj _)
def Ph.pushA(j:Ph a b o (na+1) nb)(h:na<a.size):Ph a b (o.push a[na]) na nb:=by
 unfold Ph at *
 rw[Qm (by simpa using h)]at j
 rw[Jl]
 exact mvA j (by simp)
def Ph.pushB(j:Ph a b o na (nb+1))(h:nb<b.size):Ph a b (o.push b[nb]) na nb:=by
 unfold Ph at *
 rw[Qm (by simpa using h)]at j
 rw[Jl]
 exact mvB j (by simp)
def Ph.end1(j:Ph a b o na nb):(a.extract 0 na++b.extract 0 nb++o.reverse).toList.Perm (a.toList++b.toList):=by
 rw[Yb,Yb,Jv,zfy,zfy,Qy]
 exact(Ya _ (Ya _ (Jj _))).trans j
def Ph.end2(j:Ph a b o na nb):(b.extract 0 nb++a.extract 0 na++o.reverse).toList.Perm (a.toList++b.toList):=by
 rw[Yb,Yb,Jv,zfy,zfy]
 refine List.Perm.trans ?_ j
 rw[←Qy]
 exact(Yw).append (Jj _)
def wpS_mergeHi{Q:Array Keyed→SortSt→Prop}{st:SortSt}(C:Cmp prog w A E s kd a₀)(hk:kindOf st=kd)(oa:Of a₀ a)(ob:Of a₀ b)(ha:0 < a.size)(hb:0 < b.size)(h:∀(res:Array Keyed) (ae:SortSt),res.toList.Perm (a.toList++b.toList)→SG st ae→Q res ae):wpS (model prog w) A E s (mergeHiT a b) Q st:=by
 have ia_:∀i (hi:i<a.size),a[i]∈a₀.toList:=λi hi=>oa i _ (getElem?_pos a i hi)
 have ib_:∀i (hi:i<b.size),b[i]∈a₀.toList:=λi hi=>ob i _ (getElem?_pos b i hi)
 have ea:∀i (hi:i<a.size),a[i]?=some a[i]:=λi hi=>getElem?_pos a i hi
 have eb:∀i (hi:i<b.size),b[i]?=some b[i]:=λi hi=>getElem?_pos b i hi
 have sgk:∀{ae},SG st ae→kindOf ae=kd:=λ⟨g,e⟩=>by rw[e];exact hk
 obtain⟨n0,uh⟩:∃n0,a.size=n0+1:=⟨a.size-1,by omega⟩
 have gR:n0<a.size:=by omega
 have j0:Ph a b (#[a[n0]]:Array Keyed) n0 b.size:=by
  have j:Ph a b (#[]:Array Keyed) (n0+1) b.size:=by
   have e1:a.toList.take (n0+1)=a.toList:=Qx (by simp;omega)
   have e2:b.toList.take b.size=b.toList:=Qx (by simp)
   unfold Ph;rw[e1,e2];simp
  exact j.pushA gR
 unfold mergeHiT
 refine wpS_bind (wpS_lift (wpAny_rule ⟨rfl,?_⟩))
 have e2:a.size-1=n0:=by omega
 simp -zeta only [e2]
 refine wpS_bind (za0 (ea n0 gR) ?_)
 refine zan (λc1=>wpS_pure (h _ _ j0.end1 ⟨_,rfl⟩)) λc1=>zan (λc2=>wpS_pure (h _ _ j0.end2 ⟨_,rfl⟩)) λc2=>?_
 have vT:¬n0=0:=λz=>c1 (by simp[z])
 have c2':¬b.size=1:=λz=>c2 (by simp[z])
 refine wpS_bind (wpS_get ?_)
 obtain⟨n1,rfl⟩:∃n1,n0=n1+1:=⟨n0-1,by omega⟩
 obtain⟨m1,cI⟩:∃m1,b.size=m1+1+1:=⟨b.size-2,by omega⟩
 rw[cI]at j0
 refine wpS_bind (wpS_mono (wpS_forRange
  (I:=λx c ae=>Aj2 (SG st ae) (Ex4 λo i k g=>Aj5 (c=(none,i+1,k+1+1,o,g)) (i<a.size) (k+1<b.size) (Ph a b o (i+1) (k+1+1)) (i+k+x+4≤a.size+b.size)))
  (Q:=λc ae=>Aj2 (SG st ae) (Ex2 λres r=>Aj2 (c=(some res,r)) (res.toList.Perm (a.toList++b.toList)))) ?step ?fin ?init) ?post)
 case init=>exact⟨⟨_,rfl⟩,_,n1,m1,_,by rw[cI],by omega,by omega,j0,by omega⟩
 case fin =>
  rintro c ae ⟨_,o,i,k,g,rfl,a1,a2,a3,a4⟩
  exfalso;omega
 case post =>
  rintro c ae ⟨g,res,r,rfl,m⟩
  exact wpS_pure (h res ae m g)
 case step =>
  rintro x c bd _ hx ⟨g1,o1,i1,k1,mg,rfl,a1,a2,a3,a4⟩
  dsimp -zeta only
  refine wpS_bind (wpS_mono (wpS_forRange
   (I:=λy c ae=>Aj2 (ae=bd) (Ex5 λo i k ac bc=>Aj5 (c=(none,i+1,k+1+1,o,ac,bc)) (i<a.size) (k+1<b.size) (Ph a b o (i+1) (k+1+1)) (i+k+y≤i1+k1)))
   (Q:=λc ae=>Aj2 (ae=bd) ((Ex2 λres r=>Aj2 (c=(some res,r)) (res.toList.Perm (a.toList++b.toList)))∨Ex5 λo i k ac bc=>Aj5 (c=(none,i+1,k+1+1,o,ac,bc)) (i<a.size) (k+1<b.size) (Ph a b o (i+1) (k+1+1)) (i+k<i1+k1))) ?step1 ?fin1 ?init1) ?post1)
  case init1=>exact⟨rfl,o1,i1,k1,0,0,rfl,a1,a2,a3,Qh _⟩
  case fin1 =>
   rintro c ae ⟨_,o,i,k,ac,bc,rfl,b1,b2,b3,b4⟩
   exfalso;omega
  case step1 =>
   rintro y c c8 _ hy ⟨rfl,o,i,k,ac,bc,rfl,b1,b2,b3,b4⟩
   dsimp -zeta only
   refine wpS_bind (za0 (eb (k+1) b2) (wpS_bind (za0 (ea i b1) (wpS_bind (C _ _ _ _ (ib_ (k+1) b2) (ia_ i b1) (sgk g1) λe=>?_)))))
   dsimp -zeta only
   refine zan (λ_=>?_) (λ_=>?_)
   ·refine wpS_bind (za0 (ea i b1) ?_)
    have j:=b3.pushA b1
    refine zan (λ_=>wpS_pure ⟨rfl,.inl ⟨_,_,rfl,j.end1⟩⟩) λd1=>?_
    have qd:¬i=0:=λz=>d1 (beq_iff_eq.mpr z)
    cases i with
    |zero=>exact absurd rfl qd
    |succ i'=>exact zan (λ_=>wpS_pure ⟨rfl,.inr ⟨_,i',k,_,_,rfl,by omega,b2,j,by omega⟩⟩) λ_=>wpS_pure ⟨rfl,_,i',k,_,_,rfl,by omega,b2,j,by omega⟩
   ·refine wpS_bind (za0 (eb (k+1) b2) ?_)
    have j:=b3.pushB b2
    refine zan (λ_=>wpS_pure ⟨rfl,.inl ⟨_,_,rfl,j.end2⟩⟩) λd1=>?_
    have qd:¬k+1=1:=λz=>d1 (beq_iff_eq.mpr z)
    cases k with
    |zero=>exact absurd rfl qd
    |succ k'=>exact zan (λ_=>wpS_pure ⟨rfl,.inr ⟨_,i,k',_,_,rfl,b1,by omega,j,by omega⟩⟩) λ_=>wpS_pure ⟨rfl,_,i,k',_,_,rfl,b1,by omega,j,by omega⟩
  case post1 =>
   rintro c c8 ⟨rfl,⟨res,r,rfl,m⟩ | ⟨o2,i2,k2,ac2,bc2,rfl,b1,b2,b3,b4⟩⟩
   ·exact wpS_pure ⟨g1,res,_,rfl,m⟩
   dsimp -zeta only
   refine wpS_bind (wpS_lift (wpAny_rule ⟨rfl,?_⟩))
   refine wpS_bind (wpS_mono (wpS_forRange
    (I:=λy c ae=>Aj2 (SG st ae) (Ex6 λo i k g ac bc=>Aj5 (c=(none,i+1,k+1+1,o,g,ac,bc)) (i<a.size) (k+1<b.size) (Ph a b o (i+1) (k+1+1)) (i+k≤i2+k2)))
    (Q:=λc ae=>Aj2 (SG st ae) ((Ex2 λres r=>Aj2 (c=(some res,r)) (res.toList.Perm (a.toList++b.toList)))∨Ex6 λo i k g ac bc=>Aj5 (c=(none,i+1,k+1+1,o,g,ac,bc)) (i<a.size) (k+1<b.size) (Ph a b o (i+1) (k+1+1)) (i+k≤i2+k2))) ?step2 ?fin2 ?init2) ?post2)
   case init2=>exact⟨g1,o2,i2,k2,_,_,_,rfl,b1,b2,b3,Qh _⟩
   case fin2 =>
    rintro c ae ⟨g,o,i,k,g',ac,bc,rfl,c1,c2,c3,c4⟩
    exact⟨g,.inr ⟨o,i,k,g',ac,bc,rfl,c1,c2,c3,c4⟩⟩
   case post2 =>
    rintro c ay ⟨g3,⟨res,r,rfl,m⟩ | ⟨o3,i3,k3,g',wA,vU,rfl,c1,c2,c3,c4⟩⟩
    ·exact wpS_pure ⟨g3,res,_,rfl,m⟩
    dsimp -zeta only
    refine wpS_bind (wpS_modify ?_)
    obtain⟨gg,e3⟩:=g3
    exact wpS_pure ⟨⟨_,by rw[e3]⟩,o3,i3,k3,_,rfl,c1,c2,c3,by omega⟩
   case step2 =>
    rintro y c ay _ hy ⟨g3,o3,i3,k3,mg3,wA,vU,rfl,c1,c2,c3,c4⟩
    refine zc2 λQ0 bx=>?_
    dsimp -zeta only
    have sgm:∀g',SG st (SortSt.mk' (kindOf ay) (arrOf ay) (pendingOf ay) g' (failedOf ay)):=λg'=>by
     obtain⟨g,e⟩:=g3
     exact⟨g',by rw[e]⟩
    extract_lets -underBinder +onlyGivenNames s1 na s2 nb s3 out s4 mn s5 ac bc jp
    refine jp_if (f:=jp) λm'=>?_
    refine wpS_bind (wpS_modify ?_)
    refine wpS_bind (za0 (eb (k3+1) c2) ?_)
    refine wpS_bind (zcj (n:=i3+1) (hint:=i3) C (sgk (sgm _)) oa (ib_ (k3+1) c2) (by omega) (by omega) λrS q1=>?_)
    dsimp -zeta only
    have jr:=c3.runA (at_:=rS) q1 (by omega)
    extract_lets -underBinder +onlyGivenNames kk ac' jp2
    have h2:∀(n':Nat) (o':Array Keyed) (f1:n'<a.size),n'≤i3→Ph a b o' (n'+1) (k3+1+1)→wpS (model prog w) A E s (jp2 () (n'+1) o') Q0 (SortSt.mk' (kindOf ay) (arrOf ay) (pendingOf ay) m' (failedOf ay)):=by
     intro n' o' f1 f2 fJ
     refine wpS_bind (za0 (eb (k3+1) c2) ?_)
     have fK:=fJ.pushB c2
     refine zan (λ_=>wpS_pure (bx _ _ ⟨sgm _,.inl ⟨_,_,rfl,fK.end2⟩⟩)) λd=>?_
     have d':¬k3+1=1:=λz=>d (beq_iff_eq.mpr z)
     refine wpS_bind (za0 (ea n' f1) ?_)
     refine wpS_bind (zcj (n:=k3+1) (hint:=k3) C (sgk (sgm _)) ob (ia_ n' f1) (by omega) (by omega) λqf r1=>?_)
     dsimp -zeta only
     have js:=fK.runB (at_:=qf) r1 (by omega)
     extract_lets -underBinder +onlyGivenNames gK bc' jp3
     have h3:∀(m2:Nat) (o2:Array Keyed) (p1:m2+1<b.size),m2≤k3→Ph a b o2 (n'+1) (m2+1+1)→wpS (model prog w) A E s (jp3 () (m2+1+1) o2) Q0 (SortSt.mk' (kindOf ay) (arrOf ay) (pendingOf ay) m' (failedOf ay)):=by
      intro m2 o2 p1 p2 pJ
      refine wpS_bind (za0 (ea n' f1) ?_)
      have pK:=pJ.pushA f1
      refine zan (λ_=>wpS_pure (bx _ _ ⟨sgm _,.inl ⟨_,_,rfl,pK.end1⟩⟩)) λd=>?_
      have d2:¬n'=0:=λz=>d (beq_iff_eq.mpr z)
      cases n' with
      |zero=>exact absurd rfl d2
      |succ t=>exact zan (λ_=>wpS_pure (bx _ _ ⟨sgm _,.inr ⟨_,t,m2,_,_,_,rfl,by omega,p1,pK,by omega⟩⟩)) λ_=>wpS_pure (bx _ _ ⟨sgm _,_,t,m2,_,_,_,rfl,by omega,p1,pK,by omega⟩)
     refine zan (λkz=>?_) (λkz=>?_)
     ·refine zan (fun _=>wpS_pure (bx _ _ ⟨sgm _,.inl ⟨_,_,rfl,js.end2⟩⟩)) fun d4=>zan (fun _=>wpS_pure (bx _ _ ⟨sgm _,.inl ⟨_,_,rfl,js.end1⟩⟩)) fun d5=>?_
      have d4':¬qf=1:=λz=>d4 (beq_iff_eq.mpr z)
      have d5':¬qf=0:=λz=>d5 (beq_iff_eq.mpr z)
      obtain⟨m2,e2⟩:∃m2,qf=m2+1+1:=⟨qf-2,by omega⟩
      have:=h3 m2 _ (by omega) (by omega) (by rw[←e2];exact js)
      rw[←e2]at this
      exact this
     ·obtain ⟨m2,e2⟩:∃ m2,k3=m2+1:=⟨k3 - 1,by omega⟩
      have:=h3 m2 _ (by omega) (by omega) (by rw[←e2];exact fK)
      rw[←e2]at this
      exact this
    refine zan (λkz=>?_) (λkz=>?_)
    ·refine zan (fun _=>wpS_pure (bx _ _ ⟨sgm _,.inl ⟨_,_,rfl,jr.end1⟩⟩)) fun d=>?_
     have d':¬rS=0:=λz=>d (beq_iff_eq.mpr z)
     obtain⟨n',e1⟩:∃n',rS=n'+1:=⟨rS-1,by omega⟩
     have:=h2 n' _ (by omega) (by omega) (by rw[←e1];exact jr)
     rw[←e1]at this
     exact this
    ·exact h2 i3 _ c1 (Qh _) c3
end
section
variable{prog:Ni}{w:Nk}{A:Nn}{E:Nc}{s:Nh}{kd:SortKind}{a₀:Array Keyed}{p:Array (Nat×Nat×Nat)}{lo:Nat}
structure Bs(kd:SortKind)(a₀:Array Keyed)(p:Array (Nat×Nat×Nat))(st:SortSt):Prop where
 kind:kindOf st=kd
 failed:failedOf st=none
 pend:pendingOf st=p
 perm:(arrOf st).Perm a₀
def Bs.size{st:SortSt}(B:Bs kd a₀ p st):(arrOf st).size=a₀.size:=B.perm.size_eq
def Bs.mem{st:SortSt}(B:Bs kd a₀ p st){i:Nat}(hi:i<a₀.size):∃q,(arrOf st)[i]?=some q∧q∈a₀.toList:=by
 have dj:i<(arrOf st).size:=by rw[B.size];exact hi
 exact⟨_,getElem?_pos _ i dj,(Yi.mp B.perm).mem_iff.mp (by simp)⟩
def zhd{st:SortSt}{i j:Nat}{Q:Option Bool→SortSt→Prop}(C:Cmp prog w A E s kd a₀)(B:Bs kd a₀ p st)(hi:i<a₀.size)(hj:j<a₀.size)(h:∀b,Q (some b) st):wpS (model prog w) A E s (ltAt' i j) Q st:=by
 obtain⟨x,e1,m1⟩:=B.mem hi
 obtain⟨y,e2,m2⟩:=B.mem hj
 rw[ltAt'_eq]
 refine wpS_bind (wpS_get ?_)
 refine wpS_bind (za0 e1 (wpS_bind (za0 e2 ?_)))
 exact C x y st Q m1 m2 B.kind h
def Bs.mirror{st:SortSt}(B:Bs kd a₀ p st)(i j k:Nat):Bs kd a₀ p (setArr st (mirror (arrOf st) i j k)):=⟨B.kind,B.failed,B.pend,(mirror_perm _ _ _ _).trans B.perm⟩
def Bs.bubble{st:SortSt}(B:Bs kd a₀ p st)(src d:Nat):Bs kd a₀ p (setArr st (bubble (arrOf st) src d)):=⟨B.kind,B.failed,B.pend,(bubble_perm _ _ _).trans B.perm⟩
def wpS_binary{st:SortSt}{n ok:Nat}{Q:Bool→SortSt→Prop}(C:Cmp prog w A E s kd a₀)(hn:lo+n≤a₀.size)(B:Bs kd a₀ p st)(h:∀ae,Bs kd a₀ p ae→Q true ae):wpS (model prog w) A E s (binarySort' lo n ok) Q st:=by
 rw[binarySort'_eq]
 refine wpS_bind (wpS_mono (wpS_forRange (I:=λk c ae=>Aj2 (c=(none,())) (Bs kd a₀ p ae)) (Q:=λc ae=>Aj2 (c=(none,())) (Bs kd a₀ p ae)) ?step (λ_ _ z=>z) ⟨rfl,B⟩) ?post)
 case post =>
  rintro c ae ⟨rfl,B'⟩
  exact wpS_pure (h ae B')
 case step =>
  rintro k c ae hak dA ⟨rfl,B'⟩
  refine wpS_bind (wpS_mono (wpS_forRange
   (I:=λx c dE=>Aj2 (dE=ae) (Ex2 λl r=>Aj4 (c=(none,l,r)) (l≤r) (r≤k) (r-l≤k-x)))
   (Q:=λc dE=>Aj2 (dE=ae) (Ex1 λl=>Aj2 (c=(none,l,l)) (l≤k))) ?is ?if_ ?ii) ?ip)
  case ii=>exact⟨rfl,0,k,rfl,Zg _,Qh _,Qh _⟩
  case if_ =>
   rintro c dE ⟨rfl,l,r,rfl,b1,b2,b3⟩
   have:l=r:=by omega
   subst this
   exact⟨rfl,l,rfl,b2⟩
  case is =>
   rintro x c dE _ hx ⟨rfl,l,r,rfl,b1,b2,b3⟩
   dsimp only
   refine zan (λge=>?_) λge=>wpS_bind (zhd C B' (by omega) (by omega) λb=>?_)
   ·have:l=r:=Nat.le_antisymm b1 ge
    subst this
    exact wpS_pure ⟨rfl,l,rfl,b2⟩
   ·cases b with
    |true=>exact wpS_pure ⟨rfl,l,(l+r)/2,rfl,by omega,by omega,by omega⟩
    |false=>exact wpS_pure ⟨rfl,(l+r)/2+1,r,rfl,by omega,b2,by omega⟩
  case ip =>
   rintro c dE ⟨rfl,l,rfl,b2⟩
   show wpS _ _ _ _ (do moveDown' (lo+k) (lo+l);pure (ForInStep.yield (none,()))) _ _
   rw[moveDown'_eq]
   exact wpS_bind (wpS_modify (wpS_pure ⟨rfl,B'.bubble _ _⟩))
def jp_rev{α:Type}{c:Prop}[Decidable c]{i j:Nat}{f:Unit→StateT SortSt Sem α}{Q:α→SortSt→Prop}{st:SortSt}(B:Bs kd a₀ p st)(h:∀ae,Bs kd a₀ p ae→wpS (model prog w) A E s (f ()) Q ae):wpS (model prog w) A E s (if c then reverseSlice' i j >>= f else f ()) Q st:=by
 split
 ·exact wpS_bind (wpS_reverse (h _ (B.mirror _ _ _)))
 ·exact h _ B
def wpS_count{st:SortSt}{nrem:Nat}{Q:Option Nat→SortSt→Prop}(C:Cmp prog w A E s kd a₀)(hn:lo+nrem≤a₀.size)(h1:1≤nrem)(B:Bs kd a₀ p st)(h:∀m ae,Bs kd a₀ p ae→1≤m→m≤nrem→Q (some m) ae):wpS (model prog w) A E s (countRun' lo nrem) Q st:=by
 have asc:∀(f:Nat→(Option (Option Nat)×Nat)→StateT SortSt Sem (ForInStep (Option (Option Nat)×Nat))) (a:Nat) (bd:SortSt),1≤a→a≤nrem →
   (∀x y Q',1≤y→y<nrem→Q' (ForInStep.done (none,y)) bd→Q' (ForInStep.yield (none,y+1)) bd→wpS (model prog w) A E s (f x (none,y)) Q' bd) →
   wpS (model prog w) A E s (forIn [a:nrem] (none,a) f) (λc ae=>Aj2 (ae=bd) (Ex1 λn=>Aj3 (c=(none,n)) (a≤n) (n≤nrem))) bd:=by
  intro f a bd a1 a2 hf
  refine wpS_forRange (I:=λx c ae=>Aj2 (ae=bd) (c=(none,x))) ?step ?fin ⟨rfl,rfl⟩
  case fin =>
   rintro c ae ⟨rfl,rfl⟩
   rw[show max a nrem=nrem by omega]
   exact⟨rfl,nrem,rfl,a2,Qh _⟩
  case step =>
   rintro x c ae g1 g2 ⟨rfl,rfl⟩
   exact hf x x _ (by omega) g2 ⟨rfl,x,rfl,g1,Ug g2⟩ ⟨rfl,rfl⟩
 have two:∀{bd:SortSt},Bs kd a₀ p bd→∀{y:Nat},1≤y→y<nrem→lo+y<a₀.size∧lo+y-1<a₀.size:=λ_ y y1 y2=>⟨by omega,by omega⟩
 rw[countRun'_eq]
 refine wpS_bind (wpS_mono (asc _ 1 st (Qh _) h1 ?_) ?_)
 ·intro x y Q' y1 y2 q1 q2
  refine wpS_bind (zhd C B (two B y1 y2).1 (two B y1 y2).2 λb=>?_)
  cases b with
  |true=>exact wpS_pure q1
  |false=>exact wpS_pure q2
 rintro c ae ⟨rfl,n,rfl,n1,n2⟩
 refine zc2 λQ0 bx=>?_
 refine zan (λd=>wpS_pure (bx _ _ (h n _ B n1 n2))) λd=>?_
 have d':n<nrem:=by have:¬n=nrem:=λz=>d (beq_iff_eq.mpr z);omega
 extract_lets -underBinder +onlyGivenNames jp
 have oH:∀bd,Bs kd a₀ p bd→wpS (model prog w) A E s (jp ()) Q0 bd:=by
  intro bd B1
  refine wpS_bind (wpS_lift (wpAny_rule ⟨rfl,?_⟩))
  refine wpS_bind (wpS_mono (wpS_forRange
   (I:=λx c c8=>Ex1 λq=>Aj4 (c=(none,x,q)) (Bs kd a₀ p c8) (2≤x) (x≤nrem))
   (Q:=λc c8=>Ex2 λx q=>Aj4 (c=(none,x,q)) (Bs kd a₀ p c8) (2≤x) (x≤nrem)) ?step ?fin ⟨0,rfl,B1,by omega,d'⟩) ?post)
  case fin =>
   rintro c c8 ⟨q,rfl,b1,b2,b3⟩
   exact⟨_,q,rfl,b1,b2,b3⟩
  case step =>
   rintro x c c8 x1 x2 ⟨q,rfl,b1,b2,b3⟩
   refine zc2 λQ1 hJ=>?_
   refine wpS_bind (zhd (i:=lo+x) (j:=lo+x-1) C b1 (by omega) (by omega) λe1=>?_)
   cases e1 with
   |true =>
    refine zan (λ_=>?_) (λz=>absurd rfl z)
    exact jp_rev b1 λay B3=>wpS_pure (hJ _ _ ⟨0,rfl,B3,by omega,x2⟩)
   |false =>
    refine zan (λz=>absurd z (by decide)) λ_=>wpS_bind (zhd (i:=lo+x-1) (j:=lo+x) C b1 (by omega) (by omega) λe2=>?_)
    cases e2 with
    |true=>exact zan (λ_=>wpS_pure (hJ _ _ ⟨x,q,rfl,b1,b2,b3⟩)) (λz=>absurd rfl z)
    |false=>exact zan (λz=>absurd z (by decide)) λ_=>wpS_pure (hJ _ _ ⟨q+1,rfl,b1,by omega,x2⟩)
  case post =>
   rintro c c8 ⟨x,q,rfl,b1,b2,b3⟩
   refine jp_rev b1 λay B3=>?_
   refine wpS_bind (wpS_reverse ?_)
   have B6:=B3.mirror lo (lo+x) ((lo+x-lo)/2)
   refine wpS_bind (wpS_mono (asc _ x _ (by omega) b3 ?_) ?_)
   ·intro z y Q' y1 y2 q1 q2
    refine wpS_bind (zhd C B6 (two B6 y1 y2).1 (two B6 y1 y2).2 λb=>?_)
    cases b with
    |true=>exact wpS_pure q1
    |false=>exact wpS_pure q2
   ·rintro c st6 ⟨rfl,m,rfl,m1,m2⟩
    exact wpS_pure (bx _ _ (h m _ B6 (by omega) m2))
 refine zan (λd2=>?_) λd2=>oH _ B
 refine wpS_bind (zhd C B (by omega) (by omega) λe=>?_)
 cases e with
 |true=>exact zan (λ_=>wpS_pure (bx _ _ (h n _ B n1 n2))) (λz=>absurd rfl z)
 |false=>exact zan (λz=>absurd z (by decide)) λ_=>wpS_bind (wpS_reverse (oH _ (B.mirror _ _ _)))
end
def PL:List (Nat×Nat×Nat)→Nat→Nat→Prop
 |[],off,tot=>off=tot
 |q::ps,off,tot=>q.1=off∧0<q.2.1∧PL ps (off+q.2.1) tot
def PL.split{gI:List (Nat×Nat×Nat)}{tot:Nat}:∀{cZ:List (Nat×Nat×Nat)} {off:Nat},PL (cZ++gI) off tot→∃mid,PL cZ off mid∧PL gI mid tot:=by
 intro cZ
 induction cZ with
 |nil=>intro off h;exact⟨off,rfl,h⟩
 |cons q ps ih =>
  intro off h
  obtain⟨mid,a,b⟩:=ih h.2.2
  exact⟨mid,⟨h.1,h.2.1,a⟩,b⟩
def PL.join{gI:List (Nat×Nat×Nat)}{mid tot:Nat}:∀{cZ:List (Nat×Nat×Nat)} {off:Nat},PL cZ off mid→PL gI mid tot→PL (cZ++gI) off tot:=by
 intro cZ
 induction cZ with
 |nil=>intro off a b;cases(show off=mid from a);exact b
 |cons q ps ih=>intro off a b;exact⟨a.1,a.2.1,ih a.2.2 b⟩
def PL.len{tot:Nat}:∀{ps:List (Nat×Nat×Nat)} {off:Nat},PL ps off tot→off+ps.length≤tot:=by
 intro ps
 induction ps with
 |nil=>intro off h;exact Nat.le_of_eq h
 |cons q ps ih =>
  intro off h
  have:=ih h.2.2
  have:=h.2.1
  rw[Qz];omega
def put_back{sa:Nat}:∀ (l:List Keyed) (n:Nat) (arr:Array Keyed) (F M S:List Keyed),arr.toList=F++(M++S)→F.length=sa+n→M.length=l.length →
  ((l.zipIdx n).foldl (λ(a:Array Keyed) (q:Keyed×Nat)=>a.setIfInBounds (sa+q.2) q.1) arr).toList=F++(l++S):=by
 intro l
 induction l with
 |nil =>
  intro n arr F M S e _ hl
  have:M=[]:=List.length_eq_zero_iff.mp (by simpa using hl)
  rw[this]at e
  simpa using e
 | cons p l ih =>
  intro n arr F M S e hf hl
  cases M with
  |nil=>simp at hl
  | cons m M =>
   rw[List.zipIdx_cons,Jx]
   have e2:(arr.setIfInBounds (sa+n) p).toList=(F++[p])++(M++S):=by
    rw[Array.toList_setIfInBounds,e,←hf,List.set_append_right _ _ (Qh _),Nat.sub_self]
    simp
   rw[ih (n+1) _ (F++[p]) M S e2 (by rw[Qs];simp;omega) (by simpa using hl)]
   simp
section
variable{prog:Ni}{w:Nk}{A:Nn}{E:Nc}{s:Nh}{kd:SortKind}{a₀:Array Keyed}
structure Rn(kd:SortKind)(a₀:Array Keyed)(tot:Nat)(st:SortSt):Prop where
 kind:kindOf st=kd
 failed:failedOf st=none
 perm:(arrOf st).Perm a₀
 pend:PL (pendingOf st).toList 0 tot
 le:tot≤a₀.size
def of_perm{xs:Array Keyed}(h:xs.Perm a₀):Of a₀ xs:=λi p e=>by
 refine(Yi.mp h).mem_iff.mp ?_
 have:xs.toList[i]?=some p:=by simpa using e
 exact Yy this
def of_ext{xs:Array Keyed}(h:xs.Perm a₀)(i j:Nat):Of a₀ (xs.extract i j):=λk p e=>by
 have e1:(xs.extract i j).toList[k]?=some p:=by rw[Wk];exact e
 have:=Yy e1
 rw[Array.toList_extract,Kh]at this
 exact(Yi.mp h).mem_iff.mp (List.mem_of_mem_drop (Uv this))
def wpS_set{Q:PUnit→SortSt→Prop}{st ae:SortSt}(h:Q ⟨⟩ ae):wpS (model prog w) A E s (set ae:StateT SortSt Sem PUnit) Q st:=by
 unfold wpS;rw[StateT.run_set];exact wpAny_pure ⟨rfl,h⟩
def zf1{i tot:Nat}{Q:Bool→SortSt→Prop}{st:SortSt}(C:Cmp prog w A E s kd a₀)(R:Rn kd a₀ tot st)(hi:i+1 < (pendingOf st).size)(h:∀ae,Rn kd a₀ tot ae→(pendingOf ae).size+1=(pendingOf st).size→Q true ae):wpS (model prog w) A E s (mergeAt' i) Q st:=by
 obtain⟨cZ,q1,q2,gI,hp,hl⟩:∃cZ q1 q2 gI,(pendingOf st).toList=cZ++q1::q2::gI∧cZ.length=i:=by
  have h1:i<(pendingOf st).toList.length:=by simp;omega
  have h2:i+1<(pendingOf st).toList.length:=by simp;omega
  refine⟨(pendingOf st).toList.take i,(pendingOf st).toList[i],(pendingOf st).toList[i+1],(pendingOf st).toList.drop (i+2),?_,by rw[Zi];omega⟩
  rw[←Ki h2,←Ki h1,Yz]
 have pr:=R.pend
 rw[hp]at pr
 obtain⟨sa,pr1,e1,hA,e2,hB,sm⟩:=pr.split
 obtain⟨aD,na,pw⟩:=q1
 obtain⟨sb',nb,pw2⟩:=q2
 dsimp only at e1 hA e2 hB sm
 subst e1 e2
 have x1:(pendingOf st)[i]?=some (aD,na,pw):=by
  have:(pendingOf st)[i]?=(pendingOf st).toList[i]?:=by simp
  rw[this,hp,←hl];simp
 have x2:(pendingOf st)[i+1]?=some (aD+na,nb,pw2):=by
  have:(pendingOf st)[i+1]?=(pendingOf st).toList[i+1]?:=by simp
  rw[this,hp,←hl];simp
 have hsz:aD+na+nb≤(arrOf st).size:=by
  have:=sm.len
  have:=R.le
  rw[R.perm.size_eq];omega
 have oA:=of_perm R.perm
 have mem:∀j (hj:j<(arrOf st).size),(arrOf st)[j]∈a₀.toList:=λj hj=>oA j _ (getElem?_pos _ j hj)
 have fin:∀(ae:SortSt),kindOf ae=kd→failedOf ae=none→(arrOf ae).Perm a₀→pendingOf ae=((pendingOf st).setIfInBounds i (aD,na+nb,pw)).eraseIdxIfInBounds (i+1)→Q true ae:=by
  intro ae m3 m4 m5 m6
  have e:(pendingOf ae).toList=cZ++(aD,na+nb,pw)::gI:=by
   rw[m6]
   have e1:((pendingOf st).setIfInBounds i (aD,na+nb,pw)).toList=cZ++(aD,na+nb,pw)::(aD+na,nb,pw2)::gI:=by
    rw[Array.toList_setIfInBounds,hp,←hl,List.set_append_right _ _ (Qh _),Nat.sub_self]
    rfl
   rw[Array.toList_eraseIdxIfInBounds,e1,←hl,List.eraseIdx_append_of_length_le (Yl _ _)]
   simp
  refine h ae ⟨m3,m4,m5,?_,R.le⟩ ?_
  ·rw [e]
   exact pr1.join ⟨rfl,Nat.add_pos_left hA _,by rw[←Nat.add_assoc];exact sm⟩
  ·rw[←Yv,←Yv,e,hp];simp;omega
 unfold mergeAt'
 refine wpS_bind (wpS_get ?_)
 rw[x1,x2]
 dsimp only
 refine wpS_bind (wpS_set ?_)
 have lX:aD+na<(arrOf st).size:=by omega
 refine wpS_bind (za0 (getElem?_pos (arrOf st) (aD+na) lX) ?_)
 refine wpS_bind (zcj (arr:=arrOf st) (base:=aD) (n:=na) (hint:=0) C R.kind oA (mem _ lX) (by omega) hA λk k1=>?_)
 refine zan (λc1=>wpS_pure (fin _ R.kind R.failed R.perm rfl)) λc1=>?_
 have vT:¬na-k=0:=λz=>c1 (beq_iff_eq.mpr z)
 have hla:aD+k+(na-k)-1<(arrOf st).size:=by omega
 refine wpS_bind (za0 (getElem?_pos (arrOf st) (aD+k+(na-k)-1) hla) ?_)
 refine wpS_bind (zcj (arr:=arrOf st) (base:=aD+na) (n:=nb) (hint:=nb-1) C R.kind oA (mem _ hla) (by omega) (by omega) λm n1=>?_)
 refine zan (λc2=>wpS_pure (fin _ R.kind R.failed R.perm rfl)) λc2=>?_
 have c2':¬m=0:=λz=>c2 (beq_iff_eq.mpr z)
 have qg:(arrOf st).toList=(arrOf st).toList.take (aD+k)++((((arrOf st).extract (aD+k) (aD+na)).toList++((arrOf st).extract (aD+na) (aD+na+m)).toList)++(arrOf st).toList.drop (aD+na+m)):=by
  rw[←Qy,←Qy,zfo (by omega) (by omega),zfo (by omega) (by omega),Yz]
 have oX:=of_ext R.perm (aD+k) (aD+na)
 have oY:=of_ext R.perm (aD+na) (aD+na+m)
 have zX:0<((arrOf st).extract (aD+k) (aD+na)).size:=by rw[Array.size_extract];omega
 have zY:0<((arrOf st).extract (aD+na) (aD+na+m)).size:=by rw[Array.size_extract];omega
 have done:∀(res:Array Keyed) (ae:SortSt),res.toList.Perm (((arrOf st).extract (aD+k) (aD+na)).toList++((arrOf st).extract (aD+na) (aD+na+m)).toList)→SG (SortSt.mk' (kindOf st) (arrOf st) (((pendingOf st).setIfInBounds i (aD,na+nb,pw)).eraseIdxIfInBounds (i+1)) (gallopOf st) (failedOf st)) ae →
   wpS (model prog w) A E s (do
    modify λz=>SortSt.mk' (kindOf z) (res.toList.zipIdx.foldl (λ(a:Array Keyed) (q:Keyed×Nat)=>a.setIfInBounds (aD+k+q.2) q.1) (arrOf z)) (pendingOf z) (gallopOf z) (failedOf z)
    let z ←get
    pure (failedOf z).isNone) Q ae:=by
  intro res ae mg ⟨g,est⟩
  subst est
  refine wpS_bind (wpS_modify (wpS_bind (wpS_get ?_)))
  have ou:failedOf st=none:=R.failed
  show wpS _ _ _ _ (pure (failedOf st).isNone) _ _
  rw[ou]
  refine wpS_pure (fin _ R.kind rfl ?_ rfl)
  have pb:=put_back (sa:=aD+k) res.toList 0 (arrOf st) _ _ _ qg (by rw[Zi,Yv];omega) mg.length_eq.symm
  refine Yi.mpr (List.Perm.trans ?_ (Yi.mp R.perm))
  refine List.Perm.trans (List.Perm.of_eq pb) ?_
  conv=>rhs;rw[qg]
  exact Ya _ (List.Perm.append_right _ mg)
 exact zan (λ_=>wpS_bind (wpS_mergeLo C R.kind oX oY zX zY done)) λ_=>wpS_bind (wpS_mergeHi C R.kind oX oY zX zY done)
def PL.congr:∀{ps lw:List (Nat×Nat×Nat)} {off:Nat},(ps.map λq=>(q.1,q.2.1))=(lw.map λq=>(q.1,q.2.1))→PL ps off tot→PL lw off tot:=by
 intro ps
 induction ps with
 |nil =>
  intro lw off e h
  cases lw with
  |nil=>exact h
  |cons q r=>cases e
 | cons q ps ih =>
  intro lw off e h
  cases lw with
  |nil=>cases e
  |cons q' r =>
   rw[Ql,Ql]at e
   obtain⟨e1,e2⟩:=List.cons.inj e
   obtain⟨e3,e4⟩:=Ut e1
   exact⟨e3.symm.trans h.1,e4▸h.2.1,ih e2 (e4▸h.2.2)⟩
def map_mod(f:Nat×Nat×Nat→Nat×Nat×Nat)(hf:∀q,((f q).1,(f q).2.1)=(q.1,q.2.1))(l:List (Nat×Nat×Nat))(i:Nat):((l.modify i f).map λq=>(q.1,q.2.1))=l.map λq=>(q.1,q.2.1):=by
 apply List.ext_getElem?
 intro k
 rw[Qq,Qq,List.getElem?_modify]
 cases l[k]? with
 |none=>simp
 |some q =>
  by_cases e:i=k
  ·simp[e];exact Ut (hf q)
  ·simp[e]
def Rn.mod{tot:Nat}{st:SortSt}(R:Rn kd a₀ tot st)(i:Nat)(f:Nat×Nat×Nat→Nat×Nat×Nat)(hf:∀q,((f q).1,(f q).2.1)=(q.1,q.2.1)):Rn kd a₀ tot (setPending st ((pendingOf st).modify i f)) :=
 ⟨R.kind,R.failed,R.perm,by
  show PL ((pendingOf st).modify i f).toList 0 tot
  rw[Array.toList_modify]
  exact R.pend.congr (map_mod f hf _ i).symm,R.le⟩
def zf0{st:SortSt}{Q:Unit→SortSt→Prop}(C:Cmp prog w A E s kd a₀)(hk:kindOf st=kd)(hf:failedOf st=none)(hp:(arrOf st).Perm a₀)(cx:pendingOf st=#[])(h:∀ae,(arrOf ae).Perm a₀→failedOf ae=none→Q () ae):wpS (model prog w) A E s sortRuns' Q st:=by
 have R0:Rn kd a₀ 0 st:=⟨hk,hf,hp,by rw[cx];rfl,Zg _⟩
 rw[sortRuns'_eq]
 refine wpS_bind (wpS_get ?_)
 dsimp -zeta only
 have hz:(arrOf st).size=a₀.size:=hp.size_eq
 rw[hz]
 refine wpS_bind (wpS_mono (wpS_forRange
  (I:=λx c ae=>Ex1 λtot=>Aj3 (c=(none,tot)) (Rn kd a₀ tot ae) (x≤tot))
  (Q:=λc ae=>Ex1 λtot=>Aj3 (c=(none,tot)) (Rn kd a₀ tot ae) (a₀.size≤tot)) ?step ?fin ⟨0,rfl,R0,Zg _⟩) ?post)
 case fin =>
  rintro c ae ⟨tot,rfl,R,hx⟩
  exact⟨tot,rfl,R,by omega⟩
 case step =>
  rintro x c bd _ hx ⟨tot,rfl,R,qy⟩
  refine zc2 λQ0 bx=>?_
  refine zan (λc0=>wpS_pure (bx _ _ ⟨tot,rfl,R,c0⟩)) λc0=>?_
  have B0:Bs kd a₀ (pendingOf bd) bd:=⟨R.kind,R.failed,rfl,R.perm⟩
  refine wpS_bind (wpS_count (lo:=tot) (nrem:=a₀.size-tot) C (by omega) (by omega) B0 λm c8 B2 m1 m2=>?_)
  dsimp -zeta only
  extract_lets -underBinder +onlyGivenNames n0 jp
  have oH:∀(n':Nat) (ay:SortSt),1≤n'→tot+n'≤a₀.size→Bs kd a₀ (pendingOf bd) ay→wpS (model prog w) A E s (jp () n') Q0 ay:=by
   intro n' ay l1 l2 B3
   have R3:Rn kd a₀ tot ay:=⟨B3.kind,B3.failed,B3.perm,by rw[B3.pend];exact R.pend,R.le⟩
   have push:∀aW,Rn kd a₀ tot aW→Rn kd a₀ (tot+n') (setPending aW ((pendingOf aW).push (tot,n',0))):=λaW R4 =>
    ⟨R4.kind,R4.failed,R4.perm,by show PL ((pendingOf aW).push _).toList 0 _;rw[Jl];exact R4.pend.join ⟨rfl,l1,rfl⟩,l2⟩
   refine wpS_bind (wpS_get ?_)
   extract_lets -underBinder +onlyGivenNames jp2
   have oG:∀aW,Rn kd a₀ tot aW→wpS (model prog w) A E s (jp2 ()) Q0 aW:=λaW R4=>wpS_bind (wpS_modify (wpS_pure (bx _ _ ⟨tot+n',rfl,push aW R4,by omega⟩)))
   cases(pendingOf ay).back? with
   |none=>exact oG _ R3
   | some q =>
    obtain⟨s1,n1,o1⟩:=q
    refine wpS_bind (wpS_mono (wpS_forRange (I:=λ_ c aW=>Aj2 (c=(none,())) (Rn kd a₀ tot aW)) (Q:=λc aW=>Aj2 (c=(none,())) (Rn kd a₀ tot aW)) ?istep (λ_ _ z=>z) ⟨rfl,R3⟩) ?ipost)
    case istep =>
     rintro y c aW _ _ ⟨rfl,R4⟩
     refine zc2 λQ1 hJ=>wpS_bind (wpS_get ?_)
     dsimp only
     by_cases hs:(pendingOf aW).size>1
     ·rw [if_pos hs,getElem?_pos (pendingOf aW) ((pendingOf aW).size - 2) (by omega)]
      refine zan (λ_=>wpS_pure (hJ _ _ ⟨rfl,R4⟩)) λ_=>wpS_bind (zf1 C R4 (by omega) λmo R5 _=>?_)
      exact zan (λz=>absurd z (by decide)) λ_=>wpS_pure (hJ _ _ ⟨rfl,R5⟩)
     ·rw [if_neg hs]
      exact wpS_pure (hJ _ _ ⟨rfl,R4⟩)
    case ipost =>
     rintro c aW ⟨rfl,R4⟩
     exact wpS_bind (wpS_modify (oG _ (R4.mod _ _ λq=>rfl)))
  refine zan (λc1=>?_) λc1=>oH m c8 m1 (by omega) B2
  have vT:m<minRun' a₀.size a₀.size 0:=c1
  refine wpS_bind (wpS_lift (wpAny_rule ⟨rfl,?_⟩))
  refine wpS_bind (wpS_binary (lo:=tot) (n:=min (a₀.size-tot) (minRun' a₀.size a₀.size 0)) C (by omega) B2 λay B3=>?_)
  exact zan (λz=>absurd z (by decide)) λ_=>oH _ ay (by omega) (by omega) B3
 case post =>
  rintro c bd ⟨tot,rfl,R,hx⟩
  refine wpS_bind (wpS_mono (wpS_forRange (I:=λ_ c aW=>Aj2 (c=(none,())) (Rn kd a₀ tot aW)) (Q:=λc aW=>Aj2 (c=(none,())) (Rn kd a₀ tot aW)) ?istep (λ_ _ z=>z) ⟨rfl,R⟩) ?ipost)
  case istep =>
   rintro y c aW _ _ ⟨rfl,R4⟩
   refine zc2 λQ1 hJ=>wpS_bind (wpS_get ?_)
   dsimp only
   refine zan (λ_=>wpS_pure (hJ _ _ ⟨rfl,R4⟩)) λhs=>wpS_bind (zf1 C R4 ?_ λmo R5 _=>?_)
   ·repeat' split
    all_goals omega
   ·exact zan (λz=>absurd z (by decide)) λ_=>wpS_pure (hJ _ _ ⟨rfl,R5⟩)
  case ipost =>
   rintro c aW ⟨rfl,R4⟩
   exact wpS_pure (h aW R4.perm R4.failed)
end
end Tm
end
section
namespace Tm
open PySem PyProof.Rows PySem.W
section
variable{O:KeyOrd}{kf:Nat→O.α}{n:Nat}{s:Nh}{cmp:Nat→Nat→(Bool→Shared→Prop)→Shared→Prop}
def kk(kf:Nat→O.α)(p:Array Nat)(i:Nat):O.α:=kf (p.getD i 0)
def kk_rev{p:Array Nat}{i j:Nat}(hj:j≤p.size)(k:Nat):kk kf (kas_rev p i j) k=if i≤k∧k<j then kk kf p (i+j-1-k) else kk kf p k:=by
 unfold kk kas_rev
 simp only[Wv,getElem?_mirror_all hj k]
 split<;>rfl
def kk_bub(hs:a<p.size)(hd:d≤a)(k:Nat):kk kf (bubble p a d) k=if k=a-d then kk kf p a else if a-d<k∧k≤a then kk kf p (k-1) else kk kf p k:=by
 unfold kk
 simp only[Wv,getElem?_bubble hs d hd k]
 repeat' split
 all_goals rfl
def Up(kf:Nat→O.α)(p:Array Nat)(k:Nat):Prop:=∀i j,i≤j→j<k→O.kle (kk kf p i) (kk kf p j)
def Dn(kf:Nat→O.α)(p:Array Nat)(k:Nat):Prop:=∀i j,i≤j→j<k→O.kle (kk kf p j) (kk kf p i)
def Up.snoc{p:Array Nat}{a:Nat}(h1:1≤a)(h:Up kf p a)(e:O.kle (kk kf p (a-1)) (kk kf p a)):Up kf p (a+1):=λi j bg hj=>by
 by_cases z:j<a
 ·exact h i j bg z
 obtain rfl:j=a:=by omega
 by_cases z2:i=j
 ·subst z2;exact Jz _
 ·exact Ux (h i (j-1) (by omega) (by omega)) e
def Dn.snoc{p:Array Nat}{a:Nat}(h1:1≤a)(h:Dn kf p a)(e:O.kle (kk kf p a) (kk kf p (a-1))):Dn kf p (a+1):=λi j bg hj=>by
 by_cases z:j<a
 ·exact h i j bg z
 obtain rfl:j=a:=by omega
 by_cases z2:i=j
 ·subst z2;exact Jz _
 ·exact Ux e (h i (j-1) (by omega) (by omega))
structure Ar(n:Nat)(p:Array Nat):Prop where
 sz:p.size=n
 lt:∀i,0<n→p.getD i 0<n
 pm:p.Perm (List.toArray (List.range n))
def Ar.of(h:p.Perm (List.toArray (List.range n))):Ar n p:=by
 have z:p.size=n:=by rw[h.size_eq];simp
 refine⟨z,λi h0=>?_,h⟩
 by_cases hi:i<p.size
 ·have:p[i]∈List.range n:=(Yi.mp h).mem_iff.mp (by simp)
  rw[Wv,getElem?_pos p i hi]
  exact Uu.mp this
 ·rw[Wv,getElem?_neg p i hi];exact h0
def Ar.rev{p:Array Nat}(h:Ar n p)(i j:Nat):Ar n (kas_rev p i j):=.of ((mirror_perm _ _ _ _).trans h.pm)
def Ar.bub(h:Ar n p)(i j:Nat):Ar n (bubble p i j):=.of ((bubble_perm _ _ _).trans h.pm)
variable(h0:0<n)(hc:∀i j C,i<n→j<n→C (O.blt (kf i) (kf j)) s→cmp i j C s)
include h0 hc
theorem t_ask{p:Array Nat}(P:Ar n p){α:Type}{i j:Nat}{k:Bool→KasT α}{Q:α→Shared→Prop}(h1:O.klt (kk kf p i) (kk kf p j)→(k true).kasWp cmp Q s)(h2:O.kle (kk kf p j) (kk kf p i)→(k false).kasWp cmp Q s):(KasT.ask (p.getD i 0) (p.getD j 0) k).kasWp cmp Q s:=by
 refine hc _ _ _ (P.lt _ h0) (P.lt _ h0) ?_
 cases e:O.blt (kf (p.getD i 0)) (kf (p.getD j 0)) with
 |true=>exact h1 e
 |false=>exact h2 e
theorem t_asc(P:Ar n p){Q:Nat→Shared→Prop}:∀(f a:Nat),1≤a→a+f≤n→Up kf p a→(∀m,a≤m→m≤a+f→Up kf p m→(m=a+f∨O.klt (kk kf p m) (kk kf p (m-1)))→Q m s)→(kas_asc p f a).kasWp cmp Q s
 |0,a,_,_,hs,h=>h a (Qh _) (Qh _) hs (.inl rfl)
 |f+1,a,h1,hn,hs,h=>t_ask h0 hc P (λe=>h a (Qh _) (by omega) hs (.inr e)) λe=>t_asc P f (a+1) (by omega) (by omega) (hs.snoc h1 e) λm h2 h3=>h m (by omega) (by omega)|>λq h4 h5=>q h4 (h5.imp (by omega) id)
theorem t_desc{Q:Array Nat×Nat×Nat→Shared→Prop}:∀(f:Nat) (p:Array Nat) (a q:Nat),Ar n p→1≤a→a+f≤n→Dn kf p a→q<a→(∀i,a-(q+1)≤i→i<a→kk kf p i=kk kf p (a-1))→(∀p' m q',Ar n p'→a≤m→m≤a+f→Dn kf p' m→q'<m→(∀i,m-(q'+1)≤i→i<m→kk kf p' i=kk kf p' (m-1))→Q (p',m,q') s)→(kas_desc f p a q).kasWp cmp Q s
 |0,p,a,q,P,_,_,hs,hq,he,h=>h p a q P (Qh _) (Qh _) hs hq he
 | f+1,p,a,q,P,h1,hn,hs,hq,he,h=>by
  have again:∀p',Ar n p'→Dn kf p' (a+1)→∀q'<a+1,(∀i,a+1-(q'+1)≤i→i<a+1→kk kf p' i=kk kf p' (a+1-1))→(kas_desc f p' (a+1) q').kasWp cmp Q s:=λp' P' ai q' g8 aN=>t_desc f p' (a+1) q' P' (by omega) (by omega) ai g8 aN λp2 m q2 P2 h3 h4=>h p2 m q2 P2 (by omega) (by omega)
  have one:∀(p':Array Nat) (i:Nat),a+1-(0+1)≤i→i<a+1→kk kf p' i=kk kf p' (a+1-1):=λp' i h2 h3=>by rw[show i=a+1-1 by omega]
  refine t_ask h0 hc P (λe=>?_) λe=>?_
  ·rw [if_pos rfl]
   have same:∀k,kk kf (kas_rev p (a-(q+1)) a) k=kk kf p k:=λk=>by
    rw[kk_rev (by rw[P.sz];omega)]
    split
    ·rw[he _ (by omega) (by omega),he k (by omega) (by omega)]
    ·rfl
   split
   ·refine again _ (P.rev _ _) (fun i j bg hj=>?_) 0 (by omega) (one _)
    rw[same,same]
    exact hs.snoc h1 (Kf e) i j bg hj
   ·exact again _ P (hs.snoc h1 (Kf e)) 0 (by omega) (one _)
  ·rw [if_neg (by simp)]
   refine t_ask h0 hc P (λe2=>?_) λe2=>?_
   ·rw[if_pos rfl];exact h p a q P (Qh _) (by omega) hs hq he
   ·rw [if_neg (by simp)]
    have eq:=KeyOrd.kle_antisymm e2 e
    refine again _ P (hs.snoc h1 e2) (q+1) (by omega) λi h2 h3=>?_
    rw[Nat.add_sub_cancel]
    by_cases z:i=a
    ·rw[z]
    ·rw[he i (by omega) (by omega),eq]
theorem t_tail(P:Ar n p)(h1:1≤m)(hm:m≤n)(hs:Dn kf p m)(h:∀p' k,Ar n p'→1≤k→k≤n→Up kf p' k→Q (k,p') s):(kas_tail3 m n p).kasWp cmp Q s:=by
 unfold kas_tail3
 rw[Ks]
 refine t_asc h0 hc (P.rev 0 m) _ m h1 (by omega) (λi j bg hj=>?_) λk h2 h3 h4 _=>h _ k (P.rev 0 m) (by omega) (by omega) h4
 rw[kk_rev (by rw[P.sz];omega),kk_rev (by rw[P.sz];omega),if_pos (by omega),if_pos (by omega)]
 exact hs _ _ (by omega) (by omega)
theorem t_dpart(P:Ar n p)(hm:m+1≤n)(hs:Dn kf p (m+1))(h:∀p' k,Ar n p'→1≤k→k≤n→Up kf p' k→Q (k,p') s):(kas_descPart m n p).kasWp cmp Q s:=by
 unfold kas_descPart
 rw[Ks]
 refine t_desc h0 hc _ p (m+1) 0 P (by omega) (by omega) hs (by omega) (λi h2 h3=>by rw[show i=m+1-1 by omega]) λp' k q P' h2 h3 ai hq he=>?_
 dsimp only
 split
 ·refine t_tail h0 hc (P'.rev _ _) (by omega) (by omega) (fun i j bg hj=>?_) h
  have same:∀i,kk kf (kas_rev p' (k-(q+1)) k) i=kk kf p' i:=λi=>by
   rw[kk_rev (by rw[P'.sz];omega)]
   split
   ·rw[he _ (by omega) (by omega),he i (by omega) (by omega)]
   ·rfl
  rw[same,same]
  exact ai i j bg hj
 ·exact t_tail h0 hc P' (by omega) (by omega) ai h
theorem t_count(P:Ar n p){Q:Nat×Array Nat→Shared→Prop}(h:∀p' k,Ar n p'→1≤k→k≤n→Up kf p' k→Q (k,p') s):(kas_count n p).kasWp cmp Q s:=by
 unfold kas_count
 rw[Ks]
 refine t_asc h0 hc P _ 1 (Qh _) (by omega) (λi j bg hj=>by rw[show i=j by omega];exact Jz _) λm h1 h2 hs hor=>?_
 split
 ·exact h p m P h1 (by omega) hs
 rename_i az
 have iz:m≠n:=by simpa using az
 have ag:=hor.resolve_left (by omega)
 split
 ·refine t_ask h0 hc P (fun _=>?_) fun e=>?_
  ·rw[if_pos rfl];exact h p m P h1 (by omega) hs
  ·rw [if_neg (by simp)]
   have all:∀k,k<m→kk kf p k=kk kf p (m-1):=λk hk=>KeyOrd.kle_antisymm (hs k (m-1) (by omega) (by omega)) (Ux e (hs 0 k (by omega) hk))
   have same:∀k,kk kf (kas_rev p 0 m) k=kk kf p k:=λk=>by
    rw[kk_rev (by rw[P.sz];omega)]
    split
    ·rw[all _ (by omega),all k (by omega)]
    ·rfl
   refine t_dpart h0 hc (P.rev 0 m) (by omega) (Dn.snoc h1 (λi j bg hj=>?_) (by rw[same,same];exact Kf ag)) h
   rw[same,same,all i (by omega),all j hj]
   exact Jz _
 ·obtain rfl:m=1:=by omega
  exact t_dpart h0 hc P (by omega) (Dn.snoc (Qh _) (λi j bg hj=>by rw[show i=j by omega];exact Jz _) (Kf ag)) h
theorem t_place{k:Nat}(P:Ar n p)(hs:Up kf p k){Q:Nat→Shared→Prop}:∀(f l r:Nat),l≤r→r≤k→r-l≤f→(∀i,i<l→O.kle (kk kf p i) (kk kf p k))→(∀i,r≤i→i<k→O.klt (kk kf p k) (kk kf p i))→(∀l,l≤k→(∀i,i<l→O.kle (kk kf p i) (kk kf p k))→(∀i,l≤i→i<k→O.klt (kk kf p k) (kk kf p i))→Q l s)→(kas_place p k f l r).kasWp cmp Q s
 |0,l,r,h1,h2,h3,h4,h5,h=>h l (by omega) h4 λi q=>h5 i (by omega)
 | f+1,l,r,h1,h2,h3,h4,h5,h=>by
  unfold kas_place
  split
  ·exact h l (by omega) h4 λi q=>h5 i (by omega)
  ·refine t_ask h0 hc P (fun e=>?_) fun e=>?_
   ·rw [if_pos rfl]
    exact t_place P hs f l _ (by omega) (by omega) (by omega) h4 (λi q1 q2=>KeyOrd.klt_of_klt_of_kle e (hs _ _ q1 q2)) h
   ·rw [if_neg (by simp)]
    exact t_place P hs f _ r (by omega) h2 (by omega) (λi q=>Ux (hs i ((l+r)/2) (by omega) (by omega)) e) h5 h
theorem t_bin(h:∀p,Ar n p→Up kf p n→Q p s):∀(f:Nat) (p:Array Nat) (k:Nat),Ar n p→Up kf p k→k+f=n→(kas_bin f p k).kasWp cmp Q s
 |0,p,k,P,hs,e=>h p P (by rwa[←e])
 | f+1,p,k,P,hs,e=>by
  unfold kas_bin
  rw[Ks]
  refine t_place h0 hc P hs k 0 k (by omega) (by omega) (by omega) (λi q=>absurd q (by omega)) (λi q1 q2=>absurd q2 (by omega)) λl hl lR hhi=>t_bin h f _ (k+1) (P.bub _ _) (λi j bg hj=>?_) (by omega)
  have hk:k<p.size:=by rw[P.sz];omega
  rw[kk_bub hk (by omega),kk_bub hk (by omega),show k-(k-l)=l by omega]
  repeat' split
  all_goals first
   |(exfalso;omega)
   |exact Jz _
   |exact lR _ (by omega)
   |exact Kf (hhi _ (by omega) (by omega))
   |exact hs _ _ (by omega) (by omega)
theorem t_sort(h:∀p,Ar n p→Up kf p n→Q p s):(kas_sort n).kasWp cmp Q s:=by
 unfold kas_sort
 rw[Ks]
 refine t_count h0 hc (.of (Array.Perm.refl _)) λp k P h1 h2 hs=>?_
 dsimp only
 split
 ·exact t_bin h0 hc h _ p _ P (by rwa[Nat.max_eq_left h1]) (by omega)
 ·exact h p P (by rwa[show k=n by omega]at hs)
end
open AutoSeq1 (wpAny_loadPart')
open MeetsSeq MeetsSeq2 MeetsSeq3 SeqRoads2
section
variable{prog:Ni}{w:Nk}{A:Nn}{E:Nc}{s:Nh}{R:List Value→Prop}{vs:Nj}
structure zb9(prog:Ni)(w:Nk)(A:Nn)(E:Nc)(s:Nh)(R:List Value→Prop)(vs:Nj):Prop where
 few:vs.length<2→R vs
 go:2≤vs.length→∃kd:SortKind,(∀Q:SortKind→Shared→Prop,Q kd s→wpAny (model prog w) A (keyKind' vs.toArray) Q E s) ∧
  ∀Q:Unit→SortSt→Prop,(∀ae,(arrOf ae).Perm (pairsOf vs)→failedOf ae=none→R ((arrOf ae).toList.map (·.2))→Q () ae)→wpS (model prog w) A E s sortRuns' Q (SortSt.mk' kd (vs.toArray.zip vs.toArray) #[] 7 none)
def zdr(vs:Nj):(pairsOf vs).toList=vs.map λv=>(v,v):=by
 rw[pairsOf_toList]
 induction vs with
 |nil=>rfl
 |cons v r ih=>rw[List.zip_cons_cons,Ql,ih]
def perm_back{l:List Keyed}{vs:Nj}(h:l.Perm (vs.map λv=>(v,v))):(l.map (·.2)).Perm vs:=by
 have:=h.map (·.2)
 rwa[Ze,show((λ(p:Keyed)=>p.2)∘λv=>(v,v))=id from rfl,Km]at this
def cmp_of{kd:SortKind}(h:∀x y,x∈vs→y∈vs→∀(Q:Bool→Shared→Prop) (E':Value→Shared→Prop),(∀b,Q b s)→wpAny (model prog w) A (keyLt' kd x y) Q E' s):Cmp prog w A E s kd (pairsOf vs):=by
 intro x y st Q hx hy hk q
 rw[zdr]at hx hy
 obtain⟨v,hv,rfl⟩:=Qf.mp hx
 obtain⟨u,hu,rfl⟩:=Qf.mp hy
 rw[lt'_eq]
 refine wpS_bind (wpS_get ?_)
 rw[hk]
 refine wpS_bind (wpS_lift (wpAny_attempt (h v u hv hu _ _ λb=>⟨rfl,?_⟩)))
 exact wpS_pure (q b)
def zb9.any(h:2≤vs.length→∃kd:SortKind,(∀Q:SortKind→Shared→Prop,Q kd s→wpAny (model prog w) A (keyKind' vs.toArray) Q E s)∧∀x y,x∈vs→y∈vs→∀(Q:Bool→Shared→Prop) (E':Nc),(∀b,Q b s)→wpAny (model prog w) A (keyLt' kd x y) Q E' s):zb9 prog w A E s (λ_=>True) vs :=
 ⟨fun _=>trivial,fun h2=>by
  obtain⟨kd,a1,a2⟩:=h h2
  exact⟨kd,a1,λQ q=>zf0 (cmp_of a2) rfl rfl (Array.Perm.refl _) rfl λae p1 p2=>q ae p1 p2 trivial⟩⟩
def zb9.ord{O:KeyOrd}{kv:Value→O.α}(h:2≤vs.length→∃ kd:SortKind,(∀ Q:SortKind→Shared→Prop,Q kd s→wpAny (model prog w) A (keyKind' vs.toArray) Q E s)∧∀ x y,x∈vs→y∈vs→∀ (Q:Bool→Shared→Prop) (E':Nc),Q (O.blt (kv x) (kv y)) s→wpAny (model prog w) A (keyLt' kd x y) Q E' s):zb9 prog w A E s (fun ws=>vs.length < 64→ws.Pairwise fun x y=>O.kle (kv x) (kv y)) vs:=by
 refine⟨λh2 _=>?_,λh2=>?_⟩
 ·obtain _ | ⟨v,_ | ⟨v',r⟩⟩:=vs
  ·exact List.Pairwise.nil
  ·exact Wq _ _
  ·exact absurd h2 (by simp)
 obtain⟨kd,a1,a2⟩:=h h2
 refine⟨kd,a1,λQ q=>?_⟩
 by_cases rD:vs.length<64
 ·have at_:∀ i,i < vs.length→vs.getD i .none∈vs:=fun i hi=>by
   rw[Zs,Qd hi]
   exact Qv hi
  have st0:SortSt.mk' kd (vs.toArray.zip vs.toArray) #[] 7 none=kas_st kd (pairsOf vs) (List.toArray (List.range vs.length)):=by
   unfold kas_st
   rw[←pairsOf_size vs,kas_range]
   rfl
  rw[st0]
  refine kas_runs (κ:=kd) (it:=pairsOf vs) (E:=E) (Q:=λr st s'=>s'=s∧Q r st) (G:=λp s'=>Aj3 (s'=s) (Ar vs.length p) (Up (O:=O) (λi=>kv (vs.getD i .none)) p vs.length)) h2 rD (λp ae s' hz ha hf ⟨hs,P,U⟩=>⟨hs,q ae ?_ hf λ_=>?_⟩) (t_sort (O:=O) (kf:=λi=>kv (vs.getD i .none)) (by omega) (λi j C hi hj hC=>?_) λp P U=>⟨rfl,P,U⟩)
  ·have:=(Yi.mp P.pm).map (kas_item (pairsOf vs))
   rw[←Xb,←Xb,←pairsOf_size vs,kas_range]at this
   rw[ha]
   exact Yi.mpr this
  ·rw [ha,Xb,Ze,Wr,Kg]
   intro i j hi hj bg
   have e:∀k (hk:k<p.toList.length),kv ((kas_item (pairsOf vs) p.toList[k]).2)=kk (λi=>kv (vs.getD i .none)) p k:=λk hk=>by
    unfold kk
    rw[kas_item_eq,Wv,getElem?_pos p k (by simpa using hk)]
    rfl
   show O.kle (kv _) (kv _)
   dsimp only[Function.comp]
   rw[e i hi,e j hj]
   exact U i j (Ug bg) (by simpa[P.sz] using hj)
  ·unfold kas_cmp
   rw[kas_item_eq,kas_item_eq]
   exact a2 _ _ (at_ i hi) (at_ j hj) _ _ hC
 ·exact zf0 (cmp_of λx y hx hy Q' E' q'=>a2 x y hx hy Q' E' (q' _)) rfl rfl (Array.Perm.refl _) rfl λae p1 p2=>q ae p1 p2 λz=>absurd z rD
abbrev strO:KeyOrd:=strKind.toKeyOrd
def kvS(v:Value):List Nat:=(strOf v).cps.toList
def zhz(hv:∀v∈vs,∃x t,v=.str x t):zb9 prog w A E s (λws=>vs.length<64→ws.Pairwise λx y=>strO.kle (kvS x) (kvS y)) vs:=by
 refine .ord λh2=>⟨oneType',λQ q=>kas_kind (T:=.type "str") h2 (λv hm=>?_) (by decide) (by decide) q,λx y hx hy Q E' q=>?_⟩
 ·obtain ⟨x,t,rfl⟩:=hv v hm
  exact Looks.of_pure rfl
 ·obtain ⟨a,t,rfl⟩:=hv x hx
  obtain⟨b,u,rfl⟩:=hv y hy
  rw[keyLt'_oneType]
  exact oneLt_str q
def sort_list{a:Nb}{n:Nat}{P:Fin→Shared→Prop}(ho:s.heap.get? a=some (seqObj "list" vs.toArray n))(hz:vs.length≤sizeLine)(hS:∀s':Shared,(∀b o,b≠a→s.heap.get? b=some o→s'.heap.get? b=some o)→zb9 prog w A E s' R vs)(h:∀ws:List Value,ws.Perm vs→R ws→P (.done (.ret .none)) {s with heap:=sortedHeap s.heap a vs ws.toArray}) :
  wpAny (model prog w) A (Builtin.«list.sort» ⟨[.ref a],[]⟩) P E s:=by
 have lt:a<s.heap.objs.size:=Qt ho
 rw[list_sort_plain]
 refine wpAny_bind (listItems_at ho rfl (wpAny_bind (listUpdate_at ho rfl ?_ (hsz:=by simpa using hz) (hsz2:=by simp))))
 obtain⟨e1,k1⟩:∃e,(s.heap.update a (Obj.mapSeq λ_=>#[])).get? a=some (seqObj "list" #[] e):=⟨_,get?_update_seq ho λ_=>#[]⟩
 refine wpAny_bind (seqEpoch_at k1 rfl (wpAny_bind (wpAny_newTuple (wpAny_bind (wpAny_newList (wpAny_holding ?_))))))
 show wpAny (model prog w) A _ P E {s with heap:=((s.heap.update a (Obj.mapSeq λ_=>#[])).push (seqObj "tuple" vs.toArray 0)).push (seqObj "list" #[] 0)}
 generalize hg:((s.heap.update a (Obj.mapSeq λ_=>#[])).push (seqObj "tuple" vs.toArray 0)).push (seqObj "list" #[] 0)=g
 have k6:g.get? a=some (seqObj "list" #[] e1):=by
  rw[←hg]
  exact Qj _ (Qj _ k1)
 have kk:∀b o,b≠a→s.heap.get? b=some o→g.get? b=some o:=λb o hb e=>by
  rw[←hg]
  exact Qj _ (Qj _ ((Ue s.heap _ (Qw hb)).trans e))
 have eh:∀out,sortedHeap s.heap a vs out=g.update a (Obj.mapSeq λ_=>out):=λout=>by rw[←hg];rfl
 have S:=hS {s with heap:=g} kk
 dsimp only
 have fin:∀(l:Array Keyed),l.toList.Perm (vs.map λv=>(v,v))→R (l.toList.map (·.2))→P (.done (.ret .none)) {s with heap:=g.update a (Obj.mapSeq λ_=>l.map (·.2))}:=λl p1 p2=>by
  have:=h _ (perm_back p1) p2
  rw[eh]at this
  rw[show l.map (·.2)=(l.toList.map (·.2)).toArray by rw[←Xb]]
  exact this
 have lz:vs.toArray.size=vs.length:=Qu
 have szOk:∀l:Array Keyed,l.toList.Perm (vs.map λv=>(v,v))→(l.map (·.2)).size≤sizeLine+1:=λl p1=>by
  rw[Array.size_map,←Yv,p1.length_eq,Qa];exact zar16 ‹_›
 by_cases few:vs.toArray.size<2
 ·rw [if_pos few,if_pos few]
  refine wpAny_bind (wpAny_pure ?_)
  rw[StateT.run_pure]
  have pr:(pairsOf vs).toList.Perm (vs.map λv=>(v,v)):=by rw[zdr]
  refine wpAny_bind (wpAny_pure (wpAny_bind (seqEpoch_at k6 rfl (wpAny_bind (listUpdate_at k6 rfl ?_ (hsz:=by simp) (hsz2:=szOk (pairsOf vs) pr))))))
  simp only[bne_self_eq_false,Jh,if_false]
  refine wpAny_pure (fin (pairsOf vs) pr ?_)
  rw[zdr,Ze,show((λ(p:Keyed)=>p.2)∘λv=>(v,v))=id from rfl,Km]
  exact S.few (by rw[←lz];exact few)
 ·rw [if_neg few,if_neg few]
  obtain⟨kd,ask,C⟩:=S.go (by omega)
  refine wpAny_bind (ask _ ?_)
  refine wpAny_bind (wpAny_mono (C (λ_ ae=>Aj3 ((arrOf ae).Perm (pairsOf vs)) (failedOf ae=none) (R ((arrOf ae).toList.map (·.2)))) λae p1 p2 p3=>⟨p1,p2,p3⟩) ?_ λ_ _ e=>e)
  rintro⟨⟨⟩,ae⟩ s' ⟨rfl,p1,p2,p3⟩
  have pr:(arrOf ae).toList.Perm (vs.map λv=>(v,v)):=by rw[←zdr];exact Yi.mp p1
  dsimp only
  refine wpAny_bind (seqEpoch_at k6 rfl (wpAny_bind (listUpdate_at k6 rfl ?_ (hsz:=by simp) (hsz2:=szOk (arrOf ae) pr))))
  rw[p2]
  simp only[bne_self_eq_false,Jh,if_false]
  exact wpAny_pure (fin _ pr p3)
def zez{x:Value}{G:List Value→Prop}{R:List Value→List Value→Prop}{Q:Nc}(vn:∀(E':Nc) (R:List Value→Shared→Prop),(∀(g:Nm) (tk:Nat) (vs:Nj),(∀b o,s.heap.get? b=some o→g.get? b=some o)→s.heap.objs.size≤g.objs.size→G vs→R vs {s with heap:=g,toks:=tk})→wpAny (model prog w) A.in1 (collect x) R E' s)(hz:∀vs,G vs→vs.length≤sizeLine)(hS:∀vs,G vs→∀(A':Around) (E':Value→Shared→Prop) (s':Shared),A'.units≤A.units+8→(∀b o,s.heap.get? b=some o→s'.heap.get? b=some o)→zb9 prog w A' E' s' (R vs) vs)(h:∀(vs ws:Nj) (l:Nb) (g:Nm) (tk e:Nat),G vs→ws.Perm vs→R vs ws→s.heap.objs.size≤l→(∀b o,s.heap.get? b=some o→g.get? b=some o)→g.get? l=some (seqObj "list" ws.toArray e)→Q (.ref l) {s with heap:=g,toks:=tk}) :
  wpAny (model prog w) A (call (.builtin "sorted") [x]) Q E s:=by
 refine Calls.call_function_entry kind_sorted plain_sorted entry_sorted (args_sorted1 _) ?_
 unfold Builtin.«sorted»
 refine wpAny_bind (m:=checkCount "sorted" 1 1 _) (wpAny_pure (wpAny_bind (vn _ _ λg tk vs kg le hG=>?_)))
 have hzv:=hz vs hG
 refine wpAny_bind (wpAny_newList ?_ (hsz:=hzv))
 have o1:(g.push (seqObj "list" vs.toArray 0)).get? g.objs.size=some (seqObj "list" vs.toArray 0):=Zf _ rfl
 show wpAny _ _ _ _ _ {s with heap:=g.push (seqObj "list" vs.toArray 0),toks:=tk}
 refine wpAny_bind (wpAny_holding (wpAny_call_entry slot_list_sort ⟨_,o1,rfl⟩ entry_list_sort (sort_list (R:=R vs) o1 hzv (λs' k=>hS vs hG _ _ s' ?_ λb o e=>k b o (λz=>?_) (Qj _ (kg b o e))) λws p1 p2=>⟨_,rfl,?_⟩) (args_list_sort _)))
 ·show A.units+1+1≤A.units+8
  omega
 ·have lt:b < g.objs.size:=Qt (kg b o e)
  rw[z]at lt
  exact absurd lt (Yu _)
 ·obtain ⟨e,he⟩:=sortedHeap_at (out:=ws.toArray) o1
  refine wpAny_pure ⟨_,rfl,h vs ws _ _ _ e hG p1 p2 le (λb o q=>?_) he⟩
  have lt:b<g.objs.size:=Qt (kg b o q)
  rw[sortedHeap_old (Zc lt) (by rw[size_push'];exact Um lt)]
  exact Qj _ (kg b o q)
def zgw{T:String}{r d:Nb}{n:Nat}{P:Nat→Value→Prop}{OK:Heap→Prop}{R:List Value→Shared→Prop}(K:KdlSrc prog w T r d n P OK)(hh:A.handled=none)(ok:OK s.heap)(hn:n≤sizeLine)(h:∀(g:Nm) (tk:Nat) (aj:Array Value),(∀b o,s.heap.get? b=some o→g.get? b=some o)→s.heap.objs.size≤g.objs.size→ItemsOf P aj n→R aj.toList {s with heap:=g,toks:=tk}) :
  wpAny (model prog w) A (collect (.ref r)) R E s:=by
 have there:=K.there _ ok
 unfold collect
 refine wpAny_bind (wpAny_runValue (codeAny_builtin entry_proto_collect' ?_))
 rw[We PySem.F.plain_proto_collect _]
 show wpAny _ A.in1 (newList [] >>= λl =>
  again (.builtin "list.__iadd__" ⟨[l,.ref r],[]⟩)) _ _ s
 refine wpAny_bind (wpAny_newObj_type (wpAny_pure ⟨plainId_quiet PySem.F.plain_list_iadd _,codeAny_builtin entry_list_iadd' ?_⟩))
 rw[We PySem.F.plain_list_iadd _]
 show wpAny _ A.in1 (Builtin.List.listExtendWith (.ref s.heap.objs.size)
  (.ref r) (.ref s.heap.objs.size)) _ _ _
 have lm:(s.heap.push {cls:=.type "list",data:=.seq ([]:List Value).toArray}).get? s.heap.objs.size=some {cls:=.type "list",data:=.seq #[]}:=Zf _ rfl
 refine wpAny_mono (kdl_extend (A:=A) (s:={s with heap:=s.heap.push {cls:=.type "list",data:=.seq ([]:List Value).toArray}})
  (R:=fun (q:Result) (s':Nh)=>∃ (g:Nm) (tk:Nat) (aj:Array Value) (c:Nat),q=.ok (.ret (.ref s.heap.objs.size))∧s'={ s with heap:=g,toks:=tk } ∧
   (∀b o,s.heap.get? b=some o→g.get? b=some o)∧g.get? s.heap.objs.size=some {cls:=.type "list",dict:=none,data:=.seq aj c,slots:=#[]}∧ItemsOf P aj n)
  K hh (K.keep _ _ ok λb _ o e=>Qj _ e) s.heap.objs.size (Yc there.1) (Yc there.2) (.ref s.heap.objs.size) 0 lm
  (λg tk aj c hk hS ha=>⟨g,tk,aj,c,rfl,rfl,λb o e=>hk b o (Zc (Qt e)) (Qj _ e),hS,ha⟩) hn) (λfin s' x=>?_) λe s' x=>?_
 ·cases fin with
  |done f =>
   obtain⟨g,tk,aj,c,e,rfl,hk,hS,ha⟩:=x
   cases e
   show wpAny _ A (load s.heap.objs.size >>= _) _ _ _
   exact wpAny_bind (wpAny_load hS (wpAny_pure (h g tk aj hk (Ug (Qt hS)) ha)))
  |again c1 =>
   refine⟨x.1,codeAny_mono x.2 λq s2 y=>?_⟩
   obtain⟨g,tk,aj,c,rfl,rfl,hk,hS,ha⟩:=y
   show wpAny _ A (load s.heap.objs.size >>= _) _ _ _
   exact wpAny_bind (wpAny_load hS (wpAny_pure (h g tk aj hk (Ug (Qt hS)) ha)))
 ·obtain ⟨_,_,_,_,e',_⟩:=x
  cases e'
def sorted_any{Q:Nc}(hl:s.heap.IsList l vs.toArray)(hz:vs.length≤sizeLine)(hS:∀(A':Around) (E':Value→Shared→Prop) (s':Shared),A'.units≤A.units+8→(∀b o,s.heap.get? b=some o→s'.heap.get? b=some o)→zb9 prog w A' E' s' R vs)(h:∀(ws:Nj) (l:Nb) (g:Nm) (tk e:Nat),ws.Perm vs→R ws→s.heap.objs.size≤l→(∀b o,s.heap.get? b=some o→g.get? b=some o)→g.get? l=some (seqObj "list" ws.toArray e)→Q (.ref l) {s with heap:=g,toks:=tk}) :
  wpAny (model prog w) A (call (.builtin "sorted") [.ref l]) Q E s :=
 zez (G:=λus=>us=vs) (R:=λ_=>R) (λE' R' hR=>collect_list hl (hR _ _ _ (λb o e=>(Ue _ _ (Qw (Zc (Qt e)))).trans (Qj _ e)) (by rw[Heap.size_update,size_push'];exact Ww _) rfl) hz) (λus e=>e▸hz) (λus e=>e▸hS) λus ws l g tk e e' p1 p2=>h ws l g tk e (e'▸p1) p2
end
def str_ext{a b:Str}(h:a.cps.toList=b.cps.toList):a=b:=by
 cases a;cases b
 exact congrArg _ (Xc.mp h)
def str_ne{a b:Str}(h:¬a=b):¬a.cps.toList=b.cps.toList:=λq=>h (str_ext q)
def pairO(O P:KeyOrd):KeyOrd where
 α:=O.α×P.α
 blt a b:=O.blt a.1 b.1||(!O.blt b.1 a.1&&P.blt a.2 b.2)
 irrefl a:=by rw[O.irrefl,P.irrefl];rfl
 trans a b c h1 h2:=by
  simp only[Uf,Xa,Kp]at *
  rcases h1 with h1 | ⟨n1,h1⟩
  ·rcases h2 with h2 | ⟨n2,h2⟩
   ·exact .inl (O.trans _ _ _ h1 h2)
   ·exact .inl (KeyOrd.klt_of_klt_of_kle h1 n2)
  ·rcases h2 with h2 | ⟨n2,h2⟩
   ·exact .inl (KeyOrd.klt_of_kle_of_klt n1 h2)
   ·exact .inr ⟨Ux n1 n2,P.trans _ _ _ h1 h2⟩
 negTrans a b c h:=by
  simp only[Uf,Xa,Kp]at *
  rcases h with h | ⟨n,h⟩
  ·rcases O.negTrans _ b.1 _ h with q | q
   ·exact .inl (.inl q)
   ·exact .inr (.inl q)
  ·cases e1:O.blt a.1 b.1 with
   |true=>exact .inl (.inl rfl)
   | false =>
    cases e2:O.blt b.1 c.1 with
    |true=>exact .inr (.inl rfl)
    |false =>
     have n1:O.blt b.1 a.1=false:=Ux (O:=O) (a:=a.1) (b:=c.1) (c:=b.1) n e2
     have n2:O.blt c.1 b.1=false:=Ux (O:=O) (a:=b.1) (b:=a.1) (c:=c.1) e1 n
     rcases P.negTrans _ b.2 _ h with q | q
     ·exact .inl (.inr ⟨n1,q⟩)
     ·exact .inr (.inr ⟨n2,q⟩)
 total a b h1 h2:=by
  simp only[Bool.or_eq_false_iff,Bool.and_eq_false_iff,Bool.not_eq_false']at *
  have e1:=O.total _ _ h1.1 h2.1
  obtain⟨a1,a2⟩:=a
  obtain⟨b1,b2⟩:=b
  simp only at e1 h1 h2
  subst e1
  have i:=O.irrefl a1
  rw[i]at h1 h2
  have p1:P.blt a2 b2=false:=h1.2.elim (λz=>by cases z) id
  have p2:P.blt b2 a2=false:=h2.2.elim (λz=>by cases z) id
  rw[P.total _ _ p1 p2]
def ziq(h:Nm):Value→List Value
 | .ref a=>match h.get? a with
  |some o=>match o.data with
   |.seq xs _=>xs.toList
   |_=>[]
  |none=>[]
 |_=>[]
def itemsAt_ref(e:h.get? a=some o)(d:o.data=.seq xs n):ziq h (.ref a)=xs.toList:=by
 unfold ziq
 dsimp only
 rw[e]
 dsimp only
 rw[d]
def kvP(h:Nm)(v:Value):List Nat×List Nat:=(kvS ((ziq h v).getD 0 .none),kvS ((ziq h v).getD 1 .none))
def zfl(h:Nm)(v:Value)(x:Str)(q:Value):Prop:=∃a o t n,v=.ref a∧h.get? a=some o∧o.cls=.type "tuple" ∧ o.data=.seq #[.str x t,q] n
def zfl.key(p:zfl h v x q):kvP h v=(x.cps.toList,kvS q):=by
 obtain⟨a,o,t,n,rfl,e,c,d⟩:=p
 unfold kvP
 rw[itemsAt_ref e d]
 rfl
theorem katTups(k:∀b o,h.get? b=some o→s.get? b=some o):∀(vs:Nj),(∀v∈vs,∃x q,zfl h v x q)→∃fs,KatTups s vs fs∧fs.length=vs.length∧∀f∈fs,∃x t,f=.str x t
 |[],_=>⟨[],.nil,rfl,λf hf=>by cases hf⟩
 |v::vs,hv=>by
  obtain⟨fs,h1,h2,h3⟩:=katTups k vs λu hu=>hv u (Qg _ hu)
  obtain⟨x,q,a,o,t,n,rfl,e,c,d⟩:=hv v Qc
  refine⟨.str x t::fs,.cons (k _ _ e) c d rfl h1,by rw[Qz,Qz,h2],λf hf=>?_⟩
  rcases Qe.mp hf with z | z
  ·exact⟨x,t,z⟩
  ·exact h3 f z
section
variable{prog:Ni}{w:Nk}{A:Nn}{E:Nc}{s:Nh}{vs:Nj}{h:Nm}
def kind_tups(k:∀b o,h.get? b=some o→s.heap.get? b=some o)(hv:∀v∈vs,∃x q,zfl h v x q)(h2:2≤vs.length)(q:Q (tuples' true) s):wpAny (model prog w) A (keyKind' vs.toArray) Q E s:=by
 obtain⟨fs,h1,h3,h4⟩:=katTups k vs hv
 refine kat_kind (T:=.type "str") h1 (by omega) (λf hf=>?_) (by decide) q
 obtain⟨x,t,rfl⟩:=h4 f hf
 exact Looks.of_pure rfl
def blt_p:(pairO strO strO).blt (x,y) (x',y')=if x=x' then decide (y<y') else decide (x<x'):=by
 show(decide (x<x')||(!decide (x'<x)&&decide (y<y')))=_
 split
 ·rename_i e
  subst e
  rw[decide_eq_false (Wz x)];rfl
 ·rename_i ne
  by_cases h1:x<x'
  ·rw[decide_eq_true h1];rfl
  ·rw[decide_eq_false h1,decide_eq_true (Kj λh2=>ne (strO.total _ _ (decide_eq_false h1) (decide_eq_false h2)))];rfl
def zeh(k:∀ b o,h.get? b=some o→s.heap.get? b=some o)(hv:∀ v∈vs,∃ x q,zfl h v x q)(hd:∀ v∈vs,∀ u∈vs,∀ x p q,zfl h v x p→zfl h u x q→v=u∨∃ y t y' t',p=.str y t∧q=.str y' t'):zb9 prog w A E s (fun ws=>vs.length < 64→ws.Pairwise fun x y=>(pairO strO strO).kle (kvP h x) (kvP h y)) vs:=by
 refine .ord λh2=>⟨tuples' true,λQ q=>kind_tups k hv h2 q,λv v' hx hy Q E' q=>?_⟩
 have same:=hd v hx v' hy
 obtain⟨x,z,p⟩:=hv v hx
 obtain⟨x',z',p'⟩:=hv v' hy
 have P:=p
 have P':=p'
 rw[P.key,P'.key,blt_p]at q
 obtain⟨a,o,t,n,rfl,e,c,d⟩:=p
 obtain⟨a',o',t',n',rfl,e',c',d'⟩:=p'
 refine kat_lt (k _ _ e) d (k _ _ e') d' ?_
 show KatLex _ _ _ _ _ _ [(Value.str x t,Value.str x' t'),(z,z')] 0 s
 refine kat_cons (wpAny_eqBool_str ?_)
 by_cases ex:x=x'
 ·subst ex
  rw[if_pos rfl]at q
  rw[decide_eq_true rfl]
  refine kat_yes (kat_cons ?_)
  rcases same x z z' P P' with e2 | ⟨y,u,y',u',rfl,rfl⟩
  ·cases e2
   rw[e]at e'
   cases e'
   rw[d]at d'
   have d2:(#[Value.str x t,z]:Array Value)=#[Value.str x t',z']:=by injection d'
   have d3:z=z':=by
    have:=congrArg (λa:Array Value=>a[1]?) d2
    simpa using this
   subst d3
   rw[decide_eq_false (Wz _)]at q
   exact SeqAt.EqAt.same z _ _ _ _ (kat_yes (kat_nil q))
  ·refine wpAny_eqBool_str ?_
   by_cases ey:y=y'
   ·subst ey
    rw[show kvS (Value.str y u')=kvS (Value.str y u) from rfl,decide_eq_false (Wz _)]at q
    rw[decide_eq_true rfl]
    exact kat_yes (kat_nil q)
   ·rw [decide_eq_false ey]
    exact kat_no (kat_one _ _ (lt_str q))
 ·rw [decide_eq_false ex]
  rw[if_neg (str_ne ex)]at q
  exact kat_no (oneLt_str q)
end
def lt_loopAt(l b:Nb)(xs ys:List (Str×Tok))(n n2:Nat)(k:Nat) :
  ∀ i:Nat,min xs.length ys.length - i=k→i≤min xs.length ys.length→Meets (Builtin.«list.__eq__.loop» ⟨[.ref l,.ref b,rawInt i,rawInt 0],[]⟩)
   (fun A R s=>s.heap.get? l=some { cls:=.type "list",data:=.seq (strValues xs).toArray n }∧s.heap.get? b=some { cls:=.type "list",data:=.seq (strValues ys).toArray n2 } ∧
    ∀z,R (.ok (.ret (.bool z))) s):=by
 have get:∀(zs:List (Str×Tok)) (i:Nat),(strValues zs).toArray[((i:Nat):Int).toNat]?=zs[i]?.map λp=>Value.str p.1 p.2:=λzs i=>by
  simp[strValues]
 induction k with
 | zero =>
  intro i hk ut prog w A R s h
  obtain⟨hp,g,d,tk,os⟩:=s;obtain⟨hl,hb,h⟩:=h
  wp_walk using wpAny_loadPart' hl,wpAny_loadPart' hb
  rw[get,get]
  by_cases hx:i<xs.length
  ·have hy:ys[i]?=none:=by simp;lia
   rw[hy,Qd hx]
   dsimp only[Option.map_some,Option.map_none]
   wp_walk using wpAny_loadPart' hl,wpAny_loadPart' hb
   exact h _
  ·have cv:xs[i]?=none:=by simp;lia
   rw[cv]
   dsimp only[Option.map_some,Option.map_none]
   wp_walk using wpAny_loadPart' hl,wpAny_loadPart' hb
   exact h _
 | succ k ih =>
  intro i hk ut prog w A R s h
  obtain⟨hp,g,d,tk,os⟩:=s;obtain⟨hl,hb,h⟩:=h
  wp_walk using wpAny_loadPart' hl,wpAny_loadPart' hb
  have hx:i<xs.length:=by lia
  have hy:i<ys.length:=by lia
  rw[get,get,Qd hx,Qd hy]
  dsimp only[Option.map_some]
  have hc:((i:Int)+1)=((i+1:Nat):Int):=by push_cast;rfl
  refine wpAny_bind (wpAny_eqBool_str ?_)
  by_cases he:xs[i].1=ys[i].1
  ·rw [decide_eq_true he]
   wp_walk
   rw[hc]
   exact⟨plainId_quiet plain_eq_loop _,codeAny_builtin entry_eq_loop (by
    rw[We plain_eq_loop _]
    exact ih (i+1) (by lia) (by lia) prog w A R _ ⟨hl,hb,h⟩)⟩
  ·rw [decide_eq_false he]
   wp_walk using wpAny_loadPart' hl,wpAny_loadPart' hb
   rw[get,get,Qd hx,Qd hy]
   dsimp only[Option.map_some]
   refine wpAny_bind (show wpAny _ _ (compareOp .Lt (Value.str xs[i].1 xs[i].2) (Value.str ys[i].1 ys[i].2)) _ _ _ from lt_str ?_)
   wp_walk
   exact h _
def list_ltAt(l b:Nb)(xs ys:List (Str×Tok))(n n2:Nat):Meets (Builtin.«list.__lt__» ⟨[.ref l,.ref b],[]⟩)
   (fun A R s=>s.heap.get? l=some { cls:=.type "list",data:=.seq (strValues xs).toArray n }∧s.heap.get? b=some { cls:=.type "list",data:=.seq (strValues ys).toArray n2 } ∧
    ∀z,R (.ok (.ret (.bool z))) s):=by
 intro prog w A R s h
 obtain⟨hp,g,d,tk,os⟩:=s;obtain⟨hl,hb,h⟩:=h
 have f3:=AutoSeq1.sub_list_list
 wp_walk using wpAny_loadPart' hl,wpAny_loadPart' hb
 exact⟨plainId_quiet plain_eq_loop _,codeAny_builtin entry_eq_loop (by
  rw[We plain_eq_loop _]
  exact lt_loopAt l b xs ys n n2 _ 0 rfl (Zg _) prog w A R _ ⟨hl,hb,h⟩)⟩
section
variable{prog:Ni}{w:Nk}{A:Nn}{E:Nc}{s:Nh}
def zg4{vs:Nj}{h:Nm}(hu:A.units<cLine)(k:∀b o,h.get? b=some o→s.heap.get? b=some o)(hv:∀v∈vs,∃a xs n,v=.ref a∧h.get? a=some {cls:=.type "list",data:=.seq (strValues xs).toArray n}):zb9 prog w A E s (λ_=>True) vs:=by
 refine .any λh2=>⟨oneType',λQ q=>kas_kind (T:=.type "list") h2 (λv hm=>?_) (by decide) (by decide) q,λx y hx hy Q E' q=>?_⟩
 ·obtain ⟨a,xs,n,rfl,e⟩:=hv v hm
  exact(Looks.ld (k _ _ e)).andThen .now
 ·obtain ⟨a,xs,n,rfl,e⟩:=hv x hx
  obtain⟨b,ys,m,rfl,e'⟩:=hv y hy
  rw[keyLt'_oneType,oneLt'_eq]
  simp only[if_true]
  refine wpAny_bind (wpAny_cRoomFor hu ?_)
  refine wpAny_bind (wpAny_callSpecialIfBound?_slot ⟨_,k _ _ e,rfl⟩ F.slot_list_lt (call_meets F.slot_list_lt ⟨_,k _ _ e,rfl⟩ F.entry_list_lt (F.args_list_lt_2 _ _) (list_ltAt a b xs ys n m) ⟨k _ _ e,k _ _ e',λz=>?_⟩))
  exact wpAny_truthy_bool (q _)
end
end Tm
end
section
namespace L2
open PySem PySem.Spec PyProof.Rows
def for_strs{K:Na}{a:Nb}{zs:Ng}{g:TG}{tb:TS}{D:Ends}{σ:St}{H:Hp}(Pv:Nat→St→Hp→Prop)(h0:Pv 0 σ H)(hl:∀i σ H,i≤(zs.map V.str).length→Pv i σ H→SqL K H a (zs.map V.str))(hs:∀i (hi:i<zs.length) σ H,Pv i σ H→g (.str zs[i]) σ H λ σ2 H2=>tb {D with nx:=Pv (i+1),ct:=Pv (i+1),bk:=D.nx} σ2 H2)(hd:∀σ H,Pv (zs.map V.str).length σ H→D.nx σ H) :
  ∃W:Nat→Nat→St→Hp→Prop,(∃m,W 0 m σ H)∧∀i m σ H,W i m σ H →
   ((Itl K a).stop i H∧D.nx σ H)∨((Itl K a).go i H∧∃N:St→Hp→Prop,(∀σ' H',N σ' H'→∃m',m'<m∧W (i+1) m' σ' H')∧∀x H',(Itl K a).yld i H x H'→g x σ H' λ σ2 H2=>tb {D with nx:=N,ct:=N,bk:=D.nx} σ2 H2) :=
 zby Pv h0 hl (λi x σ H e p=>by
  have hi:i<zs.length:=by
   have:=(Zd.mp e).1
   rwa[Qa]at this
  rw[Qq,Qd hi]at e
  cases e
  exact hs i hi σ H p) hd
section
variable{X:Cx}
inductive RrIndex(x:V)(vs:List V)(H:Hp)(Q:VK):Prop
 |mk (l:Nb) (xs:List V) (y:V) (j:Nat) (h0:x=.ref l) (h1:vs=[y]) (h2:H l=some (.lst xs)) (h3:zdw y=true) (h4:xs.all zdw=true) (h5:(∃z,xs[j]?=some z∧eqV z y=true)) (h6:(∀m z,m<j→xs[m]?=some z→eqV z y=false)) (h7:Q (.int j) H):RrIndex x vs H Q
def rIndex:V→List V→Hp→VK→Prop:=λx vs H Q=>RrIndex x vs H Q
def zil:MtM X "list.index" rIndex:=by
 intro a7 s σ H x vs v us Q I rx rv h
 obtain⟨l,xs,y,j,rfl,rfl,hH,fy,fs,⟨z,hz,ez⟩,aZ,q⟩:=h
 cases rx
 obtain⟨u,rfl,ru⟩:=rv.one
 obtain⟨zz,a8,n,r,hl,e⟩:=I.lstM hH
 have hn:=zes
 obtain⟨wv,hw,cr⟩:=r.get hz
 have hj:j<a8.length:=(Zd.mp hw).1
 have fl:∀{i:Nat} {a:V},xs[i]?=some a→zdw a=true:=λ{i a} q=>Uz.mp fs a (Yy q)
 refine call_meets F.slot_list_index ⟨_,e,rfl⟩ F.entry_list_index (F.args_list_index_2 _ _)
  (SeqAt.list_indexAt l a8.toArray n none #[] u (eqU y) j (by simpa using hj) (by lia) ?_ ?_) ⟨e,λa ha=>zdt ru fy r fs a (by simpa using ha),?_⟩
 ·have e1:a8[j]=wv:=by
   have:=Qd hj
   rw[this]at hw;exact Qk hw
  show eqU y (a8.toArray[j])=true
  rw[List.getElem_toArray,e1,eqU_of cr (fl hz)]
  exact ez
 ·intro m hm ag
  have um:m<a8.length:=by simpa using hm
  have cI:m<xs.length:=by exact zar6 ‹_› ‹_›
  have gx:xs[m]?=some xs[m]:=Qd cI
  obtain⟨wm,n6,rm⟩:=r.get gx
  have e1:a8[m]=wm:=by
   have:=Qd um
   rw[this]at n6;exact Qk n6
  show eqU y (a8.toArray[m])=false
  rw[List.getElem_toArray,e1,eqU_of rm (fl gx)]
  exact aZ m _ ag gx
 ·exact⟨.int j,H,I.tok _,⟨_,rfl⟩,q⟩
inductive RrInsert(x:V)(vs:List V)(H:Hp)(Q:VK):Prop
 |mk (l:Nb) (xs:List V) (y:V) (k:Nat) (h0:x=.ref l) (h1:vs=[.int k,y]) (h2:H l=some (.lst xs)) (h3:xs.length<sizeLine) (h4:k≤xs.length) (h5:Q .non (upd H l (.lst (xs.take k++y::xs.drop k)))):RrInsert x vs H Q
def rInsert:V→List V→Hp→VK→Prop:=λx vs H Q=>RrInsert x vs H Q
def mt_insert:MtM X "list.insert" rInsert:=by
 intro a7 s σ H x vs v us Q I rx rv h
 obtain⟨l,xs,y,k,rfl,rfl,hH,hz,hk,q⟩:=h
 cases rx
 obtain⟨u1,u,rfl,⟨t,rfl⟩,ru⟩:=rv.two
 obtain⟨zz,a8,n,r,hl,e⟩:=I.lstM hH
 have hn:=zes
 obtain⟨i,hi⟩:∃i:Int,i=(k:Int):=⟨_,rfl⟩
 have uI:¬(!Builtin.List.listFitsIndex i)=true:=by
  rw[fitsIndex_both (by lia) (by lia)]
  exact Zh
 have hsz:a8.toArray.size≤sizeLine:=by rw[Qu];exact zdu ‹_› ‹_›
 have M:=AutoSeq1.list_insert_list_int_val_1 l a8.toArray n i t u uI hsz
 rw[←hi]
 refine call_meets F.slot_list_insert ⟨_,e,rfl⟩ F.entry_list_insert (F.args_list_insert_3 _ _ _) M ⟨e,?_⟩
 refine⟨.non,_,I.lset (its':=a8.take k++u::a8.drop k) hH e ?_ ((r.take k).append (.cons ru (r.drop k))) ?_,rfl,q⟩
 ·have e1:¬ (i < 0):=by lia
  have e2:min i.toNat a8.toArray.size=k:=by rw[Qu];lia
  show(a8.toArray.extract 0 (if i<0 then(i+((a8.toArray.size:Nat):Int)).toNat else min i.toNat a8.toArray.size)).push u++a8.toArray.extract (if i<0 then(i+((a8.toArray.size:Nat):Int)).toNat else min i.toNat a8.toArray.size)=_
  rw[if_neg e1,e2]
  apply Xc.mp
  simp
  rw[Qx (by rw[Jp];exact Qh _)]
 ·simp;lia
theorem zee:∀{zs:Ng} {a8:Nj},Vals (zs.map V.str) a8→∃l:List (Str×Tok),a8=PySem.strValues l∧l.map (·.1)=zs
 |[],_,.nil=>⟨[],rfl,rfl⟩
 |z::zs,_,.cons r t=>by
  obtain⟨tk,rfl⟩:=r
  obtain⟨l,rfl,e⟩:=zee t
  exact⟨(z,tk)::l,rfl,by rw[Ql,e]⟩
def call_isi_str:zci X (.builtin "isinstance") (λxs H Q=>Ex1 λz=>Aj2 (xs=[.str z,.ty "str"]) (Q (.bl true) H)):=by
 intro a7 s σ H xs us Q I r h
 obtain⟨z,rfl,q⟩:=h
 obtain⟨u,w',rfl,⟨t,rfl⟩,e⟩:=vals2 r
 have e':w'=Value.type "str" := e
 subst e'
 exact IsiPair.str_str ⟨.bl true,H,I,rfl,q⟩
def zhv{a7:Nf}{s:Nh}{σ:St}{H:Hp}{p:Nb}{ys:List V}(hc:X.calm=true)(I:Inv X a7 σ H s)(hq:SqL X.K H p ys){Q:Nc}(h:∀ (a8:Nj) (It:Nb) (h1:Nm),Vals ys a8→Walks X.prog X.w X.A.in1 It [It,p] [It] a8.toArray.size (fun i v=>a8.toArray[i]?=some v) (fun i h=>h.IsListIter It p i∧h.IsList p a8.toArray)→(h1.IsListIter It p 0∧h1.IsList p a8.toArray)→(∀ b∈[It,p],b < h1.objs.size) →
   (∀(h':Nm) (tk:Nat),(∀b o,b∉[It]→h1.get? b=some o→h'.get? b=some o)→Inv X a7 σ H {s with heap:=h',toks:=tk})→Q (.ref It) {s with heap:=h1}) :
  wpAny (model X.prog X.w) X.A.in1 (pyIter (.ref p)) Q X.xe s:=by
 obtain⟨a8,rv,pl,hz⟩:=I.list hq
 refine wpAny_pyIter_list pl.isList ?_
 have lt:p<s.heap.objs.size:=by obtain⟨o,n,e,_⟩:=pl;exact Qt e
 refine h a8 s.heap.objs.size _ rv (Walks.list (show X.A.in1.handled=none from I.ok.hd hc) _ _ (Zc lt) _) ⟨⟨_,Zf _ rfl,rfl,rfl⟩,?_⟩ (λb hb=>?_) λh' tk k=>I.kept (t':=tk) λb o e=>?_
 ·obtain ⟨o,e,r⟩:=pl.isList
  exact⟨o,Qj _ e,r⟩
 ·rcases Qe.mp hb with e | e
  ·rw[e];simp[Heap.push]
  ·rw[Qb.mp e];simp[Heap.push];exact Um lt
 ·exact k b o (λz=>absurd (Qt e) (by rw[Qb.mp z];exact Yu _)) (Qj _ e)
theorem zd6(ns:List Int):∀k,k≤ns.length→preSum (λi=>ns.getD i 0) k=(ns.take k).sum
 |0,_=>rfl
 |k+1,h=>by
  show preSum (λi=>ns.getD i 0) k+ns.getD k 0=_
  have hk:k<ns.length:=h
  rw[zd6 ns k (by exact Ug ‹_›),Qm hk,List.sum_append,List.sum_singleton]
  congr 1
  simp[List.getD,hk]
theorem zhe:∀{ns:List Int} {a8:Nj},Vals (ns.map V.int) a8→∀(i:Nat) (v:Value),a8[i]?=some v→∃t,v=Value.int (ns.getD i 0) t
 |[],_,.nil,i,v,e=>by simp at e
 |n::ns,_,.cons r t,0,v,e=>by
  obtain⟨tk,rfl⟩:=r
  simp at e;subst e
  exact⟨tk,rfl⟩
 |n::ns,_,.cons r t,i+1,v,e=>by
  obtain⟨tk,h⟩:=zhe t i v (by simpa using e)
  exact⟨tk,by rw[h];simp⟩
def sum_small{ns:List Int}(hb:∀n∈ns,0≤n∧n≤1000000):0≤ns.sum∧ns.sum≤1000000*(ns.length:Int):=by
 induction ns with
 |nil=>simp
 |cons a r ih =>
  have h1:=hb a Qc
  have h2:=ih λn hn=>hb n (Qg _ hn)
  rw[Zm,Qz]
  lia
def call_sum(hc:X.calm=true):zci X (.builtin "sum") (λxs H Q=>Ex2 λ(p:Nb) (ns:List Int)=>Aj5 (xs=[.ref p]) (SqL X.K H p (ns.map V.int)) (ns.length≤1000000) (∀n∈ns,0≤n∧n≤1000000) (Q (.int ns.sum) H)):=by
 intro a7 s σ H xs us Q I r h
 obtain⟨p,ns,rfl,hq,hl,hb,q⟩:=h
 obtain⟨u,rfl,rx⟩:=vals1 r
 cases rx
 refine call_sum_walk (zhv hc I hq λa8 It h1 rv W st lt keep=>⟨It,_,_,_,_,_,λi=>ns.getD i 0,rfl,W,st,lt,λi v e=>zhe rv i v (by simpa using e),λj hj=>?_,λh' tk t' k=>⟨.int ns.sum,H,keep h' tk k,⟨t',?_⟩,q⟩⟩)
 ·have ak:=rv.length
  rw[Qa]at ak
  have oI:j<ns.length:=by rw[ak];simpa using hj
  have s1:=sum_small (ns:=ns.take (j+1)) λn hn=>hb n (Uv hn)
  rw[Zi]at s1
  have g:ns.getD j 0=ns[j]:=by simp[List.getD,oI]
  have g2:=hb _ (Qv oI)
  refine⟨?_,?_⟩
  ·show InLong (ns.getD j 0)
   rw[g];unfold InLong;lia
  ·rw [zd6 ns (j+1) oI]
   unfold InLong;lia
 ·have ak:=rv.length
  rw[Qa]at ak
  rw[Qu,zd6 ns _ (by lia),←ak,Qx (Qh _)]
theorem zhf:∀{bs:List Bool} {a8:Nj},Vals (bs.map V.bl) a8→∀(i:Nat) (v:Value),a8[i]?=some v→v=Value.bool (bs.getD i true)
 |[],_,.nil,i,v,e=>by simp at e
 |n::ns,_,.cons r t,0,v,e=>by
  cases r
  simp at e;subst e
  rfl
 |n::ns,_,.cons r t,i+1,v,e=>by
  have h:=zhf t i v (by simpa using e)
  rw[h];simp
def all_range(bs:List Bool):(List.range bs.length).all (λi=>bs.getD i true)=bs.all id:=by
 rw[Wj,Uz,Uz]
 constructor
 ·intro h x hx
  obtain⟨i,hi,e⟩:=Zp hx
  have:=h i (Uu.mpr hi)
  simp[List.getD,hi]at this
  rw[←e];exact this
 ·intro h i hi
  have dj:=Uu.mp hi
  simp[List.getD,dj]
  exact h _ (Qv dj)
def call_all(hc:X.calm=true):zci X (.builtin "all") (λxs H Q=>Ex2 λ(p:Nb) (bs:List Bool)=>Aj3 (xs=[.ref p]) (SqL X.K H p (bs.map V.bl)) (Q (.bl (bs.all id)) H)):=by
 intro a7 s σ H xs us Q I r h
 obtain⟨p,bs,rfl,hq,q⟩:=h
 obtain⟨u,rfl,rx⟩:=vals1 r
 cases rx
 refine call_all_walk (zhv hc I hq λa8 It h1 rv W st lt keep=>⟨It,_,_,_,_,_,λi=>bs.getD i true,rfl,W,st,λi v s' Q' E' e q'=>?_,λh' tk k=>⟨.bl (bs.all id),H,keep h' tk k,?_,q⟩⟩)
 ·have e':=zhf rv i v (by simpa using e)
  subst e'
  exact wpAny_truthy_bool q'
 ·have ak:=rv.length
  rw[Qa]at ak
  show Value.bool _=Value.bool _
  rw[Qu,←ak,all_range]
end
end L2
end
section
namespace L2
open PySem PySem.Spec PyProof.Rows Tm
def Vals.perm{ws us:Nj}(p:ws.Perm us):∀{ys:List V},Vals ys us→∃zs,zs.Perm ys∧Vals zs ws:=by
 induction p with
 |nil=>intro ys r;cases r;exact⟨[],.nil,.nil⟩
 | cons x q ih =>
  intro ys r
  cases r with
  |cons r1 r2 =>
   obtain⟨zs,h1,h2⟩:=ih r2
   exact⟨_::zs,h1.cons _,.cons r1 h2⟩
 | swap x y l =>
  intro ys r
  cases r with
  |cons r1 r2 =>
   cases r2 with
   |cons r3 r4=>exact⟨_,List.Perm.swap ..,.cons r3 (.cons r1 r4)⟩
 |trans _ _ ih1 ih2 =>
  intro ys r
  obtain⟨zs,h1,h2⟩:=ih2 r
  obtain⟨jw,h3,h4⟩:=ih1 h2
  exact⟨jw,h3.trans h1,h4⟩
theorem Vals.pairwise{α:Type}{R:α→α→Prop}{kv:Value→α}{kV:V→α}:∀{zs:List V} {ws:Nj},Vals zs ws→(∀v∈zs,∀u,RelV v u→kv u=kV v)→ws.Pairwise (λa b=>R (kv a) (kv b))→zs.Pairwise λa b=>R (kV a) (kV b)
 |_,_,.nil,_,_=>.nil
 |v::zs,u::ws,.cons r t,hk,h=>by
  rw[Ke]at h ⊢
  refine⟨λb hb=>?_,Vals.pairwise t (λv hv=>hk v (Qg _ hv)) h.2⟩
  obtain⟨i,hi,e⟩:=Zp hb
  obtain⟨x,hx,rx⟩:=Vals.get t (i:=i) (x:=b) (by rw[Qd hi,e])
  have:=h.1 x (Yy hx)
  rw[hk v Qc u r,hk b (Qg _ hb) x rx]at this
  exact this
section
variable{X:Cx}
def zf5{a7:Nf}{s:Nh}{σ:St}{H:Hp}{p:Nb}{ys:List V}{R:List Value→List Value→Prop}{Q:VK}(I:Inv X a7 σ H s)(hq:SqL X.K H p ys)(hS:∀a8,Vals ys a8→∀(A':Around) (E':Value→Shared→Prop) (s':Shared),A'.units≤X.A.units+8→(∀b o,s.heap.get? b=some o→s'.heap.get? b=some o)→zb9 X.prog X.w A' E' s' (R a8) a8)(h:∀(l:Nb) (ws:List V) (a8 us:Nj),H l=none→ws.Perm ys→Vals ys a8→Vals ws us→R a8 us→Q (.ref l) (upd H l (.lst ws))) :
  wpAny (model X.prog X.w) X.A (call (.builtin "sorted") [.ref p]) (EP X a7 σ Q) X.xe s:=by
 obtain⟨a8,r,pl,hz⟩:=I.list hq
 refine sorted_any pl.isList (by rw[←r.length];exact hz) (hS a8 r) λws l g tk e p1 p2 le k he=>?_
 obtain⟨zs,q1,q2⟩:=Vals.perm p1 r
 exact⟨.ref l,_,I.laid (t':=tk) k le (show zbs X.prog X.w _ g _ (.lst zs) from⟨by rw[q1.length_eq];exact hz,ws,e,q2,he⟩),rfl,h l zs a8 ws (I.hok.fresh le) q1 r q2 p2⟩
def leS(x y:Str):Prop:=¬y.cps.toList<x.cps.toList
def txV:V→List Nat
 |.str x=>x.cps.toList
 |_=>[]
def strs_perm{ws:List V}{zs:Ng}(pm:ws.Perm (zs.map V.str)):∃ts:List Str,ws=ts.map V.str∧ts.Perm zs:=by
 have a1:∀v∈ws,∃x,v=V.str x:=λv hv=>by
  obtain⟨x,_,e⟩:=Qf.mp (pm.mem_iff.mp hv)
  exact⟨x,e.symm⟩
 have a2:∃ts:List Str,ws=ts.map V.str:=by
  clear pm
  induction ws with
  |nil=>exact⟨[],rfl⟩
  |cons v r ih =>
   obtain⟨ts,e⟩:=ih λv hv=>a1 v (Qg _ hv)
   obtain⟨x,e2⟩:=a1 v Qc
   exact⟨x::ts,by rw[e,e2];rfl⟩
 obtain⟨ts,rfl⟩:=a2
 refine⟨ts,rfl,?_⟩
 have:=pm.map (λv=>match v with | .str x=>x | _=>Str.empty)
 rw[Ze,Ze]at this
 simpa[Function.comp_def] using this
def vals_all_str{zs:Ng}{a8:Nj}(r:Vals (zs.map V.str) a8):∀v∈a8,∃x t,v=.str x t:=λv hv=>by
 obtain⟨l,rfl,e⟩:=zee r
 obtain⟨pr,_,e2⟩:=Qf.mp hv
 exact⟨_,_,e2.symm⟩
def txV_str{zs:Ng}:∀v∈zs.map V.str,∀u,RelV v u→kvS u=txV v:=λv hv u ru=>by
 obtain⟨x,_,rfl⟩:=Qf.mp hv
 obtain⟨t,rfl⟩:=ru
 rfl
def strs_out{zs ts:Ng}{a8 us:Nj}(r:Vals (zs.map V.str) a8)(r2:Vals (ts.map V.str) us)(p:a8.length<64→us.Pairwise λx y=>strO.kle (kvS x) (kvS y))(h:zs.length<64):ts.Pairwise leS:=by
 have p2:=Vals.pairwise (R:=λa b=>strO.kle a b) (kV:=txV) r2 txV_str (p (by rw[←r.length,Qa];exact h))
 rw[Wr]at p2
 exact p2.imp of_decide_eq_false
def zhx(I:Inv X a7 σ H s)(e:H a=some (.tup [.str x,z])):∃q,RelV z q∧zfl s.heap (.ref a) x q:=by
 obtain⟨_,a8,r,o,e1,c,n,d⟩:=I.hok a _ e
 obtain⟨u,w',rfl,⟨t,rfl⟩,rz⟩:=vals2 r
 exact⟨w',rz,a,o,t,n,rfl,e1,c,d⟩
def vals_back(r:Vals ys a8):∀v∈a8,∃b∈ys,RelV b v:=λv hv=>by
 obtain⟨i,hi,e⟩:=Zp hv
 have hl:=r.length
 have aF:i<ys.length:=by exact zar6 ‹_› ‹_›
 obtain⟨u,hu,ru⟩:=r.get (i:=i) (Qd aF)
 rw[Qd hi,e]at hu
 cases hu
 exact⟨_,Qv aF,ru⟩
def zfn(a:zfl h v x p)(b:zfl h v y q):x=y∧p=q:=by
 obtain⟨a,o,t,n,rfl,e,c,d⟩:=a
 obtain⟨a',o',t',n',e0,e',c',d'⟩:=b
 cases e0
 rw[e]at e'
 cases e'
 rw[d]at d'
 have d2:(#[Value.str x t,p]:Array Value)=#[Value.str y t',q]:=by injection d'
 have d3:=congrArg (λa:Array Value=>a[0]?) d2
 have d4:=congrArg (λa:Array Value=>a[1]?) d2
 simp at d3 d4
 exact⟨d3.1,d4⟩
def rowV(H:Hp):V→List Nat
 |.ref a=>match H a with
  |some (.tup [x,_])=>txV x
  |_=>[]
 |_=>[]
def zem(e:H a=some (.tup [x,y])):rowV H (.ref a)=txV x:=by
 unfold rowV;dsimp only;rw[e]
def zfk:zci X (.builtin "sorted") (λxs H Q=>Ex2 λ(p:Nb) (ys:List V)=>Aj5 (xs=[.ref p]) (SqL X.K H p ys) (∀v∈ys,∃a x z,v=.ref a∧H a=some (.tup [.str x,z])) (∀v∈ys,∀u∈ys,rowV H v=rowV H u→v=u) (∀(l:Nb) (ws:List V),H l=none→ws.Perm ys→(ys.length<64→ws.Pairwise λa b=>strO.kle (rowV H a) (rowV H b))→Q (.ref l) (upd H l (.lst ws)))):=by
 intro a7 s σ H xs us Q I r h
 obtain⟨p,ys,rfl,hq,hy,hd,q⟩:=h
 obtain⟨u,rfl,rx⟩:=vals1 r
 cases rx
 have back:∀a8,Vals ys a8→∀v∈a8,∃b∈ys,RelV b v∧∃a x z q,b=.ref a∧v=.ref a∧H a=some (.tup [.str x,z])∧zfl s.heap v x q:=λa8 r v hv=>by
  obtain⟨b,hb,rb⟩:=vals_back r v hv
  obtain⟨a,x,z,rfl,e2⟩:=hy b hb
  have rb':=rb
  cases rb
  obtain⟨q',_,T⟩:=zhx I e2
  exact⟨_,hb,rb',a,x,z,q',rfl,rfl,e2,T⟩
 refine zf5 I hq (λa8 r A' E' s' _ k=>zeh k (λv hv=>?_) λv hv u hu x p q T T'=>?_) λl ws a8 us hl p1 r1 r2 p2=>q l ws hl p1 λrD=>?_
 ·obtain ⟨b,hb,rb,a,x,z,q,_,_,_,T⟩:=back a8 r v hv
  exact⟨x,q,T⟩
 ·obtain ⟨b,hb,rb,a,x1,z,q1,rfl,rfl,e1,T1⟩:=back a8 r v hv
  obtain⟨c,hc,rc,a',x2,z',q2,rfl,rfl,e2,T2⟩:=back a8 r u hu
  have h1:=(zfn T T1).1
  have h2:=(zfn T' T2).1
  subst h1
  subst h2
  have:=hd _ hb _ hc (by rw[zem e1,zem e2])
  cases this
  exact .inl rfl
 ·refine Vals.pairwise (R:=fun a b=>strO.kle a b) (kv:=fun u=>(kvP s.heap u).1) r2 (fun v hv u ru=>?_) ((p2 (by rw [← r1.length];exact rD)).imp fun h=>(Bool.or_eq_false_iff.mp h).1)
  obtain⟨a,x,z,rfl,e2⟩:=hy v (p1.mem_iff.mp hv)
  cases ru
  obtain⟨q',_,T⟩:=zhx I e2
  rw[T.key,zem e2]
  rfl
def zfa(hu:X.A.units+8<cLine):zci X (.builtin "sorted") (λxs H Q=>Ex2 λ(p:Nb) (ys:List V)=>Aj4 (xs=[.ref p]) (SqL X.K H p ys) (∀v∈ys,∃a zs,v=.ref a∧H a=some (.lst (List.map V.str zs))) (∀(l:Nb) (ws:List V),H l=none→ws.Perm ys→Q (.ref l) (upd H l (.lst ws)))):=by
 intro a7 s σ H xs us Q I r h
 obtain⟨p,ys,rfl,hq,hy,q⟩:=h
 obtain⟨u,rfl,rx⟩:=vals1 r
 cases rx
 refine zf5 I hq (λa8 r A' E' s' hA k=>zg4 (by exact Nat.lt_of_le_of_lt ‹_› ‹_›) k λv hv=>?_) λl ws _ _ hl p1 _ _ _=>q l ws hl p1
 obtain⟨b,hb,ru⟩:=vals_back r v hv
 obtain⟨a,zs,rfl,e2⟩:=hy b hb
 cases ru
 obtain⟨_,bh,n,r2,e3⟩:=I.hok a _ e2
 obtain⟨l2,rfl,_⟩:=zee r2
 exact⟨a,l2,n,rfl,e3⟩
def dk_at{a7:Nf}{s:Nh}{σ:St}{H:Hp}{d:Nb}{kvs:List (Key×V)}(I:Inv X a7 σ H s)(rd:Rd H d (.dK kvs)) :
  kvs.length≤sizeLine∧(d==sysModules)=false∧∃vs ep,KV kvs vs∧s.heap.DictAt (zam X.prog X.w) d vs ep∧vs.length=kvs.length:=by
 obtain⟨z,y,vs,r,hd⟩:=rd.ok I.hok
 obtain⟨ep,ha⟩:=hd.dictAt
 exact⟨z,y,vs,ep,r,ha,(Yp r).symm⟩
def KV.get{kvs:List (Key×V)}{vs:List (Key×Value)}(r:KV kvs vs){i:Nat}(e:vs[i]?=some (k,x)):∃v,kvs[i]?=some (k,v)∧RelV v x:=by
 induction r generalizing i with
 |nil=>simp at e
 | cons h t ih =>
  cases i with
  |zero =>
   simp at e
   subst e
   exact⟨_,by simp;exact Jb h.1 rfl,h.2⟩
  |succ j =>
   obtain⟨v,h1,h2⟩:=ih (i:=j) (by simpa using e)
   exact⟨v,by simpa using h1,h2⟩
def key_rel(h:(zam P w).is k v=true):RelV (kV k) v:=by
 rcases za6 h with⟨i,t,rfl,rfl⟩ | ⟨x,t,rfl,rfl⟩
 ·exact⟨t,rfl⟩
 ·exact⟨t,rfl⟩
def keys_vals{P:Ni}{w:Nk}{kvs:List (Key×V)}{vs:List (Key×Value)}{aj:Array Value}(r:KV kvs vs)(hl:vs.length=kvs.length)(h:ItemsOf (λi v=>∃k x,vs[i]?=some (k,x)∧(zam P w).is k v=true) aj vs.length):Vals (kvs.map λp=>kV p.1) aj.toList:=by
 have g:∀(i:Nat),i<kvs.length→∃v,aj.toList[i]?=some v∧RelV (kV ((kvs.map Prod.fst).getD i (.inl 0))) v:=λi hi=>by
  have aF:i<aj.size:=by rw[h.1];exact zar6 ‹_› ‹_›
  have e:aj[i]?=some aj[i]:=by simp[aF]
  obtain⟨k,x,e1,e2⟩:=h.2 i _ e
  obtain⟨v',e3,_⟩:=KV.get r e1
  refine⟨aj[i],by rw[Wk];exact e,?_⟩
  have e4:(kvs.map Prod.fst).getD i (.inl 0)=k:=by
   rw[Zs,Qq,e3];rfl
  rw[e4]
  exact key_rel e2
 have hsz:aj.toList.length=kvs.length:=by rw[Yv,h.1];exact hl
 clear h r hl
 generalize aj.toList=l at g hsz
 induction kvs generalizing l with
 |nil =>
  have:l=[]:=List.length_eq_zero_iff.mp hsz
  subst this
  exact .nil
 | cons p t ih =>
  cases l with
  |nil=>cases hsz
  | cons u us =>
   refine .cons ?_ (ih us (λi hi=>?_) (by simpa using hsz))
   ·obtain ⟨v,e1,e2⟩:=g 0 (by simp)
    simp at e1
    subst e1
    exact e2
   ·obtain ⟨v,e1,e2⟩:=g (i+1) (by simpa using hi)
    exact⟨v,by simpa using e1,by simpa using e2⟩
def zd2(hc:X.calm=true):zci X (.type "list") (λxs H Q=>Ex2 λ(d:Nb) (kvs:List (Key×V))=>Aj3 (xs=[.ref d]) (Rd H d (.dK kvs)) (∀l,H l=none→Q (.ref l) (upd H l (.lst (kvs.map λp=>kV p.1))))):=by
 intro a7 s σ H xs us Q I r h
 obtain⟨d,kvs,rfl,hq,q⟩:=h
 obtain⟨u,rfl,rx⟩:=vals1 r
 cases rx
 obtain⟨z,lo,vs,ep,rk,ha,hl⟩:=dk_at I hq
 refine PySem.W.kdl_call (PySem.W.kdl_dict lo) (I.ok.hd hc) ha (by rw[hl];exact z) λh' tk aj c k e hi=>?_
 have rv:=keys_vals rk hl hi
 exact⟨.ref _,_,I.laid (t':=tk) k (Qh _) (show zbs X.prog X.w _ h' _ (.lst _) from⟨by rw[Qa];exact z,aj.toList,c,rv,by rw[e]⟩),rfl,q _ (I.hok.fresh (Qh _))⟩
def zch(hc:X.calm=true):zci X (.builtin "sorted") (λxs H Q=>Ex3 λ(d:Nb) (kvs:List (Key×V)) (zs:Ng)=>Aj4 (xs=[.ref d]) (Rd H d (.dK kvs)) ((kvs.map λp=>kV p.1)=zs.map V.str) (∀(l:Nb) (ws:Ng),H l=none→ws.Perm zs→(zs.length<64→ws.Pairwise leS)→Q (.ref l) (upd H l (.lst (ws.map V.str))))):=by
 intro a7 s σ H xs us Q I r h
 obtain⟨d,kvs,zs,rfl,hq,ez,q⟩:=h
 obtain⟨u,rfl,rx⟩:=vals1 r
 cases rx
 obtain⟨z,lo,vs,ep,rk,ha,hl⟩:=dk_at I hq
 refine zez (G:=λa8=>Vals (zs.map V.str) a8) (λE' R hR=>zgw (PySem.W.kdl_dict lo) (show X.A.in1.handled=none from I.ok.hd hc) ha (by rw[hl];exact z) λg tk aj k le hi=>hR g tk _ k le (ez▸keys_vals rk hl hi))
  (λa8 r=>by rw[←r.length,←ez,Qa];exact z) (λa8 r A' E' s' _ _=>zhz (vals_all_str r)) λa8 ws l g tk e r p1 p2 le k he=>?_
 obtain⟨jw,q1,q2⟩:=Vals.perm p1 r
 obtain⟨ts,rfl,p3⟩:=strs_perm q1
 refine⟨.ref l,_,I.laid (t':=tk) k le (show zbs X.prog X.w _ g _ (.lst _) from⟨?_,ws,e,q2,he⟩),rfl,q l ts (I.hok.fresh le) p3 (strs_out r q2 p2)⟩
 rw[q1.length_eq,←ez,Qa];exact z
end
section
variable{X:Cx}{a7:Nf}{σ:St}{H:Hp}{s:Nh}
def Inv.freeze(I:Inv X a7 σ H s)(hd:H d=some u)(ho:s.heap.get? d=some o)(mu:Mut (some u)):Inv X a7 σ (upd H d (.frz o u)) s:=by
 have ne:∀b,H b=none→b≠d:=λb e z=>by rw[z,hd]at e;cases e
 have nt:∀b xs,H b=some (.tup xs)→b≠d:=λb xs e z=>by rw[z,hd]at e;cases e;exact mu
 have nf:∀b o' u',H b=some (.frz o' u')→b≠d:=λb o' u' e z=>by rw[z,hd]at e;cases e;exact mu
 have nb:∀b ps,H b=some (.tbl ps)→b≠d:=λb ps e z=>by rw[z,hd]at e;cases e;exact mu
 have no:∀b a,H b=some (.own a)→b≠d:=λb a e z=>by rw[z,hd]at e;cases e;exact mu
 refine I.un (h':=s.heap) (t':=s.toks) ⟨λb o e _ _ _=>e,λb o e _ _ _=>⟨o.slots,e⟩,λb o e n _=>by rw[zae (ne b n)];exact n,λb o e _=>⟨o,e⟩,λb xs e=>by rw[zae (nt b xs e)];exact e,
  λb o' u' e=>by rw[zae (nf b o' u' e)];exact e,λb ps e=>⟨#[],by rw[zae (nb b ps e),e];simp⟩⟩ λb v e=>?_
 by_cases hb:b=d
 ·subst hb
  rw[zac]at e
  cases e
  exact⟨ho,(I.hok b u hd).stay (λc v _ q=>q) (λc q=>by rw[zae (no c _ q)];exact q) λc xs q=>by rw[zae (nt c xs q)];exact q⟩
 ·rw [zae hb] at e
  exact(I.hok b v e).stay (λc v _ q=>q) (λc q=>by rw[zae (no c _ q)];exact q) λc xs q=>by rw[zae (nt c xs q)];exact q
def Inv.thaw(I:Inv X a7 σ H s)(hd:H d=some (.frz o u))(hx:∀o' u',X.H₀ d≠some (.frz o' u')):Inv X a7 σ (upd H d u) s:=by
 have ne:∀b,H b=none→b≠d:=λb e z=>by rw[z,hd]at e;cases e
 have nt:∀b xs,H b=some (.tup xs)→b≠d:=λb xs e z=>by rw[z,hd]at e;cases e
 have nb:∀b ps,H b=some (.tbl ps)→b≠d:=λb ps e z=>by rw[z,hd]at e;cases e
 have no:∀b a,H b=some (.own a)→b≠d:=λb a e z=>by rw[z,hd]at e;cases e
 have B:=I.base
 refine⟨I.ok,I.os,I.bare,⟨B.keep,B.slot,λb o e n hx=>?_,B.there,λb xs e=>?_,λb o' u' e=>?_,λb ps e=>?_⟩,I.loc,I.cell,?_,λx c e=>?_,λp hp=>?_,λb v e=>?_,I.len⟩
 ·have:=B.free b o e n hx
  rw[zae (ne b this)];exact this
 ·have:=B.tups b xs e
  rw[zae (nt b xs this)];exact this
 ·have:=B.frzs b o' u' e
  have nd:b≠d:=λz=>hx o' u' (z▸e)
  rw[zae nd];exact this
 ·obtain ⟨m,q⟩:=B.tbls b ps e
  exact⟨m,by rw[zae (nb b _ q)];exact q⟩
 ·rw[zae (ne _ I.free)];exact I.free
 ·rw[zae (ne c (I.freeC x c e))];exact I.freeC x c e
 ·obtain ⟨h1,h2,h3⟩:=I.pin p hp
  exact⟨h1,by rw[zae (ne _ h2)];exact h2,h3⟩
 ·by_cases hb:b=d
  ·subst hb
   rw[zac]at e
   cases e
   exact(show s.heap.get? b=some o∧zbs X.prog X.w H s.heap b u from I.hok b _ hd).2.stay (λc v _ q=>q) (λc q=>by rw[zae (no c _ q)];exact q) λc xs q=>by rw[zae (nt c xs q)];exact q
  ·rw [zae hb] at e
   exact(I.hok b v e).stay (λc v _ q=>q) (λc q=>by rw[zae (no c _ q)];exact q) λc xs q=>by rw[zae (nt c xs q)];exact q
inductive Thaw(X:Cx)(R:Hp→Prop)(H':Hp):Prop
 |mk (d:Nb) (o:Obj) (u:HO) (h:H' d=some (.frz o u)) (n:∀o' u',X.H₀ d≠some (.frz o' u')) (q:R (upd H' d u)):Thaw X R H'
def sThaw(X:Cx)(t:TS):TS:=λD σ H=>t {nx:=λ σ' H'=>Thaw X (D.nx σ') H',rt:=λv H'=>Thaw X (D.rt v) H',bk:=λ σ' H'=>Thaw X (D.bk σ') H',ct:=λ σ' H'=>Thaw X (D.ct σ') H'} σ H
def ze2{st:Stmt}{t:TS}(h:PS X st t):PS X st (sThaw X t):=by
 intro a7 s σ H D I q
 refine thn (h a7 s σ H _ I q) λf s' z=>?_
 cases f with
 |next=>obtain⟨σ',H',I',d,o,w',e1,e2,e3⟩:=z;exact⟨σ',_,I'.thaw e1 e2,e3⟩
 |brk=>obtain⟨σ',H',I',d,o,w',e1,e2,e3⟩:=z;exact⟨σ',_,I'.thaw e1 e2,e3⟩
 |cont=>obtain⟨σ',H',I',d,o,w',e1,e2,e3⟩:=z;exact⟨σ',_,I'.thaw e1 e2,e3⟩
 |ret u=>obtain⟨v,σ',H',I',r,d,o,w',e1,e2,e3⟩:=z;exact⟨v,σ',_,I'.thaw e1 e2,r,e3⟩
def Itd(d:Nb)(o:Obj)(kvs:List (Key×V)):It :=
 ⟨λi H=>H d=some (.frz o (.dK kvs))∧i<kvs.length,λi H x H'=>H'=H∧∃p,kvs[i]?=some p∧x=kV p.1,λi H=>H d=some (.frz o (.dK kvs))∧kvs.length≤i⟩
def frz_at(I:Inv X a7 σ H s)(e:H d=some (.frz o (.dK kvs))):s.heap.get? d=some o∧zbs X.prog X.w H s.heap d (.dK kvs):=I.hok d _ e
def zhp{h:Nm}{kvs:List (Key×V)}{vs vs':List (Key×Value)}{ep ep':Nat}(ho:h.get? d=some o)(a:h.DictAt (zam P w) d vs ep)(o':Obj)(h':Nm)(de:h'.get? d=some o):h'.DictAt (zam P w) d vs ep:=by
 obtain⟨q,es,e,r⟩:=a
 rw[ho]at e
 cases e
 exact⟨o,es,de,r⟩
theorem turn_dict{P:Ni}{w:Nk}{K:Na}{tg:Expr}{o:Obj}{kvs:List (Key×V)}{vs:List (Key×Value)}{ep:Nat}{h0:Nm}(d it:Nb)(rk:KV kvs vs)(hl:vs.length=kvs.length)(lj:h0.get? d=some o)(lm:h0.DictAt (zam P w) d vs ep) :
  Turn P w K tg (Itd d o kvs) [it] it (λi h=>h.IsKeyIter it d i vs.length ep) where
 mem:=by simp
 obj:=λi h st b hb=>by
  have e:b=it:=by simpa using hb
  subst e
  obtain⟨o,e,c,d⟩:=st
  exact⟨o,e,λv z=>by rw[d]at z;cases z⟩
 keep:=λi h h' st k=>st.at λo e=>k it (by simp) o e
 item:=by
  intro X hP hw hK hc i a7 s σ H E I hf st hg
  subst hP hw hK
  obtain⟨fz,hi⟩:=hg
  obtain⟨ho,_⟩:=frz_at I fz
  have DA:s.heap.DictAt (zam X.prog X.w) d vs ep:=zhp (kvs:=kvs) (vs':=vs) (ep':=ep) lj lm o s.heap ho
  obtain⟨f0,f1,f2,f3,f4,f5⟩:=hf it (by simp)
  have aF:i<vs.length:=by exact zar6 ‹_› ‹_›
  obtain⟨v',e3,_⟩:=KV.get rk (i:=i) (k:=vs[i].1) (x:=vs[i].2) (Qd aF)
  refine wpAny_pyNext_dict_item st DA (k:=vs[i].1) (v:=vs[i].2) (Qd aF) λkey h' hk ae sb=>?_
  have I1:Inv X a7 σ H {s with heap:=h'}:=I.turned (t':=s.toks) (λb o hb e=>(sb.2 b hb).trans e) f0 f1 f3 f4 f5
  obtain⟨o2,e,c,d2⟩:=id ae
  exact⟨key,rfl,go_of (s:={s with heap:=h'}) e c d2 (by decide) ⟨kV vs[i].1,H,I1,key_rel hk,⟨rfl,_,e3,rfl⟩,ae,λb hb=>(hf b hb).1⟩⟩
 done:=by
  intro X hP hw hK hc i a7 s σ H E I hf st hg
  subst hP hw hK
  obtain⟨fz,hi⟩:=hg
  obtain⟨ho,_⟩:=frz_at I fz
  have DA:s.heap.DictAt (zam X.prog X.w) d vs ep:=zhp (kvs:=kvs) (vs':=vs) (ep':=ep) lj lm o s.heap ho
  obtain⟨f0,f1,f2,f3,f4,f5⟩:=hf it (by simp)
  exact wpAny_pyNext_dict_end (I.ok.hd hc) st DA (Xk (by omega)) λh' eb=>⟨rfl,I.turned (t':=s.toks) (λb o hb e=>eb b o hb e) f0 f1 f3 f4 f5⟩
 self:=λ_ _ _ _ _ st h=>wpAny_pyIter_keyiter st h
inductive RIDi(x:V)(H:Hp)(R:It→Hp→Prop):Prop
 |mk (d:Nb) (kvs:List (Key×V)) (e:x=.ref d) (h:H d=some (.dK kvs)) (q:∀o,R (Itd d o kvs) (upd H d (.frz o (.dK kvs)))):RIDi x H R
def iDict(td:TE):TI:=λ σ H R=>td σ H λx H1=>RIDi x H1 R
def ze3{tg l:Expr}{tl:TE}(hl:PE X l tl):PI X tg l (iDict tl):=by
 intro a7 s σ H R I h
 refine thn (hl a7 s σ H _ I h) λv s1 ⟨x,H1,I1,r1,q1⟩=>?_
 obtain⟨d,kvs,e,hd,q⟩:=q1
 subst e
 cases r1
 obtain⟨z,lo,vs,ep,rk,ha,af⟩:=dk_at I1 (.inl hd)
 obtain⟨o,es,ho,r⟩:=id ha
 refine wpAny_pyIter_dict lo ha ?_
 have I2:=I1.freeze hd ho trivial
 have I3:Inv X a7 σ (upd H1 d (.frz o (.dK kvs))) {s1 with heap:=s1.heap.push {cls:=.type "dict_keyiterator",data:=.fields #[.ref d,.int 0 0,.int vs.length 0,.int ep 0]}}:=I2.kept (t':=s1.toks) λb o e=>Qj _ e
 refine⟨s1.heap.objs.size,[s1.heap.objs.size],_,_,_,rfl,I3,turn_dict d _ rk af ho ha,⟨_,Zf _ rfl,rfl,rfl⟩,λb hb=>?_,q o⟩
 have e:b=s1.heap.objs.size:=by simpa using hb
 subst e
 exact I2.fpOk (Qh _) (I2.hok.fresh (Qh _))
end
def zfx{d:Nb}{o:Obj}{kvs:List (Key×V)}{g:TG}{tb:TS}{D:Ends}{σ:St}{H:Hp}(Pv:Nat→St→Hp→Prop)(h0:Pv 0 σ H)(hl:∀i σ H,i≤kvs.length→Pv i σ H→H d=some (.frz o (.dK kvs)))(hs:∀i p σ H,kvs[i]?=some p→Pv i σ H→g (kV p.1) σ H λ σ2 H2=>tb {D with nx:=Pv (i+1),ct:=Pv (i+1),bk:=D.nx} σ2 H2)(hd:∀σ H,Pv kvs.length σ H→D.nx σ H) :
  ∃W:Nat→Nat→St→Hp→Prop,(∃m,W 0 m σ H)∧∀i m σ H,W i m σ H →
   ((Itd d o kvs).stop i H∧D.nx σ H)∨((Itd d o kvs).go i H∧∃N:St→Hp→Prop,(∀σ' H',N σ' H'→∃m',m'<m∧W (i+1) m' σ' H')∧∀x H',(Itd d o kvs).yld i H x H'→g x σ H' λ σ2 H2=>tb {D with nx:=N,ct:=N,bk:=D.nx} σ2 H2):=by
 refine⟨λi m σ H=>m=kvs.length-i∧i≤kvs.length∧Pv i σ H,⟨kvs.length,by simp,Zg _,h0⟩,?_⟩
 rintro i m σ H ⟨rfl,hi,p⟩
 have q:=hl i σ H hi p
 by_cases ag:i<kvs.length
 ·refine .inr ⟨⟨q,ag⟩,Pv (i+1),fun σ' H' p'=>⟨kvs.length - (i+1),by exact zar1 ‹_›,rfl,ag,p'⟩,fun x H' y=>?_⟩
  obtain⟨e,pr,e2,rfl⟩:=y
  subst e
  exact hs i pr σ _ e2 p
 ·have e:i=kvs.length:=by exact zar3 ‹_› ‹_›
  subst e
  exact .inl ⟨⟨q,Qh _⟩,hd σ H p⟩
end L2
end
section
namespace Enu
open PySem PyProof.Rows
open AutoSeq1 (wpAny_loadPart')
section
variable{prog:Ni}{w:Nk}{A:Nn}{E:Nc}{s:Nh}
def next_item(st:s.heap.IsTupleIter j t i)(ht:s.heap.IsTuple t xs)(hx:xs[i]?=some x)(hQ:∀g,g.IsTupleIter j t (i+1)→Heap.SameBut j s.heap g→Q x {s with heap:=g}):wpAny (model prog w) A (Builtin.SmallTypes.nextOf (.ref j)) Q E s:=by
 obtain⟨o,ho,hc,hd⟩:=id st
 obtain⟨p,hp,_,k,hk⟩:=ht
 unfold Builtin.SmallTypes.nextOf
 refine wpAny_bind (wpAny_callSpecial?_slot (name:=Str.ofString "__next__") st.typeIs Jc (wpAny_call_entry Jc st.typeIs F.entry_tuple_iterator_next ?_ (F.args_tuple_iterator_next_1 _)))
 show wpAny _ _ (field (.ref j) 0 >>= _) _ _ s
 refine wpAny_bind (wpAny_field ho hd (x:=.ref t) rfl ?_)
 show wpAny _ _ (if(Value.ref t==.none)=true then _ else _) _ _ s
 rw[if_neg (show ¬((Value.ref t==.none)=true) from Zh)]
 show wpAny _ _ (field (.ref j) 1 >>= _) _ _ s
 refine wpAny_bind (wpAny_field ho hd (x:=.int i 0) rfl ?_)
 show wpAny _ _ (seqItems? (.ref t) >>= _) _ _ s
 refine wpAny_bind (wpAny_seqItems hp hk ?_)
 simp only[Ur,hx]
 refine wpAny_bind (wpAny_setField ho hd (by simp) (wpAny_pure ⟨x,rfl,wpAny_pure (hQ _ ⟨_,Kc _ ho (Obj.isFreed_of_fields (Kw hd _)),(Obj.cls_mapFields ..).trans hc,by rw[Kw hd];simp[rawInt]⟩ (Ko ..))⟩))
def next_end(hh:A.handled=none)(st:s.heap.IsTupleIter j t i)(ht:s.heap.IsTuple t xs)(hx:xs[i]?=none)(hE:∀g e,Heap.ExtBut j s.heap g→(∃o,g.get? e=some o∧o.cls=.type "StopIteration")→E (.ref e) {s with heap:=g}):wpAny (model prog w) A (Builtin.SmallTypes.nextOf (.ref j)) Q E s:=by
 obtain⟨o,ho,hc,hd⟩:=id st
 obtain⟨p,hp,_,k,hk⟩:=ht
 unfold Builtin.SmallTypes.nextOf
 refine wpAny_bind (wpAny_callSpecial?_slot (name:=Str.ofString "__next__") st.typeIs Jc (wpAny_call_entry Jc st.typeIs F.entry_tuple_iterator_next ?_ (F.args_tuple_iterator_next_1 _)))
 show wpAny _ _ (field (.ref j) 0 >>= _) _ _ s
 refine wpAny_bind (wpAny_field ho hd (x:=.ref t) rfl ?_)
 show wpAny _ _ (if(Value.ref t==.none)=true then _ else _) _ _ s
 rw[if_neg (show ¬((Value.ref t==.none)=true) from Zh)]
 show wpAny _ _ (field (.ref j) 1 >>= _) _ _ s
 refine wpAny_bind (wpAny_field ho hd (x:=.int i 0) rfl ?_)
 show wpAny _ _ (seqItems? (.ref t) >>= _) _ _ s
 refine wpAny_bind (wpAny_seqItems hp hk ?_)
 simp only[Ur,hx]
 refine wpAny_bind (wpAny_rule (wpAny_bind (wpAny_setField ho hd (by simp) ?_)))
 show wpAny _ _ (newExc (.type "StopIteration") [] >>= _) _ _ _
 refine wpAny_bind ?_
 simp only[newExc,newTuple]
 refine wpAny_bind (wpAny_newObj_type (wpAny_bind (m:=firstArgMember _ _) (wpAny_of_eq (a:=Value.none) (by first | rfl | (simp only[firstArgMember];rfl)) (wpAny_newObj_type ?_ (by size_fits)))) (by size_fits))
 simp only[raiseNew]
 refine wpAny_bind (wpAny_handled ?_)
 first | rw[show A.in1.handled=none from hh] | rw[hh]
 refine wpAny_bind (wpAny_pure (wpAny_throw (hE _ _ (((Ko ..).extBut.push _).push _) ⟨_,Zf _ rfl,rfl⟩)))
theorem drawsT(hh:A.handled=none)(j t:Nb)(az:t≠j)(xs:Array Value) :
  Draws prog w A j [j,t] xs.size (λi v=>xs[i]?=some v) (λi h=>h.IsTupleIter j t i∧h.IsTuple t xs) where
 live:=λ_ _ st=>let⟨o,ho,_⟩:=st.1;⟨o,ho⟩
 frame:=λi h h' st k=>⟨st.1.at λo e=>k j (by simp) o e,let⟨o,e,r⟩:=st.2;⟨o,k t (by simp) o e,r⟩⟩
 item:=λi s Q E hi st hQ=>by
  refine next_item st.1 st.2 (x:=xs[i]) (by simp[hi]) λg a b=>?_
  obtain⟨o,e,r⟩:=st.2
  exact hQ _ g s.toks (by simp[hi]) ⟨a,o,(b.2 t az).trans e,r⟩ b
 done:=λs Q E st hE=>next_end hh st.1 st.2 (by simp) hE
def new_tuple(t:Nb)(xs:Array Value)(n:Nat)(dct:Option Addr)(sl:Array (Option Value)) :
  Meets (Builtin.«enumerate.__new__» ⟨[.type "enumerate",.ref t],[]⟩) (λ_ R s=>s.heap.get? t=some {cls:=.type "tuple",dict:=dct,data:=.seq xs n,slots:=sl} ∧
   R (.ok (.ret (.ref (s.heap.push {cls:=.type "tuple_iterator",data:=.fields #[.ref t,.int 0 0]}).objs.size)))
    {s with heap:=(s.heap.push {cls:=.type "tuple_iterator",data:=.fields #[.ref t,.int 0 0]}).push {cls:=.type "enumerate",data:=.fields #[.none,.bool false,.ref s.heap.objs.size,rawInt 0,.none,.none]}}) :=
 .of_wp λprog w A R s h=>by
  obtain⟨hp,g,d,tk,os⟩:=s;obtain⟨hl,h⟩:=h
  have tH:=sub_enumerate
  have hL:Heap.IsTuple (Shared.heap ⟨hp,g,d,tk,os⟩) t xs:=⟨_,hl,rfl,n,rfl⟩
  wp_walk using wpAny_loadPart' hl
  refine wpAny_stack_any λst=>wpAny_pure ?_
  split
  ·rename_i c _ _ _ _ _
   cases(c==Value.type "enumerate")<;>(wp_walk using wpAny_loadPart' hl,wpAny_pyIter_tuple hL;exact⟨_,rfl,h⟩)
  ·wp_walk using wpAny_loadPart' hl,wpAny_pyIter_tuple hL
   exact⟨_,rfl,h⟩
def call_enum(hL:s.heap.IsTuple t xs)(h:∀g,IsEnum g (s.heap.objs.size+1) s.heap.objs.size 0 .none→g.IsTupleIter s.heap.objs.size t 0→g.objs.size=s.heap.objs.size+2→(∀b o,s.heap.get? b=some o→g.get? b=some o)→Q (.ref (s.heap.objs.size+1)) {s with heap:=g}) :
  wpAny (model prog w) A (call (.type "enumerate") [.ref t]) Q E s:=by
 obtain⟨⟨c,dct,dt,sl⟩,hl,hc,n,hd⟩:=hL
 replace hc:c=.type "tuple" := hc
 replace hd:dt=.seq xs n:=hd
 subst hc hd
 refine callType_new F.called_enumerate (by decide) (F.typeCall_enumerate_1 _) (F.newCall_enumerate_1 _) (λobj=>F.args_object_init_2 obj _) F.entry_enumerate_new (new_tuple t xs n dct sl) ⟨hl,?_⟩
 have hz:(s.heap.push {cls:=.type "tuple_iterator",data:=.fields #[.ref t,.int 0 0]}).objs.size=s.heap.objs.size+1:=Wt ..
 show _∧_
 rw[hz]
 have he:IsEnum ((s.heap.push {cls:=.type "tuple_iterator",data:=.fields #[.ref t,.int 0 0]}).push {cls:=.type "enumerate",data:=.fields #[.none,.bool false,.ref s.heap.objs.size,rawInt 0,.none,.none]}) (s.heap.objs.size+1) s.heap.objs.size 0 .none:=by
  have q:=Zf (s.heap.push {cls:=.type "tuple_iterator",data:=.fields #[.ref t,.int 0 0]}) (o:={cls:=.type "enumerate",data:=.fields #[.none,.bool false,.ref s.heap.objs.size,rawInt 0,.none,.none]}) rfl
  rw[hz]at q;exact q
 exact⟨⟨_,he,rfl⟩,h _ he ⟨_,Qj _ (Zf _ rfl),rfl,rfl⟩ (by rw[Wt,hz]) λb o x=>Qj _ (Qj _ x)⟩
end
end Enu
namespace L2
open PySem PySem.Spec PyProof.Rows Enu
def Ite(a:Nb)(K:Na):It :=
 ⟨λi H=>∃xs,SqT K H a xs∧i<xs.length,λi H x H'=>∃y t,(∀xs,SqT K H a xs→xs[i]?=some y)∧H t=none∧x=.ref t∧H'=upd H t (.tup [.int i,y]),λi H=>∃xs,SqT K H a xs∧xs.length≤i⟩
theorem turn_enum{P:Ni}{w:Nk}{K:Na}{elts:Np}{kk:Nat}{pos:Pos}(a e j:Nb)(eB:e≠j)(gY:a≠j)(vC:e≠a) :
  Turn P w K (.Tuple elts kk pos) (Ite a K) [e,j] e (λi h=>(∃old,IsEnum h e j i old)∧h.IsTupleIter j a i) where
 mem:=by simp
 obj:=λi h st b hb=>by
  rcases Qe.mp hb with z | z
  ·subst z
   obtain⟨old,q⟩:=st.1
   exact⟨_,q,λv z=>by
    have z':Data.fields _=Data.cell v:=z
    cases z'⟩
  ·rw [Qb.mp z]
   obtain⟨o,q,c,d⟩:=st.2
   exact⟨o,q,λv z=>by rw[d]at z;cases z⟩
 keep:=λi h h' st k=>⟨let⟨old,q⟩:=st.1;⟨old,k e (by simp) _ q⟩,st.2.at λo q=>k j (by simp) o q⟩
 item:=by
  intro X hP hw hK hc i a7 s σ H E I hf st hg
  subst hP hw hK
  obtain⟨xs,hq,hi⟩:=hg
  obtain⟨a8,rv,p,hz⟩:=I.tuple hq
  have hl:=rv.length
  obtain⟨⟨old,he⟩,hit⟩:=st
  have hh:X.A.in1.handled=none:=I.ok.hd hc
  refine wpAny_pyNext_enum_itemD (drawsT hh j a gY a8.toArray) he ⟨hit,p⟩ (by simp;exact zar7 ‹_› ‹_›) eB (by simp[eB,vC]) λx g tk hP ho hs hT hsz hk=>⟨.ref s.heap.objs.size,rfl,?_⟩
  have fr:∀b,b∈[e,j]→FpOk X a7 H b:=hf
  obtain⟨e0,e1,e2,e3,e4,e5⟩:=hf e (by simp)
  obtain⟨j0,j1,j2,j3,j4,j5⟩:=hf j (by simp)
  have pU:∀b u,H b=some u→b≠e∧b≠j:=λb u q=>⟨λz=>(by rw[z,e0]at q;cases q),λz=>(by rw[z,j0]at q;cases q)⟩
  have I1:Inv X a7 σ H {s with heap:=g,toks:=tk+1}:=by
   refine I.step (g':=s.gens) (d':=s.drawn) (ch:=[e,j]) (λb hb=>?_) (λb o _ _ hc q _=>hk b o (λz=>hc (by simp[z])) (λz=>hc (by simp[z])) q) (λb o _ _ hc q _=>⟨o.slots,hk b o (λz=>hc (by simp[z])) (λz=>hc (by simp[z])) q⟩) (λ_ _ _ _ n=>n)
    (λb o hc q=>⟨o,hk b o (λz=>hc (by simp[z])) (λz=>hc (by simp[z])) q⟩) (λ_ _ q=>q) (λ_ _ _ q=>q) (λb ps q=>⟨#[],by rw[q];simp⟩) (λm hm=>?_) (λb u q=>?_) I.bare
   ·rcases Qe.mp hb with z | z
    ·subst z;exact⟨e3,e1,e4,e5⟩
    ·rw[Qb.mp z];exact⟨j3,j1,j4,j5⟩
   ·obtain ⟨o,es,ep,q,r⟩:=hm
    exact⟨o,es,ep,hk _ o (Qw e1) (Qw j1) q,r⟩
   ·refine (I.hok b u q).stay (fun c v hc z=>?_) (fun _ z=>z) fun _ _ z=>z
    have eF:c≠e∧c≠j:=by
     rcases hc with rfl | hc
     ·exact pU c u q
     ·exact pU c _ hc
    exact hk c v eF.1 eF.2 z
  obtain⟨y,hy⟩:∃y,xs[i]?=some y:=⟨xs[i],Qd hi⟩
  obtain⟨u,hu,ru⟩:=rv.get hy
  have pR:a8[i]?=some x:=by simpa using hP
  rw[hu]at pR
  have t8:u=x:=Qk pR
  subst t8
  have hN:H s.heap.objs.size=none:=I.hok.fresh (Qh _)
  refine wpAny_letOwnedTupleGo_enum ho λg' aN ai=>?_
  have nT:s.heap.objs.size≠e:=Yc (Qt he)
  have nJ:s.heap.objs.size≠j:=by obtain⟨o,q,_⟩:=hit;exact Yc (Qt q)
  have I2:Inv X a7 σ H {s with heap:=g',toks:=tk+1}:=Inv.turned (s:={s with heap:=g,toks:=tk+1}) (t':=tk+1) (it:=e) I1 (λb o hb q=>(ai.2 b hb).trans q) e0 e1 e3 e4 e5
  have pO:g'.get? s.heap.objs.size=some {cls:=.type "tuple",data:=.seq #[.int i tk,u]}:=(ai.2 _ nT).trans hT
  have I3:Inv X a7 σ (upd H s.heap.objs.size (.tup [.int i,y])) {s with heap:=g',toks:=tk+1}:=by
   refine⟨I2.ok,I2.os,I2.bare,⟨I2.base.keep,I2.base.slot,λb o q n hx=>?_,I2.base.there,λb zs q=>?_,λb o v q=>?_,λb ps q=>?_⟩,I2.loc,I2.cell,?_,λz c q=>?_,λpp hp=>?_,λb v q=>?_,I2.len⟩
   ·have lt:b < s.heap.objs.size:=Zo (Qt q) I.sz
    rw[zae (Zc lt)];exact I2.base.free b o q n hx
   ·have:=I2.base.tups b zs q
    rw[zae (zaa this hN)];exact this
   ·have:=I2.base.frzs b o v q
    rw[zae (zaa this hN)];exact this
   ·obtain ⟨m,z⟩:=I2.base.tbls b ps q
    exact⟨m,by rw[zae (zaa z hN)];exact z⟩
   ·rw[zae (Zc I.lt)];exact I2.free
   ·rw[zae (Zc (I.cl_lt z c q))];exact I2.freeC z c q
   ·obtain ⟨h1,h2,h3⟩:=I2.pin pp hp
    exact⟨h1,by rw[zae (Zc (I.pin_lt pp hp))];exact h2,h3⟩
   ·by_cases hb:b=s.heap.objs.size
    ·subst hb
     rw[zac]at q
     cases q
     exact⟨by show 2≤sizeLine;decide,[.int i tk,u],.cons ⟨tk,rfl⟩ (.cons ru .nil),_,pO,rfl,_,rfl⟩
    ·rw [zae hb] at q
     exact(I2.hok b v q).stay (λc v _ z=>z) (λc z=>by rw[zae (zaa z hN)];exact z) λc zs z=>by rw[zae (zaa z hN)];exact z
  refine⟨.ref s.heap.objs.size,_,I3,rfl,⟨y,_,λys jJ=>by rw[I.tuple_inj jJ hq];exact hy,hN,rfl,rfl⟩,⟨⟨u,by simpa using aN⟩,?_⟩,λb hb=>?_⟩
  ·exact hs.1.at λo q=>(ai.2 j (Qw eB)).trans q
  ·rcases Qe.mp hb with z | z
   ·rw[z,zae (Qw nT)];exact e0
   ·rw[Qb.mp z,zae (Qw nJ)];exact j0
 done:=by
  intro X hP hw hK hc i a7 s σ H E I hf st hg
  subst hP hw hK
  obtain⟨xs,hq,hi⟩:=hg
  obtain⟨a8,rv,p,hz⟩:=I.tuple hq
  have hl:=rv.length
  obtain⟨⟨old,he⟩,hit⟩:=st
  obtain⟨j0,j1,j2,j3,j4,j5⟩:=hf j (by simp)
  have hh:X.A.in1.handled=none:=I.ok.hd hc
  have hT:s.TypeIs (.ref e) "enumerate" := ⟨_,he,rfl⟩
  unfold pyNext
  refine wpAny_bind (wpAny_attempt (wpAny_callSpecial?_slot (name:=Str.ofString "__next__") hT Kd (wpAny_call_entry Kd hT F.entry_enumerate_next ?_ (F.args_enumerate_next_1 _))))
  show wpAny _ _ (field (.ref e) 2 >>= _) _ _ _
  refine wpAny_bind (wpAny_field he rfl (x:=.ref j) rfl (wpAny_bind (next_end hh hit p (by simp;exact zdu ‹_› ‹_›) λg x hg hx=>?_)))
  obtain⟨o,ho,hc⟩:=hx
  refine wpAny_bind (wpAny_isInstance (T := "StopIteration") (b:=true) ⟨o,ho,hc⟩ isSubtype_stop (wpAny_pure ⟨rfl,?_⟩))
  exact I.turned (t':=s.toks) (λb o hb q=>hg b o hb q) j0 j1 j3 j4 j5
 self:=λA i s Q E st h=>by
  obtain⟨⟨old,he⟩,_⟩:=st
  exact wpAny_pyIter_enum he h
end L2
end
section
namespace L2
open PySem PySem.Spec PyProof.Rows Enu
section
variable{X:Cx}
def iEnum(K:Na)(ta:TA):TI:=λ σ H R=>ta σ H λvs H1=>∃a,vs=[.ref a]∧(∃xs,SqT K H1 a xs)∧R (Ite a K) H1
def pi_enum(hg:Gl X "enumerate")(hm:X.mg "enumerate" = none)(ha:PA X [a] ta)(hs:starEach [a] X.env=[(false,eval a X.env)]:=by rfl) :
  PI X (.Tuple elts kk tpos) (.Call (.Name "enumerate" p) [a] [] pos) (iEnum X.K ta):=by
 intro a7 s σ H R I h
 refine Call_ (zd1 I hg hm boot_enumerate (Yo (thn (ha pos a7 s σ H _ I h) λus s1 ⟨vs,H1,I1,r1,q1⟩=>?_) hs rfl))
 obtain⟨t,e,⟨xs,hq⟩,q⟩:=q1
 subst e
 obtain⟨u,rfl,ru⟩:=vals1 r1
 cases ru
 obtain⟨a8,rv,pl,hz⟩:=I1.tuple hq
 have lt:t<s1.heap.objs.size:=by obtain⟨o,q,_⟩:=pl;exact Qt q
 refine call_enum pl λg he hit hsz k=>wpAny_pyIter_enum he ?_
 have I2:Inv X a7 σ H1 {s1 with heap:=g}:=I1.kept (t':=s1.toks) k
 refine⟨s1.heap.objs.size+1,[s1.heap.objs.size+1,s1.heap.objs.size],_,_,H1,rfl,I2,turn_enum t _ _ (Kx _) (Zc lt) (Yc (Um lt)),⟨⟨_,he⟩,hit⟩,λb hb=>?_,q⟩
 have cq:s1.heap.objs.size≤b:=by
  rcases Qe.mp hb with z | z
  ·rw[z];exact Ww _
  ·rw[Qb.mp z];exact Qh _
 exact I1.fpOk cq (I1.hok.fresh cq)
def for_enum{K:Na}{a:Nb}{xs:List V}{g:TG}{tb:TS}{D:Ends}{σ:St}{H:Hp}(Pv:Nat→St→Hp→Prop)(h0:Pv 0 σ H)(hl:∀i σ H,i≤xs.length→Pv i σ H→H a=some (.tup xs))(hs:∀i x t σ H,xs[i]?=some x→Pv i σ H→H t=none→g (.ref t) σ (upd H t (.tup [.int i,x])) λ σ2 H2=>tb {D with nx:=Pv (i+1),ct:=Pv (i+1),bk:=D.nx} σ2 H2)(hd:∀σ H,Pv xs.length σ H→D.nx σ H) :
  ∃W:Nat→Nat→St→Hp→Prop,(∃m,W 0 m σ H)∧∀i m σ H,W i m σ H →
   ((Ite a K).stop i H∧D.nx σ H)∨((Ite a K).go i H∧∃N:St→Hp→Prop,(∀σ' H',N σ' H'→∃m',m'<m∧W (i+1) m' σ' H')∧∀x H',(Ite a K).yld i H x H'→g x σ H' λ σ2 H2=>tb {D with nx:=N,ct:=N,bk:=D.nx} σ2 H2):=by
 refine⟨λi m σ H=>m=xs.length-i∧i≤xs.length∧Pv i σ H,⟨xs.length,by simp,Zg _,h0⟩,?_⟩
 rintro i m σ H ⟨rfl,hi,p⟩
 have q:=hl i σ H hi p
 by_cases ag:i<xs.length
 ·refine .inr ⟨⟨xs,SqT.of q,ag⟩,Pv (i+1),fun σ' H' p'=>⟨xs.length - (i+1),by exact zar1 ‹_›,rfl,ag,p'⟩,fun x H' y=>?_⟩
  obtain⟨z,t,e1,e3,rfl,rfl⟩:=y
  exact hs i z t σ H (e1 xs (SqT.of q)) p e3
 ·have e:i=xs.length:=by exact zar3 ‹_› ‹_›
  subst e
  exact .inl ⟨⟨xs,SqT.of q,Qh _⟩,hd σ H p⟩
def Its(x:Str):It:=⟨λi _=>i<x.cps.size,λi H v H'=>H'=H∧∃c,x.cps[i]?=some c∧v=.str ⟨#[c]⟩,λi _=>x.cps.size≤i⟩
theorem turn_str{P:Ni}{w:Nk}{K:Na}{tg:Expr}{x:Str}{t:Tok}(it:Nb):Turn P w K tg (Its x) [it] it (λi h=>h.IsStrIter it "str_ascii_iterator" x t i) where
 mem:=by simp
 obj:=λi h st b hb=>by
  rw[Qb.mp hb]
  obtain⟨o,e,c,d⟩:=st
  exact⟨o,e,λv z=>by rw[d]at z;cases z⟩
 keep:=λi h h' st k=>let⟨o,ho,r⟩:=st;⟨o,k it (by simp) o ho,r⟩
 item:=by
  intro X hP hw hK hc i a7 s σ H E I hf st hg
  subst hP hw hK
  obtain⟨f0,f1,f2,f3,f4,f5⟩:=hf it (by simp)
  have hi:i<x.cps.size:=hg
  refine wpAny_pyNext_ascii_item st (c:=x.cps[i]) (by simp[hi]) λh' ae sb=>?_
  have I1:Inv X a7 σ H {s with heap:=h',toks:=s.toks+1}:=I.turned (λb o hb e=>(sb.2 b hb).trans e) f0 f1 f3 f4 f5
  obtain⟨o,e,c,d⟩:=id ae
  exact⟨_,rfl,go_of (s:={s with heap:=h',toks:=s.toks+1}) e c d (by decide) ⟨.str ⟨#[x.cps[i]]⟩,H,I1,⟨_,rfl⟩,⟨rfl,_,by simp[hi],rfl⟩,ae,λb hb=>(hf b hb).1⟩⟩
 done:=by
  intro X hP hw hK hc i a7 s σ H E I hf st hg
  subst hP hw hK
  obtain⟨f0,f1,f2,f3,f4,f5⟩:=hf it (by simp)
  have hi:x.cps.size≤i:=hg
  exact wpAny_pyNext_ascii_end (I.ok.hd hc) st (by simp[hi]) λh' eb=>⟨rfl,I.turned (t':=s.toks) (λb o hb e=>eb b o hb e) f0 f1 f3 f4 f5⟩
 self:=λ_ _ _ _ _ st h=>wpAny_pyIter_striter_ascii st h
def iStr(tl:TE):TI:=λ σ H R=>tl σ H λv H1=>∃x:Str,v=.str x∧x.cps.all (· < 128)=true∧R (Its x) H1
def pi_str{tg l:Expr}{tl:TE}(hl:PE X l tl):PI X tg l (iStr tl):=by
 intro a7 s σ H R I h
 refine thn (hl a7 s σ H _ I h) λv s1 ⟨y,H1,I1,r1,q1⟩=>?_
 obtain⟨x,e,ha,q⟩:=q1
 subst e
 obtain⟨t,rfl⟩:=r1
 refine wpAny_pyIter_ascii ha ?_
 refine⟨s1.heap.objs.size,[s1.heap.objs.size],_,_,H1,rfl,I1.kept (t':=s1.toks) λb o e=>Qj _ e,turn_str (t:=t) _,⟨_,Zf _ rfl,rfl,rfl⟩,λb hb=>?_,q⟩
 rw[Qb.mp hb]
 exact I1.fpOk (Qh _) (I1.hok.fresh (Qh _))
def op_le_str:OpR X (compareOp .LtE) (λx y H Q=>Ex2 λi j=>Aj3 (x=.str i) (y=.str j) (Q (.bl (!decide (j.cps.toList<i.cps.toList))) H)):=by
 intro a7 s σ H x y v u Q I rx ry h
 obtain⟨i,j,rfl,rfl,q⟩:=h
 obtain⟨t,rfl⟩:=rx
 obtain⟨t',rfl⟩:=ry
 exact PySem.P.le_str (zbg I q rfl)
end
end L2
end
section
namespace L2
open PySem PySem.Spec PyProof.Rows
section
variable{X:Cx}{a7:Nf}{σ:St}{H:Hp}{s:Nh}
inductive RrNil(neg:Bool)(K:Na)(x:V)(y:V)(H:Hp)(Q:VK):Prop
 |mk (l:_) (b:_) (xs:_) (h0:x=.ref l) (h1:y=.ref b) (h2:SqL K H l xs) (h3:SqL K H b []) (h4:Q (.bl (if neg then !xs.isEmpty else xs.isEmpty)) H):RrNil neg K x y H Q
def rNil(neg:Bool)(K:Na):R2:=λx y H Q=>RrNil neg K x y H Q
def op_eq_nil(hu:X.A.units<cLine):OpR X (compareOp .Eq) (rNil false X.K):=by
 intro a7 s σ H x y v u Q I rx ry h
 obtain⟨l,b,xs,rfl,rfl,h1,h2,q⟩:=h
 cases rx;cases ry
 obtain⟨a8,r,pl,_⟩:=I.list h1
 obtain⟨bh,r2,mv,_⟩:=I.list h2
 cases r2
 cases r with
 |nil=>exact SeqAt.eq_listAt (e:=λ_=>true) pl.isList mv.isList rfl hu (λj h1 _=>by simp at h1) ⟨.bl true,H,I,rfl,q⟩
 |cons a t=>exact SeqAt.eq_list_lengthsAt pl.isList mv.isList (by simp) hu ⟨.bl false,H,I,rfl,q⟩
def zep(hu:X.A.units<cLine):OpR X (compareOp .NotEq) (rNil true X.K):=by
 intro a7 s σ H x y v u Q I rx ry h
 obtain⟨l,b,xs,rfl,rfl,h1,h2,q⟩:=h
 cases rx;cases ry
 obtain⟨a8,r,pl,_⟩:=I.list h1
 obtain⟨bh,r2,mv,_⟩:=I.list h2
 cases r2
 cases r with
 |nil=>exact SeqAt.RcNeAt.lists (e:=λ_=>true) pl.isList mv.isList rfl hu (λj h1 _=>by simp at h1) _ _ _ _ ⟨.bl false,H,I,rfl,q⟩
 |cons a t=>exact SeqAt.RcNeAt.lists_lengths pl.isList mv.isList (by simp) hu _ _ _ _ ⟨.bl true,H,I,rfl,q⟩
def op_mul_str:OpR X (binaryOp .Mult) (λx y H Q=>Ex2 λ(z:Str) (n:Nat)=>Aj5 (x=.str z) (y=.int n) (z.length≤1000) (n≤1000) (Q (.str (Txt.mul z n)) H)):=by
 intro a7 s σ H x y v u Q I rx ry h
 obtain⟨z,n,rfl,rfl,h1,h2,q⟩:=h
 obtain⟨t,rfl⟩:=rx
 obtain⟨t',rfl⟩:=ry
 exact SB.mul (mulOk_of 1000 1000 h1 (by lia) (by lia) (by decide) (by decide)) λt' k=>⟨.str _,H,I.tok _,⟨t',rfl⟩,q⟩
theorem argBest_lt:∀k,argBest bt k≤k
 |0=>Qh _
 |k+1=>by
  show(if bt (k+1) (argBest bt k)=true then k+1 else argBest bt k)≤k+1
  split
  ·exact Qh _
  ·exact Nat.le_succ_of_le (argBest_lt k)
theorem zc6(f:Nat→List Nat):∀k j,j≤k→¬f j<f (argBest (λi j=>decide (f i<f j)) k)
 |0,j,h=>by
  have:j=0:=by lia
  subst this
  exact Wz _
 | k+1,j,h=>by
  show ¬f j<f (if decide (f (k+1)<f (argBest (λi j=>decide (f i<f j)) k))=true then k+1 else argBest (λi j=>decide (f i<f j)) k)
  by_cases ag:f (k+1)<f (argBest (λi j=>decide (f i<f j)) k)
  ·rw [if_pos (decide_eq_true ag)]
   by_cases hj:j=k+1
   ·subst hj;exact Wz _
   ·intro z
    exact zc6 f k j (by lia) (List.lt_trans z ag)
  ·rw [if_neg (by simpa using ag)]
   by_cases hj:j=k+1
   ·subst hj;exact ag
   ·exact zc6 f k j (by lia)
def zi2(hc:X.calm=true):zci X (.builtin "min") (λxs H Q=>Ex2 λ(p:Nb) (zs:Ng)=>Aj4 (xs=[.ref p]) (SqL X.K H p (zs.map V.str)) (zs≠[]) (∀z∈zs,(∀y∈zs,leS z y)→Q (.str z) H)):=by
 intro a7 s σ H xs us Q I r h
 obtain⟨p,zs,rfl,hq,az,q⟩:=h
 obtain⟨u,rfl,rx⟩:=vals1 r
 cases rx
 have il:0<zs.length:=Wg.mpr az
 refine call_min_walk (zhv hc I hq λa8 It h1 rv W st lt keep=>⟨It,_,_,_,_,_,λi j=>decide ((zs.getD i Str.empty).cps.toList<(zs.getD j Str.empty).cps.toList),rfl,W,st,lt,?_,λi j vi vj s' Q' E' hi hj g8=>?_,λv h' tk hv k=>?_⟩)
 ·have:=rv.length
  rw[Qa]at this
  rw[Qu];exact zar7 ‹_› ‹_›
 ·have gs:∀ (i:Nat) (v:Value),a8.toArray[i]?=some v→∃ t,v=.str (zs.getD i Str.empty) t:=fun i v e=>by
   have e':a8[i]?=some v:=by simpa using e
   have hi:i<a8.length:=(Zd.mp e').1
   have hl:=rv.length
   rw[Qa]at hl
   have aF:i<zs.length:=by exact zar6 ‹_› ‹_›
   obtain⟨u,e2,t,e3⟩:=rv.get (i:=i) (x:=.str zs[i]) (by simp[aF])
   rw[e']at e2
   cases e2
   exact⟨t,by rw[e3];simp[List.getD,aF]⟩
  obtain⟨t1,rfl⟩:=gs i vi hi
  obtain⟨t2,rfl⟩:=gs j vj hj
  exact lt_str g8
 ·have hl:=rv.length
  rw[Qa]at hl
  have hk:=argBest_lt (bt:=λi j=>decide ((zs.getD i Str.empty).cps.toList<(zs.getD j Str.empty).cps.toList)) (a8.toArray.size-1)
  generalize hb:argBest (λi j=>decide ((zs.getD i Str.empty).cps.toList<(zs.getD j Str.empty).cps.toList)) (a8.toArray.size-1)=b at hv hk
  have c7:b<zs.length:=by rw[Qu]at hk;lia
  have fO:a8[b]?=some v:=by simpa using hv
  obtain⟨u,e2,t,e3⟩:=rv.get (i:=b) (x:=.str zs[b]) (by simp[c7])
  rw[fO]at e2
  cases e2
  refine⟨.str zs[b],H,keep h' tk k,⟨t,e3⟩,q _ (Qv c7) λy hy=>?_⟩
  obtain⟨j,hj,ej⟩:=Zp hy
  have:=zc6 (λi=>(zs.getD i Str.empty).cps.toList) (a8.toArray.size-1) j (by rw[Qu];lia)
  rw[hb]at this
  have g1:zs.getD b Str.empty=zs[b]:=by simp[List.getD,c7]
  have g2:zs.getD j Str.empty=y:=by simp[List.getD,hj,ej]
  rw[g1,g2]at this
  exact this
end
section
variable{X:Cx}
def zcu:zci X (.type "dict") (λxs H Q=>Ex2 λ(d:Nb) (kvs:List (Key×V))=>Aj3 (xs=[.ref d]) (Rd H d (.dK kvs)) (∀l,H l=none→Q (.ref l) (upd H l (.dK kvs)))):=by
 intro a7 s σ H xs us Q I r h
 obtain⟨d,kvs,rfl,hq,q⟩:=h
 obtain⟨u,rfl,rx⟩:=vals1 r
 cases rx
 obtain⟨z,lo,vs,ep,rk,ha,hl⟩:=dk_at I hq
 refine kt_call_dict lo ha.dictOf (by rw[hl];exact z) λh' hd sb=>?_
 have lt:d<s.heap.objs.size:=ha.lt_size
 have k:∀b o,s.heap.get? b=some o→h'.get? b=some o:=λb o e=>(sb.2 b (Zc (Qt e))).trans (Qj _ e)
 have nS:(s.heap.objs.size==sysModules)=false:=beq_eq_false_iff_ne.mpr (Yc I.big)
 exact⟨.ref _,_,I.laid (t':=s.toks) k (Qh _) (show zbs X.prog X.w _ h' _ (.dK kvs) from⟨z,nS,vs,rk,hd⟩),rfl,q _ (I.hok.fresh (Qh _))⟩
def eqV_self{x:V}(f:zdw x=true):eqV x x=true:=by
 cases x with
 |non=>rfl
 |bl b=>exact beq_self_eq_true b
 |int i=>exact beq_self_eq_true i
 |str z=>exact beq_self_eq_true z
 |_=>cases f
def KV.value{kvs:List (Key×V)}{vs:List (Key×Value)}(r:KV kvs vs){k:Key}{v:V}(nd:(kvs.map (·.1)).Nodup)(h:(k,v)∈kvs):∃ y,valueAt vs k=some y∧RelV v y:=by
 induction r with
 |nil=>cases h
 | @cons p q ps qs e t ih =>
  rw[Ql,Qr]at nd
  rcases Qe.mp h with z | z
  ·refine ⟨q.2,?_,?_⟩
   ·unfold valueAt
    rw[Wc (by rw[←e.1,←z];simp)]
    rfl
   ·have:=e.2
    rw[←z]at this
    exact this
  ·obtain ⟨y,h1,h2⟩:=ih nd.2 z
   refine⟨y,?_,h2⟩
   have ne:p.1≠k:=λw=>nd.1 (by rw[w];exact Qf.mpr ⟨_,z,rfl⟩)
   unfold valueAt at h1 ⊢
   rw[Wd (by rw[←e.1];simpa using ne)]
   exact h1
def zds(hu:X.A.units<cLine):OpR X (compareOp .NotEq) (λx y H Q=>Ex3 λa b kvs=>Aj7 (x=.ref a) (y=.ref b) (Rd H a (.dK kvs)) (Rd H b (.dK kvs)) ((kvs.map (·.1)).Nodup) (∀p∈kvs,zdw p.2=true) (Q (.bl false) H)):=by
 intro a7 s σ H x y v u Q I rx ry h
 obtain⟨a,b,kvs,rfl,rfl,h1,h2,nd,fl,q⟩:=h
 cases rx;cases ry
 obtain⟨z,lo,vs,ep,rk,ha,hl⟩:=dk_at I h1
 obtain⟨z2,sB,sd,ep2,sj,vE,ak⟩:=dk_at I h2
 have uy:∀(ks:List (Key×V)) (us:List (Key×Value)),KV ks us→(∀p∈ks,p∈kvs)→PySem.W.KeqHits X.A.in1 s sd us true:=by
  intro ks us r
  induction r with
  |nil=>intro _;exact .nil
  |@cons p q' ps qs e t ih =>
   intro hm
   have hp:(p.1,p.2)∈kvs:=hm p Qc
   obtain⟨y,e1,e2⟩:=KV.value sj nd hp
   have f:=fl p (hm p Qc)
   have hE:=zgu (A:=X.A.in1) (s:=s) e.2 e2 f f
   rw[eqV_self f]at hE
   obtain⟨k1,v1⟩:=q'
   have hk:p.1=k1:=e.1
   rw[hk]at e1
   exact PySem.W.KeqHits.hit (e:=true) (b:=true) e1 hE (ih λp hp=>hm p (Qg _ hp))
 refine PySem.W.keq_ne lo sB ha.dictOf vE.dictOf hu (λ_=>uy kvs vs rk λp hp=>hp) ⟨.bl false,H,I,?_,q⟩
 show Value.bool _=Value.bool false
 have:vs.length=sd.length:=by omega
 rw[this]
 simp
end
end L2
end
section
namespace SetT
open PySem PyProof.Rows PySem.Spec
section
variable{prog:Ni}{w:Nk}{A:Nn}{R:Nt}{I:Nb}{fp wr:Nl}{G:Array GenState→Array GenState→Prop}{n:Nat}{P:Nat→Value→Prop}{St:Nat→Shared→Prop}
def loop(W:WalksS prog w A.in1 I fp wr G n P St)(S:Nb)(lZ:S∉fp)(zs:Ng)(hz:zs.length=n)(nd:zs.Nodup)(cK:∀i v,P i v→∃t,v=.str (zs.getD i Str.empty) t)(hb:n+1<scanBound) :
  ∀(k i:Nat) (s:Nh),n-i=k→i≤n→St i s→s.heap.SetOf (PySem.strKind prog w) S (λx=>decide (x∈zs.take i)) i →
   (∀s',Moved (S::wr) G s s'→s'.heap.SetOf (PySem.strKind prog w) S (λx=>decide (x∈zs.take n)) n→R (.ok (.ret .none)) s')→codeAny (model prog w) A (.builtin "set.update.loop" ⟨[.ref S,.ref I],[]⟩) R s:=by
 have hSw:S∉wr:=λh=>lZ (W.sub _ h)
 have sub:∀b∈wr,b∈S::wr:=λb q=>Qg _ q
 intro k
 induction k with
 |zero =>
  intro i s hk hi aq hS hR
  obtain rfl:i=n:=by lia
  refine codeAny_builtin F.entry_set_update_loop ?_
  rw[We F.plain_set_update_loop _]
  show wpAny _ A.in1 (pyNext (.ref I) >>= _) _ _ s
  refine wpAny_bind (W.done s _ _ aq λs' hm=>(show wpAny _ A.in1 (ret Value.none) _ _ s' from wpAny_pure (hR s' (hm.mono sub) ?_)))
  obtain⟨o,es,ep,t,ho,rest⟩:=hS
  exact⟨o,es,ep,t,hm.heap S _ hSw ho,rest⟩
 | succ k ih =>
  intro i s hk hi aq hS hR
  have lt:i<n:=by lia
  refine codeAny_builtin F.entry_set_update_loop ?_
  rw[We F.plain_set_update_loop _]
  show wpAny _ A.in1 (pyNext (.ref I) >>= _) _ _ s
  refine wpAny_bind (W.item i s _ _ lt aq λv s' hP tK hm=>?_)
  obtain⟨t,rfl⟩:=cK i v hP
  have aF:i<zs.length:=by exact zar6 ‹_› ‹_›
  have eg:zs.getD i Str.empty=zs[i]:=by simp[List.getD,aF]
  rw[eg]
  have jm:s'.heap.SetOf (PySem.strKind prog w) S (λx=>decide (x∈zs.take i)) i:=by
   obtain⟨o,es,ep,tb,ho,rest⟩:=hS
   exact⟨o,es,ep,tb,hm.heap S _ hSw ho,rest⟩
  show wpAny _ A.in1 (holding [Value.str zs[i] t] (setAdd S (.str zs[i] t)) >>= _) _ _ s'
  refine wpAny_bind (wpAny_holding ?_)
  unfold setAdd
  refine wpAny_holding (wpAny_bind ((PySem.strKind prog w).pyHash (k:=zs[i]) (by simp[PySem.strKind,Value.isStrOf]) ?_))
  have nin:decide (zs[i]∈zs.take i)=false:=decide_eq_false λq=>by
   obtain⟨j,hj,e⟩:=Zp q
   rw[Zi]at hj
   rw[Ws]at e
   have:=(Yf nd).mp e
   lia
  refine wpAny_setAddHashed_of (knd:=PySem.strKind prog w) (k:=zs[i]) (by simp[PySem.strKind,Value.isStrOf]) rfl jm (by lia) λg sb hS2=>?_
  have hSi:g.SetOf (PySem.strKind prog w) S (λx=>decide (x∈zs.take (i+1))) (i+1):=by
   refine SetOf_congr hS2 (λx=>?_) (by simp only[nin];simp)
   rw[Wj]
   simp only[Uf,decide_eq_true_eq]
   rw[Qm aF,Qi,Qb]
  refine wpAny_pure ⟨plainId_quiet F.plain_set_update_loop _,ih (i+1) _ (by lia) lt (W.frame _ s' _ _ tK (by first | exact Qh _ | exact Ww _) λb q o e=>?_) hSi λs2 cI hS3=>hR s2 (Moved.trans W.gtrans ((hm.mono sub).then_heap (by first | exact Qh _ | exact Ww _) λb o q e=>?_) cI) hS3⟩
  ·rw[sb.2 b (λz:b=S=>lZ (by rw[←z];exact q))];exact e
  ·rw[sb.2 b (λz:b=S=>q (by rw[z];exact Qc))];exact e
end
section
variable{prog:Ni}{w:Nk}{A:Nn}{E:Nc}{s:Nh}
def call_set{l:Nb}{a8:Nj}{zs:Ng}{Q:Nc}(hh:A.handled=none)(hl:s.heap.IsList l a8.toArray)(hz:zs.length=a8.length)(nd:zs.Nodup)(cK:∀(i:Nat) (v:Value),a8[i]?=some v→∃t,v=.str (zs.getD i Str.empty) t)(hb:a8.length+1<scanBound)(h:∀(g:Nm) (tk:Nat),g.SetOf (PySem.strKind prog w) s.heap.objs.size (λx=>decide (x∈zs)) zs.length→(∀b o,s.heap.get? b=some o→g.get? b=some o)→Q (.ref s.heap.objs.size) {s with heap:=g,toks:=tk}) :
  wpAny (model prog w) A (call (.type "set") [.ref l]) Q E s:=by
 obtain⟨c,tl,hmro⟩:=Wl.mro
 have hmade:=Wl.made
 have tH:=Wl.sub
 refine wpAny_call (codeAny_of_tree (show wpAny _ _ (callAny (.type "set") _) _ _ _ from wpAny_pure ⟨Code.quiet_builtin _ (by decide +kernel),codeAny_builtin PySem.F.entry_type_call ?_⟩))
 rw[Around.under_plain (weight_type_call_type "set" [.ref l] []) rfl]
 have h1:=Wl.notType
 have h2:=Wl.canCreate
 have lT:=PySem.F.typeCall_set_1 (.ref l)
 repeat(any_goals (first | assumption | wp_step))
 refine codeAny_mono (code_set_new_1 (.ref l) (E:=E) (Q₁:=λobj s₁=>∃led:Bool,obj=.ref s.heap.objs.size∧s₁={s with heap:=s.heap.push {cls:=.type "set",dict:=none,data:=.set #[] 0 (.fresh 0 0 led)}}) λled=>⟨led,rfl,rfl⟩) λr s1 hr=>?_
 cases r with
 |error e=>exact hr
 | ok fl =>
  cases fl with
  | ret obj =>
   obtain⟨led,rfl,rfl⟩:=hr
   have hS:(s.heap.push {cls:=.type "set",dict:=none,data:=.set #[] 0 (.fresh 0 0 led)}).get? s.heap.objs.size=some {cls:=.type "set",dict:=none,data:=.set #[] 0 (.fresh 0 0 led)}:=Zf _ rfl
   have hT:Shared.TypeIs {s with heap:=s.heap.push {cls:=.type "set",dict:=none,data:=.set #[] 0 (.fresh 0 0 led)}} (.ref s.heap.objs.size) "set" := ⟨_,hS,rfl⟩
   have hli:=Wl.init.lookup
   have vq:=Wl.init.bind (.ref s.heap.objs.size)
   repeat(any_goals (first | assumption | wp_step))
   refine codeAny_mono (codeAny_call_builtin (R:=wants (λr s₂=>r=.none∧∃g tk,s₂={s with heap:=g,toks:=tk}∧g.SetOf (PySem.strKind prog w) s.heap.objs.size (λx=>decide (x∈zs)) zs.length∧(∀b o,s.heap.get? b=some o→g.get? b=some o)) E)
    Wl.init.plain PySem.F.entry_set_init (check_set_init_1 hT ?_)) λr2 s2 da=>?_
   ·obtain ⟨ol,hol,gC,nl,lS⟩:=hl
    obtain⟨ocls,odict,odata,oslots⟩:=ol
    simp only at gC lS
    subst gC;subst lS
    have ub:(s.heap.push {cls:=.type "set",dict:=none,data:=.set #[] 0 (.fresh 0 0 led)}).get? l=some {cls:=.type "list",dict:=odict,data:=.seq a8.toArray nl,slots:=oslots}:=Qj _ hol
    have hsls:=PySem.F.sub_list_set
    have hslf:=PySem.F.sub_list_frozenset
    have az:(Value.type "list" == Value.type "dict")=false:=by decide
    have cC:(s.heap.push {cls:=.type "set",dict:=none,data:=.set #[] 0 (.fresh 0 0 led)}).IsList l a8.toArray:=⟨_,ub,rfl,nl,rfl⟩
    unfold Builtin.«set.__init__» noKeywords Builtin.Frozenset.updateFrom
    generalize hPI:pyIter=PI
    wp_walk
    subst hPI
    refine wpAny_pyIter_list cC (wpAny_bind (wpAny_runValue ?_))
    have hlS:l<s.heap.objs.size:=Qt hol
    have hh3:A.in1.in1.in1.handled=none:=by simp[hh]
    have z1:(s.heap.push {cls:=.type "set",dict:=none,data:=.set #[] 0 (.fresh 0 0 led)}).objs.size=s.heap.objs.size+1:=Wt ..
    have ue:l≠(s.heap.push {cls:=.type "set",dict:=none,data:=.set #[] 0 (.fresh 0 0 led)}).objs.size:=by rw[z1];exact Zc (Um hlS)
    have lZ:s.heap.objs.size∉[(s.heap.push {cls:=.type "set",dict:=none,data:=.set #[] 0 (.fresh 0 0 led)}).objs.size,l]:=by
     rw[z1];simp only[Qe,Wa,or_false,not_or]
     exact⟨Zc (Ys _),Yc hlS⟩
    refine loop ((Walks.list hh3 _ l ue a8.toArray).toS) s.heap.objs.size lZ zs (by rw[Qu];exact hz) nd (λi v hv=>cK i v (by simpa using hv)) (by rw[Qu];exact hb) _ 0 _ rfl (Zg _) ⟨⟨_,Zf _ rfl,rfl,rfl⟩,(cC.push _)⟩ ?_ ?_
    ·exact SetOf_congr ((setObjOf_fresh (knd:=PySem.strKind prog w) led).setOf (Qj _ hS) (by unfold scanBound;exact Nat.le_add_left _ _)) (λ_=>by simp) rfl
    ·intro s' hm jm
     obtain⟨g,g',d',sf,sr⟩:=s'
     have eg:g'=s.gens:=hm.gens
     have ed:d'=s.drawn:=hm.drawn
     have eo:sr=s.os:=hm.os
     subst eg;subst ed;subst eo
     show wpAny _ _ _ _ _ _
     refine wpAny_pure (show wpAny _ _ (ret Value.none) _ _ _ from wpAny_pure ⟨rfl,g,sf,rfl,?_,λb o e=>?_⟩)
     ·have e1:a8.toArray.size=zs.length:=by rw [Qu,hz]
      rw[e1,Qx (Qh _)]at jm
      exact jm
     ·have lX:b < s.heap.objs.size:=Qt e
      refine hm.heap b o ?_ (Qj _ (Qj _ e))
      rw[z1]
      simp only[Qe,Wa,or_false,not_or]
      exact⟨Zc lX,Zc (Um lX)⟩
   ·cases r2 with
    |error e=>exact da
    | ok fl2 =>
     cases fl2 with
     |ret r =>
      obtain⟨rfl,g,tk,rfl,jm,dC⟩:=da
      repeat(any_goals (first | assumption | wp_step))
      exact h _ _ jm dC
     |_=>exact da.elim
  |_=>exact hr.elim
end
end SetT
namespace L2
open PySem PySem.Spec PyProof.Rows
def setO(P:Ni)(w:Nk)(a:Nb)(zs:Ng):HO:=.ext λh=>h.SetOf (PySem.strKind P w) a (λx=>decide (x∈zs)) zs.length
section
variable{X:Cx}
def zi1(hc:X.calm=true):zci X (.type "set") (λxs H Q=>Ex2 λ(p:Nb) (zs:Ng)=>Aj5 (xs=[.ref p]) (SqL X.K H p (zs.map V.str)) zs.Nodup (zs.length≤1000) (∀l,H l=none→Q (.ref l) (upd H l (setO X.prog X.w l zs)))):=by
 intro a7 s σ H xs us Q I r h
 obtain⟨p,zs,rfl,hq,nd,hz,q⟩:=h
 obtain⟨u,rfl,rx⟩:=vals1 r
 cases rx
 obtain⟨a8,rv,pl,_⟩:=I.list hq
 have hl:=rv.length
 rw[Qa]at hl
 refine SetT.call_set (zs:=zs) (I.ok.hd hc) pl.isList hl nd (λi v e=>?_) (by unfold scanBound;lia) λg tk hS k=>?_
 ·have hi:i < a8.length:=(Zd.mp e).1
  have aF:i<zs.length:=by exact zar6 ‹_› ‹_›
  obtain⟨u,e2,t,e3⟩:=rv.get (i:=i) (x:=.str zs[i]) (by simp[aF])
  rw[e]at e2
  cases e2
  exact⟨t,by rw[e3];simp[List.getD,aF]⟩
 ·refine ⟨.ref _,_,I.laid (t':=tk) k (Qh _) (show zbs X.prog X.w _ g _ (setO X.prog X.w s.heap.objs.size zs) from ⟨hS,?_,fun h1 h2 p1 k1=>?_⟩),rfl,q _ (I.hok.fresh (Qh _))⟩
  ·obtain ⟨o,_,_,_,e,_⟩:=hS
   exact⟨o,e⟩
  ·obtain ⟨o,es,ep,t,e,rest⟩:=p1
   exact⟨o,es,ep,t,k1 o e,rest⟩
def zi4:zci X (.builtin "len") (λxs H Q=>Ex2 λ(p:Nb) (zs:Ng)=>Aj4 (xs=[.ref p]) (H p=some (setO X.prog X.w p zs)) (zs.length≤1000) (Q (.int zs.length) H)):=by
 intro a7 s σ H xs us Q I r h
 obtain⟨p,zs,rfl,hq,hz,q⟩:=h
 obtain⟨u,rfl,rx⟩:=vals1 r
 cases rx
 obtain⟨⟨o,es,ep,t,ho,cD,hd,kY,hmem,hb,hf,hn⟩,_⟩:=(show zbs X.prog X.w H s.heap p (setO X.prog X.w p zs) from I.hok p _ hq)
 exact call_len_set ho cD hd hf (by rw[hn];lia) ⟨.int zs.length,H,I.tok _,⟨_,by rw[hn]⟩,q⟩
end
end L2
end
section
namespace DictR
open PySem PyProof.Rows PySem.Spec
def miss_keys:typeLookup (.type "list") "keys" = pure none:=am_miss_of_fast (by decide +kernel)
section
variable{prog:Ni}{w:Nk}{A:Nn}{E:Nc}{s:Nh}
def no_keys{a:Nb}{xs:Array Value}{k:Nat}{sl:Array (Option Value)}{Q:Option Value→Shared→Prop}(hx:s.heap.get? a=some {cls:=.type "list",dict:=none,data:=.seq xs k,slots:=sl})(hA:A.handled=none)(h:∀g tk,(∀b o,s.heap.get? b=some o→g.get? b=some o)→Q none {s with heap:=g,toks:=tk}):wpAny (model prog w) A (getAttr? (.ref a) "keys") Q E s:=by
 obtain⟨hp,g,d,tk,os⟩:=s
 have hT:∀t',(⟨hp,g,d,t',os⟩:Shared).TypeIs (.ref a) "list" := λ_=>⟨_,hx,rfl⟩
 have f1:=sub_AttributeError
 have f3:=Xl.lookup
 have f4:=Xl.bind (.ref a)
 have f5:=am_list_getattr_none
 unfold getAttr? getAttrBy? getAttrBy
 repeat(any_goals (first | assumption | exact hT _ | ((with_reducible show wpAny _ _ (call (Value.builtin "list.__getattribute__") _ _) _ _ _);refine call_meets Xl (hT _) am_entry_list_getattribute (F.args_list_getattribute_2 _ _) (meets_getattribute_miss_list a xs k sl "keys" _ miss_keys (by decide +kernel) (by decide +kernel)) ⟨hx,hA,λh' sf e cv=>?_⟩) | wp_step))
 obtain⟨t',u',he⟩:=cv.there
 show wpAny _ _ (getattributeRaised _ _ _ _ _ _ _) _ _ _
 unfold getattributeRaised
 repeat(any_goals (first | assumption | wp_step))
 exact h h' sf cv.keeps
def zho:entryFor table "dict.update.loop" = some Builtin.«dict.update.loop»:=entryFor_of_tree (by kernel_rfl)
def zdq:plainId "dict.update.loop" = true:=by decide +kernel
structure Row(K:Type) where
 a:Addr
 o:Obj
 k:K
 key:Value
 val:Value
 n:Nat
variable{K:Type}[DecidableEq K]{knd:KeyKind prog w K}
def RowAt(knd:KeyKind prog w K)(h:Nm)(r:Row K):Prop:=h.get? r.a=some r.o∧r.o.cls=.type "tuple" ∧ r.o.data=.seq #[r.key,r.val] r.n∧knd.is r.k r.key=true
def stored_new{kvs:List (K×Value)}(h:k∉kvs.map (·.1)):stored kvs k v=kvs++[(k,v)]:=by
 unfold stored
 rw[if_neg]
 intro z
 obtain⟨p,hp,e⟩:=Yq.mp z
 exact h (Qf.mpr ⟨p,hp,of_decide_eq_true e⟩)
def loop{R:Nt}{I l:Nb}(hh:A.handled=none)(rows:List (Row K))(d:Nb)(vh:d≠I)(lS:d≠l)(hlI:l≠I)(hr:∀ r∈rows,r.a≠d∧r.a≠I)(nd:(rows.map (·.k)).Nodup)(hz:rows.length≤sizeLine) :
  ∀(m i:Nat) (s:Nh),rows.length-i=m→i≤rows.length→s.heap.IsListIter I l i→s.heap.IsList l (rows.map λr=>Value.ref r.a).toArray→(∀r∈rows,RowAt knd s.heap r)→s.heap.DictOf knd d ((rows.take i).map λr=>(r.k,r.val)) →
   (∀g tk,(∀b o,b≠d→b≠I→s.heap.get? b=some o→g.get? b=some o)→g.DictOf knd d (rows.map λr=>(r.k,r.val))→R (.ok (.ret .none)) {s with heap:=g,toks:=tk}) →
   codeAny (model prog w) A (.builtin "dict.update.loop" ⟨[.ref d,.ref I,rawInt i,.none],[]⟩) R s:=by
 intro m
 induction m with
 |zero =>
  intro i s hm hi st hl hR hd hQ
  obtain rfl:i=rows.length:=by lia
  refine codeAny_builtin zho ?_
  rw[We zdq _]
  show wpAny _ A.in1 (pyNext (.ref I) >>= _) _ _ s
  refine wpAny_bind (wpAny_pyNext_list_end (show A.in1.handled=none from hh) st hl (by simp) λg eb=>?_)
  show wpAny _ A.in1 (Builtin.Dict.addKeywords d [] >>= λ_=>ret Value.none) _ _ _
  refine wpAny_bind (show wpAny _ A.in1 (pure ()) _ _ _ from wpAny_pure (wpAny_pure (hQ g s.toks (λb o _ hb e=>eb b o hb e) ?_)))
  rw[Qx (Qh _)]at hd
  exact hd.extBut eb vh
 | succ m ih =>
  intro i s hm hi st hl hR hd hQ
  have lt:i<rows.length:=by lia
  obtain⟨e1,e2,e3,e4⟩:=hR rows[i] (Qv lt)
  obtain⟨n1,n2⟩:=hr rows[i] (Qv lt)
  refine codeAny_builtin zho ?_
  rw[We zdq _]
  show wpAny _ A.in1 (pyNext (.ref I) >>= _) _ _ s
  refine wpAny_bind (wpAny_pyNext_list_item st hl (x:=.ref rows[i].a) (by simp[lt]) λg ae sb=>?_)
  have k1:∀b o,b≠I→s.heap.get? b=some o→g.get? b=some o:=λb o hb e=>(sb.2 b hb).trans e
  have kZ:g.DictOf knd d ((rows.take i).map λr=>(r.k,r.val)):=hd.sameBut sb vh
  refine wpAny_bind (wpAny_holding ?_)
  refine wpAny_bind (wpAny_tryCatch ?_)
  show wpAny _ A.in1 (Builtin.Dict.pairItems (.ref rows[i].a)) _ _ _
  unfold Builtin.Dict.pairItems
  refine wpAny_bind (wpAny_typeOf (T := "tuple") ⟨_,k1 _ _ n2 e1,e2⟩ ?_)
  rw[if_pos (by decide)]
  refine wpAny_bind (wpAny_seqItems (k1 _ _ n2 e1) e3 (wpAny_pure ?_))
  show wpAny _ A.in1 (holding [rows[i].key,rows[i].val] (dictSet d rows[i].key rows[i].val)) _ _ _
  have nk:rows[i].k∉((rows.take i).map λr=>(r.k,r.val)).map (·.1):=by
   rw[Ze]
   intro q
   obtain⟨r,au,da⟩:=Qf.mp q
   obtain⟨j,hj,ej⟩:=Zp au
   rw[Zi]at hj
   rw[Ws]at ej
   have je:j<rows.length:=by lia
   have:(rows.map (·.k))[j]'(by simpa using je)=(rows.map (·.k))[i]'(by simpa using lt):=by
    rw[Zj,Zj,ej];exact da
   have:=(Yf nd).mp this
   lia
  refine wpAny_holding (wpAny_dictSet_pairs (knd:=knd) e4 kZ (λg2 hd2 sb2=>?_) (by rw[Qa,Zi];lia))
  rw[stored_new nk]at hd2
  have pk:g2.DictOf knd d ((rows.take (i+1)).map λr=>(r.k,r.val)):=by
   rw[Qm lt,Qp];exact hd2
  have k2:∀b o,b≠d→b≠I→s.heap.get? b=some o→g2.get? b=some o:=λb o gX c7 e=>(sb2.2 b gX).trans (k1 b o c7 e)
  have hc:((i:Int)+1)=((i+1:Nat):Int):=by push_cast;rfl
  refine wpAny_pure ⟨plainId_quiet zdq _,?_⟩
  rw[hc]
  refine ih (i+1) _ (by lia) lt ?_ ?_ (λr o6=>?_) pk λg3 tk3 k3 vk=>?_
  ·obtain ⟨o,q,z⟩:=ae
   exact⟨o,(sb2.2 I (Qw vh)).trans q,z⟩
  ·obtain ⟨o,q,z⟩:=hl
   exact⟨o,k2 l o (Qw lS) hlI q,z⟩
  ·obtain ⟨q1,q2⟩:=hR r o6
   exact⟨k2 _ _ (hr r o6).1 (hr r o6).2 q1,q2⟩
  ·exact hQ g3 tk3 (λb o gX c7 e=>k3 b o gX c7 (k2 b o gX c7 e)) vk
def call{l:Nb}{rows:List (Row K)}{Q:Nc}{xk:Nat}(hh:A.handled=none)(hl:s.heap.get? l=some {cls:=.type "list",data:=.seq (rows.map λr=>Value.ref r.a).toArray xk})(hR:∀r∈rows,RowAt knd s.heap r)(nd:(rows.map (·.k)).Nodup)(hz:rows.length≤sizeLine)(h:∀g tk,g.DictOf knd s.heap.objs.size (rows.map λr=>(r.k,r.val))→(∀b o,s.heap.get? b=some o→g.get? b=some o)→Q (.ref s.heap.objs.size) {s with heap:=g,toks:=tk}) :
  wpAny (model prog w) A (call (.type "dict") [.ref l]) Q E s:=by
 refine callType_codes (Q₁:=λobj s₁=>obj=.ref s.heap.objs.size∧s₁={s with heap:=s.heap.push {cls:=.type "dict",data:=.dict #[]}}) PySem.F.kt_called_dict (PySem.F.kt_typeCall_dict_1 _) PySem.F.entry_dict_init (kt_code_dict_new _ ⟨rfl,rfl⟩) ?_
 rintro obj s₁ ⟨rfl,rfl⟩
 have bj:(s.heap.push {cls:=.type "dict",data:=.dict #[]}).DictOf knd s.heap.objs.size []:=Heap.DictOf.new s.heap
 refine⟨bj.typeIs,PySem.F.args_dict_init_2 _ _,?_⟩
 unfold Builtin.«dict.__init__»
 refine wpAny_bind ?_
 unfold Builtin.Dict.selfAndRest
 refine wpAny_bind (wpAny_notOrdered_dict bj.typeIs (show wpAny _ _ (pure (s.heap.objs.size,[Value.ref l])) _ _ _ from wpAny_pure ?_))
 show wpAny _ _ (Builtin.Dict.updateFrom "dict.__init__" s.heap.objs.size (.ref l) [] .none) _ _ _
 unfold Builtin.Dict.updateFrom
 have cC:(s.heap.push {cls:=.type "dict",data:=.dict #[]}).get? l=some {cls:=.type "list",data:=.seq (rows.map λr=>Value.ref r.a).toArray xk}:=Qj _ hl
 refine wpAny_bind (wpAny_typeOf (T := "list") ⟨_,cC,rfl⟩ ?_)
 rw[if_pos (by decide)]
 refine wpAny_bind (no_keys cC (by first | exact hh | (show A.handled=none;exact hh)) λg tk kg=>?_)
 simp only[Option.isNone_none,if_true]
 refine wpAny_bind (wpAny_rule ?_)
 have ltl:l<s.heap.objs.size:=Qt hl
 have dg:g.DictOf knd s.heap.objs.size []:=by
  obtain⟨o,es,ep,q,z⟩:=bj
  exact⟨o,es,ep,kg _ _ q,z⟩
 have hlg:g.IsList l (rows.map λr=>Value.ref r.a).toArray:=⟨_,kg _ _ cC,rfl,xk,rfl⟩
 have ltd:s.heap.objs.size<g.objs.size:=by
  obtain⟨o,es,ep,q,z⟩:=dg
  exact Qt q
 have lts:∀b o,s.heap.get? b=some o→b≠s.heap.objs.size∧b≠g.objs.size:=λb o e=>⟨Zc (Qt e),Zc (Wp (Qt e) ltd)⟩
 refine wpAny_bind (wpAny_pyIter_list (s:={s with heap:=g,toks:=tk}) hlg (wpAny_pure ⟨plainId_quiet zdq _,?_⟩))
 refine loop (knd:=knd) (I:=g.objs.size) (l:=l) (by first | exact hh | (show A.handled=none;exact hh)) rows s.heap.objs.size (Zc ltd) (Yc ltl) (Zc (Wp ltl ltd)) (λr hr=>lts r.a r.o (hR r hr).1) nd hz _ 0 _ rfl (Zg _) ⟨_,Zf _ rfl,rfl,rfl⟩ ?_ (λr hr=>?_) ?_ λg2 tk2 k2 hd=>?_
 ·obtain ⟨o,q,z⟩:=hlg
  exact⟨o,Qj _ q,z⟩
 ·obtain ⟨q1,q2⟩:=hR r hr
  exact⟨Qj _ (kg _ _ (Qj _ q1)),q2⟩
 ·exact dg.push _
 ·exact⟨rfl,h g2 tk2 hd λb o e=>k2 b o (lts b o e).1 (lts b o e).2 (Qj _ (kg _ _ (Qj _ e)))⟩
end
end DictR
end
section
namespace L2
open PySem PySem.Spec PyProof.Rows
section
variable{X:Cx}
abbrev RowsAt(H:Hp):List Addr→List (Str×V)→Prop:=Paired λa p=>H a=some (.tup [.str p.1,p.2])
theorem rows_of(I:Inv X a7 σ H s):∀{as:Nl} {ps:List (Str×V)},RowsAt H as ps →
  ∃rows:List (DictR.Row Key),rows.map (·.a)=as∧(∀r∈rows,DictR.RowAt (zam X.prog X.w) s.heap r)∧rows.map (·.k)=ps.map (λp=>Sum.inr p.1)∧KV (ps.map λp=>((Sum.inr p.1:Key),p.2)) (rows.map λr=>(r.k,r.val))
 |_,_,.nil=>⟨[],rfl,λr hr=>(by cases hr),rfl,.nil⟩
 | a::as,p::ps,.cons h t=>by
  obtain⟨rows,e1,e2,e3,e4⟩:=rows_of I t
  obtain⟨_,a8,r,o,q,c,n,d⟩:=I.hok a _ h
  obtain⟨u,w',rfl,⟨tk,rfl⟩,rz⟩:=vals2 r
  refine⟨⟨a,o,Sum.inr p.1,.str p.1 tk,w',n⟩::rows,by rw[Ql,e1],λx hx=>?_,by rw[Ql,Ql,e3],.cons ⟨rfl,rz⟩ e4⟩
  rcases Qe.mp hx with z | z
  ·subst z
   exact⟨q,c,d,zgh _ _ _ _⟩
  ·exact e2 x z
def zhc(hc:X.calm=true):zci X (.type "dict") (fun xs H Q=>Ex3 fun (p:Nb) (as:Nl) (ps:List (Str×V))=>Aj5 (xs=[.ref p]) (H p=some (.lst (as.map V.ref))) (RowsAt H as ps) ((ps.map (·.1)).Nodup) (∀ l,H l=none→Q (.ref l) (upd H l (.dK (ps.map fun p=>((Sum.inr p.1:Key),p.2)))))):=by
 intro a7 s σ H xs us Q I r h
 obtain⟨p,as,ps,rfl,hp,hr,nd,q⟩:=h
 obtain⟨u,rfl,rx⟩:=vals1 r
 cases rx
 obtain⟨hz,a8,n,rv,hl,e⟩:=I.lstM hp
 obtain⟨rows,e1,e2,e3,e4⟩:=rows_of I hr
 have eits:a8=rows.map λr=>Value.ref r.a:=by
  have eJ:=e1
  clear hz hl e hp e4 e3 e2 hr e1 q
  induction rows generalizing as a8 with
  |nil=>subst eJ;cases rv;rfl
  | cons r rs ih =>
   cases as with
   |nil=>cases eJ
   | cons a as =>
    rw[Ql]at eJ rv
    injection eJ with h1 h2
    cases rv with
    |cons r1 r2 =>
     cases r1
     rw[Ql,h1,ih _ _ r2 h2]
 subst eits
 have af:rows.length≤sizeLine:=by rw[Qa]at hz hl;rw[Qa]at hl;exact zdu ‹_› ‹_›
 have ndk:(rows.map (·.k)).Nodup:=by
  rw[e3,show(λp:Str×V=>(Sum.inr p.1:Key))=(Sum.inr:Str→Key)∘(λp:Str×V=>p.1) from rfl,←Ze]
  exact List.Pairwise.map _ (λa b z q=>z (Wi q)) nd
 refine DictR.call (knd:=zam X.prog X.w) (rows:=rows) (xk:=n) (I.ok.hd hc) e e2 ndk af λg tk hd k=>?_
 have nS:(s.heap.objs.size==sysModules)=false:=beq_eq_false_iff_ne.mpr (Yc I.big)
 refine⟨.ref _,_,I.laid (t':=tk) k (Qh _) (show zbs X.prog X.w _ g _ (.dK _) from⟨?_,nS,_,e4,hd⟩),rfl,q _ (I.hok.fresh (Qh _))⟩
 have:=Yp e4
 rw[Qa,Qa]at this
 rw[Qa];omega
end
def ziw{prog:Ni}{w:Nk}{A:Nn}{s:Nh}{kx vx target iter:Expr}{ifs:Np}{scope:Scope}{pos:Pos}{it:Value}{D:Nb}{env:Env}{R:Nt}(I:Nat→Shared→Prop)(turn:∀ n s,I n s→wpAny (model prog w) A (pyNext it) (fun r s₁=>match r with
   |none=>R (.ok .next) s₁
   | some v=>wpAny (model prog w) A (letOwnedTupleGo target it v) (fun _ s₁'=>wpAny (model prog w) A (assign target env v) (fun _ s₂ =>
     wpAny (model prog w) A (forIn ifs true λc r=>if r=true then do let ok ←isTrue c env (eval c env);pure (ForInStep.yield ok) else pure (ForInStep.yield r)) (λok s₃ =>
      if ok=true then wpAny (model prog w) A (eval kx env) (λkv s₄=>wpAny (model prog w) A (eval vx env) (λvv s₅ =>
       wpAny (model prog w) A (dictSet D kv vv) (λ_ s₆=>∃m,m<n∧I m s₆) (λ_ _=>False) s₅) (λ_ _=>False) s₄) (λ_ _=>False) s₃
      else ∃m,m<n∧I m s₃) (λ_ _=>False) s₂) (λ_ _=>False) s₁') (λ_ _=>False) s₁) (λ_ _=>False) s)(n:Nat)(h:I n s):codeAny (model prog w) A (.compLoop (.DictComp kx vx [⟨target,iter,ifs,0⟩] scope pos) 0 it (.ref D) env) R s:=by
 refine codeAny_loop rfl I (λn s hI=>?_) n h
 show wpAny _ A ((compTurn (.DictComp kx vx [⟨target,iter,ifs,0⟩] scope pos) 0 it (.ref D) env).onRaise (λx=>do noteFrame x env;theTreesLotGoes x)) _ _ s
 refine wpAny_noted ?_
 rw[compTurn_dict]
 refine wpAny_bind (wpAny_standAt (wpAny_bind (wpAny_mono (turn n s hI) (λr s₁ h₁=>?_) λ_ _ h'=>h'.elim)))
 cases r with
 |none=>exact wpAny_pure h₁
 | some v =>
  refine wpAny_bind (wpAny_mono h₁ (λ_ s₁' h₁'=>?_) λ_ _ h'=>h'.elim)
  refine wpAny_bind (wpAny_mono h₁' (λ_ s₂ h₂=>wpAny_bind (wpAny_mono h₂ (λok s₃ h₃=>?_) λ_ _ h'=>h'.elim)) λ_ _ h'=>h'.elim)
  cases ok with
  |false=>exact wpAny_pure ⟨rfl,h₃⟩
  |true =>
   exact wpAny_bind (wpAny_bind (wpAny_mono h₃ (λkv s₄ h₄=>wpAny_bind (wpAny_holding (wpAny_mono h₄ (λvv s₅ h₅=>wpAny_bind (wpAny_standAt (wpAny_holding (wpAny_mono h₅ (λ_ s₆ h₆=>wpAny_pure ⟨rfl,h₆⟩) λ_ _ h'=>h'.elim)))) λ_ _ h'=>h'.elim))) λ_ _ h'=>h'.elim))
section
variable{X:Cx}{sc:Scope}{M:Ng}{ix:Nq}{a7:Nf}{σ:St}{H:Hp}{s:Nh}
def rDC(g:TG)(tc:TT)(tk tv:TE)(Q:VK)(J:It)(τ:St)(H1:Hp):Prop:=∃W:Nat→Nat→List (Key×V)→St→Hp→Prop,(∃m,W 0 m [] τ H1)∧∀i m ys τ H,W i m ys τ H →
 (J.stop i H∧∀D,H D=none→Q (.ref D) (upd H D (.dK ys))) ∨
 (J.go i H∧ys.length<sizeLine∧∀x H',J.yld i H x H'→g x τ H' λ τ2 H2=>tc τ2 H2 λb H3=>if b=true then tk τ2 H3 λkv H4=>tv τ2 H4 λy H5=>∃k,kv=kV k∧∃m',m'<m∧W (i+1) m' (putK ys k y) τ2 H5 else ∃m',m'<m∧W (i+1) m' ys τ2 H3)
def tDC(ix:Nq)(wi:TI)(g:TG)(tc:TT)(tk tv:TE):TE:=λ σ H Q=>wi σ H λJ H1=>rDC g tc tk tv Q J (inner ix σ) H1
def dc_block{tg kx vx iter:Expr}{ifs:Np}{pos:Pos}{g:TG}{tc:TT}{tk tv:TE}{fp:Nl}{it:Nb}{tn:Nat→Heap→Prop}{J:It}{Q:VK}{RR:Value→Addr→Result→Shared→Prop}{E:Nc}(B:Blk X sc M ix)(hc:X.calm=true)(hg:∀C ex s H,PG (zc5 X sc M C a7 ex s H) tg g)(ht:∀C ex s H,PTs (zc5 X sc M C a7 ex s H) ifs tc)(hk:∀C ex s H,PE (zc5 X sc M C a7 ex s H) kx tk)(he:∀C ex s H,PE (zc5 X sc M C a7 ex s H) vx tv)(I:Inv X a7 σ H s)(T:Turn X.prog X.w X.K tg J fp it tn)(h0:tn 0 s.heap)(hf:∀b∈fp,FpOk X a7 H b)(q:rDC g tc tk tv Q J (inner ix σ) H)(pP:∀D C m ys H' s',Inv X a7 σ (upd H' D (.dK ys)) s'→Q (.ref D) (upd H' D (.dK ys))→s'.heap.Ns C m→upd H' D (.dK ys) C=none→s.heap.objs.size<C→RR (.ref D) C (.ok .next) s') :
  wpAny (model X.prog X.w) X.A newDict (λaj s₃=>wpAny (model X.prog X.w) X.A (newFunctionEnv sc X.env.globals (clOf sc X.env) [] X.env.qual none .none (some X.env)) (λcenv s₄ =>
   codeAny (model X.prog X.w) X.A (.compStart (.DictComp kx vx [⟨tg,iter,ifs,0⟩] sc pos) 0 (.ref it) aj {cenv with scope:=relabel sc X.env}) (RR aj cenv.locals) s₄) E s₃) E s:=by
 refine wpAny_newObj_type (wpAny_newFunctionEnv B.nocell (by intro y hy;simp at hy) (λh₁ hns₁ hsb₁=>?_) B.kind)
 dsimp only at hns₁ hsb₁ ⊢
 generalize hD:s.heap.objs.size=D at hns₁ hsb₁ ⊢
 generalize jo:s.heap.push {cls:=.type "dict",dict:=none,data:=.dict #[]}=g2 at hns₁ hsb₁ ⊢
 have hC:g2.objs.size=D+1:=by rw[←jo,Wt,hD]
 have k2:∀b o,s.heap.get? b=some o→g2.get? b=some o:=λb o e=>by rw[←jo];exact Qj _ e
 have I3:Inv X a7 σ H {s with heap:=g2}:=I.kept (t':=s.toks) k2
 have HD:H D=none:=I.hok.fresh (by rw[hD];exact Qh _)
 have fD:FpOk X a7 H D:=I.fpOk (by rw[hD];exact Qh _) HD
 have D2:g2.get? D=some {cls:=.type "dict",dict:=none,data:=.dict #[]}:=by rw[←jo,←hD];exact Zf _ rfl
 have nS:(D==sysModules)=false:=beq_eq_false_iff_ne.mpr (by rw[←hD];exact Yc I.big)
 have k1:∀b o,g2.get? b=some o→h₁.get? b=some o:=λb o e=>by
  have hb:b≠g2.objs.size:=Zc (Qt e)
  exact(hsb₁.2 b hb).trans (Qj _ e)
 have DN:h₁.DictOf (zam X.prog X.w) D []:=by
  have q:g2.DictOf (zam X.prog X.w) D []:=by rw[←jo,←hD];exact Heap.DictOf.new s.heap
  obtain⟨o,es,ep,e,r⟩:=q
  exact⟨o,es,ep,k1 _ _ e,r⟩
 have fpx:∀b∈D::fp,FpOk X a7 H b:=λb hb=>by
  rcases Qe.mp hb with e | e
  ·rw[e];exact fD
  ·exact hf b e
 have fplt:∀b∈D::fp,b<g2.objs.size:=λb hb=>by
  rcases Qe.mp hb with e | e
  ·rw[e,hC];exact Ys _
  ·obtain ⟨o,q,_⟩:=T.obj _ _ h0 b e
   exact Qt (k2 b o q)
 have fpD:D∉fp:=λhm=>by
  obtain⟨o,q,_⟩:=T.obj _ _ h0 D hm
  have:=Qt q
  rw[hD]at this
  exact Yu _ this
 generalize aG:zc5 X sc M g2.objs.size a7 (D::fp) {s with heap:=g2} H=Y
 have IY:Inv Y [] (inner ix σ) H {s with heap:=h₁,toks:=s.toks+([]:List (Str×Value)).length}:=by
  rw[←aG]
  exact inv_blk B I3 fpx fplt rfl hns₁ k1 rfl rfl
 have Yg:=aG▸hg g2.objs.size (D::fp) {s with heap:=g2} H
 have Yt:=aG▸ht g2.objs.size (D::fp) {s with heap:=g2} H
 have Yk:=aG▸hk g2.objs.size (D::fp) {s with heap:=g2} H
 have Ye:=aG▸he g2.objs.size (D::fp) {s with heap:=g2} H
 have eP:Y.prog=X.prog:=by rw[←aG];rfl
 have eW:Y.w=X.w:=by rw[←aG];rfl
 have eK:Y.K=X.K:=by rw[←aG];rfl
 have eA:Y.A=X.A:=by rw[←aG];rfl
 have eC:Y.calm=true:=by rw[←aG];exact hc
 have eE:Y.env=compEnvC sc (clOf sc X.env) g2.objs.size X.env:=by rw[←aG];rfl
 have eX:Y.xe=λ_ _=>False:=by rw[←aG];rfl
 have eEx:Y.ex=D::fp:=by rw[←aG];rfl
 have eFs:Y.fs=frs X.stack:=by rw[←aG];rfl
 have ePn:Y.pn=X.pn++a7:=by rw[←aG];rfl
 have eL:Y.env.locals=g2.objs.size:=by rw[eE];rfl
 have vP:Y.H₀=H:=by rw[←aG];rfl
 have qc:Y.s₀={s with heap:=g2}:=by rw[←aG];rfl
 have fY:∀{H':Hp} {pl:Nf} {b:Nb},b∈D::fp→H' b=none→(∀p∈pl,p.1≠b)→FpOk Y pl H' b:=λ{H' pl b} hb hn hp=>by
  obtain⟨f0,f1,f2,f3,f4,f5⟩:=fpx b hb
  refine⟨hn,?_,?_,.inl (by rw[eEx];exact hb),IY.ok.exf b (by rw[eEx];exact hb) |>.2,λp cG=>?_⟩
  ·rw[eL];exact Zc (fplt b hb)
  ·rw [eFs]
   intro z
   rcases Qe.mp (I3.stkSub b z) with q | q
   ·exact f1 q
   ·exact f2 q
  ·rw [ePn] at cG
   rcases Qi.mp cG with z | z
   ·exact f5 p z
   ·exact hp p z
 obtain⟨W,⟨m0,w0⟩,turn⟩:=q
 have loop:∀ sN:Shared,sN={ s with heap:=h₁,toks:=s.toks+([]:List (Str×Value)).length } →
   codeAny (model X.prog X.w) X.A (.compLoop (.DictComp kx vx [⟨tg,iter,ifs,0⟩] sc pos) 0 (.ref it) (.ref D) (compEnvC sc (clOf sc X.env) g2.objs.size X.env)) (RR (.ref D) g2.objs.size) sN:=by
  rintro sN rfl
  refine ziw (λn s'=>Ex5 λi τ H' ys vs=>Aj7 (Inv Y [] τ H' s') (tn i s'.heap) (∀b∈D::fp,H' b=none) (s'.heap.DictOf (zam X.prog X.w) D vs) (KV ys vs) (ys.length≤sizeLine) (W i n ys τ H')) ?_ m0
   ⟨0,inner ix σ,H,[],[],IY,T.keep _ _ _ h0 λb _ o e=>k1 b o (k2 b o e),λb hb=>(fpx b hb).1,DN,.nil,Zg _,w0⟩
  rintro n s5 ⟨i,τ,H5,ys,vs,I5,t5,n5,dd5,v5,z5,w5⟩
  obtain⟨o5,vM,vO,d5,rM⟩:=id dd5
  have nc5:∀v,o5.data≠.cell v:=λv z=>by
   obtain⟨_,q,_⟩:=rM
   rw[q]at z;cases z
  have oD:∀b∈[D],∃o,s5.heap.get? b=some o∧∀v,o.data≠.cell v:=λb hb=>by
   rw[Qb.mp hb]
   exact⟨_,d5,nc5⟩
  have lr:Inv Y ([]++zcr [D] s5.heap) τ H5 s5:=I5.pinned (λb hb=>fY (by rw[Qb.mp hb];exact Qc) (n5 b (by rw[Qb.mp hb];exact Qc)) (by simp)) oD
  have pD:∀p∈zcr [D] s5.heap,p.1=D∧p.2=o5:=λp hp=>by
   obtain⟨e1,e2⟩:=zgf hp
   have eJ:p.1=D:=Qb.mp e1
   rw[eJ,d5]at e2
   exact⟨eJ,(Qk e2).symm⟩
  have fN:∀{H':Hp},(∀b∈fp,H' b=none)→∀b∈fp,FpOk Y ([]++zcr [D] s5.heap) H' b:=λhn b hb=>fY (Qg _ hb) (hn b hb) λp hp z=>by
   rw[Jw]at hp
   rw[(pD p hp).1]at z
   exact fpD (z▸hb)
  rcases turn i n ys τ H5 w5 with⟨stop,qn⟩ | ⟨go,zl,step⟩
  ·have h6:=T.done Y eP eW eK eC i _ s5 τ H5 (fun _ _=>False) lr (fN fun b hb=>n5 b (Qg _ hb)) t5 stop
   rw[eA]at h6
   refine thn h6 λr s6 ⟨hr,I6⟩=>?_
   subst hr
   have d6:s6.heap.get? D=some o5:=by
    have hp:=zb2 (fp:=[D]) (Qb.mpr rfl) d5
    exact(I6.pin (D,_) (Qn _ hp)).1
   have H5D:H5 D=none:=n5 D Qc
   obtain⟨mL,nL,_⟩:=I6.loc
   rw[eL]at nL
   have CD:g2.objs.size≠D:=by rw[hC];exact Kx _
   refine pP D _ mL ys H5 s6 ?_ (qn D H5D) nL ?_ (by rw[hC,hD];exact Ys _)
   ·have u6:=I6.base
    rw[eFs,eEx,vP,qc]at u6
    refine I3.call' (ch:=D::fp) (I6.os.trans (by rw[qc])) ⟨u6.keep,u6.slot,λb o e n hx=>?_,u6.there,λb xs e=>?_,λb o u e=>?_,λb ps e=>?_⟩ ?_ I6.bare λb hb=>?_
    ·rw[zae (λz=>hx (by rw[z];exact Qc))];exact u6.free b o e n hx
    ·rw[zae (zaa e HD)];exact u6.tups b xs e
    ·rw[zae (zaa e HD)];exact u6.frzs b o u e
    ·rw[zae (zaa e HD)];exact u6.tbls b ps e
    ·have mw:=I6.hok
     rw[eP,eW]at mw
     intro b u e
     by_cases hb:b=D
     ·subst hb
      rw[zac]at e
      cases e
      exact⟨z5,nS,vs,v5,o5,vM,vO,d6,rM⟩
     ·rw [zae hb] at e
      exact(mw b u e).stay (λc v _ q=>q) (λc q=>by rw[zae (zaa q H5D)];exact q) λc xs q=>by rw[zae (zaa q H5D)];exact q
    ·obtain ⟨f0,f1,f2,f3,f4,f5⟩:=fpx b hb
     exact⟨f3,f1,f4,f5⟩
   ·rw [zae CD]
    have:=I6.free
    rw[eL]at this
    exact this
  ·have h6:=T.item Y eP eW eK eC i _ s5 τ H5 (fun _ _=>False) lr (fN fun b hb=>n5 b (Qg _ hb)) t5 go
   rw[eA]at h6
   refine thn h6 λr s6 ⟨u,hr,h7⟩=>?_
   subst hr
   refine thn h7 λ_ s7 ⟨x,H7,I7,r7,y7,t7,n7⟩=>?_
   have wB:=I7.pinned (fN n7) (T.obj _ _ t7)
   have h8:=Yg _ s7 τ H7 x u _ wB r7 (step x H7 y7)
   rw[eP,eW,eA,eX,eE]at h8
   refine thn h8 λ_ s8 ⟨τ8,H8,I8,q8⟩=>?_
   have h9:=Yt _ s8 τ8 H8 _ I8 q8
   rw[eP,eW,eA,eX,eE]at h9
   refine thn h9 λok s9 ⟨H9,I9,q9⟩=>?_
   have again:∀{τ':St} {H':Hp} {s':Nh},Inv Y (([]++zcr [D] s5.heap)++zcr fp s7.heap) τ' H' s'→s'.heap.get? D=some o5∧H' D=none∧tn (i+1) s'.heap∧∀b∈fp,H' b=none:=λ{τ' H' s'} I'=>by
    have pp:∀{b:Nb} {o:Obj},b∈fp→s7.heap.get? b=some o→s'.heap.get? b=some o∧H' b=none:=λ{b o} hb e =>
     let z:=I'.pin (b,o) (Qn _ (Qn _ (zb2 hb e)))
     ⟨z.1,z.2.1⟩
    have hp:=zb2 (fp:=[D]) (Qb.mpr rfl) d5
    have z:=I'.pin (D,_) (Qn _ (Qo _ hp))
    refine⟨z.1,z.2.1,T.keep _ _ _ t7 λb hb o e=>(pp hb e).1,λb hb=>?_⟩
    obtain⟨o,e,_⟩:=T.obj _ _ t7 b hb
    exact(pp hb e).2
   have drop:∀{pl:Nf} {τ':St} {H':Hp} {s':Nh},Inv Y pl τ' H' s'→Inv Y [] τ' H' s':=λI'=>I'.pins_of (by simp)
   cases ok with
   |false =>
    rw[if_neg (by decide)]at q9 ⊢
    obtain⟨m',hm,w9⟩:=q9
    obtain⟨d9,H9D,t9,n9⟩:=again I9
    exact⟨m',hm,i+1,τ8,H9,ys,vs,drop I9,t9,λb hb=>(Qe.mp hb).elim (λe=>e▸H9D) (n9 b),⟨o5,vM,vO,d9,rM⟩,v5,z5,w9⟩
   | true =>
    rw[if_pos rfl]at q9 ⊢
    have iQ:=Yk _ s9 τ8 H9 _ I9 q9
    rw[eP,eW,eA,eX,eE]at iQ
    refine thn iQ λkv jz ⟨kw,gH,rV,ql,q10⟩=>?_
    have vI:=Ye _ jz τ8 gH _ rV q10
    rw[eP,eW,eA,eX,eE]at vI
    refine thn vI λy si ⟨yv,hZ,rT,r11,kk,ek,m',hm,w11⟩=>?_
    subst ek
    obtain⟨d11,H11D,t11,n11⟩:=again rT
    have vR:si.heap.DictOf (zam X.prog X.w) D vs:=⟨o5,vM,vO,d11,rM⟩
    have kM:(zam X.prog X.w).is kk kv=true:=by
     cases kk with
     |inl i=>obtain⟨t,rfl⟩:=ql;exact keyIs_int i t
     |inr x=>obtain⟨t,rfl⟩:=ql;exact keyIs_str x t
    refine wpAny_dictSet_pairs (knd:=zam X.prog X.w) kM vR (λh' iJ sb=>?_) (by rw[←Yp v5];assumption)
    have kkp:∀b o,b≠D→si.heap.get? b=some o→h'.get? b=some o:=λb o hb e=>(sb.2 b hb).trans e
    obtain⟨g0,g1,g2',g3,g4,g5⟩:=fY (pl:=[]) (H':=hZ) (b:=D) Qc H11D (by simp)
    have I12:=(drop rT).turned (h':=h') (t':=si.toks+1) (it:=D) kkp H11D g1 g3 g4 g5
    refine⟨m',hm,i+1,τ8,hZ,putK ys kk yv,stored vs kk y,I12,T.keep _ _ _ t11 λb hb o e=>kkp b o (λz=>fpD (z▸hb)) e,λb hb=>(Qe.mp hb).elim (λe=>e▸H11D) (n11 b),iJ,v5.put kk r11,?_,w11⟩
    unfold putK
    split
    ·rw[Qa];exact z5
    ·rw[Qs,Xj];assumption
 exact codeAny_compStart_dict (loop _ rfl) (T.self _ 0 _ _ _ (T.keep _ _ _ h0 λb _ o e=>k1 b o (k2 b o e)) (loop _ rfl))
def ps_dc(hN:X.N.Nodup)(dj:X.N[i]?=some y)(hy:X.env.scope.names.lookup y=some .local)(B:Blk X sc M ix)(hc:X.calm=true)(hi:PI X tg iter wi)(hg:∀C a7 ex s H,PG (zc5 X sc M C a7 ex s H) tg g)(ht:∀C a7 ex s H,PTs (zc5 X sc M C a7 ex s H) ifs tc)(hk:∀C a7 ex s H,PE (zc5 X sc M C a7 ex s H) kx tk)(he:∀C a7 ex s H,PE (zc5 X sc M C a7 ex s H) vx tv)(lK:swapsWith (.DictComp kx vx [⟨tg,iter,ifs,0⟩] sc pos) (some (.Name y py)) spos.line X.env=pure true)(hs:∀x,foldedSetIterable iter X.env x=pure x:=by intro _;rfl):PS X (.Assign [.Name y py] (.DictComp kx vx [⟨tg,iter,ifs,0⟩] sc pos) spos) (tAsg (tDC ix wi g tc tk tv) (gName i)):=by
 intro a7 s σ H D' I h
 rw[exec_Assign_Name_used _ _ _ _ lK]
 refine wpAny_bind (wpAny_standAt (wpAny_bind ?_))
 show wpAny _ X.A (do let _ ←comprehension (.DictComp kx vx [⟨tg,iter,ifs,0⟩] sc pos) sc X.env _ newDict false (eval iter X.env) (some (assign (.Name y py) X.env))) _ _ s
 refine wpAny_bind (wpAny_mono (wpAny_comprehension_free (use:=some (assign (.Name y py) X.env)) (Q:=λ_ s'=>SP X a7 D' .next s') rfl hs (zcp (B.clos I)) B.kind B.names
  (thn (hi a7 s σ H _ I h) λv s1 h1=>thn h1 λitv s2 h2=>?_)) (λ_ s' hq=>wpAny_pure (wpAny_pure hq)) λ_ _ e=>e)
 obtain⟨it,fp,tn,J,H2,e,I2,T,c8,f2,q⟩:=h2
 subst e
 refine dc_block (RR:=λaj C=>compPost (model X.prog X.w) X.A X.xe (some (assign (.Name y py) X.env)) (λ_ s'=>SP X a7 D' .next s') aj C) B hc (hg · a7) (ht · a7) (hk · a7) (he · a7) I2 T c8 f2 q ?_
 intro D C m ys H' s' I' q' hn hC ag
 show wpAny _ X.A (assign (.Name y py) X.env (.ref D)) _ _ s'
 refine wpAny_assign_Name (zf3 I' hN dj (.inl hy) (v:=.ref D) rfl (λmt wC ⟨a,sb,ha⟩=>?_) (.inr hy))
 have aC:C≠a:=by
  rcases ha with z | z
  ·rw[z];exact Yc (Wp I2.lt ag)
  ·exact Yc (Wp (I2.cl_lt _ _ z) ag)
 have bm:=hn.sameBut sb aC
 exact⟨m,bm,λh' ai=>⟨_,_,wC.letgo bm hC I2.lt I2.cl_lt I2.pin_lt I2.sz ag ai,q'⟩⟩
end
section
variable{prog:Ni}{w:Nk}{A:Nn}{s:Nh}{elt tg1 it1 target iter:Expr}{ifs:Np}{scope:Scope}{pos:Pos}{it aj:Value}{env:Env}{R:Nt}
end
section
variable{X:Cx}{sc:Scope}{M:Ng}{ix:Nq}{a7:Nf}{σ:St}{H:Hp}{s:Nh}
end
end L2
end
section
namespace RawD
open PySem PyProof.Rows PySem.W
def At(h:Nm)(a:Nb)(es:Array DictEntry)(ep:Nat):Prop:=∃o,h.get? a=some o∧o.ExactDict∧o.data=.dict es ep
def At.typeIs{s:Nh}{a:Nb}{es:Array DictEntry}{ep:Nat}(x:At s.heap a es ep):s.TypeIs (.ref a) "dict" := let⟨o,e,c,_⟩:=x;⟨o,e,c.1⟩
def At.keep{h g:Nm}{a:Nb}{es:Array DictEntry}{ep:Nat}(x:At h a es ep)(k:∀o,h.get? a=some o→g.get? a=some o):At g a es ep:=let⟨o,e,r⟩:=x;⟨o,k _ e,r⟩
section
variable{prog:Ni}{w:Nk}{A:Nn}{E:Nc}{s:Nh}{d:Nb}{es:Array DictEntry}{ep:Nat}
def iter{Q:Nc}(nS:(d==sysModules)=false)(m:At s.heap d es ep)(q:Q (.ref s.heap.objs.size) {s with heap:=s.heap.push {cls:=.type "dict_keyiterator",data:=.fields #[.ref d,.int 0 0,.int es.size 0,.int ep 0]}}):wpAny (model prog w) A (pyIter (.ref d)) Q E s:=by
 obtain⟨o,ho,hc,hd⟩:=id m
 refine wpAny_pyIter_slot m.typeIs F.slot_dict_iter (wpAny_call_entry F.slot_dict_iter m.typeIs F.entry_dict_iter ?_ (F.args_dict_iter_1 _))
 unfold Builtin.«dict.__iter__»
 refine wpAny_bind ?_
 unfold Builtin.Dict.dictSlotNone
 refine wpAny_bind (wpAny_notOrdered_dict m.typeIs (show wpAny _ _ (pure (Value.ref d)) _ _ s from wpAny_pure ?_))
 show wpAny _ _ (Builtin.Dict.showsAll d >>= _) _ _ s
 unfold Builtin.Dict.showsAll
 rw[if_neg (by rw[nS];exact Zh)]
 refine wpAny_bind (wpAny_pure (wpAny_bind (wpAny_dictEntries ho hd (wpAny_bind (wpAny_dictEpoch ho hd ?_)))))
 refine wpAny_bind (wpAny_newObj_type (wpAny_pure ⟨_,rfl, "dict_keyiterator",_,⟨_,Zf _ rfl,rfl⟩,Wy.lookup,?_⟩))
 simpa[rawInt] using q
def item{j:Nb}{i:Nat}{Q:Option Value→Shared→Prop}(st:s.heap.IsKeyIter j d i es.size ep)(m:At s.heap d es ep)(hi:i<es.size)(hQ:∀g,g.IsKeyIter j d (i+1) es.size ep→Heap.SameBut j s.heap g→Q (some es[i].key) {s with heap:=g}):wpAny (model prog w) A (pyNext (.ref j)) Q E s:=by
 obtain⟨o,ho,hc,hd⟩:=id st
 obtain⟨od,ot,aB,gU⟩:=id m
 unfold pyNext
 refine wpAny_bind (wpAny_attempt (wpAny_callSpecial?_slot (name:=Str.ofString "__next__") st.typeIs Wy (wpAny_call_entry Wy st.typeIs F.entry_dict_keyiterator_next ?_ (F.args_dict_keyiterator_next_1 _))))
 refine wpAny_bind (wpAny_pure (wpAny_bind (wpAny_bind ?_)))
 first | refine wpAny_bind (wpAny_typeNameOfWhole_keyiter st.typeIs (wpAny_pure ?_)) | refine wpAny_bind (wpAny_typeNameOf_keyiter st.typeIs (wpAny_pure ?_))
 refine wpAny_bind (wpAny_fieldsOf ho hd ?_)
 have kG:Builtin.Dict_items.ownsTuple "dict_keyiterator" = false:=by decide
 simp only[kG,Jh,if_false]
 show wpAny _ _ (if(Value.ref d==.none)=true then _ else _) _ _ s
 rw[if_neg (show ¬((Value.ref d==.none)=true) from Zh)]
 refine wpAny_bind (wpAny_pure (wpAny_bind (wpAny_dictEntries ot gU ?_)))
 rw[if_neg (by simp)]
 refine wpAny_bind (wpAny_pure (wpAny_bind (wpAny_dictEpoch ot gU ?_)))
 rw[if_neg (by simp)]
 refine wpAny_pure ?_
 simp only[show ¬((i:Int)<0) from by lia,if_false,Ur,Kk hi]
 refine wpAny_bind ?_
 first | refine wpAny_bind (wpAny_typeNameOfWhole_keyiter st.typeIs (wpAny_pure ?_)) | refine wpAny_bind (wpAny_typeNameOf_keyiter st.typeIs (wpAny_pure ?_))
 refine wpAny_bind (wpAny_isOneOf_keyiter st.typeIs ?_)
 show wpAny _ _ (setField (.ref j) 1 (rawInt ((i:Int)+1)) >>= _) _ _ s
 refine wpAny_bind (wpAny_setField ho hd (by simp) ?_)
 have ae:(s.heap.update j (Obj.mapFields (·.setIfInBounds 1 (rawInt ((i:Int)+1))))).IsKeyIter j d (i+1) es.size ep :=
  ⟨_,Kc _ ho (Obj.isFreed_of_fields (Kw hd _)),(Obj.cls_mapFields ..).trans hc,by rw[Kw hd];simp[rawInt]⟩
 refine wpAny_bind (wpAny_holding (wpAny_bind (wpAny_isOneOf_keyiter (s:={s with heap:=s.heap.update j (Obj.mapFields (·.setIfInBounds 1 (rawInt ((i:Int)+1))))}) ae.typeIs ?_)))
 show wpAny _ _ (pure es[i].key) _ _ _
 exact wpAny_pure (wpAny_pure ⟨_,rfl,wpAny_pure (hQ _ ae (Ko ..))⟩)
def done{j:Nb}{i:Nat}{Q:Option Value→Shared→Prop}(hh:A.handled=none)(st:s.heap.IsKeyIter j d i es.size ep)(m:At s.heap d es ep)(hi:es.size≤i)(hQ:∀g,Heap.ExtBut j s.heap g→Q none {s with heap:=g}):wpAny (model prog w) A (pyNext (.ref j)) Q E s:=by
 obtain⟨o,ho,hc,hd⟩:=id st
 obtain⟨od,ot,aB,gU⟩:=id m
 unfold pyNext
 refine wpAny_bind (wpAny_attempt (wpAny_callSpecial?_slot (name:=Str.ofString "__next__") st.typeIs Wy (wpAny_call_entry Wy st.typeIs F.entry_dict_keyiterator_next ?_ (F.args_dict_keyiterator_next_1 _))))
 refine wpAny_bind (wpAny_pure (wpAny_bind (wpAny_bind ?_)))
 first | refine wpAny_bind (wpAny_typeNameOfWhole_keyiter st.typeIs (wpAny_pure ?_)) | refine wpAny_bind (wpAny_typeNameOf_keyiter st.typeIs (wpAny_pure ?_))
 refine wpAny_bind (wpAny_fieldsOf ho hd ?_)
 have kG:Builtin.Dict_items.ownsTuple "dict_keyiterator" = false:=by decide
 simp only[kG,Jh,if_false]
 show wpAny _ _ (if(Value.ref d==.none)=true then _ else _) _ _ s
 rw[if_neg (show ¬((Value.ref d==.none)=true) from Zh)]
 refine wpAny_bind (wpAny_pure (wpAny_bind (wpAny_dictEntries ot gU ?_)))
 rw[if_neg (by simp)]
 refine wpAny_bind (wpAny_pure (wpAny_bind (wpAny_dictEpoch ot gU ?_)))
 rw[if_neg (by simp)]
 refine wpAny_pure ?_
 simp only[show ¬((i:Int)<0) from by lia,if_false,Ur,Array.getElem?_eq_none hi]
 refine wpAny_bind ?_
 first | refine wpAny_bind (wpAny_typeNameOfWhole_keyiter st.typeIs (wpAny_pure ?_)) | refine wpAny_bind (wpAny_typeNameOf_keyiter st.typeIs (wpAny_pure ?_))
 show wpAny _ _ (setField (.ref j) 0 .none >>= _) _ _ s
 refine wpAny_bind (wpAny_setField ho hd (by simp) ?_)
 show wpAny _ _ (newExc (.type "StopIteration") [] >>= _) _ _ _
 refine wpAny_bind ?_
 simp only[newExc,newTuple]
 refine wpAny_bind (wpAny_newObj_type (wpAny_bind (m:=firstArgMember _ _) (wpAny_of_eq (a:=Value.none) (by first | rfl | (simp only[firstArgMember];rfl)) (wpAny_newObj_type ?_ (by size_fits)))) (by size_fits))
 simp only[raiseNew]
 refine wpAny_bind (wpAny_handled ?_)
 first | rw[show A.in1.handled=none from hh] | rw[hh]
 refine wpAny_bind (wpAny_pure (wpAny_throw ?_))
 refine wpAny_bind (wpAny_isInstance (T := "StopIteration") (b:=true) ⟨_,Zf _ rfl,rfl⟩ isSubtype_stop ?_)
 exact wpAny_pure (hQ _ (((Ko ..).extBut.push _).push _))
theorem src(nS:(d==sysModules)=false):KdlSrc prog w "dict" d d es.size (λi v=>∃e,es[i]?=some e∧v=e.key) (λh=>At h d es ep) where
 type:=λ_ m=>m.typeIs
 there:=λ_ m=>let⟨_,e,_⟩:=m;⟨Qt e,Qt e⟩
 keep:=λ_ _ m k=>m.keep λo e=>k d (.inl rfl) o e
 notList:=by decide
 notTuple:=by decide
 hint:=λ_ _ _ _ m q=>kdl_hint_dict m.typeIs q
 iter:=λA s hh m=>by
  have lt:d<s.heap.objs.size:=let⟨_,e,_⟩:=m;Qt e
  refine⟨_,λi h=>h.IsKeyIter s.heap.objs.size d i es.size ep∧At h d es ep,λ_ _ q=>iter nS m q,?_,⟨_,Zf _ rfl,rfl,rfl⟩,m.keep λo e=>Qj _ e⟩
  exact
   {sub:=fun b hb=>by simp at hb;simp [hb]
    frame:=λi h g st k=>⟨st.1.at λo e=>k _ (by simp) o e,st.2.keep λo e=>k d (by simp) o e⟩
    item:=λi s' Q E hi st hQ=>item st.1 st.2 hi λg a b=>hQ _ g s'.toks ⟨_,Kk hi,rfl⟩ ⟨a,st.2.keep λo e=>(b.2 d (Zc lt)).trans e⟩ λc o hc e=>(b.2 c (λz=>hc (by simp[z]))).trans e
    done:=λs' Q E st hQ=>done hh st.1 st.2 (Qh _) λg a=>hQ g s'.toks λc o hc e=>a c o (λz=>hc (by simp[z])) e
    self:=λ_ _ _ _ st q=>wpAny_pyIter_keyiter st.1 q}
end
end RawD
namespace L2
open PySem PySem.Spec PyProof.Rows Tm
def kP(q:Str×Str):List Key:=[Sum.inr q.1,Sum.inr q.2]
abbrev zbr(H:Hp):List Addr→List (Str×Str)→Prop:=Paired λb r=>H b=some (.tup [.str r.1,.str r.2])
section
variable{X:Cx}
def zd9{α β:Type}{R:α→β→Prop}{as dm:List α}(p:dm.Perm as):∀{bs:List β},Paired R as bs→∃mi,mi.Perm bs∧Paired R dm mi:=by
 induction p with
 |nil=>intro bs r;cases r;exact⟨[],.nil,.nil⟩
 | cons x q ih =>
  intro bs r
  cases r with
  |cons r1 r2 =>
   obtain⟨zs,h1,h2⟩:=ih r2
   exact⟨_::zs,h1.cons _,.cons r1 h2⟩
 | swap x y l =>
  intro bs r
  cases r with
  |cons r1 r2 =>
   cases r2 with
   |cons r3 r4=>exact⟨_,List.Perm.swap ..,.cons r3 (.cons r1 r4)⟩
 |trans _ _ ih1 ih2 =>
  intro bs r
  obtain⟨zs,h1,h2⟩:=ih2 r
  obtain⟨jw,h3,h4⟩:=ih1 h2
  exact⟨jw,h3.trans h1,h4⟩
def pairs_mem{H:Hp}{as:Nl}{qs:Nr}(r:zbr H as qs){a:Nb}(ha:a∈as):∃r:Str×Str,H a=some (.tup [.str r.1,.str r.2]):=by
 induction r with
 |nil=>cases ha
 |cons h t ih =>
  rcases Qe.mp ha with zz | zz
  ·subst zz;exact⟨_,h⟩
  ·exact ih zz
def zhb(hc:X.calm=true):zci X (.builtin "sorted") (fun xs H Q=>Ex3 fun (d:Nb) (kvs:List (List Key×V)) (qs:Nr)=>Aj4 (xs=[.ref d]) (H d=some (.dT kvs)) (kvs.map (·.1)=qs.map kP) (∀ (l:Nb) (as:Nl) (ws:Nr),H l=none→ws.Perm qs→zbr H as ws→Q (.ref l) (upd H l (.lst (as.map V.ref))))):=by
 intro a7 s σ H xs us Q I r h
 obtain⟨d,kvs,qs,rfl,hq,ek,q⟩:=h
 obtain⟨u,rfl,rx⟩:=vals1 r
 cases rx
 obtain⟨z,lo,ts,rk,o,es,ep,e1,e2,e3,e4,e5⟩:=(show zbs X.prog X.w H s.heap d (.dT kvs) from I.hok d _ hq)
 have lm:RawD.At s.heap d es ep:=⟨o,e1,e2,e3⟩
 have af:kvs.length=ts.length:=Yp rk
 have aS:es.size=ts.length:=by rw[←Yv,e4,Qa]
 have jd:zbr H (ts.map λt=>t.2.1) qs:=by
  clear e4 e5 aS af lm z q hq
  induction rk generalizing qs with
  |nil =>
   cases qs with
   |nil=>exact .nil
   |cons a b=>cases ek
  | @cons p t ps ts' h1 t1 ih =>
   cases qs with
   |nil=>cases ek
   |cons a b =>
    rw[Ql,Ql]at ek
    injection ek with k1 k2
    refine .cons ?_ (ih _ k2)
    have:=h1.2.1
    rw[k1]at this
    exact this
 have nj:∀aj:Array Value,ItemsOf (λi v=>∃e,es[i]?=some e∧v=e.key) aj es.size→aj.toList=(ts.map λt=>t.2.1).map Value.ref:=λaj hi=>by
  apply List.ext_getElem?
  intro i
  rw[Qq,Qq]
  by_cases ag:i<es.size
  ·have uo:i < aj.size:=by rw [hi.1];exact ag
   have a1:aj[i]?=some aj[i]:=Kk uo
   obtain⟨e,h1,h2⟩:=hi.2 i _ a1
   rw[Wk,a1,h2]
   have h3:es.toList[i]?=some e:=by rw[Wk];exact h1
   rw[e4,Qq]at h3
   cases ht:ts[i]? with
   |none=>rw[ht]at h3;cases h3
   |some t =>
    rw[ht]at h3
    have h4:entryOfKey (tupleKind (zam X.prog X.w)) t=e:=Qk h3
    rw[←h4];rfl
  ·have a1:aj.toList[i]?=none:=by rw [Wk];exact Array.getElem?_eq_none (by rw [hi.1];lia)
   have a2:ts[i]?=none:=Xk (by lia)
   rw[a1,a2];rfl
 have hvr:∀as:List Addr,Vals (as.map V.ref) (as.map Value.ref):=λas=>by
  induction as with
  |nil=>exact .nil
  |cons a r ih=>exact .cons rfl ih
 refine zez (R:=λa8 ws=>a8.length<64→ws.Pairwise λx y=>(pairO strO strO).kle (kvP s.heap x) (kvP s.heap y)) (G:=λa8=>a8=(ts.map λt=>t.2.1).map Value.ref) (λE' R hR=>zgw (RawD.src lo) (show X.A.in1.handled=none from I.ok.hd hc) lm (by lia) λg tk aj k le hi=>hR g tk _ k le (nj aj hi))
  (λa8 e=>by rw[e,Qa,Qa];exact zdu ‹_› ‹_›) (λa8 e A' E' s' _ k=>?_) λa8 ws l g tk e r p1 p2 le k he=>?_
 ·have all:∀ v∈a8,∃ x y t,zfl s.heap v x (.str y t):=fun v hv=>by
   rw[e]at hv
   obtain⟨a,ha,rfl⟩:=Qf.mp hv
   obtain⟨rr,o6⟩:∃r:Str×Str,H a=some (.tup [.str r.1,.str r.2]):=pairs_mem jd ha
   obtain⟨q',⟨t,rfl⟩,T⟩:=zhx I o6
   exact⟨_,_,t,T⟩
  refine zeh k (λv hv=>let⟨x,y,t,T⟩:=all v hv;⟨x,_,T⟩) λv hv u hu x p q T T'=>.inr ?_
  obtain⟨_,y,t,T1⟩:=all v hv
  obtain⟨_,y',t',T2⟩:=all u hu
  exact⟨y,t,y',t',(zfn T T1).2,(zfn T' T2).2⟩
 ·subst r
  obtain⟨as,rfl,p3⟩:∃as:List Addr,ws=as.map Value.ref∧as.Perm (ts.map λt=>t.2.1):=by
   have key:∀{ws:Nj} {bs:Nl},ws.Perm (bs.map Value.ref)→∃as:List Addr,ws=as.map Value.ref∧as.Perm bs:=λ{ws bs} pm=>by
    have a2:∃as:List Addr,ws=as.map Value.ref:=by
     have a1:∀v∈ws,∃a,v=Value.ref a:=λv hv=>by
      obtain⟨a,_,e⟩:=Qf.mp (pm.mem_iff.mp hv)
      exact⟨a,e.symm⟩
     clear pm
     induction ws with
     |nil=>exact⟨[],rfl⟩
     |cons v r ih =>
      obtain⟨as,e⟩:=ih λv hv=>a1 v (Qg _ hv)
      obtain⟨x,e2⟩:=a1 v Qc
      exact⟨x::as,by rw[e,e2];rfl⟩
    obtain⟨as,rfl⟩:=a2
    refine⟨as,rfl,?_⟩
    have:=pm.map (λv=>match v with | .ref a=>a | _=>0)
    rw[Ze,Ze]at this
    simpa[Function.comp_def] using this
   exact key p1
  obtain⟨qs',q1,q2⟩:=zd9 p3 jd
  refine⟨.ref l,_,I.laid (t':=tk) k le (show zbs X.prog X.w _ g _ (.lst _) from⟨?_,as.map Value.ref,e,hvr as,he⟩),rfl,q l as qs' (I.hok.fresh le) q1 q2⟩
  rw[Qa,p3.length_eq,Qa];exact zdu ‹_› ‹_›
end
end L2
end
section
set_option Elab.async false
set_option linter.all false
namespace L2
open PySem PySem.Spec PyProof.Rows
def fsk{N P:Ng}{sc:Scope}(a:sc.kind=.function:=by rfl)(b:sc.isCoroutine=false:=by rfl)(c:sc.isGenerator=false:=by rfl)(d:N.Nodup:=by decide +kernel)(e:N.take P.length=P:=by rfl)(f:∀x∈P,sc.names.lookup x=some .local∨sc.names.lookup x=some .cell:=by decide +kernel)(g:∀y∈sc.names,y.2≠.free:=by decide +kernel):zap N P sc:=⟨a,b,c,d,e,f,g⟩
section
variable{X:Cx}
def zau(i:Nat){x:Str}{e:Expr}{te:TE}{pos aU:Pos}(hN:X.N.Nodup)(he:PE X e te)(hi:X.N[i]?=some x:=by rfl)(hx:Loc X.env.scope x:=by exact Or.inl rfl)(hs:swapsWith e (some (.Name x aU)) pos.line X.env=pure false:=by rfl)(hf:X.fn x=true∨X.env.scope.names.lookup x=some .local:=by first | exact .inl rfl | exact .inr rfl | assumption) :
  PS X (.Assign [.Name x aU] e pos) (tAsg te (gName i)):=zen hN hi hx he hs hf
def za9(i:Nat){x:Str}{pos:Pos}(hN:X.N.Nodup)(hi:X.N[i]?=some x:=by rfl)(hx:Loc X.env.scope x:=by exact Or.inl rfl)(hf:X.fn x=true∨X.env.scope.names.lookup x=some .local:=by first | exact .inl rfl | exact .inr rfl | assumption):PG X (.Name x pos) (gName i):=pg_name hN hi hx hf
def zbo{o i:Expr}{td ty:TE}{pos:Pos}(hu:X.A.units+1<cLine)(ho:PE X o td)(hi:PE X i ty)(hs:NoSl i:=by exact λ_ _=>rfl):PE X (.Subscript o i pos) (tDGet td ty):=pe_dget hu ho hi hs
end
end L2
namespace L2
open PySem PySem.Spec PyProof.Rows
def Fun.okL{P:Ni}{w:Nk}{K:Na}{mg:Nd}{base:Nm}{x qual:Str}{st:Stmt}{f:Nb}{fd:No}{N ps:Ng}{k:Nat}{sp:Sp}(F:Fun K x qual st f fd)(S:zap N ps (zag st))(cS:∀ (cdv:Value) (A:Nn) (outer:List Env) (s:Nh) (H:Hp) (vs:List V) (Q:VK) (E:XK),Room k (A.deeper (envOfC qual (zag st) s.heap.objs.size f cdv))→sp vs H Q E →
   ∃t,PSs (cxOf CX0 P w K mg base N qual (zag st) f cdv A outer s H E).nox (zb7 st) t∧t {nx:=λ_ H'=>Q .non H',rt:=Q} (start N vs) H)(len:∀vs H Q E,sp vs H Q E→vs.length=ps.length:=by intro _ _ _ _ h;cases h;subst_vars;rfl):FnOk P w K mg base CX0 (k+1) f fd ps sp:=F.ok S len cS
end L2
end
section
namespace K21
open PySem L2
abbrev qR:Str := "_law_rounds_here"
abbrev qP:Str := "_law_pot_here"
abbrev qM:Str := "_law_many"
abbrev qO:Str := "_law_other"
abbrev qH:Str := "_law_hues_here"
abbrev qD:Str := "_law_draw"
abbrev qS:Str := "_law_script"
abbrev qN:Str := "_law_names_here"
abbrev qB:Str := "_law_beside"
def top(i:Nat):Stmt:=PySem.Challenge.pw_fivehues_k32_exchanged.main.body.getD i (.Pass ⟨0,0,0,0⟩)
def eOf:Stmt→Expr
 |.Assign _ e _=>e
 |.Return (some e) _=>e
 |.For _ e _ _ _=>e
 |.While e _ _ _=>e
 |_=>.Name "" ⟨0,0,0,0⟩
def bOf:Stmt→List Stmt
 |.For _ _ b _ _=>b
 |.If _ b _ _=>b
 |_=>[]
def aOf(i:Nat):Expr→Expr
 |.Call _ a _ _=>a.getD i (.Name "" ⟨0,0,0,0⟩)
 |.BinOp l _ r _=>[l,r].getD i l
 |.BoolOp _ a _=>a.getD i (.Name "" ⟨0,0,0,0⟩)
 |.Compare _ _ a _=>a.getD i (.Name "" ⟨0,0,0,0⟩)
 |e=>e
def scOf:Expr→Scope
 |.ListComp _ _ sc _=>sc
 |.DictComp _ _ _ sc _=>sc
 |_=>{kind:=.function,names:=[],isGenerator:=false,isCoroutine:=false}
abbrev sAt(s:Stmt)(i:Nat):Stmt:=(zb7 s).getD i (.Pass ⟨0,0,0,0⟩)
abbrev bAt(s:Stmt)(i:Nat):Stmt:=(bOf s).getD i (.Pass ⟨0,0,0,0⟩)
def Pot(H:Hp)(p:Nb)(b m:Int):Prop:=H p=some (.lst [.int b,.int m])∧0≤b∧0≤m∧m<2147483648
inductive IspTake(vs:List V)(H:Hp)(Q:VK):Prop
 |mk (p:Nb) (b m n:Int) (h0:vs=[.ref p,.int n]) (h1:Pot H p b m) (h2:0<n) (h3:n<1073741824) (h4:∀(d b' m':Int) (H':Hp),0≤d→d<n→Pot H' p b' m'→(∀c o,H c=some o→c≠p→H' c=some o)→Q (.int d) H'):IspTake vs H Q
def zeg:Sp:=λvs H Q _=>IspTake vs H Q
section
variable{P:Ni}{w:Nk}{K:Na}{mg:Nd}{base:Nm}
end
end K21
end
section
namespace Wb
section
variable{α:Type}[DecidableEq α]
def nxt(zs:List α)(x:α):α:=zs.getD ((zs.idxOf x+1)%zs.length) x
def ins(zs:List α):Option α→α→List α
 |none,n=>n::zs
 |some c,n=>zs.take (zs.idxOf c+1)++n::zs.drop (zs.idxOf c+1)
abbrev Rs(α:Type):=List (α×List α)
def row(rs:Rs α)(x:α):List α:=((rs.find? λp=>decide (p.1=x)).map (·.2)).getD []
def zaz(rs:Rs α)(x:α)(r:List α):Rs α:=rs.map λp=>if p.1=x then(p.1,r) else p
def stp(rs:Rs α)(s:α×α):α×α:=(s.2,nxt (row rs s.2) s.1)
end
end Wb
namespace K21
open PySem L2 Wb
def Keep(xs:Nl)(H H':Hp):Prop:=∀c o,H c=some o→c∉xs→H' c=some o
def Keep.refl:Keep xs H H:=λ_ _ e _=>e
def Keep.trans(a:Keep xs H H1)(b:Keep xs H1 H2):Keep xs H H2:=λc o e n=>b c o (a c o e n) n
def Keep.sub(a:Keep xs H H1)(h:∀x∈xs,x∈ys):Keep ys H H1:=λc o e n=>a c o e λz=>n (h c z)
def Keep.new(h:H l=none):Keep xs H (upd H l o):=λc u e _=>by rw[zae (zaa e h)];exact e
def Keep.wr(h:l∈xs):Keep xs H (upd H l o):=λc u e n=>by rw[zae (λz=>n (by rw[z];exact h))];exact e
abbrev Ent:=Str×List Str×Addr
abbrev eV(es:List Ent):List (Key×V):=es.map λe=>((Sum.inr e.1:Key),V.ref e.2.2)
structure RAt(H:Hp)(d:Nb)(es:List Ent):Prop where
 dc:H d=some (.dK (eV es))
 ro:∀e∈es,H e.2.2=some (.lst (e.2.1.map V.str))
 nd:(es.map (·.1)).Nodup
def rsOf(es:List Ent):Rs Str:=es.map λe=>(e.1,e.2.1)
def RAt.keep(r:RAt H d es)(k:Keep xs H H')(hd:d∉xs)(h:∀e∈es,e.2.2∉xs):RAt H' d es:=⟨k _ _ r.dc hd,λe he=>k _ _ (r.ro e he) (h e he),r.nd⟩
def zbu{es:List Ent}(nd:(es.map (·.1)).Nodup){e:Ent}(h:e∈es):valV (es.map fun e=>((Sum.inr e.1:Key),V.ref e.2.2)) (Sum.inr e.1)=some (.ref e.2.2):=by
 induction es with
 |nil=>cases h
 | cons a t ih =>
  rw[Ql,Qr]at nd
  rw[Ql]
  rcases Qe.mp h with z | z
  ·subst z;exact zbw rfl
  ·rw [zbh]
   ·exact ih nd.2 z
   ·intro q
    exact nd.1 (by rw[Wi q];exact Qf.mpr ⟨e,z,rfl⟩)
def val_out{es:List Ent}{x:Str}(h:x∉es.map (·.1)):valV (es.map λe=>((Sum.inr e.1:Key),V.ref e.2.2)) (Sum.inr x)=none:=by
 induction es with
 |nil=>rfl
 |cons a t ih =>
  rw[Ql,Qe,not_or]at h
  rw[Ql,zbh]
  ·exact ih h.2
  ·intro q;exact h.1 (Wi q).symm
def zbj(nd:(es.map (·.1)).Nodup)(h:e∈es):row (rsOf es) e.1=e.2.1:=by
 unfold row rsOf
 induction es with
 |nil=>cases h
 | cons a t ih =>
  rw[Ql,Qr]at nd
  rw[Ql]
  rcases Qe.mp h with z | z
  ·subst z;rw[Wc (by simp)];rfl
  ·rw [Wd]
   ·exact ih nd.2 z
   ·intro q
    exact nd.1 (by rw[of_decide_eq_true q];exact Qf.mpr ⟨e,z,rfl⟩)
def setE(es:List Ent)(x:Str)(r:Ng)(a:Nb):List Ent:=es.map λe=>if e.1=x then(e.1,r,a) else e
def zb4(es:List Ent)(x:Str)(r:Ng)(a:Nb):rsOf (setE es x r a)=zaz (rsOf es) x r:=by
 unfold rsOf setE zaz
 rw[Ze,Ze]
 refine Yj λe _=>?_
 show(λe:Ent=>(e.1,e.2.1)) (if e.1=x then(e.1,r,a) else e)=if e.1=x then(e.1,r) else(e.1,e.2.1)
 by_cases h:e.1=x
 ·rw[if_pos h,if_pos h]
 ·rw[if_neg h,if_neg h]
def zib{es:List Ent}{x:Str}{r:Ng}{a:Nb}(h:x∉es.map (·.1)):putK (eV es) (Sum.inr x) (.ref a)=(es++[(x,r,a)]).map λe=>((Sum.inr e.1:Key),V.ref e.2.2):=by
 rw[zdp _ (val_out h),Qp]
 rfl
def zax(es:List Ent)(x:Str)(r:Ng)(a:Nb):(setE es x r a).map (·.1)=es.map (·.1):=by
 unfold setE
 rw[Ze]
 refine Yj λe _=>?_
 show(if e.1=x then(e.1,r,a) else e).1=e.1
 split<;>rfl
def cut_to{xs:List V}{k:Nat}(h:k≤xs.length):cutV xs none (some (k:Int))=xs.take k:=by
 unfold cutV
 have e1:HT.sIx xs.length 0 none=0:=rfl
 have e2:HT.sIx xs.length xs.length (some (k:Int))=k:=by rw[HT.sIx_nat];omega
 rw[e1,e2];simp
def zfz{xs:List V}{k:Nat}(h:k≤xs.length):cutV xs (some (k:Int)) none=xs.drop k:=by
 unfold cutV
 have e1:HT.sIx xs.length 0 (some (k:Int))=k:=by rw[HT.sIx_nat];omega
 have e2:HT.sIx xs.length xs.length none=xs.length:=rfl
 rw[e1,e2,Qx (by rw[Jp];exact Qh _)]
def idx_lt{zs:Ng}{x:Str}(h:x∈zs):zs.idxOf x<zs.length:=List.idxOf_lt_length_iff.mpr h
def zir{zs:Ng}{x:Str}(h:x∈zs):(∃ z,(zs.map V.str)[zs.idxOf x]?=some z∧eqV z (.str x)=true)∧∀ m z,m < zs.idxOf x→(zs.map V.str)[m]?=some z→eqV z (.str x)=false:=by
 refine⟨⟨.str x,?_,beq_self_eq_true x⟩,λm z hm e=>?_⟩
 ·rw[Qq,Qd (idx_lt h),List.getElem_idxOf];rfl
 ·rw [Qq] at e
  have cI:m<zs.length:=Wp hm (idx_lt h)
  rw[Qd cI]at e
  cases e
  show(zs[m]==x)=false
  refine beq_eq_false_iff_ne.mpr λq=>?_
  have az:∀(l:Ng) (j:Nat) (hj:j<l.length),l[j]=x→l.idxOf x≤j:=by
   intro l
   induction l with
   |nil=>intro j hj;simp at hj
   | cons a t ih =>
    intro j hj e
    rw[Xd]
    cases j with
    |zero =>
     have e':a=x:=e
     rw[e'];simp
    | succ i =>
     have:=ih i (by simpa using hj) (by simpa using e)
     by_cases h:a=x
     ·rw[h];simp
     ·have hb:(a == x)=false:=beq_eq_false_iff_ne.mpr h
      rw[hb];simp;assumption
  have:=az zs m cI q
  omega
def zce(zs:Ng):(zs.map V.str).all zdw=true:=by
 rw[Uz];intro v hv;obtain⟨x,_,rfl⟩:=Qf.mp hv;rfl
end K21
end
section
namespace K21
open PySem L2 Wb
def zgv:Option Str→V
 |none=>.non
 |some c=>.str c
section
variable{P:Ni}{w:Nk}{K:Na}{mg:Nd}{base:Nm}
end
end K21
end
section
namespace Wb
section
variable{α:Type}[DecidableEq α]
def itr(rs:Rs α)(s:α×α):Nat→α×α
 |0=>s
 |n+1=>stp rs (itr rs s n)
def IsSt(rs:Rs α)(s:α×α):Prop:=∃p∈rs,p.1=s.2∧s.1∈p.2
def zi8(rs:Rs α):List (α×α):=rs.flatMap λp=>p.2.map λx=>(x,p.1)
def zgi{rs:Rs α}{s:α×α}:s∈zi8 rs↔IsSt rs s:=by
 unfold zi8 IsSt
 rw[List.mem_flatMap]
 constructor
 ·rintro ⟨p,hp,h⟩
  obtain⟨x,hx,rfl⟩:=Qf.mp h
  exact⟨p,hp,rfl,hx⟩
 ·rintro ⟨p,hp,e,hx⟩
  exact⟨p,hp,Qf.mpr ⟨s.1,hx,by rw[e]⟩⟩
def Clo(rs:Rs α):Prop:=∀s,IsSt rs s→IsSt rs (stp rs s)
theorem zgp{rs:Rs α}(c:Clo rs){s:α×α}(h:IsSt rs s):∀n,IsSt rs (itr rs s n)
 |0=>h
 |n+1=>c _ (zgp c h n)
def run(rs:Rs α)(s:α×α)(n:Nat):List (α×α):=(List.range n).map (itr rs s)
def run_succ(rs:Rs α)(s:α×α)(n:Nat):run rs s (n+1)=run rs s n++[itr rs s n]:=by
 unfold run;rw[List.range_succ,List.map_append];rfl
def zer{l m:List (α×α)}(nd:l.Nodup)(h:∀x∈l,x∈m):l.length≤m.length:=by
 induction l generalizing m with
 |nil=>exact Zg _
 |cons a t ih =>
  rw[Qr]at nd
  have ha:=h a Qc
  have:=ih (m:=m.erase a) nd.2 λx hx=>(List.mem_erase_of_ne (λe=>nd.1 (by rw[←e];exact hx))).mpr (h x (Qg _ hx))
  rw[Ym ha]at this
  have hp:0<m.length:=Yd ha
  rw[Qz];lia
end
end Wb
namespace K21
open PySem L2 Wb
section
variable{P:Ni}{w:Nk}{K:Na}{mg:Nd}{base:Nm}
def zbr.keep{H H':Hp}{as:Nl}{qs:Nr}(r:zbr H as qs)(k:∀b x y,H b=some (.tup [x,y])→H' b=some (.tup [x,y])):zbr H' as qs:=by
 induction r with
 |nil=>exact .nil
 |cons h t ih=>exact .cons (k _ _ _ h) ih
def zbr.snoc{H:Hp}{as:Nl}{qs:Nr}{a:Nb}{q:Str×Str}(r:zbr H as qs)(h:H a=some (.tup [.str q.1,.str q.2])):zbr H (as++[a]) (qs++[q]):=by
 induction r with
 |nil=>exact .cons h .nil
 |cons h' t ih=>exact .cons h' ih
end
end K21
end
section
namespace Wb
section
variable{α:Type}[DecidableEq α]
structure Gen(G:Rs α→Prop):Prop where
 clo:∀rs,G rs→Clo rs
 nd:∀rs,G rs→(rs.map (·.1)).Nodup
 sub:∀rs,G rs→∀p∈rs,p.2.Nodup∧∀x∈p.2,x∈rs.map (·.1)
 sy:∀rs,G rs→∀p∈rs,∀x∈p.2,p.1∈row rs x
 nil:G []
 new:∀rs x,G rs→x∉rs.map (·.1)→G (rs++[(x,[])])
 leaf:∀rs x p c,G rs→x∉rs.map (·.1)→p∈rs→(∀y,c=some y→y∈p.2)→(c=none→p.2=[])→G (zaz (zaz (rs++[(x,[])]) p.1 (ins p.2 c x)) x [p.1])
 tie:∀rs c p n,G rs→p∈rs→c∈p.2→(itr rs (c,p.1) n).2≠p.1→(itr rs (c,p.1) n).2∉p.2 →
  G (zaz (zaz rs p.1 (ins p.2 (some c) (itr rs (c,p.1) n).2)) (itr rs (c,p.1) n).2 (ins (row rs (itr rs (c,p.1) n).2) (some (itr rs (c,p.1) n).1) p.1))
def zdf{l m:List α}(nd:l.Nodup)(h:∀x∈l,x∈m):l.length≤m.length:=by
 induction l generalizing m with
 |nil=>exact Zg _
 |cons a t ih =>
  rw[Qr]at nd
  have ha:=h a Qc
  have:=ih (m:=m.erase a) nd.2 λx hx=>(List.mem_erase_of_ne (λe=>nd.1 (by rw[←e];exact hx))).mpr (h x (Qg _ hx))
  rw[Ym ha]at this
  have hp:0<m.length:=Yd ha
  rw[Qz];lia
def Gen.rows{G:Rs α→Prop}(g:Gen G){rs:Rs α}(h:G rs):∀p∈rs,p.2.length≤rs.length:=λp hp=>by
 obtain⟨a,b⟩:=g.sub rs h p hp
 have:=zdf a b
 rwa[Qa]at this
def Gen.steps{G:Rs α→Prop}(g:Gen G){rs:Rs α}(h:G rs)(hl:rs.length≤40):(zi8 rs).length≤1600:=by
 have key:∀(l:Rs α) (n:Nat),(∀p∈l,p.2.length≤n)→(zi8 l).length≤l.length*n:=by
  intro l n
  induction l with
  |nil=>intro _;simp[zi8]
  |cons a t ih =>
   intro hh
   have h1:=ih λp hp=>hh p (Qg _ hp)
   have h2:=hh a Qc
   unfold zi8 at h1 ⊢
   rw[List.flatMap_cons,Qs,Qa,Qz,Nat.succ_mul]
   lia
 have:=key rs rs.length (g.rows h)
 have:rs.length*rs.length≤40*40:=Nat.mul_le_mul hl hl
 exact Zk ‹_› ‹_›
end
end Wb
namespace K21
open PySem L2 Wb
def zb5{H:Hp}{p a:Nb}{b m:Int}{zs:Ng}(h:Pot H p b m)(ha:H a=some (.lst (zs.map V.str))):a≠p:=za2 ha h.1 (by
 intro z
 have z':zs.map V.str=[.int b,.int m]:=by injection z
 cases zs with
 |nil=>cases z'
 |cons x t=>rw[Ql]at z';injection z' with z1 _;cases z1)
def zhj{H:Hp}{p d:Nb}{b m:Int}{kvs:List (Key×V)}(h:Pot H p b m)(hd:H d=some (.dK kvs)):d≠p:=za2 hd h.1 (by intro z;cases z)
def RAt.pot{H H':Hp}{d p:Nb}{b m:Int}{es:List Ent}(r:RAt H d es)(h:Pot H p b m)(k:Keep [p] H H'):RAt H' d es :=
 r.keep k (by simpa using zhj h r.dc) λe he=>by simpa using zb5 h (r.ro e he)
def Pot.keep{H H':Hp}{p:Nb}{b m:Int}{xs:Nl}(h:Pot H p b m)(k:Keep xs H H')(hp:p∉xs):Pot H' p b m:=⟨k _ _ h.1 hp,h.2⟩
def zbf{H H':Hp}{p:Nb}(h:∀c o,H c=some o→c≠p→H' c=some o):Keep [p] H H':=λc o e n=>h c o e λz=>n (by rw[z];exact Qb.mpr rfl)
section
variable{P:Ni}{w:Nk}{K:Na}{mg:Nd}{base:Nm}
def ze7{x:Str}{zs:Ng}:inV (.str x) (zs.map V.str)=decide (x∈zs):=by
 unfold inV
 rw[Wj,Yq,decide_eq_true_iff]
 constructor
 ·rintro ⟨v,hv,e⟩
  obtain⟨y,hy,rfl⟩:=Qf.mp hv
  have e':y=x:=eq_of_beq e
  rw[←e'];exact hy
 ·intro h
  exact⟨.str x,Qf.mpr ⟨x,h,rfl⟩,beq_self_eq_true x⟩
def zcq{c:Bool}{A B:Prop}(h:c=false)(b:B):if c=true then A else B:=by rw[h];exact iteF b
def zdv{c:Bool}{A B:Prop}(h:c=true)(a:A):if c=true then A else B:=by rw[h];exact iteT a
def op_ne_nilK{X:Cx}{K:Na}(hK:X.K=K)(hu:X.A.units<cLine):OpR X (compareOp .NotEq) (rNil true K):=hK▸zep hu
end
end K21
end
section
namespace K21
open PySem L2 Wb
def rat_new(R:RAt H d es)(hx:x∉es.map (·.1))(ha:H a=some (.lst (r.map V.str))) :
  RAt (upd H d (.dK (putK (eV es) (Sum.inr x) (.ref a)))) d (es++[(x,r,a)]):=by
 refine⟨by rw[zac,zib (r:=r) hx],λe he=>?_,?_⟩
 ·have key:∀ {b:Nb} {xs:List V},H b=some (.lst xs)→(upd H d (.dK (putK (es.map fun e=>((Sum.inr e.1:Key),V.ref e.2.2)) (Sum.inr x) (.ref a)))) b=some (.lst xs):=fun {b xs} hb=>by
   rw[zae (za2 hb R.dc (by intro z;cases z))];exact hb
  rcases Qi.mp he with z | z
  ·exact key (R.ro e z)
  ·rw[Qb.mp z];exact key ha
 ·rw [Qp,Zb]
  refine⟨R.nd,Qr.mpr ⟨by simp,Zn⟩,λy hy z hz=>?_⟩
  have ca:z=x:=by simpa using hz
  rw[ca]
  exact λe=>hx (e▸hy)
def zgm(es:List Ent):((eV es).map λp=>kV p.1)=(es.map (·.1)).map V.str:=by
 rw[Ze,Ze];rfl
section
variable{P:Ni}{w:Nk}{K:Na}{mg:Nd}{base:Nm}
def zfi(z:Str):Prop:=1≤z.length∧z.length≤8∧∀c∈z.cps.toList,97≤c∧c≤122
def nodup_of_map{α β:Type}{f:α→β}{l:List α}(h:(l.map f).Nodup):l.Nodup:=by
 induction l with
 |nil=>exact Zn
 |cons a t ih =>
  rw[Ql,Qr]at h
  exact Qr.mpr ⟨λz=>h.1 (Qf.mpr ⟨a,z,rfl⟩),ih h.2⟩
def zik{α β:Type}{f:α→β}{l:List α}(nd:l.Nodup)(h:∀a∈l,∀b∈l,f a=f b→a=b):(l.map f).Nodup:=by
 induction l with
 |nil=>exact Zn
 |cons a t ih =>
  rw[Qr]at nd
  rw[Ql,Qr]
  refine⟨λz=>?_,ih nd.2 λx hx y hy=>h x (Qg _ hx) y (Qg _ hy)⟩
  obtain⟨b,hb,e⟩:=Qf.mp z
  exact nd.1 (h b (Qg _ hb) a Qc e▸hb)
def zde:Str := "abcdefghijklmnopqrstuvwxyz"
def letters_at:∀i:Fin 26,zde.cps.toList[i.1]?=some (97+i.1):=by decide +kernel
def zeb:zde.length≤sizeLine:=by decide +kernel
def zgk{j:Int}(h0:0≤j)(h1:j<26):atI zde.cps.toList j=some (97+j.toNat):=by
 obtain⟨n,rfl⟩:=Zt h0
 exact zar (letters_at ⟨n,by exact zar8 ‹_›⟩)
def zak(k:Keep xs H H')(h:H' l=none)(hx:l∉xs):H l=none:=by
 cases z:H l with
 |none=>rfl
 |some o=>rw[k _ _ z hx]at h;cases h
end
end K21
end
section
namespace K21
open PySem L2 Wb Tm
def leS_anti(a b:Str)(h:leS a b)(g:leS b a):a=b:=by
 have e:a.cps.toList=b.cps.toList:=List.le_antisymm (List.not_lt.mp h) (List.not_lt.mp g)
 cases a;cases b
 congr 1
 exact Xc.mp e
end K21
end
section
namespace K21
open PySem L2 Wb
abbrev sWeb:Stmt:=top 26
abbrev sPlaces:Stmt:=inClass sWeb 1
structure TAt(H:Hp)(d:Nb)(es:List Ent):Prop where
 dc:H d=some (.dK (eV es))
 ro:∀e∈es,H e.2.2=some (.tup (e.2.1.map V.str))
 nd:(es.map (·.1)).Nodup
def TAt.keep(r:TAt H d es)(k:Keep xs H H')(hd:d∉xs)(h:∀e∈es,e.2.2∉xs):TAt H' d es:=⟨k _ _ r.dc hd,λe he=>k _ _ (r.ro e he) (h e he),r.nd⟩
structure WAt(H:Hp)(C x dx d:Nb)(es:List Ent):Prop where
 ob:H x=some (.ins C dx [("rounds",.ref d)])
 ta:TAt H d es
def WAt.keep(r:WAt H C x dx d es)(k:Keep xs H H')(hx:x∉xs)(hd:d∉xs)(h:∀e∈es,e.2.2∉xs):WAt H' C x dx d es :=
 ⟨k _ _ r.ob hx,r.ta.keep k hd h⟩
def WAt.pot(r:WAt H C x dx d es)(h:Pot H p b m)(k:Keep [p] H H'):WAt H' C x dx d es :=
 r.keep k (by simpa using za2 r.ob h.1 (by intro z;cases z)) (by simpa using za2 r.ta.dc h.1 (by intro z;cases z)) λe he=>by simpa using za2 (r.ta.ro e he) h.1 (by intro z;cases z)
inductive IspPlaces(C:Nb)(vs:List V)(H:Hp)(Q:VK):Prop
 |mk (x dx d:Nb) (es:List Ent) (h0:vs=[.ref x]) (h1:WAt H C x dx d es) (h2:∀l,H l=none→Q (.ref l) (upd H l (.lst ((es.map (·.1)).map V.str)))):IspPlaces C vs H Q
def spPlaces(C:Nb):Sp:=λvs H Q _=>IspPlaces C vs H Q
def refs_perm(h:ws.Perm (as.map V.ref)):∃dm:List Addr,ws=dm.map V.ref∧dm.Perm as:=by
 have key:∀ws:List V,(∀v∈ws,∃a,v=V.ref a)→∃dm:List Addr,ws=dm.map V.ref:=by
  intro ws
  induction ws with
  |nil=>intro _;exact⟨[],rfl⟩
  |cons v t ih =>
   intro hh
   obtain⟨a,rfl⟩:=hh v Qc
   obtain⟨dm,rfl⟩:=ih λv hv=>hh v (Qg _ hv)
   exact⟨a::dm,rfl⟩
 obtain⟨dm,rfl⟩:=key ws λv hv=>by
  obtain⟨a,_,rfl⟩:=Qf.mp (h.mem_iff.mp hv)
  exact⟨a,rfl⟩
 refine⟨dm,rfl,?_⟩
 have:=h.map (λv:V=>match v with | .ref a=>a | _=>0)
 rw[Ze,Ze]at this
 have e:∀l:List Addr,l.map ((λv:V=>match v with | .ref a=>a | _=>0)∘V.ref)=l:=λl=>Km l
 rw[e,e]at this
 exact this
section
variable{P:Ni}{w:Nk}{K:Na}{mg:Nd}{base:Nm}
def scPlaces:zap ["self"] ["self"] (zag sPlaces):=fsk
def ok_places(F:Fun K "places" "Web.places" sPlaces f fd)(cW:Cls K C)(nW:zd3 K C "rounds")(aK:mg "list" = none):FnOk P w K mg base CX0 1 f fd ["self"] (spPlaces C):=by
 refine F.okL scPlaces (λcdv A outer s H vs Q E hr h=>?_)
 obtain⟨x,dx,d,es,rfl,wt,k⟩:=h
 have hx:=wt.ob
 have T:=wt.ta
 refine⟨_,zah (zbn (zbe (zd2 rfl) (by rfl) aK Ui (zab (pe_fld (pv 0) rfl) zaf))),?_⟩
 refine⟨_,rfl,x,C,dx,_,_,rfl,hx,cW,nW,rfl,d,_,rfl,.inl T.dc,λl hl=>?_⟩
 rw[zgm]
 exact k l hl
def zbk:∀{as:List α} {bs:List β},Paired R as bs→∀{i:Nat} (hi:i<as.length),∃aF:i<bs.length,R as[i] bs[i]:=by
 intro as bs r
 induction r with
 |nil=>intro i hi;simp at hi
 | cons h t ih =>
  intro i hi
  cases i with
  |zero=>exact⟨by simp,h⟩
  |succ j =>
   obtain⟨a,b⟩:=ih (i:=j) (by simpa using hi)
   exact⟨by simpa using a,b⟩
end
end K21
end
section
namespace L2
open PySem
def zfj:PS X st (λ_ _ _=>False):=λ_ _ _ _ _ _ h=>h.elim
def pe_tyN(hg:Gl X x)(hm:X.mg x=none)(hv:bootBuiltins x=some (.type T))(hn:x ≠ "__name__" := by decide)(iI:(x==("__debug__" : Str))=false:=by decide):PE X (.Name x pos) (tC (.ty T)):=by
 intro a7 s σ H Q I h
 exact zd1 I hg hm hv ⟨.ty T,H,I,rfl,h⟩ hn iI
end L2
namespace K21
open PySem L2 Wb
abbrev zd5:Stmt:=top 20
inductive IspIsName(vs:List V)(H:Hp)(Q:VK):Prop
 |mk (z:Str) (h0:vs=[.str z]) (h1:zfi z) (h2:∀H',Keep [] H H'→Q (.bl true) H'):IspIsName vs H Q
def spIsName:Sp:=λvs H Q _=>IspIsName vs H Q
abbrev zew:Scope:=scOf (aOf 0 (aOf 1 (eOf (sAt zd5 1))))
def csIsName_k:zew.kind=.function:=by rfl
def csIsName_c:∀y∈zew.names,y.2≠.cell:=by decide +kernel
def csIsName_n:∀y∈zew.names,y.2=.local→zew.names.lookup y.1=some .local:=by decide +kernel
def csIsName_f:∀y∈zew.names,y.2=.free→(zag zd5).names.lookup y.1=some .cell∨(zag zd5).names.lookup y.1=some .free:=by decide +kernel
def nd1:(["sign"]:List Str).Nodup:=by decide +kernel
section
variable{P:Ni}{w:Nk}{K:Na}{mg:Nd}{base:Nm}
def scIsName:zap ["thing"] ["thing"] (zag zd5):=fsk
def ok_isname(F:Fun K "is_name" "is_name" zd5 f fd)(hML:mg "MOST_LETTERS" = some (.int 8 tk))(kQ:mg "isinstance" = none)(tI:mg "str" = none)(af:mg "len" = none)(cU:mg "all" = none):FnOk P w K mg base CX0 1 f fd ["thing"] spIsName:=by
 refine F.okL scIsName (λcdv A outer s H vs Q E hr h=>?_)
 obtain⟨z,rfl,hz,k⟩:=h
 have hu:=zbz hr
 have av  := sizeLine_eq
 refine⟨_,zad (zbp (pt_not (pt_val (zal call_isi_str (by rfl) kQ PyProof.Rows.boot_isinstance (zab (pv 0) (zab (pe_tyN (T := "str") rfl tI PyProof.Rows.boot_str) zaf))))) (zah zfj) zaw)
  (zah (zbn (pe_and (pe_chain op_le op_le zai (zal call_len_str (by rfl) af Zv (zab (pv 0) zaf)) (pe_glob (v:=.int 8) rfl hML ⟨tk,rfl⟩))
   (pe_one (zal (call_all rfl) (by rfl) cU PyProof.Rows.boot_all (zab (zg8 (M:=["sign"]) (ix:=[none]) ⟨csIsName_k,csIsName_c,csIsName_n,csIsName_f,rfl,by decide +kernel,λj i x h1 h2=>by
      match j,h1,h2 with
      |0,_,h2=>cases h2
      |n+1,h1,_=>cases h1⟩ rfl (pi_str (pv 0)) (λC a7 ex s H=>za9 0 nd1)
      (λC a7 ex s H=>zck) (λC a7 ex s H=>pe_chain op_le_str op_le_str pe_str (pv 0) pe_str)) zaf)))))),?_⟩
 obtain⟨jI,dI,dH⟩:=hz
 have hz1':1≤z.cps.size:=jI
 have hz2':z.cps.size≤8:=dI
 refine⟨_,rfl,z,rfl,_,rfl,zcq rfl ?_⟩
 refine⟨_,rfl,z,rfl,(by show z.cps.size≤sizeLine;lia),_,_,rfl,rfl,_,rfl,zdv (decide_eq_true (by show(1:Int)≤(z.cps.size:Int);exact zar9 ‹_›)) ?_⟩
 refine⟨_,_,rfl,rfl,_,rfl,zdv (decide_eq_true (by show(z.cps.size:Int)≤8;lia)) ?_⟩
 have asc:z.cps.all (· < 128)=true:=by
  rw[Array.all_eq_true]
  intro i hi
  have:=dH z.cps[i] (by rw[Array.mem_toList_iff];exact Array.getElem_mem hi)
  exact decide_eq_true (by lia)
 refine⟨_,rfl,z,rfl,asc,λi m ys τ H1=>Aj5 (H1=H) (m=z.cps.size-i) (i≤z.cps.size) (ys=List.replicate i (V.bl true)) (Ex1 λx0=>τ=[x0]),⟨_,rfl,rfl,Zg _,rfl,none,rfl⟩,?_⟩
 rintro i m ys τ H1 ⟨rfl,rfl,hi,rfl,x0,rfl⟩
 by_cases ag:i<z.cps.size
 ·refine .inr ⟨ag,by rw [Jn];lia,?_⟩
  rintro y H' ⟨rfl,c,hc,rfl⟩
  obtain⟨h1,h2⟩:=dH c (by rw[Array.mem_toList_iff];exact Array.mem_of_getElem? hc)
  have l1:(!decide ((⟨#[c]⟩:Str).cps.toList<("a" : Str).cps.toList))=true:=by
   rw[Kp,decide_eq_false_iff_not,show("a" : Str).cps.toList=[97] from by decide +kernel]
   show ¬[c]<[97]
   intro h
   have:=List.cons_lt_cons_iff.mp h
   rcases this with q | ⟨_,q⟩
   ·exact zar10 ‹_› ‹_›
   ·exact Wz _ q
  have l2:(!decide (("z" : Str).cps.toList<(⟨#[c]⟩:Str).cps.toList))=true:=by
   rw[Kp,decide_eq_false_iff_not,show("z" : Str).cps.toList=[122] from by decide +kernel]
   show ¬[122]<[c]
   intro h
   have:=List.cons_lt_cons_iff.mp h
   rcases this with q | ⟨_,q⟩
   ·exact zar10 ‹_› ‹_›
   ·exact Wz _ q
  refine⟨_,rfl,_,_,rfl,rfl,_,rfl,zdv l1 ?_⟩
  refine⟨_,_,rfl,rfl,_,?_,rfl,rfl,ag,?_,_,rfl⟩
  ·exact zar1 ‹_›
  ·rw[l2,List.replicate_succ']
 ·have e:i=z.cps.size:=by exact zar3 ‹_› ‹_›
  subst e
  refine .inl ⟨Qh _,λD hD=>?_⟩
  refine⟨D,List.replicate z.cps.size true,rfl,SqL.of (by rw[zac,List.map_replicate]),?_⟩
  have:(List.replicate z.cps.size true).all id=true:=by
   rw[Uz];intro b hb;exact(List.mem_replicate.mp hb).2
  rw[this]
  exact k _ (Keep.new hD)
end
end K21
end
section
namespace L2
open PySem
def lc_at(T:St→Prop)(ys:List V)(hl:ys.length=xs.length)(ha:SqL K H a xs)(hn:xs.length≤sizeLine)(h0:T τ)(hs:∀(i:Nat) (hi:i<xs.length) (dj:i<ys.length),∀τ,T τ→∀k:V→St→Hp→Prop,(∀τ2,T τ2→k ys[i] τ2 H)→g xs[i] τ H λ τ2 H2=>te τ2 H2 λy H4=>k y τ2 H4)(q:∀D,H D=none→Q (.ref D) (upd H D (.lst ys))):rLC g tAll te Q (Itl K a) τ H:=by
 refine⟨λi m zs τ H1=>Aj5 (H1=H) (T τ) (m=xs.length-i) (i≤xs.length) (zs=ys.take i),⟨_,rfl,h0,rfl,Zg _,rfl⟩,?_⟩
 rintro i m zs τ H1 ⟨rfl,ht,rfl,hi,rfl⟩
 by_cases ag:i<xs.length
 ·refine .inr ⟨⟨xs,xs[i],ha,Qd ag⟩,by rw [Zi];lia,?_⟩
  rintro x H' ⟨rfl,hx⟩
  have cv:=hx xs ha
  rw[Qd ag]at cv
  have jL:xs[i]=x:=Qk cv
  rw[←jL]
  refine hs i ag (by exact zar6 ‹_› ‹_›) τ ht (λy τ2 H4=>∃m',m'<xs.length-i∧Aj5 (H4=H') (T τ2) (m'=xs.length-(i+1)) (i+1≤xs.length) (ys.take i++[y]=ys.take (i+1))) λ τ2 h2=>?_
  exact⟨_,by exact zar1 ‹_›,rfl,h2,rfl,ag,by rw[Qm (by exact zar6 ‹_› ‹_›:i<ys.length)]⟩
 ·have e:i=xs.length:=by exact zar3 ‹_› ‹_›
  refine .inl ⟨⟨xs,ha,by lia⟩,λD hD=>?_⟩
  rw[Qx (by lia)]
  exact q D hD
end L2
namespace K21
open PySem L2 Wb
structure RwAt(H:Hp)(l:Nb)(as:Nl)(es:List Ent):Prop where
 ls:H l=some (.lst (as.map V.ref))
 ts:Paired (λa (e:Ent)=>H a=some (.tup [.str e.1,.ref e.2.2])) as es
 ro:∀e∈es,H e.2.2=some (.lst (e.2.1.map V.str))
def RwAt.keep(r:RwAt H l as es)(k:Keep [] H H'):RwAt H' l as es :=
 ⟨k _ _ r.ls (by simp),Paired.imp' (λ_ _ h=>k _ _ h (by simp)) r.ts,λe he=>k _ _ (r.ro e he) (by simp)⟩
abbrev zfr:Stmt:=top 21
abbrev zdy:Stmt:=top 22
abbrev zh6:Stmt:=top 23
inductive zhu(vs:List V)(H:Hp)(Q:VK):Prop
 |mk (l:Nb) (as:Nl) (es:List Ent) (h0:vs=[.ref l]) (h1:RwAt H l as es) (h2:(∀e∈es,e.2.1.length≤100∧zfi e.1∧∀x∈e.2.1,zfi x)) (h3:∀H',Keep [] H H'→Q .non H'):zhu vs H Q
def spNoNames:Sp:=λvs H Q _=>zhu vs H Q
inductive IspTwice(vs:List V)(H:Hp)(Q:VK):Prop
 |mk (l:Nb) (as:Nl) (es:List Ent) (h0:vs=[.ref l]) (h1:RwAt H l as es) (h2:es.length≤60) (h3:(es.map (·.1)).Nodup) (h4:(∀e∈es,e.2.1.length≤100∧e.2.1.Nodup)) (h5:∀H',Keep [] H H'→Q .non H'):IspTwice vs H Q
def spTwice:Sp:=λvs H Q _=>IspTwice vs H Q
inductive IspOneWay(vs:List V)(H:Hp)(Q:VK):Prop
 |mk (l:Nb) (as:Nl) (es:List Ent) (h0:vs=[.ref l]) (h1:RwAt H l as es) (h2:(es.map (·.1)).Nodup) (h3:(∀e∈es,e.1∉e.2.1∧∀x∈e.2.1,∃e'∈es,e'.1=x∧e.1∈e'.2.1)) (h4:∀H',Keep [] H H'→Q .non H'):IspOneWay vs H Q
def spOneWay:Sp:=λvs H Q _=>IspOneWay vs H Q
section
variable{P:Ni}{w:Nk}{K:Na}{mg:Nd}{base:Nm}
def zej:zap ["rows", "place", "around", "thing"] ["rows"] (zag zfr):=fsk
def ok_nonames(F:Fun K "refuse_no_names" "refuse_no_names" zfr f fd)(FN:Fun K "is_name" "is_name" zd5 fn fdn)(bN:Binds K fdn ["thing"] [])(mN:mg "is_name" = some (.ref fn))(GN:FnOk P w K mg base CX0 1 fn fdn ["thing"] spIsName):FnOk P w K mg base CX0 2 f fd ["rows"] spNoNames:=by
 refine F.okL zej (λcdv A outer s H vs Q E hr h=>?_)
 obtain⟨l,as,es,rfl,R,hok,k⟩:=h
 have hu:=zbz hr
 have av  := sizeLine_eq
 refine⟨_,zah (zbq Zr rfl (za8 (pv 0)) (zfc rfl (za4 (za9 1 zej.nd) (za4 (za9 2 zej.nd) zcl)))
  (zah (zbq Zr rfl (za8 (zav zd0 (zbd (zab (pv 1) zaf)) (pv 2))) (za9 3 zej.nd)
   (zah (zbp (pt_not (pt_val (zaj GN hr rfl mN FN.kp bN .nil zat (zab (pv 3) zaf)))) (zah zfj) zaw))))),?_⟩
 refine⟨_,rfl,l,rfl,⟨_,SqL.of R.ls⟩,zby (xs:=as.map V.ref) (λi σ H'=>Aj2 (Keep [] H H') (Ex3 λx1 x2 x3=>σ=[some (.ref l),x1,x2,x3])) ⟨Keep.refl,none,none,none,rfl⟩ (λi σ H' _ hh=>SqL.of (hh.1 _ _ R.ls (by simp))) ?_ ?_⟩
 ·rintro i y σ H1 hx ⟨k1,x1,x2,x3,rfl⟩
  have hi:i<as.length:=by
   have:=(Zd.mp hx).1
   rwa[Qa]at this
  have jK:y=.ref as[i]:=by
   rw[Qq,Qd hi]at hx
   exact(Qk hx).symm
  subst jK
  obtain⟨aF,fC⟩:=zbk R.ts hi
  obtain⟨bn,gR,bm⟩:=hok _ (Qv aF)
  have cM:=k1 _ _ (R.ro _ (Qv aF)) (by simp)
  refine⟨as[i],_,rfl,SqT.of (k1 _ _ fC (by simp)),rfl,_,_,rfl,_,_,rfl,rfl,?_⟩
  refine⟨_,rfl,(by show 1≤sizeLine;decide),λq hq=>?_⟩
  have nq:es[i].2.2≠q:=zaa cM hq
  refine⟨_,rfl,q,es[i].2.2,_,_,rfl,rfl,zac,(by rw[zae nq];exact cM),(by rw[Qa];show 1+_≤sizeLine;lia),λq2 g7=>?_⟩
  have k2:Keep [] H (upd (upd H1 q (.lst [.str es[i].1])) q2 (.lst ([V.str es[i].1]++es[i].2.1.map V.str))):=(k1.trans (Keep.new hq)).trans (Keep.new g7)
  have kj:(upd (upd H1 q (.lst [.str es[i].1])) q2 (.lst ([V.str es[i].1]++es[i].2.1.map V.str))) q2=some (.lst ((es[i].1::es[i].2.1).map V.str)):=zac
  generalize upd (upd H1 q (.lst [.str es[i].1])) q2 (.lst ([V.str es[i].1]++es[i].2.1.map V.str))=H2 at k2 kj
  refine⟨q2,rfl,⟨_,SqL.of kj⟩,zby (xs:=(es[i].1::es[i].2.1).map V.str) (λj σ H'=>Aj2 (Keep [] H2 H') (Ex3 λx1 x2 x3=>σ=[some (.ref l),x1,x2,x3])) ⟨Keep.refl,_,_,_,rfl⟩ (λj σ H' _ hh=>SqL.of (hh.1 _ _ kj (by simp))) ?_ ?_⟩
  ·rintro j y σ H3 hy ⟨k3,y1,y2,y3,rfl⟩
   obtain⟨z,hz,rfl⟩:=Qf.mp (Yy hy)
   have cE:zfi z:=by
    rcases Qe.mp hz with e | e
    ·rw[e];exact gR
    ·exact bm z e
   refine⟨_,rfl,z,rfl,cE,λH4 k4=>⟨_,rfl,zcq rfl ?_⟩⟩
   exact⟨k3.trans k4,_,_,_,rfl⟩
  ·rintro σ H3 ⟨k3,y1,y2,y3,rfl⟩
   exact⟨k2.trans k3,_,_,_,rfl⟩
 ·rintro σ H1 ⟨k1,x1,x2,x3,rfl⟩
  exact k H1 k1
abbrev csTwA:Scope:=scOf (eOf (sAt zdy 0))
abbrev csTwB:Scope:=scOf (aOf 1 (eOf (sAt zdy 1)))
def csTwA_k:csTwA.kind=.function:=by rfl
def csTwA_c:∀y∈csTwA.names,y.2≠.cell:=by decide +kernel
def csTwA_n:∀y∈csTwA.names,y.2=.local→csTwA.names.lookup y.1=some .local:=by decide +kernel
def csTwA_f:∀y∈csTwA.names,y.2=.free→(zag zdy).names.lookup y.1=some .cell∨(zag zdy).names.lookup y.1=some .free:=by decide +kernel
def csTwB_k:csTwB.kind=.function:=by rfl
def csTwB_c:∀y∈csTwB.names,y.2≠.cell:=by decide +kernel
def csTwB_n:∀y∈csTwB.names,y.2=.local→csTwB.names.lookup y.1=some .local:=by decide +kernel
def csTwB_f:∀y∈csTwB.names,y.2=.free→(zag zdy).names.lookup y.1=some .cell∨(zag zdy).names.lookup y.1=some .free:=by decide +kernel
def ndPA:(["place", "around"]:List Str).Nodup:=by decide +kernel
def scTwice:zap ["rows", "places", "names"] ["rows"] (zag zdy):=fsk
def noB(h1:sc.kind=.function)(h2:∀y∈sc.names,y.2≠.cell)(h3:∀y∈sc.names,y.2=.local→sc.names.lookup y.1=some .local)(h4:∀y∈sc.names,y.2=.free→X.env.scope.names.lookup y.1=some .cell∨X.env.scope.names.lookup y.1=some .free)(h5:n=M.length)(h6:M.Nodup):Blk X sc M (List.replicate n none):=⟨h1,h2,h3,h4,by rw [Jn,h5],h6,fun j i x _ h=>by
   have:=Yy h
   have:=(List.mem_replicate.mp this).2
   cases this⟩
def zid(hK:X.K=K)(hc:X.calm=true)(h:PGs X es t)(hn:(assignEach es X.env).length=n:=by rfl)(aq:(assignEach es X.env).findIdx? (·.1)=none:=by rfl):PG X (.Tuple es k pos) (gTup K n t):=hK▸zfc hc h hn aq
def ok_twice(F:Fun K "refuse_twice" "refuse_twice" zdy f fd)(af:mg "len" = none)(tM:mg "set" = none):FnOk P w K mg base CX0 1 f fd ["rows"] spTwice:=by
 refine F.okL scTwice (λcdv A outer s H vs Q E hr h=>?_)
 obtain⟨l,as,es,rfl,R,kY,ax,hok,k⟩:=h
 have hu:=zbz hr
 have av  := sizeLine_eq
 refine⟨_,zad (ps_lc (i:=1) (M:=["place", "around"]) (ix:=[none,none]) scTwice.nd rfl rfl (noB (n:=2) csTwA_k csTwA_c csTwA_n csTwA_f rfl ndPA) rfl (za8 (pv 0))
   (λC a7 ex s H=>zid (K:=K) (n:=2) rfl rfl (za4 (za9 0 ndPA) (za4 (za9 1 ndPA) zcl)))
   (λC a7 ex s H=>zck) (λC a7 ex s H=>pv 0) rfl)
  (zah (zbq Zr rfl (za8 (zav zd0 (zbd (zab (pv 1) zaf)) (zg8 (M:=["place", "around"]) (ix:=[none,none]) (noB (n:=2) csTwB_k csTwB_c csTwB_n csTwB_f rfl ndPA) rfl (za8 (pv 0))
   (λC a7 ex s H=>zid (K:=K) (n:=2) rfl rfl (za4 (za9 0 ndPA) (za4 (za9 1 ndPA) zcl)))
   (λC a7 ex s H=>zck) (λC a7 ex s H=>pv 1)))) (za9 2 scTwice.nd)
   (zah (zbp (zaq op_lt (zal zi4 (by rfl) af Zv (zab (zbe (zi1 rfl) (by rfl) tM PyProof.Rows.boot_set (zab (pv 2) zaf)) zaf))
    (zal zas (by rfl) af Zv (zab (pv 2) zaf)) (zba _)) (zah zfj) zaw)))),?_⟩
 have cV:as.length=es.length:=Yp R.ts
 refine⟨_,rfl,l,rfl,⟨_,SqL.of R.ls⟩,lc_at (xs:=as.map V.ref) (λ τ=>∃x0 x1,τ=[x0,x1]) ((es.map (·.1)).map V.str) (by rw[Qa,Qa,Qa,cV]) (SqL.of R.ls) (by rw[Qa];lia) ⟨none,none,rfl⟩ ?_ (λD hD=>?_)⟩
 ·rintro i hi dj τ ⟨x0,x1,rfl⟩ kk hk
  rw[Qa]at hi
  obtain⟨aF,fC⟩:=zbk R.ts hi
  rw[Zj]
  refine⟨as[i],_,rfl,SqT.of fC,rfl,_,_,rfl,_,_,rfl,rfl,_,rfl,?_⟩
  have e:((es.map (·.1)).map V.str)[i]=V.str es[i].1:=by rw[Zj,Zj]
  rw[e]at hk
  exact hk _ ⟨_,_,rfl⟩
 ·have k1:Keep [] H (upd H D (.lst ((es.map (·.1)).map V.str))):=Keep.new hD
  have hD1:(upd H D (.lst ((es.map (·.1)).map V.str))) D=some (.lst ((es.map (·.1)).map V.str)):=zac
  generalize upd H D (.lst ((es.map (·.1)).map V.str))=H1 at k1 hD1
  have R1:=R.keep k1
  refine⟨_,rfl,(by show 1≤sizeLine;decide),λq hq=>?_⟩
  have k2:Keep [] H1 (upd H1 q (.lst [.ref D])):=Keep.new hq
  have g7:(upd H1 q (.lst [.ref D])) q=some (.lst [.ref D]):=zac
  generalize upd H1 q (.lst [.ref D])=H2 at k2 g7
  have R2:=R1.keep k2
  refine⟨_,rfl,l,rfl,⟨_,SqL.of R2.ls⟩,lc_at (xs:=as.map V.ref) (λ τ=>∃x0 x1,τ=[x0,x1]) (es.map λe=>V.ref e.2.2) (by rw[Qa,Qa,cV]) (SqL.of R2.ls) (by rw[Qa];lia) ⟨none,none,rfl⟩ ?_ (λD2 dl=>?_)⟩
  ·rintro i hi dj τ ⟨x0,x1,rfl⟩ kk hk
   rw[Qa]at hi
   obtain⟨aF,fC⟩:=zbk R2.ts hi
   rw[Zj]
   refine⟨as[i],_,rfl,SqT.of fC,rfl,_,_,rfl,_,_,rfl,rfl,_,rfl,?_⟩
   rw[Zj]at hk
   exact hk _ ⟨_,_,rfl⟩
  ·have k3:Keep [] H2 (upd H2 D2 (.lst (es.map fun e=>V.ref e.2.2))):=Keep.new dl
   have gF:(upd H2 D2 (.lst (es.map λe=>V.ref e.2.2))) D2=some (.lst (es.map λe=>V.ref e.2.2)):=zac
   generalize upd H2 D2 (.lst (es.map λe=>V.ref e.2.2))=H3 at k3 gF
   refine⟨q,D2,_,_,rfl,rfl,k3 _ _ g7 (by simp),gF,(by rw[Qa];show 1+_≤sizeLine;lia),λq4 hq4=>?_⟩
   have k4:Keep [] H3 (upd H3 q4 (.lst ([V.ref D]++es.map λe=>V.ref e.2.2))):=Keep.new hq4
   have ki:(upd H3 q4 (.lst ([V.ref D]++es.map λe=>V.ref e.2.2))) q4=some (.lst ([V.ref D]++es.map λe=>V.ref e.2.2)):=zac
   generalize upd H3 q4 (.lst ([V.ref D]++es.map λe=>V.ref e.2.2))=H4 at k4 ki
   have iU:Keep [] H H4:=((k1.trans k2).trans k3).trans k4
   refine⟨q4,rfl,⟨_,SqL.of ki⟩,zby (xs:=[V.ref D]++es.map λe=>V.ref e.2.2) (λi σ H'=>Aj2 (Keep [] H4 H') (Ex2 λx1 x2=>σ=[some (.ref l),x1,x2])) ⟨Keep.refl,_,_,rfl⟩ (λi σ H' _ hh=>SqL.of (hh.1 _ _ ki (by simp))) ?_ ?_⟩
   ·rintro i y σ H5 hy ⟨k5,x1,x2,rfl⟩
    obtain⟨a,zs,rfl,ha,cE,dG⟩:∃(a:Nb) (zs:Ng),y=V.ref a∧H5 a=some (.lst (zs.map V.str))∧zs.Nodup∧zs.length≤100:=by
     rcases Qi.mp (Yy hy) with z | z
     ·refine ⟨D,es.map (·.1),Qb.mp z,?_,ax,by rw [Qa];exact Zk kY (by decide)⟩
      exact k5 _ _ (k4 _ _ (k3 _ _ (k2 _ _ hD1 (by simp)) (by simp)) (by simp)) (by simp)
     ·obtain ⟨e,he,rfl⟩:=Qf.mp z
      exact⟨e.2.2,e.2.1,rfl,k5 _ _ (iU _ _ (R.ro e he) (by simp)) (by simp),(hok e he).2,(hok e he).1⟩
    refine⟨_,rfl,a,zs,rfl,SqL.of ha,cE,by lia,λt ht=>?_⟩
    have sx:a≠t:=zaa ha ht
    refine⟨t,zs,rfl,zac,by lia,_,rfl,a,_,rfl,.inl (SqL.of (by rw[zae sx];exact ha)),_,_,rfl,rfl,_,rfl,zcq (decide_eq_false (by rw[Qa];lia)) ?_⟩
    exact⟨k5.trans (Keep.new ht),_,_,rfl⟩
   ·rintro σ H5 ⟨k5,x1,x2,rfl⟩
    exact k H5 (iU.trans k5)
end
end K21
end
section
namespace K21
open PySem L2 Wb
abbrev sLeast:Stmt:=top 25
inductive IspLeast(vs:List V)(H:Hp)(Q:VK):Prop
 |mk (a:Nb) (zs:Ng) (h0:vs=[.ref a]) (h1:H a=some (.lst (zs.map V.str))) (h2:zs.length≤100) (h3:∀(t:Nb) (j:Nat) (H':Hp),j≤zs.length→H' t=some (.tup ((zs.drop j++zs.take j).map V.str))→H t=none→Keep [] H H'→Q (.ref t) H'):IspLeast vs H Q
def spLeast:Sp:=λvs H Q _=>IspLeast vs H Q
def paired_map{α β γ:Type}{R:α→γ→Prop}{f:β→γ}:∀{as:List α} {bs:List β},Paired (λa b=>R a (f b)) as bs→Paired R as (bs.map f):=by
 intro as bs r
 induction r with
 |nil=>exact .nil
 |cons h t ih=>exact .cons h ih
section
variable{P:Ni}{w:Nk}{K:Na}{mg:Nd}{base:Nm}
def zei:zap ["rows", "rounds", "one", "around", "other"] ["rows"] (zag zh6):=fsk
def ok_oneway{f:Nb}{fd:No}(F:Fun K "refuse_one_way" "refuse_one_way" zh6 f fd)(aP:mg "dict" = none):FnOk P w K mg base CX0 1 f fd ["rows"] spOneWay:=by
 refine F.okL zei (λcdv A outer s H vs Q E hr h=>?_)
 obtain⟨l,as,es,rfl,R,ax,hok,k⟩:=h
 have hu:=zbz hr
 have av  := sizeLine_eq
 refine⟨_,zad (zau 1 zei.nd (zbe (zhc rfl) (by rfl) aP Wu (zab (pv 0) zaf)))
  (zah (zbq Zr rfl (za8 (pv 0)) (zfc rfl (za4 (za9 2 zei.nd) (za4 (za9 3 zei.nd) zcl)))
   (zah (zbq Zr rfl (za8 (pv 3)) (za9 4 zei.nd)
    (zah (zbp (PW.pt (pw_or (zaq op_eq (pv 4) (pv 2) (zba _)) (zhi (zaq zct (pv 2) (pe_dget2 hu (pv 1) (pv 4) (zbd zaf) ⟨rfl,rfl,rfl,rfl⟩) rfl)))) (zah zfj) zaw)))))),?_⟩
 have qU:(es.map λe:Ent=>(e.1,V.ref e.2.2)).map (·.1)=es.map (·.1):=by rw[Ze];rfl
 refine⟨_,rfl,l,as,es.map λe=>(e.1,V.ref e.2.2),rfl,R.ls,paired_map R.ts,by rw[qU];exact ax,λd hd=>?_⟩
 have hpd:((es.map λe:Ent=>(e.1,V.ref e.2.2)).map λp=>((Sum.inr p.1:Key),p.2))=eV es:=by rw[Ze];rfl
 rw[hpd]
 have k1:Keep [] H (upd H d (.dK (eV es))):=Keep.new hd
 have kZ:(upd H d (.dK (eV es))) d=some (.dK (eV es)):=zac
 generalize upd H d (.dK (eV es))=H1 at k1 kZ
 have R1:=R.keep k1
 refine⟨_,rfl,l,rfl,⟨_,SqL.of R1.ls⟩,zby (xs:=as.map V.ref) (λi σ H'=>Aj2 (Keep [] H1 H') (Ex3 λx2 x3 x4=>σ=[some (.ref l),some (.ref d),x2,x3,x4])) ⟨Keep.refl,none,none,none,rfl⟩ (λi σ H' _ hh=>SqL.of (hh.1 _ _ R1.ls (by simp))) ?_ ?_⟩
 ·rintro i y σ H2 hx ⟨k2,x2,x3,x4,rfl⟩
  have hi:i<as.length:=by
   have:=(Zd.mp hx).1
   rwa[Qa]at this
  have jK:y=.ref as[i]:=by
   rw[Qq,Qd hi]at hx
   exact(Qk hx).symm
  subst jK
  obtain⟨aF,fC⟩:=zbk R1.ts hi
  obtain⟨gR,bm⟩:=hok _ (Qv aF)
  have cM:=k2 _ _ (R1.ro _ (Qv aF)) (by simp)
  refine⟨as[i],_,rfl,SqT.of (k2 _ _ fC (by simp)),rfl,_,_,rfl,_,_,rfl,rfl,?_⟩
  refine⟨_,rfl,es[i].2.2,rfl,⟨_,SqL.of cM⟩,zby (xs:=es[i].2.1.map V.str) (λj σ H'=>Aj2 (Keep [] H2 H') (Ex1 λx4=>σ=[some (.ref l),some (.ref d),some (.str es[i].1),some (.ref es[i].2.2),x4])) ⟨Keep.refl,_,rfl⟩ (λj σ H' _ hh=>SqL.of (hh.1 _ _ cM (by simp))) ?_ ?_⟩
  ·rintro j y σ H3 hy ⟨k3,y4,rfl⟩
   obtain⟨z,hz,rfl⟩:=Qf.mp (Yy hy)
   obtain⟨e',aN,rg,aE⟩:=bm z hz
   have az:z≠es[i].1:=λq=>gR (q▸hz)
   have pk:=k3 _ _ (k2 _ _ kZ (by simp)) (by simp)
   refine⟨_,rfl,_,rfl,rfl,_,rfl,zcq (decide_eq_false (λq=>az (by injection q))) ?_⟩
   refine⟨_,rfl,_,rfl,d,rfl,.inl ⟨_,.inl pk⟩,_,rfl,(by show 0≤sizeLine;decide),λq hq=>?_⟩
   have ndq:d≠q:=zaa pk hq
   have vk:(upd H3 q (.lst [])) d=some (.dK (eV es)):=by rw[zae ndq];exact pk
   have gP:(upd H3 q (.lst [])) e'.2.2=some (.lst (e'.2.1.map V.str)):=by
    have h3:=k3 _ _ (k2 _ _ (R1.ro e' aN) (by simp)) (by simp)
    rw[zae (zaa h3 hq)];exact h3
   have dg:=DGet.k (k:=Sum.inr z) vk
   rw[←rg,zbu ax aN,rg]at dg
   refine⟨_,dg,e'.2.2,_,rfl,.inl (SqL.of gP),rfl,zce _,_,rfl,?_⟩
   refine zcq (by rw[if_pos rfl,ze7,decide_eq_true aE];rfl) ?_
   exact⟨k3.trans (Keep.new hq),_,rfl⟩
  ·rintro σ H3 ⟨k3,y4,rfl⟩
   exact⟨k2.trans k3,_,_,_,rfl⟩
 ·rintro σ H2 ⟨k2,x2,x3,x4,rfl⟩
  exact k H2 (k1.trans k2)
def scLeast:zap ["around", "at"] ["around"] (zag sLeast):=fsk
def ok_least(F:Fun K "from_least" "from_least" sLeast f fd)(ga:mg "min" = none)(tq:mg "tuple" = none):FnOk P w K mg base CX0 1 f fd ["around"] spLeast:=by
 refine F.okL scLeast (λcdv A outer s H vs Q E hr h=>?_)
 obtain⟨a,zs,rfl,ha,hz,k⟩:=h
 have av  := sizeLine_eq
 refine⟨_,zad (zau 1 scLeast.nd (pe_ifExp (zft (pv 0) (by intro _;rfl)) (zd8 Zq Ku Kt zil (pv 0) (zab (zal (zi2 rfl) (by rfl) ga Xg (zab (pv 0) zaf)) zaf)) zai))
  (zah (zbn (zbe zi0 (by rfl) tq PyProof.Rows.boot_tuple (zab (zav zd0 (zcs zc9 (pv 0) (zc0 (pv 1)) zd7) (zcs zc9 (pv 0) zd7 (zc0 (pv 1)))) zaf)))),?_⟩
 have aJ:(zs.map V.str).length=zs.length:=Qa ..
 refine⟨_,rfl,_,.inl ⟨_,SqL.of ha,rfl⟩,?_⟩
 by_cases sS:zs=[]
 ·refine zcq (by rw [sS];rfl) ?_
  have h0:0≤zs.length:=Zg _
  refine⟨_,rfl,_,rfl,_,rfl,a,_,rfl,SqL.of ha,λp1 h1=>?_⟩
  have n1:a≠p1:=zaa ha h1
  refine⟨_,rfl,_,rfl,_,rfl,a,_,rfl,SqL.of (by rw[zae n1];exact ha),λp2 h2=>?_⟩
  have cX:p1≠p2:=zaa (o:=_) zac h2
  refine⟨p1,p2,_,_,rfl,rfl,(by rw[zae cX];exact zac),zac,?_,λp3 h3=>?_⟩
  ·have q1:=zb0 (zs.map V.str) (some (0:Int)) none
   have q2:=zb0 (zs.map V.str) none (some (0:Int))
   rw[aJ]at q1 q2
   show _+_≤sizeLine
   lia
  have ecut:cutV (zs.map V.str) (some (0:Int)) none++cutV (zs.map V.str) none (some (0:Int))=(zs.drop (0:Nat)++zs.take (0:Nat)).map V.str:=by
   show cutV (zs.map V.str) (some (((0:Nat)):Int)) none++cutV (zs.map V.str) none (some (((0:Nat)):Int))=_
   rw[zfz (by rw[aJ];exact h0),cut_to (by rw[aJ];exact h0),Qp,Jq,Uh]
  rw[ecut]
  refine⟨p3,_,rfl,.inl ⟨SqL.of zac,λt ht=>?_⟩⟩
  have kk:Keep [] H _:=(((Keep.new h1).trans (Keep.new h2)).trans (Keep.new h3)).trans (Keep.new (o:=.tup ((zs.drop (0:Nat)++zs.take (0:Nat)).map V.str)) ht)
  exact k t (0:Nat) _ h0 zac (zak (xs:=[]) (((Keep.new h1).trans (Keep.new h2)).trans (Keep.new h3)) ht (by simp)) kk
 ·refine zdv (by cases hh:zs with
   |nil=>exact absurd hh sS
   |cons _ _=>rfl) ?_
  refine⟨_,rfl,.inl ⟨rfl,_,SqL.of ha⟩,_,rfl,a,zs,rfl,SqL.of ha,sS,λz bJ _=>?_⟩
  obtain⟨i1,i2⟩:=zir bJ
  have hj:zs.idxOf z≤zs.length:=Ug (idx_lt bJ)
  refine⟨a,_,_,_,rfl,rfl,ha,rfl,zce _,i1,i2,?_⟩
  refine⟨_,rfl,_,rfl,_,rfl,a,_,rfl,SqL.of ha,λp1 h1=>?_⟩
  have n1:a≠p1:=zaa ha h1
  refine⟨_,rfl,_,rfl,_,rfl,a,_,rfl,SqL.of (by rw[zae n1];exact ha),λp2 h2=>?_⟩
  have cX:p1≠p2:=zaa (o:=_) zac h2
  refine⟨p1,p2,_,_,rfl,rfl,(by rw[zae cX];exact zac),zac,?_,λp3 h3=>?_⟩
  ·have q1:=zb0 (zs.map V.str) (some ((zs.idxOf z):Int)) none
   have q2:=zb0 (zs.map V.str) none (some ((zs.idxOf z):Int))
   rw[aJ]at q1 q2
   show _+_≤sizeLine
   lia
  have ecut:cutV (zs.map V.str) (some ((zs.idxOf z):Int)) none++cutV (zs.map V.str) none (some ((zs.idxOf z):Int))=(zs.drop (zs.idxOf z)++zs.take (zs.idxOf z)).map V.str:=by
   rw[zfz (by rw[aJ];exact hj),cut_to (by rw[aJ];exact hj),Qp,Jq,Uh]
  rw[ecut]
  refine⟨p3,_,rfl,.inl ⟨SqL.of zac,λt ht=>?_⟩⟩
  have kk:Keep [] H _:=(((Keep.new h1).trans (Keep.new h2)).trans (Keep.new h3)).trans (Keep.new (o:=.tup ((zs.drop (zs.idxOf z)++zs.take (zs.idxOf z)).map V.str)) ht)
  exact k t (zs.idxOf z) _ hj zac (zak (xs:=[]) (((Keep.new h1).trans (Keep.new h2)).trans (Keep.new h3)) ht (by simp)) kk
end
end K21
end
section
namespace Wb
section lk
variable{β:Type}
def Lk(f:β→β):β→List β→β→Prop
 |s,[],e=>f s=e
 |s,x::t,e=>f s=x∧Lk f x t e
def lk_app:∀{A:List β} {s:β},Lk f s (A++x::B) e↔Lk f s A x∧Lk f x B e:=by
 intro A
 induction A with
 |nil=>intro s;exact Iff.rfl
 |cons a t ih =>
  intro s
  show f s=a∧Lk f a (t++x::B) e↔(f s=a∧Lk f a t x)∧Lk f x B e
  rw[ih,and_assoc]
def lk_congr:∀{t:List β} {s:β},(∀y,y=s∨y∈t→g y=f y)→Lk f s t e→Lk g s t e:=by
 intro t
 induction t with
 |nil=>intro s h k;exact(h s (.inl rfl)).trans k
 |cons a t ih =>
  intro s h k
  refine⟨(h s (.inl rfl)).trans k.1,ih (λy hy=>h y (.inr ?_)) k.2⟩
  rcases hy with z | z
  ·rw[z];exact Qc
  ·exact Qg _ z
def Cyc(f:β→β)(c:List β):Prop:=∃s t,c=s::t∧Lk f s t s
def zc4(h:Cyc f (A++x::B)):Lk f x (B++A) x:=by
 obtain⟨s,t,e,k⟩:=h
 cases A with
 |nil =>
  cases e
  rw[Zy];exact k
 |cons a A' =>
  cases e
  obtain⟨k1,k2⟩:=lk_app.mp k
  exact lk_app.mpr ⟨k2,k1⟩
def zeu(h:∀y∈c,g y=f y)(k:Cyc f c):Cyc g c:=by
 obtain⟨s,t,e,k⟩:=k
 subst e
 exact⟨s,t,rfl,lk_congr (λy hy=>h y (Qe.mpr hy)) k⟩
end lk
section nx
variable{α:Type}[DecidableEq α]
def zbb{A B:List α}{w:α}(h:w∉A):(B++A++[w]).head?=some (nxt (A++w::B) w):=by
 have hi:(A++w::B).idxOf w=A.length:=by
  rw[List.idxOf_append,if_neg h,List.idxOf_cons_self];lia
 unfold nxt
 rw[hi,Qs,Qz]
 cases B with
 |nil =>
  have e:(A.length+1)%(A.length+(([]:List α).length+1))=0:=by simp
  rw[e]
  cases A with
  |nil=>rfl
  |cons a t=>rfl
 | cons b t =>
  have e:(A.length+1)%(A.length+((b::t).length+1))=A.length+1:=Nat.mod_eq_of_lt (by rw[Qz];lia)
  rw[e]
  have:(A++w::b::t).getD (A.length+1) w=b:=by
   rw[Zs,Uw (by exact Yl _ _)]
   have:A.length+1-A.length=1:=by lia
   rw[this];rfl
  rw[this];rfl
def zbt{zs:List α}{c:α}(h:c∈zs)(nd:zs.Nodup):∃A B,zs=A++c::B∧c∉A∧c∉B:=by
 obtain⟨A,B,e⟩:=Yn h
 refine⟨A,B,e,?_,?_⟩
 ·rw [e,Zb] at nd
  exact λz=>nd.2.2 _ z _ Qc rfl
 ·rw [e,Zb,Qr] at nd
  exact nd.2.1.1
def zcx{A B:List α}{c n:α}(h:c∉A):ins (A++c::B) (some c) n=A++c::n::B:=by
 have hi:(A++c::B).idxOf c=A.length:=by
  rw[List.idxOf_append,if_neg h,List.idxOf_cons_self];lia
 show(A++c::B).take ((A++c::B).idxOf c+1)++n::(A++c::B).drop ((A++c::B).idxOf c+1)=_
 rw[hi]
 have e1:(A++c::B).take (A.length+1)=A++[c]:=by
  rw[List.take_append,Qx (by exact Yl _ _)]
  have:A.length+1-A.length=1:=by lia
  rw[this];rfl
 have e2:(A++c::B).drop (A.length+1)=B:=by
  rw[List.drop_append,List.drop_of_length_le (by exact Yl _ _)]
  have:A.length+1-A.length=1:=by lia
  rw[this];rfl
 rw[e1,e2,Qy];rfl
variable{zs:List α}{c n:α}
def zea(hc:c∈zs)(nd:zs.Nodup){w:α}:w∈ins zs (some c) n↔w=n∨w∈zs:=by
 obtain⟨A,B,rfl,h1,h2⟩:=zbt hc nd
 rw[zcx h1]
 simp only[Qi,Qe]
 constructor
 ·rintro (h | h | h | h)
  ·exact .inr (.inl h)
  ·exact .inr (.inr (.inl h))
  ·exact .inl h
  ·exact .inr (.inr (.inr h))
 ·rintro (h | h | h | h)
  ·exact .inr (.inr (.inl h))
  ·exact .inl h
  ·exact .inr (.inl h)
  ·exact .inr (.inr (.inr h))
def zio(hc:c∈zs)(nd:zs.Nodup):(ins zs (some c) n).length=zs.length+1:=by
 obtain⟨A,B,rfl,h1,h2⟩:=zbt hc nd
 rw[zcx h1]
 simp only[Qs,Qz];lia
def nd_ins(hc:c∈zs)(nd:zs.Nodup)(hn:n∉zs):(ins zs (some c) n).Nodup:=by
 obtain⟨A,B,rfl,h1,h2⟩:=zbt hc nd
 rw[zcx h1]
 rw[Zb,Qr]at nd
 rw[Qi,Qe,not_or,not_or]at hn
 obtain⟨nA,⟨ncB,nB⟩,nAB⟩:=nd
 rw[Zb,Qr,Qr]
 refine⟨nA,⟨?_,hn.2.2,nB⟩,λa ha b hb=>?_⟩
 ·rw[Qe,not_or];exact⟨λe=>hn.2.1 e.symm,ncB⟩
 ·rcases Qe.mp hb with z | z
  ·rw[z];exact nAB a ha c Qc
  ·rcases Qe.mp z with y | y
   ·rw[y];exact λe=>hn.1 (e▸ha)
   ·exact nAB a ha b (Qg _ y)
def zeq(hc:c∈zs)(nd:zs.Nodup):nxt (ins zs (some c) n) c=n:=by
 obtain⟨A,B,rfl,h1,h2⟩:=zbt hc nd
 rw[zcx h1]
 have k:=zbb (B:=n::B) h1
 exact(Qk k).symm
def zgg(hc:c∈zs)(nd:zs.Nodup)(hn:n∉zs):nxt (ins zs (some c) n) n=nxt zs c:=by
 obtain⟨A,B,rfl,h1,h2⟩:=zbt hc nd
 rw[zcx h1]
 rw[Qi,Qe,not_or,not_or]at hn
 have e:A++c::n::B=(A++[c])++n::B:=by rw[Qy];rfl
 have ug:n∉A++[c]:=by
  rw[Qi,not_or,Qb];exact⟨hn.1,hn.2.1⟩
 have k1:=zbb (B:=B) ug
 have k2:=zbb (B:=B) h1
 rw[←e]at k1
 refine Qk (k1.symm.trans (Eq.trans ?_ k2))
 cases B with
 |cons b t=>rfl
 |nil=>cases A with
  |nil=>rfl
  |cons a t=>rfl
def zdd(hc:c∈zs)(nd:zs.Nodup)(hn:n∉zs){w:α}(hw:w∈zs)(sZ:w≠c):nxt (ins zs (some c) n) w=nxt zs w:=by
 obtain⟨A,B,rfl,h1,h2⟩:=zbt hc nd
 rw[zcx h1]
 rw[Zb,Qr]at nd
 obtain⟨nA,⟨ncB,nB⟩,nAB⟩:=nd
 rw[Qi,Qe,not_or,not_or]at hn
 rcases Qi.mp hw with h | h
 ·obtain ⟨A1,A2,rfl,g1,g2⟩:=zbt h nA
  have k1:=zbb (A:=A1) (B:=A2++c::n::B) g1
  have k2:=zbb (A:=A1) (B:=A2++c::B) g1
  rw[Qy,Uy,Qy,Uy]
  refine Qk (k1.symm.trans (Eq.trans ?_ k2))
  cases A2<;>rfl
 ·rcases Qe.mp h with z | z
  ·exact absurd z sZ
  ·obtain ⟨B1,B2,rfl,g1,g2⟩:=zbt z nB
   have hwA:w∉A:=λq=>nAB _ q _ (Qg _ z) rfl
   have dL:w≠n:=λq=>hn.2.2 (q▸z)
   have m1:w∉A++c::n::B1:=by
    simp only[Qi,Qe,not_or];exact⟨hwA,sZ,dL,g1⟩
   have m2:w∉A++c::B1:=by
    simp only[Qi,Qe,not_or];exact⟨hwA,sZ,g1⟩
   have k1:=zbb (B:=B2) m1
   have k2:=zbb (B:=B2) m2
   have e1:A++c::n::(B1++w::B2)=(A++c::n::B1)++w::B2:=by rw[Qy];rfl
   have e2:A++c::(B1++w::B2)=(A++c::B1)++w::B2:=by rw[Qy];rfl
   rw[e1,e2]
   refine Qk (k1.symm.trans (Eq.trans ?_ k2))
   cases B2 with
   |cons b t=>rfl
   |nil=>cases A<;>rfl
def nxt_rot(nd:zs.Nodup)(k:Nat){w:α}(hw:w∈zs):nxt (zs.drop k++zs.take k) w=nxt zs w:=by
 obtain⟨A,B,rfl,h1,h2⟩:=zbt hw nd
 have k2:=zbb (B:=B) h1
 by_cases hk:k≤A.length
 ·have e:(A++w::B).drop k++(A++w::B).take k=A.drop k++w::(B++A.take k):=by
   rw[List.drop_append,List.take_append]
   have:k-A.length=0:=by lia
   rw[this,List.drop_zero,List.take_zero,Zy,Qy];rfl
  have k1:=zbb (A:=A.drop k) (B:=B++A.take k) (λz=>h1 (List.mem_of_mem_drop z))
  rw[e]
  refine Qk (k1.symm.trans (Eq.trans ?_ k2))
  rw[Qy B,Yz]
 ·have e:(A++w::B).drop k++(A++w::B).take k=(B.drop (k - A.length - 1)++A)++w::B.take (k - A.length - 1):=by
   rw[List.drop_append,List.take_append,List.drop_of_length_le (by lia),Qx (by lia)]
   have:k-A.length=(k-A.length-1)+1:=by lia
   conv=>lhs;rw[this]
   rw[List.drop_succ_cons,List.take_succ_cons,Jw,Qy]
  have k1:=zbb (A:=B.drop (k-A.length-1)++A) (B:=B.take (k-A.length-1)) (λz=>by
   rcases Qi.mp z with y | y
   ·exact h2 (List.mem_of_mem_drop y)
   ·exact h1 y)
  rw[e]
  refine Qk (k1.symm.trans (Eq.trans ?_ k2))
  rw[←Qy,Yz]
end nx
section
variable{α:Type}[DecidableEq α]
def st(r:α→List α)(s:α×α):α×α:=(s.2,nxt (r s.2) s.1)
inductive Conn(r:α→List α)(x:α):α→Prop
 |refl:Conn r x x
 |step {y z:α}:Conn r x y→z∈r y→Conn r x z
def Conn.trans{r:α→List α}{x y z:α}(a:Conn r x y)(b:Conn r y z):Conn r x z:=by
 induction b with
 |refl=>exact a
 |step _ h ih=>exact .step ih h
def Conn.mono(h:∀x y,y∈r x→y∈r' x)(a:Conn r x y):Conn r' x y:=by
 induction a with
 |refl=>exact .refl
 |step _ hz ih=>exact .step ih (h _ _ hz)
def wt(ns:List α)(r:α→List α)(aa:α→α)(t:α):Int:=(ns.map λx=>if aa x=t then 2+(if r x=[] then 2 else 0)-((r x).length:Int) else 0).sum
def ct(cs:List (List (α×α)))(aa:α→α)(t:α):Int:=(cs.map λc=>if(c.any λs=>decide (aa s.1=t))=true then(2:Int) else 0).sum
structure Cert(ns:List α)(r:α→List α)(cs:List (List (α×α)))(aa:α→α):Prop where
 nd:ns.Nodup
 ro:∀x,x∉ns→r x=[]
 rn:∀x,(r x).Nodup
 ir:∀x,x∉r x
 sy:∀x y,y∈r x→x∈r y
 cf:cs.flatten.Nodup
 cm:∀s,s∈cs.flatten↔s.1∈r s.2
 cy:∀c∈cs,Cyc (st r) c
 ln:∀x∈ns,aa x∈ns
 la:∀x y,y∈r x→aa y=aa x
 co:∀x∈ns,∀y∈ns,aa x=aa y→Conn r x y
 eu:∀x∈ns,wt ns r aa (aa x)+ct cs aa (aa x)=4
variable{ns:List α}{r r':α→List α}{cs:List (List (α×α))}{aa:α→α}
def Cert.inn(C:Cert ns r cs aa){x y:α}(h:y∈r x):x∈ns:=Kj λz=>by rw[C.ro x z]at h;cases h
def Cert.inn'(C:Cert ns r cs aa){x y:α}(h:y∈r x):y∈ns:=C.inn (C.sy x y h)
def zey{g g':α→Int}:∀ {l:List α},l.Nodup→a∈l→(∀ x∈l,x≠a→g' x=g x)→(l.map g').sum=(l.map g).sum+(g' a - g a):=by
 intro l
 induction l with
 |nil=>intro _ h;cases h
 | cons b t ih =>
  intro nd h e
  rw[Qr]at nd
  rw[Ql,Ql,Zm,Zm]
  by_cases hb:b=a
  ·have:(t.map g').sum=(t.map g).sum:=by
    congr 1
    exact Yj λx hx=>e x (Qg _ hx) λz=>nd.1 (by rw[hb,←z];exact hx)
   rw[this,hb];lia
  ·have h':a∈t:=by
    rcases Qe.mp h with z | z
    ·exact absurd z.symm hb
    ·exact z
   rw[ih nd.2 h' λx hx=>e x (Qg _ hx),e b Qc hb];lia
def zcb{β:Type}{g g':β→Int}{l:List β}(h:∀x∈l,g' x=g x):(l.map g').sum=(l.map g).sum:=by
 congr 1;exact Yj h
def ziy(C:Cert ns r cs aa){N R:List (List (α×α))}{c0 news:List (α×α)}(hR:∀c∈R,c∈cs)(cj:cs.flatten.Perm (c0++R.flatten))(hN:N.flatten.Perm (news++c0))(ax:news.Nodup)(aZ:∀s∈news,s.1∉r s.2)(hmem:∀s:α×α,s.1∈r' s.2↔s∈news∨s.1∈r s.2)(pq:∀c∈N,Cyc (st r') c)(aq:∀s:α×α,s.1∈r s.2→s∉c0→st r' s=st r s) :
  (N++R).flatten.Nodup∧(∀s,s∈(N++R).flatten↔s.1∈r' s.2)∧∀c∈N++R,Cyc (st r') c:=by
 have hp:(N++R).flatten.Perm (news++cs.flatten):=by
  rw[Wh]
  refine(List.Perm.append_right _ hN).trans ?_
  rw[Qy]
  exact Ya _ cj.symm
 refine⟨?_,λs=>?_,λc hc=>?_⟩
 ·rw [hp.nodup_iff,Zb]
  exact⟨ax,C.cf,λa ha b hb e=>aZ a ha (by rw[e];exact(C.cm b).mp hb)⟩
 ·rw[hp.mem_iff,Qi,hmem,C.cm]
 ·rcases Qi.mp hc with z | z
  ·exact pq c z
  ·refine zeu (fun y hy=>?_) (C.cy c (hR c z))
   have hyR:y∈R.flatten:=Zu.mpr ⟨c,z,hy⟩
   refine aq y ((C.cm y).mp (cj.mem_iff.mpr (Qn _ hyR))) λqw=>?_
   have:=cj.nodup_iff.mp C.cf
   rw[Zb]at this
   exact this.2.2 y qw y hyR rfl
def zdn{β:Type}{g:β→Int}:∀{l:List β},(∀x∈l,g x=0)→(l.map g).sum=0:=by
 intro l
 induction l with
 |nil=>intro _;rfl
 |cons a t ih =>
  intro h
  rw[Ql,Zm,h a Qc,ih λx hx=>h x (Qg _ hx)];rfl
def Cert.inc(C:Cert ns r cs aa){c:List (α×α)}(hc:c∈cs){s:α×α}(hs:s∈c):s.1∈r s.2:=(C.cm s).mp (Zu.mpr ⟨c,hc,hs⟩)
def ct_lab{ah:α→α}{t:α}(h:∀c∈cs,∀s∈c,ah s.1=aa s.1):ct cs ah t=ct cs aa t:=by
 refine zcb λc hc=>?_
 have:(c.any λs=>decide (ah s.1=t))=c.any λs=>decide (aa s.1=t):=by
  rw[Wj,Yq,Yq]
  constructor
  ·rintro⟨s,hs,e⟩;exact⟨s,hs,by rwa[h c hc s hs]at e⟩
  ·rintro⟨s,hs,e⟩;exact⟨s,hs,by rw[h c hc s hs];exact e⟩
 rw[this]
def cert_new(C:Cert ns r cs aa){x:α}(hx:x∉ns){ah:α→α}(hl:∀y∈ns,ah y=aa y)(bu:ah x=x):Cert (ns++[x]) r cs ah:=by
 have qK:r x=[]:=C.ro x hx
 have ne:∀{y},y∈ns→y≠x:=λ{y} hy e=>hx (e▸hy)
 have aE:∀c∈cs,∀s∈c,s.1∈ns:=λc hc s hs=>C.inn' (C.inc hc hs)
 have lT:∀t,ct cs ah t=ct cs aa t:=λt=>ct_lab λc hc s hs=>hl _ (aE c hc s hs)
 have lx:∀y∈ns,aa y≠x:=λy hy e=>hx (e▸C.ln y hy)
 have vm:ct cs aa x=0:=zdn λc hc=>if_neg λz=>by
  obtain⟨s,hs,e⟩:=Yq.mp z
  exact lx _ (aE c hc s hs) (of_decide_eq_true e)
 have hw:∀t,wt (ns++[x]) r ah t=wt ns r aa t+if x=t then 4 else 0:=λt=>by
  unfold wt
  rw[Qp,List.sum_append,Ql,Jk,Zm,List.sum_nil]
  congr 1
  ·exact zcb λz hz=>by rw[hl z hz]
  ·rw[bu,qK];simp
 refine⟨?_,λy hy=>C.ro y λz=>hy (Qo _ z),C.rn,C.ir,C.sy,C.cf,C.cm,C.cy,λy hy=>?_,λy z hz=>?_,λy hy z hz e=>?_,λy hy=>?_⟩
 ·rw [Zb]
  exact⟨C.nd,Qr.mpr ⟨by simp,Zn⟩,λa ha b hb=>by rw[Qb.mp hb];exact ne ha⟩
 ·rcases Qi.mp hy with h | h
  ·rw[hl y h];exact Qo _ (C.ln y h)
  ·rw[Qb.mp h,bu];exact Qn _ Qc
 ·rw[hl _ (C.inn' hz),hl _ (C.inn hz)];exact C.la y z hz
 ·rcases Qi.mp hy with h | h <;> rcases Qi.mp hz with g | g
  ·rw[hl _ h,hl _ g]at e;exact C.co y h z g e
  ·rw [hl _ h,Qb.mp g,bu] at e
   exact absurd e (lx y h)
  ·rw [hl _ g,Qb.mp h,bu] at e
   exact absurd e.symm (lx z g)
  ·rw[Qb.mp h,Qb.mp g];exact .refl
 ·rw [lT,hw]
  rcases Qi.mp hy with h | h
  ·rw [hl _ h,if_neg (fun z=>lx y h z.symm)]
   have:=C.eu y h;lia
  ·rw [Qb.mp h,bu,if_pos rfl,vm]
   have:wt ns r aa x=0:=zdn λz hz=>if_neg (lx z hz)
   rw[this];rfl
end
section
variable{β:Type}
def zim:∀{t:List β},g s'=f s→(∀y∈t,g y=f y)→Lk f s t e→Lk g s' t e:=by
 intro t
 cases t with
 |nil=>intro h _ k;exact h.trans k
 |cons a t =>
  intro h hh k
  exact⟨h.trans k.1,lk_congr (λy hy=>hh y (Qe.mpr hy)) k.2⟩
def lk_lab{γ:Type}{f:β→β}{lb:β→γ}{e:β}:∀{t:List β} {s:β},(∀y,y=s∨y∈t→lb (f y)=lb y)→Lk f s t e→∀y∈t,lb y=lb s:=by
 intro t
 induction t with
 |nil=>intro s _ _ y hy;cases hy
 | cons a t ih =>
  intro s h k y hy
  have ha:lb a=lb s:=by rw[←k.1];exact h s (.inl rfl)
  rcases Qe.mp hy with z | z
  ·rw[z];exact ha
  ·rw [← ha]
   exact ih (λy hy=>h y (.inr (Qe.mpr hy))) k.2 y z
def zie{l m:List Int}(h:l.Perm m):l.sum=m.sum:=by
 induction h with
 |nil=>rfl
 |cons x _ ih=>rw[Zm,Zm,ih]
 |swap x y l=>rw[Zm,Zm,Zm,Zm];omega
 |trans _ _ a b=>exact a.trans b
end
section
variable{α:Type}[DecidableEq α]{ns:List α}{r r':α→List α}{cs:List (List (α×α))}{aa ah:α→α}
def ct_perm{cs':List (List (α×α))}(h:cs.Perm cs')(t:α):ct cs aa t=ct cs' aa t:=zie (h.map _)
def zdi(c:List (α×α))(t:α):ct (c::cs) aa t=(if(c.any λs=>decide (aa s.1=t))=true then(2:Int) else 0)+ct cs aa t:=by
 unfold ct;rw[List.map_cons,List.sum_cons]
def Cert.one_lab(C:Cert ns r cs aa){c:List (α×α)}(hc:c∈cs){s u:α×α}(hs:s∈c)(hu:u∈c):aa u.1=aa s.1:=by
 obtain⟨A,B,rfl⟩:=Yn hs
 have k:=zc4 (C.cy _ hc)
 have hl:∀y,y=s∨y∈B++A→aa (st r y).1=aa y.1:=λy hy=>by
  have fI:y∈A++s::B:=by
   rcases hy with z | z
   ·rw[z];exact hs
   ·rcases Qi.mp z with q | q
    ·exact Qn _ (Qg _ q)
    ·exact Qo _ q
  exact(C.la _ _ (C.inc hc fI)).symm
 rcases Qi.mp hu with z | z
 ·exact lk_lab (lb:=λy:α×α=>aa y.1) hl k u (Qn _ z)
 ·rcases Qe.mp z with q | q
  ·rw[q]
  ·exact lk_lab (lb:=λy:α×α=>aa y.1) hl k u (Qo _ q)
def zdl{c:List (α×α)}(h:∀s∈c,aa s.1=u)(az:c≠[]):(c.any λs=>decide (aa s.1=t))=decide (u=t):=by
 rw[Wj,Yq,decide_eq_true_iff]
 constructor
 ·rintro⟨s,hs,e⟩;rw[←h s hs];exact of_decide_eq_true e
 ·intro e
  cases c with
  |nil=>exact absurd rfl az
  |cons s _=>exact⟨s,Qc,decide_eq_true ((h s Qc).trans e)⟩
def zb3(hc:c∈cs):cs.flatten.Perm (c++(cs.erase c).flatten):=by
 have:=List.Perm.flatten (Jr hc)
 rwa[Yx]at this
def zfh(C:Cert ns r cs aa)(hp:p∈ns)(hx:x∉ns)(h1:r' x=[p])(h3:∀ y,y≠x→y≠p→r' y=r y)(hm:∀ w,w∈r' p↔w=x∨w∈r p)(hn:(r' p).Nodup)(af:(r' p).length=(r p).length+1)(hl:∀y∈ns,ah y=aa y)(bu:ah x=aa p)(hc:cs'.flatten.Nodup∧(∀s,s∈cs'.flatten↔s.1∈r' s.2)∧∀c∈cs',Cyc (st r') c)(lT:∀t,ct cs' ah t=ct cs aa t+if aa p=t then(if r p=[] then 2 else 0) else 0):Cert (ns++[x]) r' cs' ah:=by
 have eU:p≠x:=λe=>hx (e▸hp)
 have qK:r x=[]:=C.ro x hx
 have ne:∀{y},y∈ns→y≠x:=λ{y} hy e=>hx (e▸hy)
 have sub:∀z y,y∈r z→y∈r' z:=λz y hy=>by
  by_cases hz:z=p
  ·rw[hz]at hy ⊢;exact(hm y).mpr (.inr hy)
  ·rw[h3 z (ne (C.inn hy)) hz];exact hy
 have hw:∀t,wt (ns++[x]) r' ah t=wt ns r aa t-if aa p=t then(if r p=[] then 2 else 0) else 0:=λt=>by
  unfold wt
  rw[Qp,List.sum_append,Ql,Jk,Zm,List.sum_nil,bu,h1]
  have e1:(ns.map λy=>if ah y=t then(2:Int)+(if r' y=[] then 2 else 0)-((r' y).length:Int) else 0).sum=(ns.map λy=>if aa y=t then(2:Int)+(if r' y=[] then 2 else 0)-((r' y).length:Int) else 0).sum :=
   zcb λy hy=>by rw[hl y hy]
  rw[e1,zey (g:=λy=>if aa y=t then(2:Int)+(if r y=[] then 2 else 0)-((r y).length:Int) else 0) C.nd hp (λy hy aY=>by rw[h3 y (ne hy) aY])]
  have az:r' p≠[]:=λe=>by rw[e]at af;simp at af
  by_cases ht:aa p=t
  ·simp only [ht,if_true,az,if_false,af]
   by_cases gQ:r p=[]
   ·simp[gQ];omega
   ·simp[gQ];omega
  ·simp only[ht,if_false];omega
 refine⟨?_,λy hy=>?_,λy=>?_,λy=>?_,λy z hz=>?_,hc.1,hc.2.1,hc.2.2,λy hy=>?_,λy z hz=>?_,λy hy z hz e=>?_,λy hy=>?_⟩
 ·rw [Zb]
  exact⟨C.nd,Qr.mpr ⟨by simp,Zn⟩,λa ha b hb=>by rw[Qb.mp hb];exact ne ha⟩
 ·rw [Qi,not_or,Qb] at hy
  rw[h3 y hy.2 (λe=>hy.1 (e▸hp))];exact C.ro y hy.1
 ·by_cases dJ:y=x
  ·rw[dJ,h1];exact Qr.mpr ⟨by simp,Zn⟩
  ·by_cases aY:y=p
   ·rw[aY];exact hn
   ·rw[h3 y dJ aY];exact C.rn y
 ·by_cases dJ:y=x
  ·rw[dJ,h1,Qb];exact Qw eU
  ·by_cases aY:y=p
   ·rw[aY,hm,not_or];exact⟨eU,C.ir p⟩
   ·rw[h3 y dJ aY];exact C.ir y
 ·by_cases dJ:y=x
  ·rw [dJ,h1,Qb] at hz
   rw[hz,dJ];exact(hm x).mpr (.inl rfl)
  ·by_cases aY:y=p
   ·rw [aY] at hz ⊢
    rcases(hm z).mp hz with q | q
    ·rw[q,h1];exact Qc
    ·exact sub z p (C.sy p z q)
   ·rw [h3 y dJ aY] at hz
    exact sub z y (C.sy y z hz)
 ·rcases Qi.mp hy with h | h
  ·rw[hl y h];exact Qo _ (C.ln y h)
  ·rw[Qb.mp h,bu];exact Qo _ (C.ln p hp)
 ·by_cases dJ:y=x
  ·rw [dJ,h1,Qb] at hz
   rw[hz,dJ,bu,hl p hp]
  ·by_cases aY:y=p
   ·rw [aY] at hz ⊢
    rcases(hm z).mp hz with q | q
    ·rw[q,bu,hl p hp]
    ·rw[hl _ (C.inn' q),hl p hp];exact C.la p z q
   ·rw [h3 y dJ aY] at hz
    rw[hl _ (C.inn' hz),hl _ (C.inn hz)];exact C.la y z hz
 ·have xp:Conn r' x p:=.step .refl (by rw [h1];exact Qc)
  rcases Qi.mp hy with h | h<;>rcases Qi.mp hz with g | g
  ·rw[hl _ h,hl _ g]at e;exact(C.co y h z g e).mono sub
  ·rw [hl _ h,Qb.mp g,bu] at e
   rw[Qb.mp g]
   exact .step ((C.co y h p hp e).mono sub) ((hm x).mpr (.inl rfl))
  ·rw [hl _ g,Qb.mp h,bu] at e
   rw[Qb.mp h]
   exact xp.trans ((C.co p hp z g e).mono sub)
  ·rw[Qb.mp h,Qb.mp g];exact .refl
 ·have key:∀ u∈ns,wt (ns++[x]) r' ah (aa u)+ct cs' ah (aa u)=4:=fun u hu=>by
   rw[hw,lT]
   have:=C.eu u hu;omega
  rcases Qi.mp hy with h | h
  ·rw[hl _ h];exact key y h
  ·rw[Qb.mp h,bu];exact key p hp
def zij(p:α):nxt [p] p=p:=by
 unfold nxt
 simp
def leaf_mem(C:Cert ns r cs aa)(hp:p∈ns)(hx:x∉ns)(h1:r' x=[p])(h3:∀ y,y≠x→y≠p→r' y=r y)(hm:∀ w,w∈r' p↔w=x∨w∈r p) :
  ∀s:α×α,s.1∈r' s.2↔s∈[(x,p),(p,x)]∨s.1∈r s.2:=λs=>by
 obtain⟨a,b⟩:=s
 have eU:p≠x:=λe=>hx (e▸hp)
 show a∈r' b↔(a,b)∈[(x,p),(p,x)]∨a∈r b
 rw[Qe,Qb,Prod.mk.injEq,Prod.mk.injEq]
 by_cases rp:b=x
 ·subst rp
  rw[h1,C.ro b hx,Qb]
  constructor
  ·intro e;exact .inl (.inr ⟨e,rfl⟩)
  ·rintro ((⟨_,e⟩ | ⟨e,_⟩) | e)
   ·exact absurd e.symm eU
   ·exact e
   ·cases e
 ·by_cases jl:b=p
  ·subst jl
   rw[hm]
   constructor
   ·rintro (e | e)
    ·exact .inl (.inl ⟨e,rfl⟩)
    ·exact .inr e
   ·rintro ((⟨e,_⟩ | ⟨_,e⟩) | e)
    ·exact .inl e
    ·exact absurd e rp
    ·exact .inr e
  ·rw [h3 b rp jl]
   constructor
   ·exact .inr
   ·rintro ((⟨_,e⟩ | ⟨_,e⟩) | e)
    ·exact absurd e jl
    ·exact absurd e rp
    ·exact e
def leaf_nd(eU:p≠x):([(x,p),(p,x)]:List (α×α)).Nodup:=by
 rw[Qr,Qb]
 exact⟨λe=>eU (Ut e).1.symm,Qr.mpr ⟨by simp,Zn⟩⟩
def leaf_no(C:Cert ns r cs aa)(hx:x∉ns):∀s∈([(x,p),(p,x)]:List (α×α)),s.1∉r s.2:=λs hs h=>by
 rcases Qe.mp hs with e | e
 ·rw[e]at h;exact hx (C.inn' h)
 ·rw[Qb.mp e]at h;exact hx (C.inn h)
def cert_leaf0(C:Cert ns r cs aa)(hp:p∈ns)(hx:x∉ns)(qL:r p=[])(h1:r' x=[p])(h2:r' p=[x])(h3:∀ y,y≠x→y≠p→r' y=r y)(hl:∀ y∈ns,ah y=aa y)(bu:ah x=aa p) :
  Cert (ns++[x]) r' ([(x,p),(p,x)]::cs) ah:=by
 have eU:p≠x:=λe=>hx (e▸hp)
 have hm:∀w,w∈r' p↔w=x∨w∈r p:=λw=>by rw[h2,qL,Qb];simp
 refine zfh C hp hx h1 h3 hm (by rw[h2];exact Qr.mpr ⟨by simp,Zn⟩) (by rw[h2,qL];rfl) hl bu ?_ λt=>?_
 ·refine ziy (N:=[[(x,p),(p,x)]]) (R:=cs) (c0:=[]) (news:=[(x,p),(p,x)]) C (fun c h=>h) (by rw [Jw]) (by simp) (leaf_nd eU) (leaf_no C hx) (leaf_mem C hp hx h1 h3 hm) (fun c hc=>?_) fun s hs _=>?_
  ·rw [Qb.mp hc]
   refine⟨(x,p),[(p,x)],rfl,?_,?_⟩
   ·show (p,nxt (r' p) x)=(p,x)
    rw[h2,zij]
   ·show (x,nxt (r' x) p)=(x,p)
    rw[h1,zij]
  ·have tF:s.2≠x:=fun e=>hx (e ▸ C.inn hs)
   have cc:s.2≠p:=λe=>by rw[e,qL]at hs;cases hs
   unfold st;rw[h3 s.2 tF cc]
 ·rw [zdi,zdl (u:=aa p) (fun s hs=>?_) (by simp)]
  ·have:ct cs ah t=ct cs aa t:=ct_lab fun c hc s hs=>hl _ (C.inn' (C.inc hc hs))
   rw[this]
   simp only[decide_eq_true_eq,qL,if_true]
   lia
  ·rcases Qe.mp hs with e | e
   ·rw[e];exact bu
   ·rw[Qb.mp e];exact hl p hp
def cert_leaf(C:Cert ns r cs aa)(hp:p∈ns)(hx:x∉ns)(hc:c∈r p)(h1:r' x=[p])(h2:r' p=ins (r p) (some c) x)(h3:∀ y,y≠x→y≠p→r' y=r y)(hl:∀ y∈ns,ah y=aa y)(bu:ah x=aa p) :
  ∃cs',Cert (ns++[x]) r' cs' ah:=by
 have eU:p≠x:=λe=>hx (e▸hp)
 have iY:x∉r p:=λh=>hx (C.inn' h)
 have hm:∀w,w∈r' p↔w=x∨w∈r p:=λw=>by rw[h2];exact zea hc (C.rn p)
 obtain⟨c1,bw,dw⟩:=Zu.mp ((C.cm (c,p)).mpr hc)
 obtain⟨A,B,hU⟩:=Yn dw
 have k:=zc4 (hU▸C.cy c1 bw)
 have old:∀y∈c1,y.1∈r y.2:=λy hy=>C.inc bw hy
 have nd1:c1.Nodup:=by
  have:=(zb3 bw).nodup_iff.mp C.cf
  rw[Zb]at this
  exact this.1
 have aq:∀s:α×α,s.1∈r s.2→s≠(c,p)→st r' s=st r s:=λs hs az=>by
  have tF:s.2≠x:=λe=>hx (e▸C.inn hs)
  by_cases cc:s.2=p
  ·unfold st
   rw[cc,h2]
   rw[cc]at hs
   rw[zdd hc (C.rn p) iY hs (λe=>az (Jb e cc))]
  ·unfold st;rw[h3 s.2 tF cc]
 have inBA:∀y∈B++A,y∈c1∧y≠(c,p):=λy hy=>by
  rw[hU]at nd1 ⊢
  rw[Zb,Qr]at nd1
  rcases Qi.mp hy with z | z
  ·exact⟨Qn _ (Qg _ z),λe=>nd1.2.1.1 (e▸z)⟩
  ·exact⟨Qo _ z,λe=>nd1.2.2 y z (c,p) Qc e⟩
 refine⟨[(c,p)::(p,x)::(x,p)::(B++A)]++cs.erase c1,zfh C hp hx h1 h3 hm (by rw[h2];exact nd_ins hc (C.rn p) iY) (by rw[h2];exact zio hc (C.rn p)) hl bu ?_ λt=>?_⟩
 ·refine ziy (c0:=c1) (news:=[(x,p),(p,x)]) C (fun c h=>Uc h) (zb3 bw) ?_ (leaf_nd eU) (leaf_no C hx) (leaf_mem C hp hx h1 h3 hm) (fun c' bZ=>?_) fun s hs hn=>aq s hs fun e=>hn (e ▸ dw)
  ·rw [hU]
   refine Kb.mpr λa=>?_
   simp only[Yx,List.flatten_nil,Zy,Kn,Xe,List.count_nil]
   lia
  ·rw [Qb.mp bZ]
   refine⟨(c,p),_,rfl,?_,?_,zim (f:=st r) (s:=(c,p)) ?_ (λy hy=>aq y (old y (inBA y hy).1) (inBA y hy).2) k⟩
   ·show (p,nxt (r' p) c)=(p,x)
    rw[h2,zeq hc (C.rn p)]
   ·show (x,nxt (r' x) p)=(x,p)
    rw[h1,zij]
   ·show (p,nxt (r' p) x)=(p,nxt (r p) c)
    rw[h2,zgg hc (C.rn p) iY]
 ·have az:r p≠[]:=Jg hc
  have e2:ct cs aa t=ct (c1::cs.erase c1) aa t:=ct_perm (Jr bw) t
  have e3:ct (cs.erase c1) ah t=ct (cs.erase c1) aa t:=ct_lab λc h s hs=>hl _ (C.inn' (C.inc (Uc h) hs))
  have lc:∀s∈c1,aa s.1=aa p:=λs hs=>(C.one_lab bw dw hs).trans (C.la p c hc)
  rw[e2,zdi,Xi,zdi,e3,zdl (u:=aa p) lc (Jg dw),zdl (u:=aa p) (λs hs=>?_) (by simp),if_neg az]
  ·simp
  ·rcases Qe.mp hs with e | hs
   ·rw[e];exact(hl _ (C.inn' hc)).trans (C.la p c hc)
   ·rcases Qe.mp hs with e | hs
    ·rw[e];exact hl p hp
    ·rcases Qe.mp hs with e | hs
     ·rw[e];exact bu
     ·rw[hl _ (C.inn' (old s (inBA s hs).1))];exact lc s (inBA s hs).1
def cert_tie(C:Cert ns r cs aa)(bw:c1∈cs)(dw:(c,p)∈c1)(dQ:(a,o)∈c1)(lP:o≠p)(aZ:o∉r p)(h1:r' p=ins (r p) (some c) o)(h2:r' o=ins (r o) (some a) p)(h3:∀ y,y≠p→y≠o→r' y=r y) :
  ∃cs',Cert ns r' cs' aa:=by
 have hc:c∈r p:=C.inc bw dw
 have ha:a∈r o:=C.inc bw dQ
 have hp:p∈ns:=C.inn hc
 have ho:o∈ns:=C.inn ha
 have qW:p∉r o:=λh=>aZ (C.sy o p h)
 have lQ:∀w,w∈r' p↔w=o∨w∈r p:=λw=>by rw[h1];exact zea hc (C.rn p)
 have cI:∀w,w∈r' o↔w=p∨w∈r o:=λw=>by rw[h2];exact zea ha (C.rn o)
 have gf:aa o=aa p:=by
  rw[←C.la o a ha,←C.la p c hc];exact C.one_lab bw dw dQ
 obtain⟨A,B,hU⟩:=Yn dw
 have k:=zc4 (hU▸C.cy c1 bw)
 have old:∀y∈c1,y.1∈r y.2:=λy hy=>C.inc bw hy
 have nd1:c1.Nodup:=by
  have:=(zb3 bw).nodup_iff.mp C.cf
  rw[Zb]at this
  exact this.1
 have tR:(a,o)∈B++A:=by
  rw[hU]at dQ
  rcases Qi.mp dQ with z | z
  ·exact Qn _ z
  ·rcases Qe.mp z with q | q
   ·exact absurd (Ut q).2 lP
   ·exact Qo _ q
 obtain⟨A2,B2,pV⟩:=Yn tR
 rw[pV]at k
 obtain⟨k1,k2⟩:=lk_app.mp k
 have pm:c1.Perm ((c,p)::(A2++(a,o)::B2)):=by
  rw[hU,←pV]
  refine Kb.mpr λa=>?_
  simp only[Kn,Xe]
  lia
 have jB:=pm.nodup_iff.mp nd1
 rw[Qr,Zb,Qr]at jB
 obtain⟨n1,n2,⟨n3,n4⟩,n5⟩:=jB
 have inA:∀y∈A2,y∈c1∧y≠(c,p)∧y≠(a,o):=λy hy=>⟨pm.mem_iff.mpr (Qg _ (Qo _ hy)),λe=>n1 (e▸Qo _ hy),λe=>n5 y hy (a,o) Qc e⟩
 have inB:∀y∈B2,y∈c1∧y≠(c,p)∧y≠(a,o):=λy hy=>⟨pm.mem_iff.mpr (Qg _ (Qn _ (Qg _ hy))),λe=>n1 (e▸Qn _ (Qg _ hy)),λe=>n3 (e▸hy)⟩
 have aq:∀s:α×α,s.1∈r s.2→s≠(c,p)→s≠(a,o)→st r' s=st r s:=λs hs gR bm=>by
  by_cases cc:s.2=p
  ·unfold st
   rw[cc,h1]
   rw[cc]at hs
   rw[zdd hc (C.rn p) aZ hs (λe=>gR (Jb e cc))]
  ·by_cases j7:s.2=o
   ·unfold st
    rw[j7,h2]
    rw[j7]at hs
    rw[zdd ha (C.rn o) qW hs (λe=>bm (Jb e j7))]
   ·unfold st;rw[h3 s.2 cc j7]
 have sub:∀z y,y∈r z→y∈r' z:=λz y hy=>by
  by_cases hz:z=p
  ·rw[hz]at hy ⊢;exact(lQ y).mpr (.inr hy)
  ·by_cases dI:z=o
   ·rw[dI]at hy ⊢;exact(cI y).mpr (.inr hy)
   ·rw[h3 z hz dI];exact hy
 have hmem:∀s:α×α,s.1∈r' s.2↔s∈[(o,p),(p,o)]∨s.1∈r s.2:=λs=>by
  obtain⟨u,b⟩:=s
  show u∈r' b↔(u,b)∈[(o,p),(p,o)]∨u∈r b
  rw[Qe,Qb,Prod.mk.injEq,Prod.mk.injEq]
  by_cases jl:b=p
  ·subst jl
   rw[lQ]
   constructor
   ·rintro (e | e)
    ·exact .inl (.inl ⟨e,rfl⟩)
    ·exact .inr e
   ·rintro ((⟨e,_⟩ | ⟨_,e⟩) | e)
    ·exact .inl e
    ·exact absurd e.symm lP
    ·exact .inr e
  ·by_cases vp:b=o
   ·subst vp
    rw[cI]
    constructor
    ·rintro (e | e)
     ·exact .inl (.inr ⟨e,rfl⟩)
     ·exact .inr e
    ·rintro ((⟨_,e⟩ | ⟨e,_⟩) | e)
     ·exact absurd e jl
     ·exact .inl e
     ·exact .inr e
   ·rw [h3 b jl vp]
    constructor
    ·exact .inr
    ·rintro ((⟨_,e⟩ | ⟨_,e⟩) | e)
     ·exact absurd e jl
     ·exact absurd e vp
     ·exact e
 have nnd:([(o,p),(p,o)]:List (α×α)).Nodup:=by
  rw[Qr,Qb]
  exact⟨λe=>lP (Ut e).1,Qr.mpr ⟨by simp,Zn⟩⟩
 have eG:=ziy (N:=[(c,p)::(p,o)::B2,(a,o)::(o,p)::A2]) (R:=cs.erase c1) (c0:=c1) (news:=[(o,p),(p,o)]) (r':=r') C (λc h=>Uc h) (zb3 bw) (by
   refine List.Perm.trans ?_ (Ya _ pm.symm)
   refine Kb.mpr λa=>?_
   simp only[Yx,List.flatten_nil,Zy,Kn,Xe,List.count_nil]
   lia) nnd (λs hs h=>by
    rcases Qe.mp hs with e | e
    ·rw[e]at h;exact aZ h
    ·rw[Qb.mp e]at h;exact qW h) hmem (λc' bZ=>by
   rcases Qe.mp bZ with e | e
   ·rw [e]
    refine⟨(c,p),_,rfl,?_,zim (f:=st r) (s:=(a,o)) ?_ (λy hy=>aq y (old y (inB y hy).1) (inB y hy).2.1 (inB y hy).2.2) k2⟩
    ·show (p,nxt (r' p) c)=(p,o)
     rw[h1,zeq hc (C.rn p)]
    ·show (o,nxt (r' o) p)=(o,nxt (r o) a)
     rw[h2,zgg ha (C.rn o) qW]
   ·rw [Qb.mp e]
    refine⟨(a,o),_,rfl,?_,zim (f:=st r) (s:=(c,p)) ?_ (λy hy=>aq y (old y (inA y hy).1) (inA y hy).2.1 (inA y hy).2.2) k1⟩
    ·show (o,nxt (r' o) a)=(o,p)
     rw[h2,zeq ha (C.rn o)]
    ·show (p,nxt (r' p) o)=(p,nxt (r p) c)
     rw[h1,zgg hc (C.rn p) aZ]) λs hs hn=>aq s hs (λe=>hn (e▸dw)) λe=>hn (e▸dQ)
 refine⟨_,C.nd,λy hy=>?_,λy=>?_,λy=>?_,λy z hz=>?_,eG.1,eG.2.1,eG.2.2,C.ln,λy z hz=>?_,λy hy z hz e=>(C.co y hy z hz e).mono sub,λy hy=>?_⟩
 ·rw[h3 y (λe=>hy (e▸hp)) (λe=>hy (e▸ho))];exact C.ro y hy
 ·by_cases aY:y=p
  ·rw[aY,h1];exact nd_ins hc (C.rn p) aZ
  ·by_cases fH:y=o
   ·rw[fH,h2];exact nd_ins ha (C.rn o) qW
   ·rw[h3 y aY fH];exact C.rn y
 ·by_cases aY:y=p
  ·rw[aY,lQ,not_or];exact⟨Qw lP,C.ir p⟩
  ·by_cases fH:y=o
   ·rw[fH,cI,not_or];exact⟨lP,C.ir o⟩
   ·rw[h3 y aY fH];exact C.ir y
 ·by_cases aY:y=p
  ·rw [aY] at hz ⊢
   rcases(lQ z).mp hz with q | q
   ·rw[q];exact(cI p).mpr (.inl rfl)
   ·exact sub z p (C.sy p z q)
  ·by_cases fH:y=o
   ·rw [fH] at hz ⊢
    rcases(cI z).mp hz with q | q
    ·rw[q];exact(lQ o).mpr (.inl rfl)
    ·exact sub z o (C.sy o z q)
   ·rw [h3 y aY fH] at hz
    exact sub z y (C.sy y z hz)
 ·by_cases aY:y=p
  ·rw [aY] at hz ⊢
   rcases(lQ z).mp hz with q | q
   ·rw[q];exact gf
   ·exact C.la p z q
  ·by_cases fH:y=o
   ·rw [fH] at hz ⊢
    rcases(cI z).mp hz with q | q
    ·rw[q];exact gf.symm
    ·exact C.la o z q
   ·rw [h3 y aY fH] at hz
    exact C.la y z hz
 ·have e2:ct cs aa (aa y)=ct (c1::cs.erase c1) aa (aa y):=ct_perm (Jr bw) _
  have lc:∀s∈c1,aa s.1=aa p:=λs hs=>(C.one_lab bw dw hs).trans (C.la p c hc)
  have l1:∀s∈(c,p)::(p,o)::B2,aa s.1=aa p:=λs hs=>by
   rcases Qe.mp hs with e | hs
   ·rw[e];exact C.la p c hc
   ·rcases Qe.mp hs with e | hs
    ·rw[e]
    ·exact lc s (inB s hs).1
  have l2:∀s∈(a,o)::(o,p)::A2,aa s.1=aa p:=λs hs=>by
   rcases Qe.mp hs with e | hs
   ·rw[e];exact(C.la o a ha).trans gf
   ·rcases Qe.mp hs with e | hs
    ·rw[e];exact gf
    ·exact lc s (inA s hs).1
  have lT:ct ([(c,p)::(p,o)::B2,(a,o)::(o,p)::A2]++cs.erase c1) aa (aa y)=ct cs aa (aa y)+if aa p=aa y then 2 else 0:=by
   rw[e2,zdi,Uy,zdi,Uy,zdi,Jw,zdl lc (Jg dw),zdl l1 (by simp),zdl l2 (by simp)]
   simp only[decide_eq_true_eq]
   split<;>lia
  have hw:wt ns r' aa (aa y)=wt ns r aa (aa y)-if aa p=aa y then 2 else 0:=by
   have au:∀{zs:List α} {w n:α},w∈zs→zs.Nodup→ins zs (some w) n≠[]:=λ{zs w n} hw nd e=>by
    have:=zio (n:=n) hw nd
    rw[e]at this;simp at this
   unfold wt
   have s1:=zey (g:=λx=>if aa x=aa y then(2:Int)+(if r x=[] then 2 else 0)-((r x).length:Int) else 0)
    (g':=λx=>if x=p then(if aa p=aa y then(2:Int)+(if r' p=[] then 2 else 0)-((r' p).length:Int) else 0) else if aa x=aa y then(2:Int)+(if r x=[] then 2 else 0)-((r x).length:Int) else 0) C.nd hp (λx _ hx=>if_neg hx)
   have s2:=zey (g:=λx=>if x=p then(if aa p=aa y then(2:Int)+(if r' p=[] then 2 else 0)-((r' p).length:Int) else 0) else if aa x=aa y then(2:Int)+(if r x=[] then 2 else 0)-((r x).length:Int) else 0)
    (g':=fun x=>if aa x=aa y then (2:Int)+(if r' x=[] then 2 else 0) - ((r' x).length:Int) else 0) C.nd ho (fun x _ hx=>by
     by_cases iY:x=p
     ·rw[if_pos iY,iY]
     ·rw[if_neg iY,h3 x iY hx])
   rw[s2,s1]
   simp only[if_true,lP,if_false,gf,h1,h2,au hc (C.rn p),au ha (C.rn o),zio hc (C.rn p),zio ha (C.rn o),Jg hc,Jg ha]
   by_cases ht:aa p=aa y
   ·simp only[ht,if_true];lia
   ·simp only[ht,if_false];lia
  rw[lT,hw]
  have:=C.eu y hy
  lia
end
section
variable{α:Type}[DecidableEq α]
def Good(rs:Rs α):Prop:=∃cs aa,Cert (rs.map (·.1)) (row rs) cs aa
def ziv{β:Type}{f:β→β}{c:List β}(h:Cyc f c){s:β}(hs:s∈c):f s∈c:=by
 obtain⟨A,B,rfl⟩:=Yn hs
 have k:=zc4 h
 cases e:B++A with
 |nil =>
  rw[e]at k
  rw[show f s=s from k];exact hs
 |cons a t =>
  rw[e]at k
  rw[k.1]
  have:a∈B++A:=by rw[e];exact Qc
  rcases Qi.mp this with z | z
  ·exact Qn _ (Qg _ z)
  ·exact Qo _ z
variable{rs:Rs α}
def zdb(nd:(rs.map (·.1)).Nodup){p:α×List α}(h:p∈rs):row rs p.1=p.2:=by
 unfold row
 induction rs with
 |nil=>cases h
 | cons a t ih =>
  rw[Ql,Qr]at nd
  rcases Qe.mp h with z | z
  ·subst z;rw[Wc (by simp)];rfl
  ·rw [Wd]
   ·exact ih nd.2 z
   ·intro q
    exact nd.1 (by rw[of_decide_eq_true q];exact Qf.mpr ⟨p,z,rfl⟩)
def ze1(h:x∉rs.map (·.1)):row rs x=[]:=by
 unfold row
 rw[List.find?_eq_none.mpr]
 ·rfl
 ·intro p hp q
  exact h (of_decide_eq_true q▸Qf.mpr ⟨p,hp,rfl⟩)
def zbx(nd:(rs.map (·.1)).Nodup){s:α×α}:IsSt rs s↔s.1∈row rs s.2:=by
 constructor
 ·rintro ⟨p,hp,e,h⟩
  rw[←e,zdb nd hp];exact h
 ·intro h
  by_cases hx:s.2∈rs.map (·.1)
  ·obtain ⟨p,hp,e⟩:=Qf.mp hx
   have e':p.1=s.2:=e
   rw[←e',zdb nd hp]at h
   exact⟨p,hp,e',h⟩
  ·rw[ze1 hx]at h;cases h
def zbc(x:α)(rr:List α):(zaz rs x rr).map (·.1)=rs.map (·.1):=by
 unfold zaz
 rw[Ze]
 refine Yj λp _=>?_
 show(if p.1=x then(p.1,rr) else p).1=p.1
 split<;>rfl
def za7{x:α}{rr:List α}(h:x∈rs.map (·.1)):row (zaz rs x rr) x=rr:=by
 unfold row zaz
 induction rs with
 |nil=>cases h
 | cons a t ih =>
  rw[Ql]
  by_cases hx:a.1=x
  ·rw[if_pos hx,Wc (by simpa using hx)];rfl
  ·rw [if_neg hx,Wd (by simpa using hx)]
   refine ih ?_
   rw[Ql]at h
   rcases Qe.mp h with z | z
   ·exact absurd z.symm hx
   ·exact z
def za5{x y:α}{rr:List α}(h:y≠x):row (zaz rs x rr) y=row rs y:=by
 unfold row zaz
 induction rs with
 |nil=>rfl
 | cons a t ih =>
  rw[Ql]
  by_cases hy:a.1=y
  ·have hx:a.1≠x:=fun e=>h (hy ▸ e)
   rw[if_neg hx,Wc (by simpa using hy),Wc (by simpa using hy)]
  ·have h1:(if a.1=x then (a.1,rr) else a).1=a.1:=by split <;> rfl
   rw[Wd (by rw[h1];simpa using hy),Wd (by simpa using hy)]
   exact ih
def zh9{x:α}(h:x∉rs.map (·.1)):row (rs++[(x,[])])=row rs:=by
 funext y
 unfold row
 rw[List.find?_append]
 cases e:rs.find? λp=>decide (p.1=y) with
 |some p=>rfl
 |none =>
  rw[Option.none_or]
  by_cases hy:x=y
  ·rw[Wc (by simpa using hy)];rfl
  ·rw[Wd (by simpa using hy)];rfl
theorem za1:Gen (Good (α:=α)) where
 clo:=λrs ⟨cs,aa,C⟩ s hs=>by
  obtain⟨c,hc,h⟩:=Zu.mp ((C.cm s).mpr ((zbx C.nd).mp hs))
  exact(zbx C.nd).mpr ((C.cm _).mp (Zu.mpr ⟨c,hc,ziv (C.cy c hc) h⟩))
 nd:=λrs ⟨cs,aa,C⟩=>C.nd
 sub:=λrs ⟨cs,aa,C⟩ p hp=>by
  have e:=zdb C.nd hp
  exact⟨e▸C.rn p.1,λx hx=>C.inn' (x:=p.1) (by rw[e];exact hx)⟩
 sy:=λrs ⟨cs,aa,C⟩ p hp x hx=>C.sy p.1 x (by rw[zdb C.nd hp];exact hx)
 nil:=by
  refine⟨[],id,⟨Zn,λ_ _=>rfl,λ_=>Zn,λ_ h=>?_,λ_ _ h=>?_,Zn,λs=>⟨λh=>?_,λh=>?_⟩,λc h=>?_,λ_ h=>?_,λ_ _ h=>?_,λ_ h=>?_,λ_ h=>?_⟩⟩
  ·exact absurd h (by simp[row])
  ·exact absurd h (by simp[row])
  ·cases h
  ·exact absurd h (by simp[row])
  ·cases h
  ·cases h
  ·exact absurd h (by simp[row])
  ·cases h
  ·cases h
 new:=λrs x ⟨cs,aa,C⟩ hx=>by
  refine⟨cs,λy=>if y=x then x else aa y,?_⟩
  rw[zh9 hx,Qp]
  exact cert_new C hx (λy hy=>if_neg (λe:y=x=>hx (e▸hy))) (if_pos rfl)
 leaf:=λrs x p c ⟨cs,aa,C⟩ hx hp hc fB=>by
  have eV:p.1∈rs.map (·.1):=Qf.mpr ⟨p,hp,rfl⟩
  have eU:p.1≠x:=λe=>hx (e▸eV)
  have e0:(zaz (zaz (rs++[(x,[])]) p.1 (ins p.2 c x)) x [p.1]).map (·.1)=rs.map (·.1)++[x]:=by rw[zbc,zbc,Qp];rfl
  have sW:x∈(zaz (rs++[(x,[])]) p.1 (ins p.2 c x)).map (·.1):=by rw[zbc,Qp];exact Qn _ Qc
  have u8:p.1∈(rs++[(x,([]:List α))]).map (·.1):=by rw[Qp];exact Qo _ eV
  have r1:row (zaz (zaz (rs++[(x,[])]) p.1 (ins p.2 c x)) x [p.1]) x=[p.1]:=za7 sW
  have r2:row (zaz (zaz (rs++[(x,[])]) p.1 (ins p.2 c x)) x [p.1]) p.1=ins p.2 c x:=by rw[za5 eU,za7 u8]
  have r3:∀y,y≠x→y≠p.1→row (zaz (zaz (rs++[(x,[])]) p.1 (ins p.2 c x)) x [p.1]) y=row rs y:=λy h1 h2=>by rw[za5 h1,za5 h2,zh9 hx]
  have er:=zdb C.nd hp
  have hl:∀y∈rs.map (·.1),(λy=>if y=x then aa p.1 else aa y) y=aa y:=λy hy=>if_neg (λe:y=x=>hx (e▸hy))
  have bu:(λy=>if y=x then aa p.1 else aa y) x=aa p.1:=if_pos rfl
  unfold Good
  rw[e0]
  cases c with
  |none =>
   have h0:=fB rfl
   refine⟨_,_,cert_leaf0 C eV hx (er.trans h0) r1 ?_ r3 hl bu⟩
   rw[r2,h0];rfl
  |some y =>
   have hy:=hc y rfl
   obtain⟨cs',C'⟩:=cert_leaf C eV hx (c:=y) (by rw[er];exact hy) r1 (by rw[r2,er]) r3 hl bu
   exact⟨cs',_,C'⟩
 tie:=λrs c p n ⟨cs,aa,C⟩ hp hc h1 h2=>by
  have er:=zdb C.nd hp
  obtain⟨c1,bw,dw⟩:=Zu.mp ((C.cm (c,p.1)).mpr (by rw[er];exact hc))
  have dQ:∀n,itr rs (c,p.1) n∈c1:=λn=>by
   induction n with
   |zero=>exact dw
   |succ n ih=>exact ziv (C.cy c1 bw) ih
  have dP:=dQ n
  generalize itr rs (c,p.1) n=q at h1 h2 dP
  have eV:p.1∈rs.map (·.1):=Qf.mpr ⟨p,hp,rfl⟩
  have oh:q.2∈rs.map (·.1):=C.inn (C.inc bw dP)
  unfold Good
  rw[zbc,zbc]
  obtain⟨cs',C'⟩:=cert_tie (r':=row (zaz (zaz rs p.1 (ins p.2 (some c) q.2)) q.2 (ins (row rs q.2) (some q.1) p.1))) C bw dw (a:=q.1) (o:=q.2) dP h1 (by rw[er];exact h2)
   (by rw[za5 (Qw h1),za7 eV,er]) (by rw[za7 (by rw[zbc];exact oh)]) (λy h3 h4=>by rw[za5 h4,za5 h3])
  exact⟨cs',aa,C'⟩
end
section
variable{α:Type}[DecidableEq α]{ns sv:List α}{r r':α→List α}{cs:List (List (α×α))}{aa:α→α}
def zfs(zs:List α)(k:Nat):(zs.drop k++zs.take k).Perm zs:=by
 refine Yw.trans ?_
 rw[Yz]
def cert_turn(C:Cert ns r cs aa)(hn:sv.Perm ns)(hr:∀x,∃k,r' x=(r x).drop k++(r x).take k):Cert sv r' cs aa:=by
 have hp:∀x,(r' x).Perm (r x):=λx=>by obtain⟨k,e⟩:=hr x;rw[e];exact zfs _ k
 have hm:∀{x y},y∈r' x↔y∈r x:=λ{x y}=>(hp x).mem_iff
 have aq:∀s:α×α,s.1∈r s.2→st r' s=st r s:=λs hs=>by
  obtain⟨k,e⟩:=hr s.2
  unfold st;rw[e,nxt_rot (C.rn _) k hs]
 have hw:∀t,wt sv r' aa t=wt ns r aa t:=λt=>by
  unfold wt
  rw[zie (hn.map _)]
  refine zcb λx _=>?_
  have h1:=(hp x).length_eq
  have h2:(r' x=[])=(r x=[]):=propext ⟨λe=>by rw[e]at h1;exact Js h1.symm,λe=>by rw[e]at h1;exact Js h1⟩
  simp only[h1,h2]
 refine⟨hn.nodup_iff.mpr C.nd,λx hx=>?_,λx=>(hp x).nodup_iff.mpr (C.rn x),λx h=>C.ir x (hm.mp h),λx y h=>hm.mpr (C.sy x y (hm.mp h)),C.cf,λs=>(C.cm s).trans hm.symm,λc hc=>?_,λx hx=>hn.mem_iff.mpr (C.ln x (hn.mem_iff.mp hx)),λx y h=>C.la x y (hm.mp h),λx hx y hy e=>?_,λx hx=>?_⟩
 ·have:=hp x
  rw[C.ro x (λz=>hx (hn.mem_iff.mpr z))]at this
  exact List.Perm.eq_nil this
 ·exact zeu (λy hy=>aq y (C.inc hc hy)) (C.cy c hc)
 ·exact(C.co x (hn.mem_iff.mp hx) y (hn.mem_iff.mp hy) e).mono λ_ _ h=>hm.mpr h
 ·rw[hw];exact C.eu x (hn.mem_iff.mp hx)
end
end Wb
end
section
namespace K21
open PySem L2 Wb
abbrev sSteps:Stmt:=top 10
structure BAt(H:Hp)(b:Nb)(bs:List ((Str×Str)×Addr))(r:Str→List Str):Prop where
 dc:H b=some (.dT (bs.map λe=>(kP e.1,V.ref e.2)))
 tp:∀e∈bs,H e.2=some (.tup [.str (st r e.1).1,.str (st r e.1).2])
 nd:(bs.map (·.1)).Nodup
def BAt.keep{H H':Hp}{b:Nb}{bs:List ((Str×Str)×Addr)}{r:Str→List Str}{xs:Nl}(h:BAt H b bs r)(k:Keep xs H H')(hb:b∉xs)(ht:∀e∈bs,e.2∉xs):BAt H' b bs r :=
 ⟨k _ _ h.dc hb,λe he=>k _ _ (h.tp e he) (ht e he),h.nd⟩
def kP_inj{s u:Str×Str}(h:kP s=kP u):s=u:=by
 unfold kP at h
 injection h with h1 h2
 injection h2 with h2 _
 exact Jb (Wi h1) (Wi h2)
def valT_out{bs:List ((Str×Str)×Addr)}{s:Str×Str}(h:s∉bs.map (·.1)):valV (bs.map λe=>(kP e.1,V.ref e.2)) (kP s)=none:=by
 induction bs with
 |nil=>rfl
 |cons a t ih =>
  rw[Ql,Qe,not_or]at h
  rw[Ql,zbh]
  ·exact ih h.2
  ·intro q;exact h.1 (kP_inj q).symm
def valT_in{bs:List ((Str×Str)×Addr)}(nd:(bs.map (·.1)).Nodup){e:(Str×Str)×Addr}(h:e∈bs):valV (bs.map fun e=>(kP e.1,V.ref e.2)) (kP e.1)=some (.ref e.2):=by
 induction bs with
 |nil=>cases h
 | cons a t ih =>
  rw[Ql,Qr]at nd
  rw[Ql]
  rcases Qe.mp h with z | z
  ·subst z;exact zbw rfl
  ·rw [zbh]
   ·exact ih nd.2 z
   ·intro q
    exact nd.1 (by rw[kP_inj q];exact Qf.mpr ⟨e,z,rfl⟩)
inductive IspSteps(vs:List V)(H:Hp)(Q:VK):Prop
 |mk (d:Nb) (es:List Ent) (h0:vs=[.ref d]) (h1:TAt H d es) (h2:es.length≤60) (h3:(∀e∈es,e.2.1.Nodup∧e.2.1.length≤100)) (h4:∀(b:Nb) (bs:List ((Str×Str)×Addr)) (H':Hp),BAt H' b bs (row (rsOf es))→(∀s,s∈bs.map (·.1)↔s.1∈row (rsOf es) s.2)→bs.length≤10000→H b=none→Keep [] H H'→Q (.ref b) H'):IspSteps vs H Q
def spSteps:Sp:=λvs H Q _=>IspSteps vs H Q
def pidx(n j:Nat):Nat:=if j=0 then n-1 else j-1
def zi7{zs:List V}{j:Nat}(hj:j<zs.length):atI zs ((j:Int)-1)=zs[pidx zs.length j]?:=by
 unfold pidx
 by_cases h:j=0
 ·subst h
  rw[if_pos rfl]
  unfold atI ixN
  have e1:¬(0:Int)≤((0:Nat):Int)-1:=by lia
  have e2:-(zs.length:Int)≤((0:Nat):Int)-1:=by lia
  rw[if_neg e1,if_pos e2]
  show zs[(((0:Nat):Int)-1+(zs.length:Int)).toNat]?=_
  congr 1;lia
 ·rw [if_neg h]
  have e:(j:Int)-1=((j-1:Nat):Int):=by lia
  rw[e,zar (Qd (by lia)),Qd (by lia)]
def idx_at{zs:Ng}(nd:zs.Nodup){i:Nat}(hi:i<zs.length):zs.idxOf zs[i]=i:=by
 have h1:zs.idxOf zs[i]<zs.length:=idx_lt (Qv hi)
 have h2:zs[zs.idxOf zs[i]]=zs[i]:=List.getElem_idxOf h1
 exact(Yf nd).mp h2
def nxt_idx{zs:Ng}(nd:zs.Nodup){j:Nat}(hj:j<zs.length)(hp:pidx zs.length j<zs.length):nxt zs zs[pidx zs.length j]=zs[j]:=by
 unfold nxt
 rw[idx_at nd hp]
 have e:(pidx zs.length j+1)%zs.length=j:=by
  unfold pidx
  by_cases h:j=0
  ·rw [if_pos h,h]
   have:zs.length-1+1=zs.length:=by lia
   rw[this,Nat.mod_self]
  ·rw [if_neg h]
   have:j-1+1=j:=by lia
   rw[this,Nat.mod_eq_of_lt hj]
 rw[e,Zs,Qd hj];rfl
section
variable{P:Ni}{w:Nk}{K:Na}{mg:Nd}{base:Nm}
def ze0:zap ["rounds", "behind", "place", "around", "at", "to"] ["rounds"] (zag sSteps):=fsk
def ok_steps{f:Nb}{fd:No}(F:Fun K "steps_behind" "steps_behind" sSteps f fd)(pe:mg "enumerate" = none):FnOk P w K mg base CX0 1 f fd ["rounds"] spSteps:=by
 refine F.okL ze0 (λcdv A outer s H vs Q E hr h=>?_)
 obtain⟨d,es,rfl,T,aS,hok,k⟩:=h
 have hu:=zbz hr
 have av  := sizeLine_eq
 refine⟨_,zad (zau 1 ze0.nd pe_dnewT)
  (zad (ze2 (zbq Zr rfl (ze3 (pv 0)) (za9 2 ze0.nd)
   (zad (zau 3 ze0.nd (zbo hu (pv 0) (pv 2)))
   (zah (zbq Zr rfl (pi_enum rfl pe (zab (pv 3) zaf)) (zfc rfl (za4 (za9 4 ze0.nd) (za4 (za9 5 ze0.nd) zcl)))
    (zah (zcg hu (pv 1) (zgd (zab (zay zcd (pv 3) (zav zfd (pv 4) zai) (λ_ _=>rfl)) (zab (pv 2) zaf))) (zgd (zab (pv 2) (zab (pv 5) zaf))) rfl)))))))
  (zah (zbn (pv 1)))),?_⟩
 refine λb hb=>?_
 have nfz:∀o' u',H d≠some (.frz o' u'):=λo' u' z=>by rw[T.dc]at z;cases z
 have nbd:d≠b:=zaa T.dc hb
 have k1:Keep [] H (upd H b (.dT [])):=Keep.new hb
 have gX:BAt (upd H b (.dT [])) b [] (row (rsOf es)):=⟨zac,λe he=>(by cases he),Zn⟩
 have T1:TAt (upd H b (.dT [])) d es:=T.keep k1 (by simp) (λ_ _=>by simp)
 generalize upd H b (.dT [])=H1 at k1 gX T1
 have hbm:∀{H':Hp} {bs:List ((Str×Str)×Addr)},BAt H' b bs (row (rsOf es))→b≠d:=λ_=>Qw nbd
 refine⟨_,rfl,d,_,rfl,T1.dc,λo=>zfx (λi σ H'=>Aj4 (Ex4 λx2 x3 x4 x5=>σ=[some (.ref d),some (.ref b),x2,x3,x4,x5]) (H' d=some (.frz o (.dK (eV es)))) (Keep [d,b] H1 H') (Ex1 λbs=>Aj3 (BAt H' b bs (row (rsOf es))) (bs.length≤100*i) (∀s,s∈bs.map (·.1)↔s.2∈(es.take i).map (·.1)∧s.1∈row (rsOf es) s.2)))
  ⟨⟨_,_,_,_,rfl⟩,zac,Keep.wr (by simp),[],gX.keep (xs:=[d]) (Keep.wr (by simp)) (by simpa using Qw nbd) (λe he=>by cases he),Zg _,λs=>⟨λh=>(by cases h),λh=>(by cases h.1)⟩⟩
  (λi σ H' _ hh=>hh.2) ?_ ?_⟩
 ·rintro i pr σ H2 cF ⟨⟨x2,x3,x4,x5,rfl⟩,hz,k2,bs,c7,lU,dX⟩
  have hi:i<es.length:=by
   have:=(Zd.mp cF).1
   rwa[Qa]at this
  have g1:pr=((Sum.inr es[i].1:Key),V.ref es[i].2.2):=by
   rw[Qq,Qd hi]at cF
   exact(Qk cF).symm
  subst g1
  have ba:es[i]∈es:=Qv hi
  obtain⟨ax,uq⟩:=hok _ ba
  have tT:row (rsOf es) es[i].1=es[i].2.1:=zbj T.nd ba
  have bQ:=T1.ro _ ba
  have nrd:es[i].2.2≠d:=za2 bQ T1.dc (by intro z;cases z)
  have nrb:es[i].2.2≠b:=za2 bQ gX.dc (by intro z;cases z)
  have d8:=k2 _ _ bQ (by simp[nrd,nrb])
  refine⟨_,rfl,_,rfl,d,.ref es[i].2.2,rfl,.inl ⟨_,Sum.inr es[i].1,.inr ⟨o,hz⟩,rfl,(zbu T.nd ba).symm⟩,?_⟩
  have bj:es[i].1∉(es.take i).map (·.1):=by
   have h1:(es.map (·.1)).take (i+1)=(es.map (·.1)).take i++[es[i].1]:=by
    rw[Qm (by rw[Qa];exact hi),Zj]
   have h2:((es.map (·.1)).take (i+1)).Nodup:=Yr (Uq _ _) T.nd
   rw[h1,Zb,←Uh]at h2
   exact λz=>h2.2.2 _ z _ (Qb.mpr rfl) rfl
  refine⟨_,rfl,es[i].2.2,rfl,⟨_,SqT.of d8⟩,for_enum (xs:=es[i].2.1.map V.str) (λj σ H'=>Aj4 (Ex2 λx4 x5=>σ=[some (.ref d),some (.ref b),some (.str es[i].1),some (.ref es[i].2.2),x4,x5]) (H' d=some (.frz o (.dK (eV es)))) (Keep [d,b] H1 H') (Ex1 λbs=>Aj3 (BAt H' b bs (row (rsOf es))) (bs.length≤100*i+j) (∀s,s∈bs.map (·.1)↔(s.2∈(es.take i).map (·.1)∧s.1∈row (rsOf es) s.2)∨∃(m:Nat) (hm:m<j) (hp:pidx es[i].2.1.length m<es[i].2.1.length),s=(es[i].2.1[pidx es[i].2.1.length m],es[i].1))))
   ⟨⟨_,_,rfl⟩,hz,k2,bs,c7,lU,fun s=>(dX s).trans ⟨.inl,fun h=>by
    rcases h with z | ⟨m,hm,_⟩
    ·exact z
    ·exact absurd hm (Nat.not_lt_zero m)⟩⟩ (λj σ H' _ hh=>hh.3 _ _ bQ (by simp[nrd,nrb])) ?_ ?_⟩
  ·rintro j y t σ H3 hy ⟨⟨y4,y5,rfl⟩,dH,k3,mh,lf,pC,gh⟩ ht
   have hj:j<es[i].2.1.length:=by
    have:=(Zd.mp hy).1
    rwa[Qa]at this
   have aX:y=.str es[i].2.1[j]:=by
    rw[Qq,Qd hj]at hy
    exact(Qk hy).symm
   subst aX
   have u7:pidx es[i].2.1.length j<es[i].2.1.length:=by unfold pidx;split<;>lia
   have fV:=k3 _ _ bQ (by simp[nrd,nrb])
   have k4:Keep [] H3 (upd H3 t (.tup [.int j,.str es[i].2.1[j]])):=Keep.new ht
   refine⟨t,_,rfl,SqT.of zac,rfl,_,_,rfl,_,_,rfl,rfl,?_⟩
   generalize upd H3 t (.tup [.int j,.str es[i].2.1[j]])=H4 at k4
   refine⟨_,rfl,_,rfl,(by show 2≤sizeLine;decide),λv hv=>?_⟩
   have k5:Keep [] H4 (upd H4 v (.tup [.str es[i].1,.str es[i].2.1[j]])):=Keep.new hv
   have hv5:(upd H4 v (.tup [.str es[i].1,.str es[i].2.1[j]])) v=some (.tup [.str es[i].1,.str es[i].2.1[j]]):=zac
   generalize upd H4 v (.tup [.str es[i].1,.str es[i].2.1[j]])=H5 at k5 hv5
   have gL:Keep [] H3 H5:=k4.trans k5
   have tW:=gL _ _ fV (by simp)
   have iK:atI (es[i].2.1.map V.str) ((j:Int)-1)=some (.str es[i].2.1[pidx es[i].2.1.length j]):=by
    rw[zi7 (by rw[Qa];exact hj),Qa,Qq,Qd u7];rfl
   refine⟨_,rfl,_,rfl,_,rfl,_,_,rfl,rfl,es[i].2.2,_,_,_,rfl,rfl,SqT.of tW,iK,_,rfl,(by show 2≤sizeLine;decide),λq hq=>?_⟩
   have k6:Keep [] H5 (upd H5 q (.tup [.str es[i].2.1[pidx es[i].2.1.length j],.str es[i].1])):=Keep.new hq
   have ja:(upd H5 q (.tup [.str es[i].2.1[pidx es[i].2.1.length j],.str es[i].1])) q=some (.tup ((kP (es[i].2.1[pidx es[i].2.1.length j],es[i].1)).map kV)):=zac
   generalize upd H5 q (.tup [.str es[i].2.1[pidx es[i].2.1.length j],.str es[i].1])=H6 at k6 ja
   have sH:Keep [] H3 H6:=gL.trans k6
   have lV:BAt H6 b mh (row (rsOf es)):=lf.keep sH (by simp) (λ_ _=>by simp)
   have hv6:=k6 _ _ hv5 (by simp)
   have hz6:=sH _ _ dH (by simp)
   refine⟨b,_,rfl,DPut.t lV.dc ja (by rw[Qa];lia),?_⟩
   have gt:(es[i].2.1[pidx es[i].2.1.length j],es[i].1)∉mh.map (·.1):=λz=>by
    rcases(gh _).mp z with⟨z1,_⟩ | ⟨m,hm,hpm,e⟩
    ·exact bj z1
    ·have e1:=(Ut e).1
     have e2:=(Yf ax).mp e1
     unfold pidx at e2
     by_cases gm:j=0
     ·lia
     ·rw [if_neg gm] at e2
      by_cases iC:m=0
      ·rw[if_pos iC]at e2;lia
      ·rw[if_neg iC]at e2;lia
   have km:putK (mh.map λe=>(kP e.1,V.ref e.2)) (kP (es[i].2.1[pidx es[i].2.1.length j],es[i].1)) (.ref v)=(mh++[((es[i].2.1[pidx es[i].2.1.length j],es[i].1),v)]).map λe=>(kP e.1,V.ref e.2):=by
    rw[zdp _ (valT_out gt),Qp];rfl
   have aq:st (row (rsOf es)) (es[i].2.1[pidx es[i].2.1.length j],es[i].1)=(es[i].1,es[i].2.1[j]):=by
    show(es[i].1,nxt (row (rsOf es) es[i].1) es[i].2.1[pidx es[i].2.1.length j])=_
    rw[tT,nxt_idx ax hj u7]
   refine⟨⟨_,_,rfl⟩,by rw[zae nbd];exact hz6,(k3.trans (sH.sub (by simp))).trans (Keep.wr (by simp)),_,⟨by rw[zac,km],λe he=>?_,?_⟩,?_,λs=>?_⟩
   ·rcases Qi.mp he with z | z
    ·have:=lV.tp e z
     rw[zae (za2 this lV.dc (by intro z;cases z))];exact this
    ·rw[Qb.mp z,aq,zae (za2 hv6 lV.dc (by intro z;cases z))];exact hv6
   ·rw [Qp,Zb]
    refine⟨lf.nd,Qr.mpr ⟨by simp,Zn⟩,λx hx y hy e=>?_⟩
    have fI:y=(es[i].2.1[pidx es[i].2.1.length j],es[i].1):=by simpa using hy
    exact gt (by rw[←fI,←e];exact hx)
   ·rw[Qs];show _+1≤_;exact zar4 ‹_›
   ·rw [Qp,Qi,gh]
    constructor
    ·rintro ((z | ⟨m,hm,hp,e⟩) | z)
     ·exact .inl z
     ·exact .inr ⟨m,by exact zar16 ‹_›,hp,e⟩
     ·exact .inr ⟨j,by exact Qh _,u7,by simpa using z⟩
    ·rintro (z | ⟨m,hm,hp,e⟩)
     ·exact .inl (.inl z)
     ·by_cases hmj:m < j
      ·exact .inl (.inr ⟨m,hmj,hp,e⟩)
      ·have:m=j:=by lia
       subst this
       exact .inr (by rw[e];exact Qc)
  ·rintro σ H3 ⟨⟨y4,y5,rfl⟩,dH,k3,mh,lf,pC,gh⟩
   rw[Qa]at gh pC
   refine⟨⟨_,_,_,_,rfl⟩,dH,k3,mh,lf,by lia,λs=>(gh s).trans ?_⟩
   have cb:(es.take (i+1)).map (·.1)=(es.take i).map (·.1)++[es[i].1]:=by rw[Qm hi,Qp];rfl
   rw[cb,Qi,Qb]
   constructor
   ·rintro (⟨z1,z2⟩ | ⟨m,hm,hp,e⟩)
    ·exact⟨.inl z1,z2⟩
    ·rw[e];exact⟨.inr rfl,by rw[tT];exact Qv hp⟩
   ·rintro ⟨z1 | z1,z2⟩
    ·exact .inl ⟨z1,z2⟩
    ·refine .inr ?_
     rw[z1,tT]at z2
     obtain⟨q,hq,e⟩:=Zp z2
     by_cases gc:q+1<es[i].2.1.length
     ·have kE:pidx es[i].2.1.length (q+1) < es[i].2.1.length:=by unfold pidx;rw [if_neg (by lia)];assumption
      refine⟨q+1,gc,kE,Jb ?_ z1⟩
      show s.1=es[i].2.1[pidx es[i].2.1.length (q+1)]
      rw[←e];congr 1
     ·have kE:pidx es[i].2.1.length 0 < es[i].2.1.length:=by unfold pidx;rw [if_pos rfl];lia
      refine⟨0,by lia,kE,Jb ?_ z1⟩
      show s.1=es[i].2.1[pidx es[i].2.1.length 0]
      rw[←e];congr 1
      unfold pidx;rw[if_pos rfl];lia
 ·rintro σ H2 ⟨⟨x2,x3,x4,x5,rfl⟩,hz,k2,bs,c7,lU,dX⟩
  rw[Qa]at dX lU
  rw[Qx (Qh _)]at dX
  refine⟨d,o,_,hz,nfz,?_⟩
  have kf:Keep [] H (upd H2 d (.dK (eV es))):=λc u ec _=>by
   have nc:c≠b:=zaa ec hb
   by_cases aB:c=d
   ·subst aB
    rw[zac,←T.dc];exact ec
   ·rw [zae aB]
    exact k2 c u (k1 c u ec (by simp)) (by simp[aB,nc])
  refine⟨_,rfl,k b bs _ (c7.keep (xs:=[d]) (Keep.wr (by simp)) (by simpa using Qw nbd) (λe he=>by simpa using za2 (c7.tp e he) hz (by intro z;cases z))) (λs=>?_) (by lia) hb kf⟩
  rw[dX]
  constructor
  ·exact λh=>h.2
  ·intro h
   refine⟨?_,h⟩
   obtain⟨p,hp,e,_⟩:=(zbx (rs:=rsOf es) (by unfold rsOf;rw[List.map_map];exact T.nd)).mpr h
   obtain⟨en,aT,rfl⟩:=Qf.mp hp
   exact Qf.mpr ⟨en,aT,e⟩
abbrev zfb:Stmt:=top 11
def zc8(H:Hp)(a:Nb)(h:Str):Prop:=∃t:List Str,H a=some (.lst ((h::t).map V.str))
def ze6(es:List Ent):List Str:=(es.filter λe=>e.2.1.isEmpty).map (·.1)
inductive IspFaces(vs:List V)(H:Hp)(Q:VK):Prop
 |mk (d:Nb) (es:List Ent) (cs:List (List (Str×Str))) (aa:Nu) (h0:vs=[.ref d]) (h1:TAt H d es) (h2:es.length≤60) (h3:(∀e∈es,e.2.1.length≤100)) (h4:Cert (es.map (·.1)) (row (rsOf es)) cs aa) (h5:∀(l:Nb) (as:Nl) (hd hc:Ng) (cs':List (List (Str×Str))) (H':Hp),H' l=some (.lst (as.map V.ref))→as.length≤20000→Paired (zc8 H') as hd→hd.Perm (ze6 es++hc)→cs'.Perm cs→Paired (λh c=>∃s∈c,s.1=h) hc cs'→Keep [] H H'→Q (.ref l) H'):IspFaces vs H Q
def spFaces:Sp:=λvs H Q _=>IspFaces vs H Q
def pt_truthK{X:Cx}{K:Na}{a:Expr}{ta:TE}(hK:X.K=K)(ha:PE X a ta)(he:∀whole,isTrue a X.env whole=(do let v ←whole;standAt a.pos;holding [v] (truthy v))) :
  PT X a (λ σ H Q=>ta σ H λx H'=>RTr K x H' Q):=hK▸zft ha he
abbrev ze9:Scope:=scOf (eOf (sAt zfb 1))
def csFaces_k:ze9.kind=.function:=by rfl
def csFaces_c:∀y∈ze9.names,y.2≠.cell:=by decide +kernel
def csFaces_n:∀y∈ze9.names,y.2=.local→ze9.names.lookup y.1=some .local:=by decide +kernel
def csFaces_f:∀y∈ze9.names,y.2=.free→(zag zfb).names.lookup y.1=some .cell∨(zag zfb).names.lookup y.1=some .free:=by decide +kernel
def csFaces_l:ze9.names.lookup ("rounds" : Str)=some NameKind.free:=by decide +kernel
def ndF:(["place", "rounds"]:List Str).Nodup:=by decide +kernel
def valG_out{gs:Nr}{s:Str×Str}(h:s∉gs):valV (gs.map λs=>(kP s,V.bl true)) (kP s)=none:=by
 induction gs with
 |nil=>rfl
 |cons a t ih =>
  rw[Qe,not_or]at h
  rw[Ql,zbh]
  ·exact ih h.2
  ·intro q;exact h.1 (kP_inj q).symm
def valG_in{gs:Nr}{s:Str×Str}(h:s∈gs):valV (gs.map λs=>(kP s,V.bl true)) (kP s)=some (.bl true):=by
 induction gs with
 |nil=>cases h
 | cons a t ih =>
  rw[Ql]
  by_cases e:a=s
  ·exact zbw (by rw[e])
  ·rw [zbh (fun q=>e (kP_inj q))]
   rcases Qe.mp h with z | z
   ·exact absurd z.symm e
   ·exact ih z
def lk_get{β:Type}{f:β→β}{e:β}:∀{t:List β} {s:β},Lk f s t e→∀k,k<(s::t).length→f ((s::t).getD k e)=(s::t).getD (k+1) e:=by
 intro t
 induction t with
 |nil =>
  intro s h k hk
  have:k=0:=by simp at hk;exact hk
  subst this;exact h
 | cons a t ih =>
  intro s h k hk
  cases k with
  |zero=>exact h.1
  |succ n =>
   have:=ih h.2 n (by simpa using hk)
   simpa using this
def zcy{H H':Hp}{D g:Nb}{fa:Nl}{hd:Ng}{xs:Nl}(k:Keep xs H H')(h:Paired (zc8 H) fa hd)(hx:∀a (h:Str) (t:Ng),H a=some (.lst ((h::t).map V.str))→a∉xs):Paired (zc8 H') fa hd :=
 Paired.imp' (λa h ⟨t,e⟩=>⟨t,k _ _ e (hx a h t e)⟩) h
def zbl{α β:Type}{R:α→β→Prop}:∀{as dm:List α} {bs mi:List β},Paired R as bs→Paired R dm mi→Paired R (as++dm) (bs++mi):=by
 intro as dm bs mi r r'
 induction r with
 |nil=>exact r'
 |cons h t ih=>exact .cons h ih
def zda:zap ["rounds", "behind", "found", "gone", "first", "face", "step"] ["rounds"] (zag zfb):=fsk
def ok_faces{f fs:Nb}{fd fds:No}(F:Fun K "faces_of" "faces_of" zfb f fd)(FS:Fun K "steps_behind" "steps_behind" sSteps fs fds)(bS:Binds K fds ["rounds"] [])(mS:mg "steps_behind" = some (.ref fs))(GS:FnOk P w K mg base CX0 1 fs fds ["rounds"] spSteps)(aO:mg "sorted" = none):FnOk P w K mg base CX0 2 f fd ["rounds"] spFaces:=by
 refine F.okL zda (λcdv A outer s H vs Q E hr h=>?_)
 obtain⟨d,es,cs,aa,rfl,T,aS,aI,C,k⟩:=h
 have hu:=zbz hr
 have eR:(A.deeper (PyProof.Rows.envOfC "faces_of" (zag zfb) s.heap.objs.size f cdv)).units+8<cLine:=Nat.lt_of_le_of_lt (Nat.add_le_add_left (by decide:8≤64) _) hr.units
 have av  := sizeLine_eq
 refine⟨_,zad (zau 1 zda.nd (zaj GS hr rfl mS FS.kp bS .nil zat (zab (pv 0) zaf)))
  (zad (ze2 (ps_lc (i:=2) (M:=["place", "rounds"]) (ix:=[none,some 0]) zda.nd rfl rfl ⟨csFaces_k,csFaces_c,csFaces_n,csFaces_f,rfl,by decide +kernel,λj i x h1 h2=>by
     match j,h1,h2 with
     |0,_,h2=>cases h2
     |1,h1,h2=>cases h1;cases h2;exact⟨rfl,csFaces_l⟩
     |n+2,h1,_=>cases h1⟩ rfl (ze3 (pv 0)) (λC a7 ex s H=>za9 0 ndF)
    (λC a7 ex s H=>zdc (pt_not (pt_truthK (K:=K) rfl (zbo (by exact hu) (pv 1) (pv 0)) (by intro _;rfl)))) (λC a7 ex s H=>zbd (zab (pv 0) zaf)) rfl))
  (zad (zau 3 zda.nd pe_dnewT)
  (zad (zbq Zr rfl (za8 (zal (zhb rfl) (by rfl) aO Wo (zab (pv 1) zaf))) (za9 4 zda.nd)
   (zad (zau 5 zda.nd (zbd zaf))
   (zad (zau 6 zda.nd (pv 4))
   (zad (zfu Zr (zcv (zcm hu (pv 6) (pv 3)))
    (zad (zcg hu (pv 3) (pv 6) pe_bl rfl)
    (zad (za3 (zd8 Zq Wn Wm zcw (pv 5) (zab (zay zcd (pv 6) zai (λ_ _=>rfl)) zaf)))
    (zah (zau 6 zda.nd (zbo hu (pv 1) (pv 6)))))))
   (zah (zbp (zft (pv 5) (by intro _;rfl)) (zah (za3 (zd8 Zq Wn Wm zcw (pv 2) (zab (pv 5) zaf)))) zaw))))))
  (zah (zbn (zal (zfa eR) (by rfl) aO Wo (zab (pv 2) zaf))))))),?_⟩
 have ar:∀e∈es,row (rsOf es) e.1=e.2.1:=λe he=>zbj T.nd he
 refine⟨_,rfl,d,es,rfl,T,aS,λe he=>⟨ar e he▸C.rn e.1,aI e he⟩,λb bs H1 gX dX lU hbfr k1=>?_⟩
 have T1:TAt H1 d es:=T.keep k1 (by simp) (λ_ _=>by simp)
 have nfz:∀o' u',H d≠some (.frz o' u'):=λo' u' z=>by rw[T.dc]at z;cases z
 refine⟨_,rfl,d,_,rfl,T1.dc,λo=>⟨λi m ys τ H2=>Aj6 (m=es.length-i) (i≤es.length) (Ex1 λx0=>τ=[x0,some (.ref d)]) (H2 d=some (.frz o (.dK (eV es)))) (Keep [d] H1 H2) (Ex1 λ(as:Nl)=>Aj3 (ys=as.map V.ref) (as.length≤i) (Paired (zc8 H2) as (ze6 (es.take i)))),
  ⟨es.length,rfl,Zg _,⟨none,rfl⟩,zac,Keep.wr Qc,[],rfl,Zg _,.nil⟩,?_⟩⟩
 rintro i m ys τ H2 ⟨rfl,hi,⟨x0,rfl⟩,hz,k2,fa,rfl,e8,jb⟩
 by_cases ag:i<es.length
 ·refine .inr ⟨⟨hz,by rw [Qa];exact ag⟩,by rw [Qa];lia,?_⟩
  rintro y H' ⟨rfl,pr,e1,rfl⟩
  have g1:pr=((Sum.inr es[i].1:Key),V.ref es[i].2.2):=by
   rw[Qq,Qd ag]at e1
   exact(Qk e1).symm
  subst g1
  have ba:es[i]∈es:=Qv ag
  have oe:=T1.ro _ ba
  have nri:es[i].2.2≠d:=za2 oe T1.dc (by intro z;cases z)
  have d8:=k2 _ _ oe (by simpa using nri)
  have cb:es.take (i+1)=es.take i++[es[i]]:=Qm ag
  refine⟨_,rfl,_,rfl,d,.ref es[i].2.2,rfl,.inl ⟨_,Sum.inr es[i].1,.inr ⟨o,hz⟩,rfl,(zbu T.nd ba).symm⟩,_,.inr (.inl ⟨_,SqT.of d8,rfl⟩),?_⟩
  have gT:(es[i].2.1.map V.str).isEmpty=es[i].2.1.isEmpty:=by cases es[i].2.1<;>rfl
  cases hb:es[i].2.1.isEmpty with
  | false =>
   refine zcq (by rw[gT,hb];rfl) ⟨_,?_,rfl,ag,⟨_,rfl⟩,hz,k2,fa,rfl,by exact zar16 ‹_›,?_⟩
   ·exact zar1 ‹_›
   ·unfold ze6
    rw[cb,Ua,Zx (by rw[hb];decide),Je,Zy];exact jb
  | true =>
   refine zdv (by rw[gT,hb];rfl) ⟨_,rfl,(by show 1≤sizeLine;decide),λq hq=>⟨_,?_,rfl,ag,⟨_,rfl⟩,?_,k2.trans (Keep.new hq),fa++[q],?_,?_,?_⟩⟩
   ·exact zar1 ‹_›
   ·rw[zae (zaa hz hq)];exact hz
   ·rw[Qp];rfl
   ·rw[Qs];show _+1≤_;exact zar4 ‹_›
   ·unfold ze6
    rw[cb,Ua,Zw (by rw[hb]),Je,Qp]
    exact zbl (zcy (D:=d) (g:=d) (xs:=[]) (Keep.new hq) jb (λ_ _ _ _=>by simp)) (.cons ⟨[],zac⟩ .nil)
 ·have kR:i=es.length:=by exact zar3 ‹_› ‹_›
  subst kR
  rw[Qx (Qh _)]at jb
  refine .inl ⟨⟨hz,by rw[Qa];exact Qh _⟩,λD hD=>?_⟩
  have ndD:d≠D:=zaa hz hD
  refine⟨d,o,_,(by rw[zae ndD];exact hz),nfz,?_⟩
  have k3:Keep [] H1 (upd (upd H2 D (.lst (fa.map V.ref))) d (.dK (eV es))):=λc u ec _=>by
   by_cases aB:c=d
   ·subst aB
    rw[zac,←T1.dc];exact ec
   ·have qa:=k2 c u ec (by simpa using aB)
    rw[zae aB,zae (zaa qa hD)];exact qa
  have gF:(upd (upd H2 D (.lst (fa.map V.ref))) d (.dK (eV es))) D=some (.lst (fa.map V.ref)):=by rw[zae (Qw ndD)];exact zac
  have db:Paired (zc8 (upd (upd H2 D (.lst (fa.map V.ref))) d (.dK (eV es)))) fa (ze6 es):=Paired.imp' (λa h ⟨t,e⟩=>⟨t,by
   rw[zae (za2 e hz (by intro z;cases z)),zae (zaa e hD)];exact e⟩) jb
  generalize upd (upd H2 D (.lst (fa.map V.ref))) d (.dK (eV es))=H3 at k3 gF db
  have lf:BAt H3 b bs (row (rsOf es)):=gX.keep k3 (by simp) (λ_ _=>by simp)
  refine λg hg=>?_
  have k4:Keep [] H3 (upd H3 g (.dT [])):=Keep.new hg
  have hg4:(upd H3 g (.dT [])) g=some (.dT []):=zac
  generalize upd H3 g (.dT [])=H4 at k4 hg4
  have lW:BAt H4 b bs (row (rsOf es)):=lf.keep k4 (by simp) (λ_ _=>by simp)
  refine⟨_,rfl,b,_,bs.map (·.1),rfl,lW.dc,(by rw[Ze,Ze];rfl),λl as ws hl ap pa=>?_⟩
  have k5:Keep [] H4 (upd H4 l (.lst (as.map V.ref))):=Keep.new hl
  have cz:(upd H4 l (.lst (as.map V.ref))) l=some (.lst (as.map V.ref)):=zac
  have sn:zbr (upd H4 l (.lst (as.map V.ref))) as ws:=zbr.keep pa λc x y ec=>k5 _ _ ec (by simp)
  have nDl:D≠l:=zaa (k4 _ _ gF (by simp)) hl
  generalize upd H4 l (.lst (as.map V.ref))=H5 at k5 cz sn
  have gL:Keep [] H3 H5:=k4.trans k5
  have iP:=gL _ _ gF (by simp)
  have oP:=k5 _ _ hg4 (by simp)
  have vw:BAt H5 b bs (row (rsOf es)):=lW.keep k5 (by simp) (λ_ _=>by simp)
  have iq:Paired (zc8 H5) fa (ze6 es):=zcy (D:=d) (g:=d) gL db (λ_ _ _ _=>by simp)
  have sE:Keep [] H H5:=(k1.trans k3).trans gL
  have nlg:l≠g:=za2 cz oP (by intro z;cases z)
  have nDg:D≠g:=za2 iP oP (by intro z;cases z)
  have nbg:b≠g:=zaa lf.dc hg
  have nbD:b≠D:=za2 vw.dc iP (by intro z;cases z)
  have cV:as.length=ws.length:=Yp sn
  have cY:ws.length≤10000:=by rw[ap.length_eq,Qa];exact lU
  have notDg:∀{H':Hp} {rK:Nl} {gs:Nr},H' D=some (.lst (rK.map V.ref))→H' g=some (.dT (gs.map λs=>(kP s,V.bl true)))→∀a (h:Str) (t:Ng),H' a=some (.lst ((h::t).map V.str))→a≠D∧a≠g:=λ{H' rK gs} e1 e2 a h t e =>
   ⟨za2 e e1 (by
    intro z
    have z':(h::t).map V.str=rK.map V.ref:=by injection z
    cases rK with
    |nil=>cases z'
    |cons x u=>rw[Ql,Ql]at z';injection z' with z1 _;cases z1),za2 e e2 (by intro z;cases z)⟩
  refine⟨l,rfl,⟨_,SqL.of cz⟩,zby (xs:=as.map V.ref) (λi σ H'=>Aj3 (Ex3 λx4 x5 x6=>σ=[some (.ref d),some (.ref b),some (.ref D),some (.ref g),x4,x5,x6]) (Keep [D,g] H5 H') (Ex5 λ(gs:Nr) (dn rem:List (List (Str×Str))) (fa:Nl) (hc:Ng)=>Aj9 (H' g=some (.dT (gs.map λs=>(kP s,V.bl true)))) gs.Nodup (∀s,s∈gs↔s∈dn.flatten) (cs.Perm (dn++rem)) (∀s∈ws.take i,s∈gs) (H' D=some (.lst (fa.map V.ref))) (Paired (zc8 H') fa (ze6 es++hc)) (Paired (λh c=>∃s∈c,s.1=h) hc dn) (fa.length≤100+i)))
   ⟨⟨_,_,_,rfl⟩,Keep.refl,[],[],cs,fa,[],oP,Zn,λs=>Iff.rfl,List.Perm.refl _,λs hs=>(by cases hs),iP,by rw[Zy];exact iq,.nil,by omega⟩
   (λi σ H' _ hh=>SqL.of (hh.2 _ _ cz (by simp[Qw nDl,nlg]))) ?_ ?_⟩
  ·rintro i y σ H6 hx ⟨⟨x4,x5,x6,rfl⟩,k6,gs,dn,rem,pY,pA,uF,uD,kS,fA,qC,rC,im,aB,oV⟩
   have hi:i<as.length:=by
    have:=(Zd.mp hx).1
    rwa[Qa]at this
   have jK:y=.ref as[i]:=by
    rw[Qq,Qd hi]at hx
    exact(Qk hx).symm
   subst jK
   obtain⟨aF,lg⟩:=zbk sn hi
   have nag:as[i]≠g:=za2 lg oP (by intro z;cases z)
   have naD:as[i]≠D:=za2 lg iP (by intro z;cases z)
   have pN:=k6 _ _ lg (by simp[nag,naD])
   have du:ws[i]∈ws:=Qv aF
   have lL:ws[i].1∈row (rsOf es) ws[i].2:=(dX _).mp (ap.mem_iff.mp du)
   have hwt:∀{rJ:Nr},(∀s∈gs,s∈rJ)→ws[i]∈rJ→∀s∈ws.take (i+1),s∈rJ:=λ{rJ} h1 h2 s hs=>by
    rw[Qm aF]at hs
    rcases Qi.mp hs with z | z
    ·exact h1 s (qC s z)
    ·rw[Qb.mp z];exact h2
   refine⟨(by show 0≤sizeLine;decide),λfl gA=>?_⟩
   have k7:Keep [] H6 (upd H6 fl (.lst [])):=Keep.new gA
   have cn:(upd H6 fl (.lst [])) fl=some (.lst []):=zac
   have nfD:fl≠D:=Qw (zaa rC gA)
   have nfg:fl≠g:=Qw (zaa uF gA)
   have nafl:as[i]≠fl:=zaa pN gA
   generalize upd H6 fl (.lst [])=H7 at k7 cn
   have oO:=k7 _ _ uF (by simp)
   have vF:=k7 _ _ rC (by simp)
   have pM:=k7 _ _ pN (by simp)
   have sD:Keep [D,g] H5 H7:=k6.trans (k7.sub (by simp))
   have vt:BAt H7 b bs (row (rsOf es)):=vw.keep sD (by simp[nbD,nbg]) λe he=>by
    have h1:=vw.tp e he
    simp[za2 h1 iP (by intro z;cases z),za2 h1 oP (by intro z;cases z)]
   have nbfl:b≠fl:=za2 vt.dc cn (by intro z;cases z)
   have oj:Paired (zc8 H7) pY (ze6 es++pA):=zcy (D:=d) (g:=d) k7 im (λ_ _ _ _=>by simp)
   refine⟨_,rfl,?_⟩
   by_cases gr:ws[i]∈gs
   ·-- it is gone already
    refine⟨λm σ H'=>Aj2 (σ=[some (.ref d),some (.ref b),some (.ref D),some (.ref g),some (.ref as[i]),some (.ref fl),some (.ref as[i])]) (H'=H7),⟨0,rfl,rfl⟩,?_⟩
    rintro m σ H' ⟨rfl,rfl⟩
    have dg:=DGet.t (k:=kP ws[i]) oO pM
    rw[valG_in gr]at dg
    refine⟨_,rfl,_,rfl,g,_,rfl,dg,_,rfl,zcq rfl ?_⟩
    refine⟨_,rfl,_,.inl ⟨_,SqL.of cn,rfl⟩,zcq rfl ?_⟩
    exact⟨⟨_,_,_,rfl⟩,sD,gs,dn,rem,pY,pA,oO,uD,kS,fA,hwt (λ_ h=>h) gr,vF,oj,aB,by exact zar16 ‹_›⟩
   ·-- a new cycle
    obtain⟨c,eG,tP⟩:=Zu.mp ((C.cm ws[i]).mpr lL)
    obtain⟨A1,B1,hU⟩:=Yn tP
    have hlk:=zc4 (hU▸C.cy c eG)
    generalize hL:ws[i]::(B1++A1)=L
    have rB:L.Perm c:=by
     rw[←hL,hU]
     refine Kb.mpr λa=>?_
     simp only[Kn,Xe];lia
    have cj:=(List.Perm.flatten fA).nodup_iff.mp C.cf
    rw[Wh,Zb]at cj
    have jj:c∈rem:=by
     rcases Qi.mp (fA.mem_iff.mp eG) with z | z
     ·exact absurd ((kS _).mpr (Zu.mpr ⟨c,z,tP⟩)) gr
     ·exact z
    have hLg:∀s∈L,s∉gs:=λs hs hg=>by
     exact absurd rfl (cj.2.2 s ((kS s).mp hg) s (Zu.mpr ⟨c,jj,rB.mem_iff.mp hs⟩))
    have pT:L.Nodup:=by
     rw[rB.nodup_iff]
     have:=(zb3 eG).nodup_iff.mp C.cf
     rw[Zb]at this
     exact this.1
    have pS:∀s∈L,s.1∈row (rsOf es) s.2:=λs hs=>C.inc eG (rB.mem_iff.mp hs)
    have hLpos:0<L.length:=by rw[←hL];simp
    have cU:gs++L |>.Nodup:=Zb.mpr ⟨uD,pT,λa ha b' cq e=>hLg b' cq (e▸ha)⟩
    have hsz:(gs++L).length≤10000:=by
     refine Zk (zer cU (m:=bs.map (·.1)) λs hs=>?_) (by rw[Qa];exact lU)
     rcases Qi.mp hs with z | z
     ·obtain ⟨c',bZ,ai⟩:=Zu.mp ((kS s).mp z)
      exact(dX s).mpr (C.inc (fA.mem_iff.mpr (Qo _ bZ)) ai)
     ·exact(dX s).mpr (pS s z)
    rw[Qs]at hsz
    have uE:∀k (hk:k<L.length),st (row (rsOf es)) L[k]=L.getD (k+1) ws[i]:=λk hk=>by
     have:=lk_get hlk k (by rw[hL];exact hk)
     rw[hL,Zs,Qd hk]at this
     exact this
    refine⟨λm σ H'=>Ex2 λ(k:Nat) (t:Nb)=>Aj7 (m=L.length-k) (k≤L.length) (σ=[some (.ref d),some (.ref b),some (.ref D),some (.ref g),some (.ref as[i]),some (.ref fl),some (.ref t)]) (Keep [g,fl] H7 H') (H' g=some (.dT ((gs++L.take k).map λs=>(kP s,V.bl true)))) (H' fl=some (.lst (((L.take k).map (·.1)).map V.str))) (H' t=some (.tup [.str (L.getD k ws[i]).1,.str (L.getD k ws[i]).2])),
     ⟨_,0,as[i],rfl,Zg _,rfl,Keep.refl,by rw[List.take_zero,Zy];exact oO,cn,by rw[←hL];exact pM⟩,?_⟩
    rintro m σ H8 ⟨k8,t,rfl,hk8,rfl,lC,oN,gy,lJ⟩
    have dg:=DGet.t (k:=kP (L.getD k8 ws[i])) oN lJ
    by_cases dW:k8<L.length
    ·have l0:L.getD k8 ws[i]=L[k8]:=by rw [Zs,Qd dW];rfl
     have cb:L.take (k8+1)=L.take k8++[L[k8]]:=Qm dW
     have bj:L[k8]∉gs++L.take k8:=λz=>by
      rcases Qi.mp z with q | q
      ·exact hLg _ (Qv dW) q
      ·have:=Yr (Uq (k8+1) L) pT
       rw[cb,Zb]at this
       exact this.2.2 _ q _ (Qb.mpr rfl) rfl
     rw[l0]at lJ dg
     rw[valG_out bj]at dg
     refine⟨_,rfl,_,rfl,g,_,rfl,dg,_,rfl,zdv rfl ?_⟩
     refine⟨_,λ σ' H' z=>z,?_⟩
     have oB:((gs++L.take k8).map λs=>(kP s,V.bl true)).length<sizeLine:=by
      rw[Qa,Qs,Zi];lia
     refine⟨_,rfl,_,rfl,g,_,rfl,DPut.t (k:=kP L[k8]) oN lJ oB,?_⟩
     have km:putK ((gs++L.take k8).map λs=>(kP s,V.bl true)) (kP L[k8]) (.bl true)=(gs++L.take (k8+1)).map λs=>(kP s,V.bl true):=by
      rw[zdp _ (valG_out bj),cb,←Qy,Qp (l₂:=[L[k8]])];rfl
     rw[km]
     have ntg:t≠g:=za2 lJ oN (by intro z;cases z)
     have ntfl:t≠fl:=za2 lJ gy (by intro z;cases z)
     have k9:Keep [g,fl] H7 (upd H8 g (.dT ((gs++L.take (k8+1)).map λs=>(kP s,V.bl true)))):=lC.trans (Keep.wr (by simp))
     have hg9:(upd H8 g (.dT ((gs++L.take (k8+1)).map λs=>(kP s,V.bl true)))) g=some (.dT ((gs++L.take (k8+1)).map λs=>(kP s,V.bl true))):=zac
     have kX:(upd H8 g (.dT ((gs++L.take (k8+1)).map λs=>(kP s,V.bl true)))) fl=some (.lst (((L.take k8).map (·.1)).map V.str)):=by rw[zae nfg];exact gy
     have tD:(upd H8 g (.dT ((gs++L.take (k8+1)).map λs=>(kP s,V.bl true)))) t=some (.tup [.str L[k8].1,.str L[k8].2]):=by rw[zae ntg];exact lJ
     generalize upd H8 g (.dT ((gs++L.take (k8+1)).map λs=>(kP s,V.bl true)))=H9 at k9 hg9 kX tD
     refine⟨_,rfl,.inl ⟨rfl,_,SqL.of kX⟩,_,rfl,t,_,_,_,rfl,rfl,SqT.of tD,zar (j:=0) rfl,fl,_,_,rfl,rfl,kX,(by rw[Qa,Qa,Zi];lia),?_⟩
     have oW:((L.take k8).map (·.1)).map V.str++[V.str L[k8].1]=((L.take (k8+1)).map (·.1)).map V.str:=by rw[cb,Qp,Qp];rfl
     rw[oW]
     have cu:Keep [g,fl] H7 (upd H9 fl (.lst (((L.take (k8+1)).map (·.1)).map V.str))):=k9.trans (Keep.wr (by simp))
     have oQ:(upd H9 fl (.lst (((L.take (k8+1)).map (·.1)).map V.str))) g=some (.dT ((gs++L.take (k8+1)).map λs=>(kP s,V.bl true))):=by rw[zae (Qw nfg)];exact hg9
     have jh:(upd H9 fl (.lst (((L.take (k8+1)).map (·.1)).map V.str))) fl=some (.lst (((L.take (k8+1)).map (·.1)).map V.str)):=zac
     have nM:(upd H9 fl (.lst (((L.take (k8+1)).map (·.1)).map V.str))) t=some (.tup [.str L[k8].1,.str L[k8].2]):=by rw[zae ntfl];exact tD
     generalize upd H9 fl (.lst (((L.take (k8+1)).map (·.1)).map V.str))=gH at cu oQ jh nM
     have eI:BAt gH b bs (row (rsOf es)):=vt.keep cu (by simp[nbg,nbfl]) λe he=>by
      have h1:=vt.tp e he
      simp[za2 h1 oO (by intro z;cases z),za2 h1 cn (by intro z;cases z)]
     obtain⟨e,he,hee⟩:=Qf.mp ((dX L[k8]).mpr (pS _ (Qv dW)))
     have dg2:=DGet.t (k:=kP L[k8]) eI.dc nM
     rw[←hee,valT_in eI.nd he]at dg2
     have gN:=eI.tp e he
     rw[hee,uE k8 dW]at gN
     refine⟨_,rfl,_,rfl,b,_,rfl,dg2,L.length-(k8+1),by exact zar1 ‹_›,k8+1,e.2,rfl,dW,rfl,cu,oQ,jh,gN⟩
    ·have hk:k8=L.length:=by exact zar3 ‹_› ‹_›
     subst hk
     have l0:L.getD L.length ws[i]=ws[i]:=by rw[Zs,Xk (Qh _)];rfl
     rw[Qx (Qh _)]at oN gy dg
     have hwL:ws[i]∈L:=by rw[←hL];exact Qc
     rw[l0,valG_in (Qn _ hwL)]at dg
     refine⟨_,rfl,_,rfl,g,_,rfl,dg,_,rfl,zcq rfl ?_⟩
     have az:((L.map (·.1)).map V.str).isEmpty=false:=by rw[←hL];rfl
     refine⟨_,rfl,_,.inl ⟨_,SqL.of gy,rfl⟩,zdv (by rw[az];rfl) ?_⟩
     have hD8:=lC _ _ vF (by simp[nDg,Qw nfD])
     refine⟨_,rfl,.inl ⟨rfl,_,SqL.of hD8⟩,_,rfl,D,_,_,rfl,rfl,hD8,(by rw[Qa];lia),?_⟩
     have k9:Keep [D,g] H5 (upd H8 D (.lst (pY.map V.ref++[.ref fl]))):=by
      refine Keep.trans (λc' u' ec bZ=>?_) (Keep.wr (by simp))
      have h7:=sD c' u' ec bZ
      refine lC c' u' h7 ?_
      have ncg:c'≠g:=λz=>bZ (by simp[z])
      have ncf:c'≠fl:=λz=>by
       have:=k6 c' u' ec bZ
       rw[z,gA]at this;cases this
      simp[ncg,ncf]
     refine⟨⟨_,_,_,rfl⟩,k9,gs++L,dn++[c],rem.erase c,pY++[fl],pA++[ws[i].1],by rw[zae (Qw nDg)];exact oN,cU,λs=>?_,?_,hwt (λs hs=>Qo _ hs) (Qn _ hwL),by rw[zac,Qp];rfl,?_,zbl aB (.cons ⟨ws[i],tP,rfl⟩ .nil),by rw[Qs];show _+1≤_;exact zar4 ‹_›⟩
     ·rw[Qi,kS,Wh,Qi,Yx,List.flatten_nil,Zy,rB.mem_iff]
     ·refine fA.trans ?_
      rw[Qy]
      exact Ya _ (Jr jj)
     ·rw [← Qy]
      refine zbl (Paired.imp' (λa h ⟨t,e⟩=>⟨t,?_⟩) oj) (.cons ⟨(B1++A1).map (·.1),?_⟩ .nil)
      ·have n1:=notDg vF oO a h t e
       have naf:a≠fl:=za2 e cn (by intro z;injection z with z;cases z)
       rw[zae n1.1]
       exact lC _ _ e (by simp[n1.2,naf])
      ·rw[zae nfD,gy,←hL];rfl
  ·rintro σ H6 ⟨⟨x4,x5,x6,rfl⟩,k6,gs,dn,rem,pY,pA,uF,uD,kS,fA,qC,rC,im,aB,oV⟩
   rw[Qa,cV,Qx (Qh _)]at qC
   have tY:rem=[]:=by
    cases rem with
    |nil=>rfl
    |cons c rem' =>
     have pz:c∈cs:=fA.mem_iff.mpr (Qn _ Qc)
     obtain⟨s0,t0,fB,_⟩:=C.cy c pz
     have av:s0∈c:=by rw[fB];exact Qc
     have h1:s0∈ws:=ap.mem_iff.mpr ((dX s0).mpr (C.inc pz av))
     have h2:=(kS s0).mp (qC s0 h1)
     have h3:=(List.Perm.flatten fA).nodup_iff.mp C.cf
     rw[Wh,Zb]at h3
     exact absurd rfl (h3.2.2 s0 h2 s0 (Zu.mpr ⟨c,Qc,av⟩))
   rw[tY,Zy]at fA
   refine⟨_,rfl,D,_,rfl,SqL.of rC,λv hv=>?_,λl7 ws7 qY ku=>?_⟩
   ·obtain ⟨a,ha,rfl⟩:=Qf.mp hv
    obtain⟨j,hj,rfl⟩:=Zp ha
    obtain⟨_,t,e⟩:=zbk im hj
    exact⟨_,_,rfl,e⟩
   ·obtain ⟨as7,rfl,iu⟩:=refs_perm ku
    obtain⟨hd7,eT,g7⟩:=zd9 iu im
    refine k l7 as7 hd7 pA dn _ zac (by rw[iu.length_eq];rw[Qa]at oV;lia) (Paired.imp' (λa h ⟨t,e⟩=>⟨t,by rw[zae (zaa e qY)];exact e⟩) g7) eT fA.symm aB ?_
    refine(λc u ec _=>?_)
    have nD:c≠D:=λz=>by
     by_cases zd:c=d
     ·exact ndD (zd▸z)
     ·have h2:=k2 c u (k1 c u ec (by simp)) (by simpa using zd)
      rw[z,hD]at h2;cases h2
    have nG:c≠g:=λz=>by
     have h1:=k3 c u (k1 c u ec (by simp)) (by simp)
     rw[z,hg]at h1;cases h1
    have:=k6 c u (sE c u ec (by simp)) (by simp[nD,nG])
    rw[zae (zaa this qY)];exact this
abbrev zf9:Stmt:=top 12
abbrev zh5:Stmt:=top 13
def marks(ks:Ng):List (Key×V):=ks.map λz=>((Sum.inr z:Key),V.bl true)
def zfm(h:x∉ks):valV (marks ks) (Sum.inr x)=none:=by
 unfold marks
 induction ks with
 |nil=>rfl
 |cons a t ih =>
  rw[Qe,not_or]at h
  rw[Ql,zbh]
  ·exact ih h.2
  ·intro q;exact h.1 (Wi q).symm
def valM_in(h:x∈ks):valV (marks ks) (Sum.inr x)=some (.bl true):=by
 unfold marks
 induction ks with
 |nil=>cases h
 | cons a t ih =>
  rw[Ql]
  by_cases e:a=x
  ·exact zbw (by rw[e])
  ·rw [zbh (fun q=>e (Wi q))]
   rcases Qe.mp h with z | z
   ·exact absurd z.symm e
   ·exact ih z
def zic(h:x∉ks):putK (marks ks) (Sum.inr x) (.bl true)=marks (ks++[x]):=by
 rw[zdp _ (zfm h)];unfold marks;rw[List.map_append];rfl
def putM_old(h:x∈ks):putK (marks ks) (Sum.inr x) (.bl true)=marks ks:=by
 unfold putK marks
 rw[if_pos]
 ·rw [Ze]
  refine Yj λz _=>?_
  show(if(Sum.inr z:Key)=Sum.inr x then((Sum.inr z:Key),V.bl true) else(Sum.inr z,V.bl true))=_
  split<;>rfl
 ·exact Yq.mpr ⟨_,Qf.mpr ⟨x,h,rfl⟩,by simp⟩
def mkeys(ks:Ng):((marks ks).map λp=>kV p.1)=ks.map V.str:=by unfold marks;rw[List.map_map];rfl
inductive IspPiece(vs:List V)(H:Hp)(Q:VK):Prop
 |mk (d:Nb) (es:List Ent) (cs:List (List (Str×Str))) (aa:Nu) (x:Str) (h0:vs=[.ref d,.str x]) (h1:TAt H d es) (h2:es.length≤60) (h3:Cert (es.map (·.1)) (row (rsOf es)) cs aa) (h4:x∈es.map (·.1)) (h5:∀(l:Nb) (zs:Ng) (H':Hp),H' l=some (.lst (zs.map V.str))→zs.Nodup→zs.Pairwise leS→(∀y,y∈zs↔y∈es.map (·.1)∧aa y=aa x)→H l=none→Keep [] H H'→Q (.ref l) H'):IspPiece vs H Q
def spPiece:Sp:=λvs H Q _=>IspPiece vs H Q
def seqO(b:Bool)(xs:List V):HO:=bif b then .tup xs else .lst xs
structure GAt(b:Bool)(H:Hp)(d:Nb)(es:List Ent):Prop where
 dc:H d=some (.dK (eV es))
 ro:∀e∈es,H e.2.2=some (seqO b (e.2.1.map V.str))
 nd:(es.map (·.1)).Nodup
def GAt.keep(r:GAt b H d es)(k:Keep xs H H')(hd:d∉xs)(h:∀e∈es,e.2.2∉xs):GAt b H' d es:=⟨k _ _ r.dc hd,λe he=>k _ _ (r.ro e he) (h e he),r.nd⟩
def SqB(b:Bool)(K:Na)(H:Hp)(a:Nb)(xs:List V):Prop:=bif b then SqT K H a xs else SqL K H a xs
def ItB(b:Bool)(K:Na)(a:Nb):It:=bif b then Itt K a else Itl K a
def SqB.of{b:Bool}{K:Na}{H:Hp}{a:Nb}{xs:List V}(h:H a=some (seqO b xs)):SqB b K H a xs:=by
 cases b
 ·exact SqL.of h
 ·exact SqT.of h
def GAt.sq{b:Bool}{K:Na}{H:Hp}{d:Nb}{es:List Ent}{e:Ent}(r:GAt b H d es)(he:e∈es):SqB b K H e.2.2 (e.2.1.map V.str):=SqB.of (r.ro e he)
def iB(b:Bool)(K:Na)(tl:TE):TI:=λ σ H R=>tl σ H λx H1=>RI1 x (λa=>∃xs,SqB b K H1 a xs) λa=>R (ItB b K a) H1
def pi_b(b:Bool){X:Cx}{tg l:Expr}{tl:TE}(hl:PE X l tl):PI X tg l (iB b X.K tl):=by
 cases b
 ·exact za8 hl
 ·exact pi_tup hl
def for_b(b:Bool){K:Na}{a:Nb}{xs:List V}{g:TG}{tb:TS}{D:Ends}{σ:St}{H:Hp}(Pv:Nat→St→Hp→Prop)(h0:Pv 0 σ H)(hl:∀i σ H,i≤xs.length→Pv i σ H→SqB b K H a xs)(hs:∀i x σ H,xs[i]?=some x→Pv i σ H→g x σ H λ σ2 H2=>tb {D with nx:=Pv (i+1),ct:=Pv (i+1),bk:=D.nx} σ2 H2)(hd:∀σ H,Pv xs.length σ H→D.nx σ H) :
  ∃W:Nat→Nat→St→Hp→Prop,(∃m,W 0 m σ H)∧∀i m σ H,W i m σ H →
   ((ItB b K a).stop i H∧D.nx σ H)∨((ItB b K a).go i H∧∃N:St→Hp→Prop,(∀σ' H',N σ' H'→∃m',m'<m∧W (i+1) m' σ' H')∧∀x H',(ItB b K a).yld i H x H'→g x σ H' λ σ2 H2=>tb {D with nx:=N,ct:=N,bk:=D.nx} σ2 H2):=by
 cases b
 ·exact zby Pv h0 hl hs hd
 ·exact for_tup Pv h0 hl hs hd
inductive IspPieceG(b:Bool)(vs:List V)(H:Hp)(Q:VK):Prop
 |mk (d:Nb) (es:List Ent) (x:Str) (h0:vs=[.ref d,.str x]) (h1:GAt b H d es) (h2:es.length≤60) (h3:∀z y,y∈row (rsOf es) z→y∈es.map (·.1)) (h4:x∈es.map (·.1)) (h5:∀(l:Nb) (zs:Ng) (H':Hp),H' l=some (.lst (zs.map V.str))→zs.Nodup→zs.Pairwise leS→(∀y,y∈zs↔Conn (row (rsOf es)) x y)→H l=none→Keep [] H H'→Q (.ref l) H'):IspPieceG b vs H Q
def spPieceG(b:Bool):Sp:=λvs H Q _=>IspPieceG b vs H Q
def zf6:zap ["rounds", "start", "reached", "waiting", "place", "other"] ["rounds", "start"] (zag zf9):=fsk
def ok_pieceG(b:Bool){f:Nb}{fd:No}(F:Fun K "piece_from" "piece_from" zf9 f fd)(aO:mg "sorted" = none):FnOk P w K mg base CX0 1 f fd ["rounds", "start"] (spPieceG b):=by
 refine F.okL zf6 (λcdv A outer s H vs Q E hr h=>?_)
 obtain⟨d,es,x,rfl,T,aS,aL,hx,k⟩:=h
 have hu:=zbz hr
 have av  := sizeLine_eq
 refine⟨_,zad (zau 2 zf6.nd (zge (zcz (pv 1) pe_bl zgc) rfl rfl (by decide) (by decide)))
  (zad (zau 3 zf6.nd (zbd (zab (pv 1) zaf)))
  (zad (zfu Zr (zft (pv 3) (by intro _;rfl))
   (zad (zau 4 zf6.nd (pe_bm0 Zq PySem.F.slot_list_pop PySem.F.type_list_pop mt_pop (pv 3)))
   (zah (zbq Zr rfl (pi_b b (zbo hu (pv 0) (pv 4))) (za9 5 zf6.nd)
    (zah (zbp (zcv (zcm hu (pv 5) (pv 2)))
     (zad (zcg hu (pv 2) (pv 5) pe_bl rfl)
     (zah (za3 (zd8 Zq Wn Wm zcw (pv 3) (zab (pv 5) zaf))))) zaw))))))
  (zah (zbn (zal (zch rfl) (by rfl) aO Wo (zab (pv 2) zaf)))))),?_⟩
 have ar:∀e∈es,row (rsOf es) e.1=e.2.1:=λe he=>zbj T.nd he
 refine λre eS=>⟨_,rfl,zac,[(Sum.inr x,.bl true)],rfl,(by show 1≤15;decide),?_⟩
 have iC:(zcn [] [((Sum.inr x:Key),V.bl true)])=marks [x]:=rfl
 rw[iC]
 have kre:Keep [] H (upd (upd H re (.dK [])) re (.dK (marks [x]))):=by rw[upd_upd];exact Keep.new eS
 have dS:(upd (upd H re (.dK [])) re (.dK (marks [x]))) re=some (.dK (marks [x])):=zac
 generalize upd (upd H re (.dK [])) re (.dK (marks [x]))=H1 at kre dS
 refine⟨_,rfl,(by show 1≤sizeLine;decide),λwa iZ=>?_⟩
 have k2:Keep [] H (upd H1 wa (.lst [.str x])):=kre.trans (Keep.new iZ)
 have jO:H wa=none:=zak (xs:=[]) kre iZ (by simp)
 have nh:(upd H1 wa (.lst [.str x])) wa=some (.lst ([x].map V.str)):=zac
 have qo:re≠wa:=zaa dS iZ
 have fZ:(upd H1 wa (.lst [.str x])) re=some (.dK (marks [x])):=by rw[zae qo];exact dS
 generalize upd H1 wa (.lst [.str x])=H2 at k2 nh fZ
 have T2:GAt b H2 d es:=T.keep k2 (by simp) (λ_ _=>by simp)
 have dq:d≠re:=zaa T.dc eS
 have ndw:d≠wa:=zaa T.dc jO
 have rowne:∀e∈es,e.2.2≠re∧e.2.2≠wa:=λe he=>⟨zaa (T.ro e he) eS,zaa (T.ro e he) jO⟩
 refine⟨λm σ H'=>Aj3 (Ex2 λx4 x5=>σ=[some (.ref d),some (.str x),some (.ref re),some (.ref wa),x4,x5]) (Keep [re,wa] H2 H') (Ex2 λ(ks wl:Ng)=>Aj9 (H' re=some (.dK (marks ks))) (H' wa=some (.lst (wl.map V.str))) ks.Nodup wl.Nodup (∀z∈wl,z∈ks) (∀z∈ks,z∈es.map (·.1)∧Conn (row (rsOf es)) x z) (x∈ks) (∀z∈ks,z∉wl→∀y∈row (rsOf es) z,y∈ks) (m=es.length+wl.length-ks.length)),
  ⟨_,⟨none,none,rfl⟩,Keep.refl,[x],[x],fZ,nh,Qr.mpr ⟨by simp,Zn⟩,Qr.mpr ⟨by simp,Zn⟩,λz h=>h,λz h=>(by rw[Qb.mp h];exact⟨hx,.refl⟩),Qc,λz h h'=>absurd h h',rfl⟩,?_⟩
 rintro m σ H3 ⟨⟨x4,x5,rfl⟩,k3,ks,wl,cO,jR,dA,dL,qA,kL,hxk,gC,rfl⟩
 have uv:ks.length≤es.length:=by
  have:=zdf dA (m:=es.map (·.1)) λz hz=>(kL z hz).1
  rwa[Qa]at this
 have n8:wl.length≤ks.length:=zdf dL qA
 refine⟨_,rfl,_,.inl ⟨_,SqL.of jR,rfl⟩,?_⟩
 rcases List.eq_nil_or_concat wl with cY | ⟨ini,z,cY⟩
 ·-- all are reached
  subst cY
  refine zcq rfl ?_
  refine⟨_,rfl,re,_,ks,rfl,.inl cO,mkeys ks,λl zs hl ap bi=>?_⟩
  have kf:Keep [] H H3:=λc u ec _=>k3 c u (k2 c u ec (by simp)) (by simp[zaa ec eS,zaa ec jO])
  refine k l zs _ zac (ap.nodup_iff.mpr dA) (bi (by omega)) (λy=>?_) (zak kf hl (by simp)) (kf.trans (Keep.new hl))
  rw[ap.mem_iff]
  constructor
  ·exact λh=>(kL y h).2
  ·intro hc
   induction hc with
   |refl=>exact hxk
   |step _ hz ih=>exact gC _ ih (by simp) _ hz
 ·rw [List.concat_eq_append] at cY
  subst cY
  refine zdv (by rw[Qp];cases ini<;>rfl) ?_
  refine⟨_,λ σ' H' zz=>zz,?_⟩
  have c9:z∈ks:=qA z (Qn _ Qc)
  obtain⟨en,aT,cE⟩:=Qf.mp (kL z c9).1
  have mK:en.1=z:=cE
  rw[Zb]at dL
  obtain⟨aE,_,vg⟩:=dL
  have sR:z∉ini:=λq=>vg z q z Qc rfl
  have gc:((ini++[z]).map V.str)[((ini++[z]).map V.str).length-1]?=some (.str z):=by
   rw[Qp,Qs,Uw (by simp)]
   simp
  have lS:((ini++[z]).map V.str).dropLast=ini.map V.str:=by rw[Qp];exact List.dropLast_concat
  refine⟨_,rfl,.inl ⟨rfl,_,SqL.of jR⟩,wa,_,_,rfl,rfl,jR,gc,?_⟩
  rw[lS]
  have k4:Keep [re,wa] H2 (upd H3 wa (.lst (ini.map V.str))):=k3.trans (Keep.wr (by simp))
  have fM:(upd H3 wa (.lst (ini.map V.str))) wa=some (.lst (ini.map V.str)):=zac
  have fX:(upd H3 wa (.lst (ini.map V.str))) re=some (.dK (marks ks)):=by rw[zae qo];exact cO
  generalize upd H3 wa (.lst (ini.map V.str))=H4 at k4 fM fX
  have T4:GAt b H4 d es:=T2.keep k4 (by simp[dq,ndw]) λe he=>by simp[(rowne e he).1,(rowne e he).2]
  have dg:DGet H4 d (.str z) (some (.ref en.2.2)):=by
   have:=DGet.k (k:=Sum.inr en.1) T4.dc
   rw[zbu T4.nd aT,mK]at this
   exact this
  have qJ:row (rsOf es) z=en.2.1:=by rw[←mK];exact ar en aT
  refine⟨_,rfl,_,rfl,d,_,rfl,dg,en.2.2,rfl,⟨_,GAt.sq T4 aT⟩,for_b b (xs:=en.2.1.map V.str) (λj σ H'=>Aj3 (Ex1 λx5=>σ=[some (.ref d),some (.str x),some (.ref re),some (.ref wa),some (.str z),x5]) (Keep [re,wa] H2 H') (Ex1 λ(nw:Ng)=>Aj5 (H' re=some (.dK (marks (ks++nw)))) (H' wa=some (.lst ((ini++nw).map V.str))) ((ks++nw).Nodup) (∀y∈nw,y∈es.map (·.1)∧Conn (row (rsOf es)) x y) (∀y∈en.2.1.take j,y∈ks++nw)))
   ⟨⟨_,rfl⟩,k4,[],by rw[Zy];exact fX,by rw[Zy];exact fM,by rw[Zy];exact dA,λy hy=>(by cases hy),λy hy=>(by cases hy)⟩
   (λj σ H' _ hh=>(SqB.of (hh.2 _ _ (T2.ro en aT) (by simp[(rowne en aT).1,(rowne en aT).2])))) ?_ ?_⟩
  ·rintro j y σ H5 hy ⟨⟨y5,rfl⟩,k5,nw,cw,dM,dh,dU,fP⟩
   have hj:j<en.2.1.length:=by
    have:=(Zd.mp hy).1
    rwa[Qa]at this
   have aX:y=.str en.2.1[j]:=by
    rw[Qq,Qd hj]at hy
    exact(Qk hy).symm
   subst aX
   have mQ:en.2.1[j]∈row (rsOf es) z:=by rw[qJ];exact Qv hj
   have cb:en.2.1.take (j+1)=en.2.1.take j++[en.2.1[j]]:=Qm hj
   have hsz:(ks++nw).length≤es.length:=by
    have:=zdf dh (m:=es.map (·.1)) λq hq=>by
     rcases Qi.mp hq with h | h
     ·exact(kL q h).1
     ·exact(dU q h).1
    rwa[Qa]at this
   have rO:=DGet.k (k:=Sum.inr en.2.1[j]) cw
   by_cases aE:en.2.1[j]∈ks++nw
   ·rw [valM_in aE] at rO
    refine⟨_,rfl,_,rfl,re,_,rfl,rO,_,rfl,zcq rfl ?_⟩
    refine⟨⟨_,rfl⟩,k5,nw,cw,dM,dh,dU,λq hq=>?_⟩
    rw[cb]at hq
    rcases Qi.mp hq with h | h
    ·exact fP q h
    ·rw[Qb.mp h];exact aE
   ·rw [zfm aE] at rO
    refine⟨_,rfl,_,rfl,re,_,rfl,rO,_,rfl,zdv rfl ?_⟩
    refine⟨_,rfl,_,rfl,re,_,rfl,DPut.k (k:=Sum.inr en.2.1[j]) cw (by unfold marks;rw[List.length_map];lia),?_⟩
    rw[zic aE]
    have d0:(upd H5 re (.dK (marks (ks++nw++[en.2.1[j]])))) wa=some (.lst ((ini++nw).map V.str)):=by rw[zae (Qw qo)];exact dM
    have dR:(upd H5 re (.dK (marks (ks++nw++[en.2.1[j]])))) re=some (.dK (marks (ks++nw++[en.2.1[j]]))):=zac
    have k6:Keep [re,wa] H2 (upd H5 re (.dK (marks (ks++nw++[en.2.1[j]])))):=k5.trans (Keep.wr (by simp))
    generalize upd H5 re (.dK (marks (ks++nw++[en.2.1[j]])))=H6 at d0 dR k6
    rw[Qs]at hsz
    rw[Qs,Qz,Ul]at n8
    refine⟨_,rfl,.inl ⟨rfl,_,SqL.of d0⟩,_,rfl,wa,_,_,rfl,rfl,d0,(by rw[Qa,Qs];lia),?_⟩
    refine⟨⟨_,rfl⟩,k6.trans (Keep.wr (by simp)),nw++[en.2.1[j]],by rw[zae qo,←Qy];exact dR,by rw[zac,←Qy,Qp (l₂:=[en.2.1[j]])];rfl,?_,λq hq=>?_,λq hq=>?_⟩
    ·rw [← Qy,Zb]
     refine⟨dh,Qr.mpr ⟨by simp,Zn⟩,λa ha b hb e=>?_⟩
     rw[Qb.mp hb]at e
     exact aE (e▸ha)
    ·rcases Qi.mp hq with h | h
     ·exact dU q h
     ·rw [Qb.mp h]
      exact⟨aL z _ mQ,.step (kL z c9).2 mQ⟩
    ·rw [cb] at hq
     rw[←Qy]
     rcases Qi.mp hq with h | h
     ·exact Qo _ (fP q h)
     ·exact Qn _ h
  ·rintro σ H5 ⟨⟨y5,rfl⟩,k5,nw,cw,dM,dh,dU,fP⟩
   rw[Qa,Qx (Qh _)]at fP
   have hsz:(ks++nw).length≤es.length:=by
    have:=zdf dh (m:=es.map (·.1)) λq hq=>by
     rcases Qi.mp hq with h | h
     ·exact(kL q h).1
     ·exact(dU q h).1
    rwa[Qa]at this
   have g9:=dh
   rw[Zb]at g9
   refine⟨es.length+(ini++nw).length-(ks++nw).length,?_,⟨_,_,rfl⟩,k5,ks++nw,ini++nw,cw,dM,dh,?_,?_,?_,Qo _ hxk,?_,rfl⟩
   ·rw [Qs] at hsz
    rw[Qs,Qs,Qs,Qz,Ul]
    rw[Qs,Qz,Ul]at n8
    lia
   ·rw [Zb]
    refine⟨aE,g9.2.1,λa ha b hb e=>g9.2.2 a (qA a (Qo _ ha)) b hb e⟩
   ·intro q hq
    rcases Qi.mp hq with h | h
    ·exact Qo _ (qA q (Qo _ h))
    ·exact Qn _ h
   ·intro q hq
    rcases Qi.mp hq with h | h
    ·exact kL q h
    ·exact dU q h
   ·intro q hq oh y hy
    rw[Qi,not_or]at oh
    rcases Qi.mp hq with h | h
    ·by_cases hqz:q=z
     ·rw[hqz,qJ]at hy;exact fP y hy
     ·exact Qo _ (gC q h (by rw[Qi,not_or,Qb];exact⟨oh.1,hqz⟩) y hy)
    ·exact absurd h oh.2
def ok_piece(F:Fun K "piece_from" "piece_from" zf9 f fd)(aO:mg "sorted" = none):FnOk P w K mg base CX0 1 f fd ["rounds", "start"] spPiece :=
 (ok_pieceG true F aO).imp fun vs H Q E ⟨d,es,cs,aa,x,e,T,aS,C,hx,k⟩=>⟨d,es,x,e,⟨T.dc,T.ro,T.nd⟩,aS,fun z y h=>C.inn' h,hx,fun l zs H' h1 h2 h3 h4=>k l zs H' h1 h2 h3 fun y=>(h4 y).trans ⟨fun h=>by
  induction h with
  |refl=>exact⟨hx,rfl⟩
  |step _ mQ ih=>exact⟨C.inn' mQ,(C.la _ _ mQ).trans ih.2⟩,λh=>C.co x hx y h.1 h.2.symm⟩⟩
def IsPiece(ns:Ng)(aa:Nu)(zs:Ng):Prop:=zs.Nodup∧∃s∈ns,∀y,y∈zs↔y∈ns∧aa y=aa s
structure InRow(ns:Ng)(zss:List (List Str)):Prop where
 so:∀zs∈zss,zs.Pairwise leS
 hd:zss.Pairwise λa b=>∀x∈a.head?,∀y∈b.head?,leS x y
 al:∀y∈ns,∃zs∈zss,y∈zs
def zg1(H:Hp)(a:Nb)(zs:Ng):Prop:=H a=some (.lst (zs.map V.str))
inductive IspPieces(vs:List V)(H:Hp)(Q:VK):Prop
 |mk (d:Nb) (es:List Ent) (cs:List (List (Str×Str))) (aa:Nu) (h0:vs=[.ref d]) (h1:TAt H d es) (h2:es.length≤60) (h3:Cert (es.map (·.1)) (row (rsOf es)) cs aa) (h4:∀(l:Nb) (as:Nl) (zss:List (List Str)) (H':Hp),H' l=some (.lst (as.map V.ref))→Paired (zg1 H') as zss→(∀zs∈zss,IsPiece (es.map (·.1)) aa zs)→InRow (es.map (·.1)) zss→Keep [] H H'→Q (.ref l) H'):IspPieces vs H Q
def spPieces:Sp:=λvs H Q _=>IspPieces vs H Q
def zdo:zap ["rounds", "found", "reached", "start", "piece", "place"] ["rounds"] (zag zh5):=fsk
def ok_pieces(F:Fun K "pieces_of" "pieces_of" zh5 f fd)(FP:Fun K "piece_from" "piece_from" zf9 fp fdp)(bP:Binds K fdp ["rounds", "start"] [])(mP:mg "piece_from" = some (.ref fp))(GP:FnOk P w K mg base CX0 1 fp fdp ["rounds", "start"] spPiece)(aO:mg "sorted" = none):FnOk P w K mg base CX0 2 f fd ["rounds"] spPieces:=by
 refine F.okL zdo (λcdv A outer s H vs Q E hr h=>?_)
 obtain⟨d,es,cs,aa,rfl,T,aS,C,k⟩:=h
 have hu:=zbz hr
 have av  := sizeLine_eq
 refine⟨_,zad (zau 1 zdo.nd (zbd zaf))
  (zad (zau 2 zdo.nd zfv)
  (zad (zbq Zr rfl (za8 (zal (zch rfl) (by rfl) aO Wo (zab (pv 0) zaf))) (za9 3 zdo.nd)
   (zah (zbp (zcv (zcm hu (pv 3) (pv 2)))
    (zad (zau 4 zdo.nd (zaj GP hr rfl mP FP.kp bP .nil zat (zab (pv 0) (zab (pv 3) zaf))))
    (zad (za3 (zd8 Zq Wn Wm zcw (pv 1) (zab (pv 4) zaf)))
    (zah (zbq Zr rfl (za8 (pv 4)) (za9 5 zdo.nd)
     (zah (zcg hu (pv 2) (pv 5) pe_bl rfl)))))) zaw)))
  (zah (zbn (pv 1))))),?_⟩
 refine⟨(by show 0≤sizeLine;decide),λfo e7 re eS=>?_⟩
 have fW:H re=none:=zak (xs:=[]) (Keep.new e7) eS (by simp)
 have sw:fo≠re:=zaa (o:=_) zac eS
 have k1:Keep [] H (upd (upd H fo (.lst [])) re (.dK [])):=(Keep.new e7).trans (Keep.new eS)
 have gw:(upd (upd H fo (.lst [])) re (.dK [])) fo=some (.lst []):=by rw[zae sw];exact zac
 have dS:(upd (upd H fo (.lst [])) re (.dK [])) re=some (.dK []):=zac
 generalize upd (upd H fo (.lst [])) re (.dK [])=H1 at k1 gw dS
 have T1:TAt H1 d es:=T.keep k1 (by simp) (λ_ _=>by simp)
 refine⟨_,rfl,d,_,es.map (·.1),rfl,.inl T1.dc,zgm es,λl ws hl ap bi=>?_⟩
 replace bi:=bi (by rw[Qa];omega)
 have k2:Keep [] H1 (upd H1 l (.lst (ws.map V.str))):=Keep.new hl
 have ak:(upd H1 l (.lst (ws.map V.str))) l=some (.lst (ws.map V.str)):=zac
 have nlf:l≠fo:=Qw (zaa gw hl)
 generalize upd H1 l (.lst (ws.map V.str))=H2 at k2 ak
 have cR:=k2 _ _ gw (by simp)
 have fZ:=k2 _ _ dS (by simp)
 have nlr:l≠re:=za2 ak fZ (by intro z;cases z)
 have T2:TAt H2 d es:=T1.keep k2 (by simp) (λ_ _=>by simp)
 have gK:Keep [] H H2:=k1.trans k2
 have ndf:d≠fo:=zaa T.dc e7
 have dq:d≠re:=zaa T.dc fW
 have cY:ws.length=es.length:=by rw[ap.length_eq,Qa]
 refine⟨l,rfl,⟨_,SqL.of ak⟩,for_strs (zs:=ws) (λi σ H'=>Aj3 (Ex3 λx3 x4 x5=>σ=[some (.ref d),some (.ref fo),some (.ref re),x3,x4,x5]) (Keep [fo,re] H2 H') (Ex3 λ(as:Nl) (zss:List (List Str)) (ks:Ng)=>Aj8 (H' fo=some (.lst (as.map V.ref))) (H' re=some (.dK (marks ks))) (Paired (zg1 H') as zss) (∀zs∈zss,IsPiece (es.map (·.1)) aa zs) (as.length≤i) ks.Nodup (∀z∈ks,z∈es.map (·.1)) (Aj7 (∀a∈as,a≠fo) (∀y∈ws.take i,y∈ks) (∀y∈ks,∃zs∈zss,y∈zs) (∀zs∈zss,∀y∈zs,y∈ks) (∀zs∈zss,∀x∈zs.head?,x∈ws.take i) (zss.Pairwise λa b=>∀x∈a.head?,∀y∈b.head?,leS x y) (∀zs∈zss,zs.Pairwise leS))))
  ⟨⟨_,_,_,rfl⟩,Keep.refl,[],[],[],cR,fZ,.nil,λzs h=>(by cases h),Zg _,Zn,λz h=>(by cases h),λz h=>(by cases h),λz h=>(by cases h),λz h=>(by cases h),λz h=>(by cases h),λz h=>(by cases h),List.Pairwise.nil,λz h=>(by cases h)⟩ (λi σ H' _ hh=>SqL.of (hh.2 _ _ ak (by simp[nlf,nlr]))) ?_ ?_⟩
 ·rintro i hi σ H3 ⟨⟨x3,x4,x5,rfl⟩,k3,as,zss,ks,gu,cO,db,kC,vz,dA,qZ,iL,c1,c2,c6,c3,c4,c5⟩
  have dg:=DGet.k (k:=Sum.inr ws[i]) cO
  have T3:TAt H3 d es:=T2.keep k3 (by simp[ndf,dq]) λe he=>by
   have h1:=T.ro e he
   simp[zaa h1 e7,zaa h1 fW]
  by_cases aE:ws[i]∈ks
  ·rw [valM_in aE] at dg
   refine⟨_,rfl,_,rfl,re,_,rfl,dg,_,rfl,zcq rfl ?_⟩
   refine⟨⟨_,_,_,rfl⟩,k3,as,zss,ks,gu,cO,db,kC,by exact zar16 ‹_›,dA,qZ,iL,λy hy=>?_,c2,c6,λzs h x hx=>Uv (i:=i) (by rw[List.take_take,Nat.min_eq_left (Ww i)];exact c3 zs h x hx),c4,c5⟩
   rw[Qm hi]at hy
   rcases Qi.mp hy with h | h
   ·exact c1 y h
   ·rw[Qb.mp h];exact aE
  ·rw [zfm aE] at dg
   refine⟨_,rfl,_,rfl,re,_,rfl,dg,_,rfl,zdv rfl ?_⟩
   have i7:=ap.mem_iff.mp (Qv hi)
   refine⟨_,rfl,_,rfl,d,es,cs,aa,ws[i],rfl,T3,aS,C,i7,λp zs H4 ci cE sO bJ u9 k4=>?_⟩
   obtain⟨jD,uu⟩:∃jD,jD=ks:=⟨_,rfl⟩
   rw[←uu]at cO dA qZ aE c1 c2 c6
   have cQ:=k4 _ _ gu (by simp)
   have fX:=k4 _ _ cO (by simp)
   have npf:p≠fo:=Qw (zaa gu u9)
   have npr:p≠re:=za2 ci fX (by intro z;cases z)
   refine⟨_,rfl,.inl ⟨rfl,_,SqL.of cQ⟩,_,rfl,fo,_,_,rfl,rfl,cQ,(by rw[Qa];lia),?_⟩
   have k5:Keep [fo,re] H2 (upd H4 fo (.lst (as.map V.ref++[.ref p]))):=(k3.trans (k4.sub (by simp))).trans (Keep.wr (by simp))
   have iH:(upd H4 fo (.lst (as.map V.ref++[.ref p]))) fo=some (.lst ((as++[p]).map V.ref)):=by rw[zac,Qp];rfl
   have cw:(upd H4 fo (.lst (as.map V.ref++[.ref p]))) re=some (.dK (marks jD)):=by rw[zae (Qw sw)];exact fX
   have br:(upd H4 fo (.lst (as.map V.ref++[.ref p]))) p=some (.lst (zs.map V.str)):=by rw[zae npf];exact ci
   have iq:Paired (zg1 (upd H4 fo (.lst (as.map V.ref++[.ref p])))) (as++[p]) (zss++[zs]):=by
    refine zbl ?_ (.cons br .nil)
    have:∀{as:Nl} {zss:List (List Str)},Paired (zg1 H3) as zss→(∀a∈as,a≠fo)→Paired (zg1 (upd H4 fo (.lst (as.map V.ref++[.ref p])))) as zss:=λ{as zss} r ha=>by
     have h2:∀(L:List V),Paired (zg1 (upd H4 fo (.lst L))) as zss:=λL=>by
      induction r with
      |nil=>exact .nil
      |cons h t ih=>exact .cons (by unfold zg1;rw[zae (ha _ List.mem_cons_self)];exact k4 _ _ h (by simp)) (ih λa h=>ha a (List.mem_cons_of_mem _ h))
     exact h2 _
    exact this db iL
   have pH:∀a∈as++[p],a≠fo:=λa ha=>by
    rcases Qi.mp ha with h | h
    ·exact iL a h
    ·rw[Qb.mp h];exact npf
   generalize upd H4 fo (.lst (as.map V.ref++[.ref p]))=H5 at k5 iH cw br iq
   refine⟨_,rfl,p,rfl,⟨_,SqL.of br⟩,zby (xs:=zs.map V.str) (λj σ H'=>Aj3 (Ex1 λx5=>σ=[some (.ref d),some (.ref fo),some (.ref re),some (.str ws[i]),some (.ref p),x5]) (Keep [re] H5 H') (Ex1 λ(ks:Ng)=>Aj4 (H' re=some (.dK (marks ks))) ks.Nodup (∀z∈ks,z∈es.map (·.1)) (∀z,z∈ks↔z∈jD∨z∈zs.take j)))
    ⟨⟨_,rfl⟩,Keep.refl,jD,cw,dA,qZ,λz=>⟨.inl,λh=>h.elim id λh=>(by cases h)⟩⟩ (λj σ H' _ hh=>SqL.of (hh.2 _ _ br (by simpa using npr))) ?_ ?_⟩
   ·rintro j y σ H6 hy ⟨⟨y5,rfl⟩,k6,jC,dR,gj,gk,cP⟩
    have hj:j<zs.length:=by
     have:=(Zd.mp hy).1
     rwa[Qa]at this
    obtain⟨z,hz,rfl,ez⟩:∃z,z∈zs∧y=V.str z∧z=zs[j]:=by
     rw[Qq,Qd hj]at hy
     exact⟨zs[j],Qv hj,(Qk hy).symm,rfl⟩
    have step:∀q,(q∈jC∨q=z)↔q∈jD∨q∈zs.take (j+1):=λq=>by
     rw[cP,Qm hj,Qi,Qb,ez,or_assoc]
    have hsz:jC.length≤es.length:=by
     have:=zdf gj gk
     rwa[Qa]at this
    refine⟨_,rfl,_,rfl,re,_,rfl,DPut.k (k:=Sum.inr z) dR (by unfold marks;rw[List.length_map];lia),⟨_,rfl⟩,k6.trans (Keep.wr (by simp)),?_⟩
    by_cases c9:z∈jC
    ·exact⟨jC,by rw[zac,putM_old c9],gj,gk,λq=>by rw[←step q];exact⟨.inl,λh=>h.elim id λe=>e▸c9⟩⟩
    ·refine ⟨jC++[z],by rw [zac,zic c9],?_,fun q hq=>?_,fun q=>by rw [← step q,Qi,Qb]⟩
     ·rw [Zb]
      refine⟨gj,Qr.mpr ⟨by simp,Zn⟩,λa ha b hb e=>?_⟩
      rw[Qb.mp hb]at e
      exact c9 (e▸ha)
     ·rcases Qi.mp hq with h | h
      ·exact gk q h
      ·rw[Qb.mp h];exact((bJ z).mp hz).1
   ·rintro σ H6 ⟨⟨y5,rfl⟩,k6,jC,dR,gj,gk,cP⟩
    rw[Qa,Qx (Qh _)]at cP
    have mZ:ws[i]∈zs:=(bJ _).mpr ⟨i7,rfl⟩
    have jf:zs.head?=some ws[i]:=by
     cases eM:zs with
     |nil=>rw[eM]at mZ;cases mZ
     | cons m t =>
      have hmz:m∈zs:=by rw[eM];exact Qc
      obtain⟨iz,uj⟩:=(bJ m).mp hmz
      obtain⟨j,hj,ej⟩:=Zp (ap.mem_iff.mpr iz)
      have h1:leS m ws[i]:=by
       rw[eM]at mZ sO
       rcases Qe.mp mZ with q | q
       ·rw[q];exact λz=>Wz _ z
       ·exact(Ke.mp sO).1 _ q
      have bg:i≤j:=Nat.le_of_not_lt λag=>by
       have iC:m∈jD:=c1 m (by rw[←ej,←Ws (j:=i) (h:=by rw[Zi];omega)];exact Qv _)
       obtain⟨jw,ca,ui⟩:=c2 m iC
       obtain⟨_,s,_,hs⟩:=kC jw ca
       exact aE (c6 jw ca _ ((hs _).mpr ⟨i7,uj.symm.trans ((hs m).mp ui).2⟩))
      have h2:leS ws[i] m:=by
       rcases Nat.lt_or_eq_of_le bg with q | q
       ·rw[←ej];exact Kg.mp bi i j hi hj q
       ·subst q;rw[ej];exact λz=>Wz _ z
      rw[leS_anti _ _ h1 h2];rfl
    have tk:ws.take (i+1)=ws.take i++[ws[i]]:=Qm hi
    refine⟨⟨_,_,_,rfl⟩,k5.trans (k6.sub (by simp)),as++[p],zss++[zs],jC,k6 _ _ iH (by simpa using sw),dR,Paired.imp' (λa zs h=>k6 _ _ h (by simpa using za2 h cw (by intro z;cases z))) iq,λq hq=>?_,by rw[Qs];show _+1≤_;exact zar4 ‹_›,gj,gk,pH,λy hy=>?_,λy hy=>?_,λq hq y hy=>?_,λq hq x hx=>?_,?_,λq hq=>?_⟩
    ·rcases Qi.mp hq with h | h
     ·exact kC q h
     ·rw[Qb.mp h];exact⟨cE,ws[i],i7,bJ⟩
    ·rw [tk] at hy
     rcases Qi.mp hy with h | h
     ·exact(cP y).mpr (.inl (c1 y h))
     ·rw[Qb.mp h];exact(cP _).mpr (.inr mZ)
    ·rcases (cP y).mp hy with h | h
     ·obtain ⟨z,hz,aX⟩:=c2 y h
      exact⟨z,Qo _ hz,aX⟩
     ·exact⟨zs,Qn _ Qc,h⟩
    ·rcases Qi.mp hq with h | h
     ·exact(cP y).mpr (.inl (c6 q h y hy))
     ·rw[Qb.mp h]at hy;exact(cP y).mpr (.inr hy)
    ·rw [tk]
     rcases Qi.mp hq with h | h
     ·exact Qo _ (c3 q h x hx)
     ·rw [Qb.mp h,jf] at hx
      rw[←Qk hx];exact Qn _ Qc
    ·rw [List.pairwise_append]
     refine⟨c4,Wq _ _,λa ha b hb x hx y hy=>?_⟩
     rw[Qb.mp hb,jf]at hy
     rw[←Qk hy]
     obtain⟨j,hj,ej⟩:=Zp (c3 a ha x hx)
     rw[Zi]at hj
     rw[←ej,Ws]
     exact Kg.mp bi j i (by omega) hi (by omega)
    ·rcases Qi.mp hq with h | h
     ·exact c5 q h
     ·rw[Qb.mp h];exact sO
 ·rintro σ H3 ⟨⟨x3,x4,x5,rfl⟩,k3,as,zss,ks,gu,cO,db,kC,vz,dA,qZ,iL,c1,c2,c6,c3,c4,c5⟩
  rw[Qa,Qx (Qh _)]at c1
  refine⟨_,rfl,k fo as zss H3 gu db kC ⟨c5,c4,λy hy=>c2 y (c1 y (ap.mem_iff.mpr hy))⟩ λc u ec _=>k3 c u (gK c u ec (by simp)) (by simp[zaa ec e7,zaa ec fW])⟩
end
end K21
end
section
namespace L2
open PySem
def ze5(T:St→Prop)(q:V→Bool)(ha:SqL K H a xs)(hn:xs.length≤sizeLine)(h0:T τ)(hs:∀x∈xs,∀τ,T τ→∀(k1:V→St→Hp→Prop) (k0:St→Hp→Prop),(q x=true→∀τ2,T τ2→k1 x τ2 H)→(q x=false→∀τ2,T τ2→k0 τ2 H)→g x τ H λ τ2 H2=>tc τ2 H2 λb H3=>if b=true then te τ2 H3 λy H4=>k1 y τ2 H4 else k0 τ2 H3)(hq:∀D,H D=none→Q (.ref D) (upd H D (.lst (xs.filter q)))):rLC g tc te Q (Itl K a) τ H:=by
 refine⟨λi m ys τ H1=>Aj5 (H1=H) (T τ) (m=xs.length-i) (i≤xs.length) (ys=(xs.take i).filter q),⟨_,rfl,h0,rfl,Zg _,rfl⟩,?_⟩
 rintro i m ys τ H1 ⟨rfl,ht,rfl,hi,rfl⟩
 by_cases ag:i<xs.length
 ·have e8:((xs.take i).filter q).length≤i:=Zk (Ud _ _) (by rw [Zi];lia)
  refine .inr ⟨⟨xs,xs[i],ha,Qd ag⟩,by lia,?_⟩
  rintro x H' ⟨rfl,hx⟩
  have cv:=hx xs ha
  rw[Qd ag]at cv
  have jL:xs[i]=x:=Qk cv
  have cb:xs.take (i+1)=xs.take i++[x]:=by rw[Qm ag,jL]
  refine hs x (jL▸Qv ag) τ ht (λy τ2 H4=>∃m',m'<xs.length-i∧Aj5 (H4=H') (T τ2) (m'=xs.length-(i+1)) (i+1≤xs.length) ((xs.take i).filter q++[y]=(xs.take (i+1)).filter q))
   (λ τ2 H4=>∃m',m'<xs.length-i∧Aj5 (H4=H') (T τ2) (m'=xs.length-(i+1)) (i+1≤xs.length) ((xs.take i).filter q=(xs.take (i+1)).filter q)) (λj9 τ2 h2=>?_) λj9 τ2 h2=>?_
  ·exact⟨_,by exact zar1 ‹_›,rfl,h2,rfl,ag,by rw[cb,Ua,Zw j9,Je]⟩
  ·exact⟨_,by exact zar1 ‹_›,rfl,h2,rfl,ag,by rw[cb,Ua,Zx (by rw[j9];decide),Je,Zy]⟩
 ·have e:i=xs.length:=by exact zar3 ‹_› ‹_›
  subst e
  refine .inl ⟨⟨xs,ha,Qh _⟩,λD hD=>?_⟩
  rw[Qx (Qh _)]
  exact hq D hD
end L2
namespace K21
open PySem L2 Wb
def sum_filter{α:Type}{p:α→Bool}{f:α→Int}:∀l:List α,(l.map λx=>if p x=true then f x else 0).sum=((l.filter p).map f).sum:=by
 intro l
 induction l with
 |nil=>rfl
 |cons a t ih =>
  rw[Ql,Zm,ih]
  by_cases h:p a=true
  ·rw[if_pos h,Zw h,Ql,Zm]
  ·rw[if_neg h,Zx h];lia
def sum_parts{α:Type}{f:α→List Str}:∀l:List α,(l.map λx=>(2:Int)+(if f x=[] then 2 else 0)-((f x).length:Int)).sum=2*(l.length:Int)+2*((l.filter λx=>(f x).isEmpty).length:Int)-(((l.map λx=>(f x).length).sum:Nat):Int):=by
 intro l
 induction l with
 |nil=>rfl
 |cons a t ih =>
  rw[Ql,Zm,ih,Ql,Zm,Qz]
  by_cases h:f a=[]
  ·rw[Zw (by rw[h];rfl),Qz,if_pos h];lia
  ·rw[Zx (by rw[List.isEmpty_iff];exact h),if_neg h];lia
def sum_twos{α:Type}{p:α→Bool}:∀l:List α,(l.map λx=>if p x=true then(2:Int) else 0).sum=2*((l.filter p).length:Int):=by
 intro l
 induction l with
 |nil=>rfl
 |cons a t ih =>
  rw[Ql,Zm,ih]
  by_cases h:p a=true
  ·rw[if_pos h,Zw h,Qz];lia
  ·rw[if_neg h,Zx h];lia
def iso_eq{es:List Ent}(nd:(es.map (·.1)).Nodup):ze6 es=(es.map (·.1)).filter λx=>(row (rsOf es) x).isEmpty:=by
 unfold ze6
 rw[Jy]
 congr 1
 exact List.filter_congr λe he=>by
  show e.2.1.isEmpty=(row (rsOf es) e.1).isEmpty
  rw[zbj nd he]
def piece_count{es:List Ent}{cs cs':List (List (Str×Str))}{aa:Nu}(C:Cert (es.map (·.1)) (row (rsOf es)) cs aa){zs hd hc:Ng}(hz:IsPiece (es.map (·.1)) aa zs)(hh:hd.Perm (ze6 es++hc))(l4:cs'.Perm cs)(hp:Paired (fun h c=>∃ s∈c,s.1=h) hc cs') :
  2*zs.length+2*(hd.filter λh=>decide (h∈zs)).length=(zs.map λx=>(row (rsOf es) x).length).sum+4:=by
 obtain⟨cE,s,hs,bJ⟩:=hz
 have heu:=C.eu s hs
 have p1:((es.map (·.1)).filter λx=>decide (aa x=aa s)).Perm zs:=(List.perm_ext_iff_of_nodup (Yr Ja C.nd) cE).mpr λy=>by
  rw[Za,decide_eq_true_iff,bJ]
 have e1:wt (es.map (·.1)) (row (rsOf es)) aa (aa s)=2*(zs.length:Int)+2*((zs.filter λx=>(row (rsOf es) x).isEmpty).length:Int)-(((zs.map λx=>(row (rsOf es) x).length).sum:Nat):Int):=by
  unfold wt
  have:=sum_filter (p:=λx=>decide (aa x=aa s)) (f:=λx=>(2:Int)+(if row (rsOf es) x=[] then 2 else 0)-((row (rsOf es) x).length:Int)) (es.map (·.1))
  simp only[decide_eq_true_eq]at this
  rw[this,zie (p1.map _),sum_parts]
 have e2:ct cs aa (aa s)=2*((cs.filter λc=>c.any λu=>decide (aa u.1=aa s)).length:Int):=sum_twos _
 have e3:(hd.filter λh=>decide (h∈zs)).length=((ze6 es).filter λh=>decide (h∈zs)).length+(hc.filter λh=>decide (h∈zs)).length:=by
  rw[(hh.filter _).length_eq,Ua,Qs]
 have e4:((ze6 es).filter λh=>decide (h∈zs)).length=(zs.filter λx=>(row (rsOf es) x).isEmpty).length:=by
  refine List.Perm.length_eq ((List.perm_ext_iff_of_nodup ?_ (Yr Ja cE)).mpr λy=>?_)
  ·rw [iso_eq C.nd]
   exact Yr Ja (Yr Ja C.nd)
  ·rw [iso_eq C.nd,Za,Za,Za,decide_eq_true_iff]
   exact⟨λ⟨⟨_,a⟩,b⟩=>⟨b,a⟩,λ⟨a,b⟩=>⟨⟨((bJ y).mp a).1,b⟩,a⟩⟩
 have e5:(hc.filter λh=>decide (h∈zs)).length=(cs'.filter λc=>c.any λu=>decide (aa u.1=aa s)).length:=by
  have aE:∀c∈cs',c∈cs:=λc h=>l4.mem_iff.mp h
  clear l4 e3 e4 hh
  induction hp with
  |nil=>rfl
  | cons h t ih =>
   rename_i h0 c0 _ _
   have iht:=ih λc hc=>aE c (Qg _ hc)
   obtain⟨u,hu,rfl⟩:=h
   have fB:=aE c0 Qc
   have qE:u.1∈es.map (·.1):=C.inn' (C.inc fB hu)
   by_cases hz:u.1∈zs
   ·have hl:=((bJ _).mp hz).2
    have iM:(c0.any λu=>decide (aa u.1=aa s))=true:=Yq.mpr ⟨u,hu,decide_eq_true hl⟩
    rw[Zw (by simpa using hz),Zw (p:=λc:List (Str×Str)=>c.any λu=>decide (aa u.1=aa s)) iM,Qz,Qz,iht]
   ·rw [Zx (by simpa using hz),Zx,iht]
    intro q
    obtain⟨v,hv,e⟩:=Yq.mp q
    exact hz ((bJ _).mpr ⟨qE,(C.one_lab fB hv hu).trans (of_decide_eq_true e)⟩)
 have e6:=(l4.filter λc=>c.any λu=>decide (aa u.1=aa s)).length_eq
 lia
def ix_listK(hK:X.K=K):IxR X (rIxL K):=hK▸zao
def ze4(hK:X.K=K):OpR X (compareOp .In) (rIn K false):=hK▸op_in_seq
def zi5(hK:X.K=K):zci X (.builtin "len") (λxs H Q=>Ex2 λp ys=>Aj3 (xs=[.ref p]) (SqL K H p ys∨SqT K H p ys) (Q (.int ys.length) H)):=hK▸zas
abbrev zg7:Stmt:=top 24
inductive IspFlat(vs:List V)(H:Hp)(Q:VK):Prop
 |mk (d:Nb) (es:List Ent) (cs:List (List (Str×Str))) (aa:Nu) (h0:vs=[.ref d]) (h1:TAt H d es) (h2:es.length≤60) (h3:(∀e∈es,e.2.1.length≤100)) (h4:Cert (es.map (·.1)) (row (rsOf es)) cs aa) (h5:∀H',Keep [] H H'→Q .non H'):IspFlat vs H Q
def spFlat:Sp:=λvs H Q _=>IspFlat vs H Q
abbrev csFlA:Scope:=scOf (aOf 0 (aOf 0 (eOf (bAt (sAt zg7 1) 1))))
abbrev csFlB:Scope:=scOf (aOf 0 (eOf (bAt (sAt zg7 1) 2)))
def csFlA_k:csFlA.kind=.function:=by rfl
def csFlA_c:∀y∈csFlA.names,y.2≠.cell:=by decide +kernel
def csFlA_n:∀y∈csFlA.names,y.2=.local→csFlA.names.lookup y.1=some .local:=by decide +kernel
def csFlA_f:∀y∈csFlA.names,y.2=.free→(zag zg7).names.lookup y.1=some .cell∨(zag zg7).names.lookup y.1=some .free:=by decide +kernel
def csFlA_l:csFlA.names.lookup ("rounds" : Str)=some NameKind.free:=by decide +kernel
def csFlB_k:csFlB.kind=.function:=by rfl
def csFlB_c:∀y∈csFlB.names,y.2≠.cell:=by decide +kernel
def csFlB_n:∀y∈csFlB.names,y.2=.local→csFlB.names.lookup y.1=some .local:=by decide +kernel
def csFlB_f:∀y∈csFlB.names,y.2=.free→(zag zg7).names.lookup y.1=some .cell∨(zag zg7).names.lookup y.1=some .free:=by decide +kernel
def csFlB_l:csFlB.names.lookup ("piece" : Str)=some NameKind.free:=by decide +kernel
def ndFB:(["face", "piece"]:List Str).Nodup:=by decide +kernel
def inPc(H:Hp)(zs:Ng):V→Bool
 |.ref a=>match H a with
  |some (.lst (.str h::_))=>decide (h∈zs)
  |_=>false
 |_=>false
def inPc_ref(e:zc8 H a h):inPc H zs (.ref a)=decide (h∈zs):=by
 obtain⟨t,e⟩:=e
 show(match H a with | some (.lst (.str h::_))=>decide (h∈zs) | _=>false)=_
 rw[e];rfl
def filt_len(r:Paired (zc8 H) as hd):((as.map V.ref).filter (inPc H zs)).length=(hd.filter λh=>decide (h∈zs)).length:=by
 induction r with
 |nil=>rfl
 |cons h t ih =>
  rename_i a b _ _
  rw[Ql]
  have e:=inPc_ref (zs:=zs) h
  by_cases hz:b∈zs
  ·rw[Zw (by rw[e];simpa using hz),Zw (by simpa using hz),Qz,Qz,ih]
  ·rw[Zx (by rw[e];simpa using hz),Zx (by simpa using hz),ih]
def sum_cast(ns:List Nat):(ns.map λn:Nat=>(n:Int)).sum=((ns.sum:Nat):Int):=by
 induction ns with
 |nil=>rfl
 |cons a t ih=>rw[Ql,Zm,Zm,ih];lia
section
variable{P:Ni}{w:Nk}{K:Na}{mg:Nd}{base:Nm}
def zhh:zap ["rounds", "found", "piece", "many_places", "many_ties", "many_faces"] ["rounds"] (zag zg7):=fsk
def ok_flat(F:Fun K "refuse_not_flat" "refuse_not_flat" zg7 f fd)(FF:Fun K "faces_of" "faces_of" zfb ff fdf)(bF:Binds K fdf ["rounds"] [])(mF:mg "faces_of" = some (.ref ff))(GF:FnOk P w K mg base CX0 2 ff fdf ["rounds"] spFaces)(FP:Fun K "pieces_of" "pieces_of" zh5 fp fdp)(bP:Binds K fdp ["rounds"] [])(mP:mg "pieces_of" = some (.ref fp))(GP:FnOk P w K mg base CX0 2 fp fdp ["rounds"] spPieces)(af:mg "len" = none)(tG:mg "sum" = none):FnOk P w K mg base CX0 3 f fd ["rounds"] spFlat:=by
 refine F.okL zhh (λcdv A outer s H vs Q E hr h=>?_)
 obtain⟨d,es,cs,aa,rfl,T,aS,aI,C,k⟩:=h
 have hu:=zbz hr
 have av  := sizeLine_eq
 refine⟨_,zad (zau 1 zhh.nd (zaj GF hr rfl mF FF.kp bF .nil zat (zab (pv 0) zaf)))
  (zah (zbq Zr rfl (za8 (zaj GP hr rfl mP FP.kp bP .nil zat (zab (pv 0) zaf))) (pg_name (i:=2) zhh.nd rfl (Or.inr rfl))
   (zad (zau 3 zhh.nd (zal zas (by rfl) af Zv (zab (pv 2) zaf)))
   (zad (zau 4 zhh.nd (zav zii (zal (call_sum rfl) (by rfl) tG PyProof.Rows.boot_sum (zab (zg8 (M:=["place", "rounds"]) (ix:=[none,some 0]) ⟨csFlA_k,csFlA_c,csFlA_n,csFlA_f,rfl,by decide +kernel,λj i x h1 h2=>by
      match j,h1,h2 with
      |0,_,h2=>cases h2
      |1,h1,h2=>cases h1;cases h2;exact⟨rfl,csFlA_l⟩
      |n+2,h1,_=>cases h1⟩ rfl (za8 (pv 2)) (λC a7 ex s H=>za9 0 ndF) (λC a7 ex s H=>zck)
      (λC a7 ex s H=>zal (zi5 (K:=K) rfl) (by rfl) (by exact af) Zv (zab (zbo (by exact hu) (pv 1) (pv 0)) zaf))) zaf)) zai))
   (zad (zau 5 zhh.nd (zal zas (by rfl) af Zv (zab (zg8 (M:=["face", "piece"]) (ix:=[none,some 2]) ⟨csFlB_k,csFlB_c,csFlB_n,csFlB_f,rfl,by decide +kernel,λj i x h1 h2=>by
      match j,h1,h2 with
      |0,_,h2=>cases h2
      |1,h1,h2=>cases h1;cases h2;exact⟨rfl,csFlB_l⟩
      |n+2,h1,_=>cases h1⟩ rfl (za8 (pv 1)) (λC a7 ex s H=>za9 0 ndFB)
      (λC a7 ex s H=>zdc (zaq (ze4 (K:=K) rfl) (zay (ix_listK (K:=K) rfl) (pv 0) zai (λ_ _=>rfl)) (pv 1) rfl)) (λC a7 ex s H=>pv 0)) zaf)))
   (zah (zbp (zaq op_ne (zav zbv (pv 3) (pv 5)) (zav zbv (pv 4) zai) (zba _)) (zah zfj) zaw)))))))  ,?_⟩
 refine⟨_,rfl,d,es,cs,aa,rfl,T,aS,aI,C,λfo fas hd hc cs' H1 gw hfal hhd hhp l4 fA k1=>?_⟩
 have T1:TAt H1 d es:=T.keep k1 (by simp) (λ_ _=>by simp)
 refine⟨_,rfl,d,es,cs,aa,rfl,T1,aS,C,λl as zss H2 ak jb kC _ k2=>?_⟩
 have T2:TAt H2 d es:=T1.keep k2 (by simp) (λ_ _=>by simp)
 have cR:=k2 _ _ gw (by simp)
 have uB:Paired (zc8 H2) fas hd:=zcy (D:=d) (g:=d) k2 hhd (λ_ _ _ _=>by simp)
 refine⟨l,rfl,⟨_,SqL.of ak⟩,zby (xs:=as.map V.ref) (λi σ H'=>Aj2 (Keep [] H2 H') (Ex4 λx2 x3 x4 x5=>σ=[some (.ref d),some (.ref fo),x2,x3,x4,x5])) ⟨Keep.refl,_,_,_,_,rfl⟩ (λi σ H' _ hh=>SqL.of (hh.1 _ _ ak (by simp))) ?_ ?_⟩
 ·rintro i y σ H3 hx ⟨k3,x2,x3,x4,x5,rfl⟩
  have hi:i<as.length:=by
   have:=(Zd.mp hx).1
   rwa[Qa]at this
  have jK:y=.ref as[i]:=by
   rw[Qq,Qd hi]at hx
   exact(Qk hx).symm
  subst jK
  obtain⟨aF,fC⟩:=zbk jb hi
  have qT:=kC _ (Qv aF)
  have l6:=piece_count C qT hhp l4 fA
  generalize zss[i]=zs at fC qT l6
  have iN:H3 as[i]=some (.lst (zs.map V.str)):=k3 _ _ fC (by simp)
  have jH:∀z∈zs,∃e∈es,e.1=z:=λz hz=>by
   obtain⟨_,s,_,hm⟩:=qT
   exact Qf.mp ((hm z).mp hz).1
  have dG:zs.length≤100:=by
   have:=zdf qT.1 (m:=es.map (·.1)) λz hz=>by
    obtain⟨e,he,rfl⟩:=jH z hz
    exact Qf.mpr ⟨e,he,rfl⟩
   rw[Qa]at this
   omega
  refine⟨_,rfl,as[i],_,rfl,.inl (SqL.of iN),?_⟩
  have T3:TAt H3 d es:=T2.keep k3 (by simp) (λ_ _=>by simp)
  refine⟨_,rfl,as[i],rfl,⟨_,SqL.of iN⟩,lc_at (xs:=zs.map V.str) (λ τ=>∃x0,τ=[x0,some (.ref d)]) ((zs.map λx=>((row (rsOf es) x).length:Int)).map V.int) (by rw[Qa,Qa,Qa]) (SqL.of iN) (by rw[Qa];lia) ⟨none,rfl⟩ ?_ (λD hD=>?_)⟩
  ·rintro j hj oI τ ⟨x0,rfl⟩ kk hk
   rw[Qa]at hj
   rw[Zj]
   obtain⟨en,aT,dy⟩:=jH _ (Qv hj)
   have dg:DGet H3 d (.str zs[j]) (some (.ref en.2.2)):=by
    have:=DGet.k (k:=Sum.inr en.1) T3.dc
    rw[zbu T3.nd aT,dy]at this
    exact this
   refine⟨_,rfl,_,rfl,d,_,rfl,dg,en.2.2,_,rfl,.inr (SqT.of (T3.ro en aT)),?_⟩
   have e:((zs.map λx=>((row (rsOf es) x).length:Int)).map V.int)[j]=V.int ((en.2.1.map V.str).length:Int):=by
    rw[Zj,Zj,←dy,zbj T3.nd aT,Qa]
   rw[e]at hk
   exact hk _ ⟨_,rfl⟩
  ·have k4:Keep [] H3 (upd H3 D (.lst ((zs.map fun x=>((row (rsOf es) x).length:Int)).map V.int))):=Keep.new hD
   have jq:(upd H3 D (.lst ((zs.map λx=>((row (rsOf es) x).length:Int)).map V.int))) D=some (.lst ((zs.map λx=>((row (rsOf es) x).length:Int)).map V.int)):=zac
   generalize upd H3 D (.lst ((zs.map λx=>((row (rsOf es) x).length:Int)).map V.int))=H4 at k4 jq
   refine⟨D,_,rfl,SqL.of jq,by rw[Qa];lia,λn hn=>?_,?_⟩
   ·obtain ⟨z,hz,rfl⟩:=Qf.mp hn
    obtain⟨en,aT,dy⟩:=jH z hz
    have h1:=aI en aT
    rw[←dy,zbj T3.nd aT]
    lia
   ·have nO:(zs.map fun x=>((row (rsOf es) x).length:Int)).sum=(((zs.map fun x=>(row (rsOf es) x).length).sum:Nat):Int):=by
     rw[←sum_cast,Ze];rfl
    rw[nO]
    refine⟨_,_,rfl,rfl,⟨by decide,by decide⟩,?_⟩
    have cQ:=k4 _ _ (k3 _ _ cR (by simp)) (by simp)
    have vB:=k4 _ _ iN (by simp)
    have oJ:Paired (zc8 H4) fas hd:=zcy (D:=d) (g:=d) (k3.trans k4) uB (λ_ _ _ _=>by simp)
    refine⟨_,rfl,fo,rfl,⟨_,SqL.of cQ⟩,ze5 (xs:=fas.map V.ref) (λ τ=>∃x0,τ=[x0,some (.ref as[i])]) (inPc H4 zs) (SqL.of cQ) (by rw[Qa];lia) ⟨none,rfl⟩ ?_ (λD2 dl=>?_)⟩
    ·rintro x hx τ ⟨x0,rfl⟩ kk1 kk0 hk1 hk0
     obtain⟨a,ha,rfl⟩:=Qf.mp hx
     obtain⟨j,hj,rfl⟩:=Zp ha
     obtain⟨je,iK⟩:=zbk oJ hj
     have aE:=inPc_ref (zs:=zs) iK
     obtain⟨t,et⟩:=iK
     refine⟨_,rfl,fas[j],_,_,_,rfl,rfl,SqL.of et,zar (j:=0) rfl,_,rfl,as[i],_,rfl,.inl (SqL.of vB),rfl,zce zs,_,rfl,?_⟩
     cases hb:decide (hd[j]∈zs) with
     |true=>exact zdv (show inV _ _=true by rw[ze7];exact hb) ⟨_,rfl,hk1 (aE.trans hb) _ ⟨_,rfl⟩⟩
     |false=>exact zcq (show inV _ _=false by rw[ze7];exact hb) (hk0 (aE.trans hb) _ ⟨_,rfl⟩)
    ·have k5:Keep [] H4 (upd H4 D2 (.lst ((fas.map V.ref).filter (inPc H4 zs)))):=Keep.new dl
     refine⟨D2,_,rfl,.inl (SqL.of zac),?_⟩
     rw[filt_len oJ]
     refine⟨_,rfl,_,rfl,_,_,rfl,rfl,_,rfl,_,_,rfl,rfl,rfl,_,rfl,zcq ?_ ?_⟩
     ·rw [Bool.not_eq_false',decide_eq_true_iff]
      refine congrArg V.int ?_
      rw[Qa]
      lia
     ·exact⟨(k3.trans k4).trans k5,_,_,_,_,rfl⟩
 ·rintro σ H3 ⟨k3,x2,x3,x4,x5,rfl⟩
  exact k H3 ((k1.trans k2).trans k3)
end
end K21
end
section
namespace K21
open PySem L2 Wb
abbrev sInit:Stmt:=inClass sWeb 0
abbrev zg0:List Ent→List Ent→Prop:=Paired λt e=>t.1=e.1∧∃k,t.2.1=e.2.1.drop k++e.2.1.take k
inductive IspInit(C:Nb)(vs:List V)(H:Hp)(Q:VK):Prop
 |mk (x dx l:Nb) (as:Nl) (es:List Ent) (cs:List (List (Str×Str))) (aa:Nu) (h0:vs=[.ref x,.ref l]) (h1:H x=some (.ins C dx [])) (h2:RwAt H l as es) (h3:es.length≤40) (h4:(∀e∈es,zfi e.1)) (h5:Cert (es.map (·.1)) (row (rsOf es)) cs aa) (h6:∀(d:Addr) (ts aH:List Ent) (H':Hp),WAt H' C x dx d ts→aH.Perm es→zg0 ts aH→Keep [x] H H'→Q .non H'):IspInit C vs H Q
def spInit(C:Nb):Sp:=λvs H Q _=>IspInit C vs H Q
def zb1(h:zg0 ts es):ts.map (·.1)=es.map (·.1):=by
 induction h with
 |nil=>rfl
 |cons h t ih=>rw[Ql,Ql,h.1,ih]
def zex(h:zg0 ts es)(ht:t∈ts):∃e∈es,t.1=e.1∧∃k,t.2.1=e.2.1.drop k++e.2.1.take k:=by
 induction h with
 |nil=>cases ht
 | cons h _ ih =>
  rcases Qe.mp ht with z | z
  ·subst z;exact⟨_,Qc,h⟩
  ·obtain ⟨e,he,r⟩:=ih z
   exact⟨e,Qg _ he,r⟩
def zdm(h:zg0 ts aH)(hp:aH.Perm es)(nd:(es.map (·.1)).Nodup):∀x,∃k,row (rsOf ts) x=(row (rsOf es) x).drop k++(row (rsOf es) x).take k:=λx=>by
 have jB:(ts.map (·.1)).Nodup:=by rw[zb1 h];exact(hp.map _).nodup_iff.mpr nd
 by_cases hx:x∈ts.map (·.1)
 ·obtain ⟨t,ht,rfl⟩:=Qf.mp hx
  obtain⟨e,he,e1,k,e2⟩:=zex h ht
  refine⟨k,?_⟩
  rw[zbj jB ht,e1,zbj nd (hp.mem_iff.mp he),e2]
 ·refine ⟨0,?_⟩
  have qy:x∉es.map (·.1):=λz=>hx (by rw[zb1 h];exact(hp.map _).mem_iff.mpr z)
  have n1:x∉(rsOf ts).map (·.1):=by unfold rsOf;rw[List.map_map];exact hx
  have n2:x∉(rsOf es).map (·.1):=by unfold rsOf;rw[List.map_map];exact qy
  rw[ze1 n1,ze1 n2];rfl
abbrev csInit:Scope:=scOf (eOf (sAt sInit 3))
def csInit_k:csInit.kind=.function:=by rfl
def csInit_c:∀y∈csInit.names,y.2≠.cell:=by decide +kernel
def csInit_n:∀y∈csInit.names,y.2=.local→csInit.names.lookup y.1=some .local:=by decide +kernel
def csInit_f:∀y∈csInit.names,y.2=.free→(zag sInit).names.lookup y.1=some .cell∨(zag sInit).names.lookup y.1=some .free:=by decide +kernel
section
variable{P:Ni}{w:Nk}{K:Na}{mg:Nd}{base:Nm}
def scInit:zap ["self", "rows", "rounds"] ["self", "rows"] (zag sInit):=fsk
def ok_init(F:Fun K "__init__" "Web.__init__" sInit f fd)(cW:Cls K C)(nW:zd3 K C "rounds")(FN:Fun K "refuse_no_names" "refuse_no_names" zfr fn fdn)(bN:Binds K fdn ["rows"] [])(mN:mg "refuse_no_names" = some (.ref fn))(GN:FnOk P w K mg base CX0 2 fn fdn ["rows"] spNoNames)(FT:Fun K "refuse_twice" "refuse_twice" zdy ft fdt)(bT:Binds K fdt ["rows"] [])(mT:mg "refuse_twice" = some (.ref ft))(GT:FnOk P w K mg base CX0 1 ft fdt ["rows"] spTwice)(FO:Fun K "refuse_one_way" "refuse_one_way" zh6 fo fdo)(bO:Binds K fdo ["rows"] [])(mO:mg "refuse_one_way" = some (.ref fo))(GO:FnOk P w K mg base CX0 1 fo fdo ["rows"] spOneWay)(FL:Fun K "from_least" "from_least" sLeast fl fdl)(bL:Binds K fdl ["around"] [])(mL:mg "from_least" = some (.ref fl))(GL:FnOk P w K mg base CX0 1 fl fdl ["around"] spLeast)(FF:Fun K "refuse_not_flat" "refuse_not_flat" zg7 ff fdf)(bF:Binds K fdf ["rounds"] [])(mF:mg "refuse_not_flat" = some (.ref ff))(GF:FnOk P w K mg base CX0 3 ff fdf ["rounds"] spFlat)(aO:mg "sorted" = none):FnOk P w K mg base CX0 4 f fd ["self", "rows"] (spInit C):=by
 refine F.okL scInit (λcdv A outer s H vs Q E hr h=>?_)
 obtain⟨x,dx,l,as,es,cs,aa,rfl,hx,R,aS,hok,Ct,k⟩:=h
 have hu:=zbz hr
 have au:Room 1 _:=hr.mono (by decide)
 have da:Room 2 _:=hr.mono (by decide)
 have av  := sizeLine_eq
 refine⟨_,zad (za3 (zaj GN da rfl mN FN.kp bN .nil zat (zab (pv 1) zaf)))
  (zad (za3 (zaj GT au rfl mT FT.kp bT .nil zat (zab (pv 1) zaf)))
  (zad (za3 (zaj GO au rfl mO FO.kp bO .nil zat (zab (pv 1) zaf)))
  (zad (ps_dc (i:=2) (M:=["place", "around"]) (ix:=[none,none]) scInit.nd rfl rfl (noB (n:=2) csInit_k csInit_c csInit_n csInit_f rfl ndPA) rfl
    (za8 (zal zfk (by rfl) aO Wo (zab (pv 1) zaf)))
    (λC a7 ex s H=>zid (K:=K) (n:=2) rfl rfl (za4 (za9 0 ndPA) (za4 (za9 1 ndPA) zcl)))
    (λC a7 ex s H=>zck) (λC a7 ex s H=>pv 0) (λC a7 ex s H=>zaj GL (by exact au) rfl (by exact mL) FL.kp bL .nil zat (zab (pv 1) zaf)) rfl)
  (zad (za3 (zaj GF hr rfl mF FF.kp bF .nil zat (zab (pv 2) zaf)))
  (zah (ps_fld (pv 0) (pv 2) rfl)))))),?_⟩
 have ax:(es.map (·.1)).Nodup:=Ct.nd
 have ar:∀e∈es,row (rsOf es) e.1=e.2.1:=λe he=>zbj ax he
 have hrn:∀e∈es,e.2.1.Nodup:=λe he=>ar e he▸Ct.rn e.1
 have fQ:∀e∈es,∀y∈e.2.1,y∈es.map (·.1):=λe he y hy=>Ct.inn' (x:=e.1) (by rw[ar e he];exact hy)
 have aI:∀e∈es,e.2.1.length≤40:=λe he=>by
  have:=zdf (hrn e he) (fQ e he)
  rw[Qa]at this
  exact Zk ‹_› ‹_›
 refine⟨_,rfl,l,as,es,rfl,R,λe he=>⟨Zk (aI e he) (by decide),hok e he,λy hy=>?_⟩,λH1 k1=>?_⟩
 ·obtain ⟨e',aN,rfl⟩:=Qf.mp (fQ e he y hy)
  exact hok e' aN
 have R1:=R.keep k1
 refine⟨_,rfl,l,as,es,rfl,R1,by lia,ax,λe he=>⟨Zk (aI e he) (by decide),hrn e he⟩,λH2 k2=>?_⟩
 have R2:=R1.keep k2
 refine⟨_,rfl,l,as,es,rfl,R2,ax,λe he=>⟨?_,λy hy=>?_⟩,λH3 k3=>?_⟩
 ·rw[←ar e he];exact Ct.ir e.1
 ·obtain ⟨e',aN,fI⟩:=Qf.mp (fQ e he y hy)
  have mY:e'.1=y:=fI
  refine⟨e',aN,mY,?_⟩
  rw[←ar e' aN,mY]
  exact Ct.sy e.1 y (by rw[ar e he];exact hy)
 have R3:=R2.keep k3
 have gM:Keep [] H H3:=(k1.trans k2).trans k3
 have cV:as.length=es.length:=Yp R3.ts
 refine⟨_,rfl,l,_,rfl,SqL.of R3.ls,λv hv=>?_,λv hv u hu e=>?_,λl2 wsV ak ap bi=>?_⟩
 ·obtain ⟨a,ha,rfl⟩:=Qf.mp hv
  obtain⟨i,hi,rfl⟩:=Zp ha
  obtain⟨aF,h⟩:=zbk R3.ts hi
  exact⟨_,_,_,rfl,h⟩
 ·obtain ⟨a,ha,rfl⟩:=Qf.mp hv
  obtain⟨b,hb,rfl⟩:=Qf.mp hu
  obtain⟨i,hi,rfl⟩:=Zp ha
  obtain⟨j,hj,rfl⟩:=Zp hb
  obtain⟨aF,h1⟩:=zbk R3.ts hi
  obtain⟨je,h2⟩:=zbk R3.ts hj
  rw[zem h1,zem h2]at e
  have e':es[i].1=es[j].1:=by
   have q:es[i].1.cps.toList=es[j].1.cps.toList:=e
   generalize es[i].1=a1 at q ⊢
   generalize es[j].1=a2 at q ⊢
   cases a1;cases a2
   congr 1
   exact Xc.mp q
  have e2:(es.map (·.1))[i]'(by rw[Qa];exact aF)=(es.map (·.1))[j]'(by rw[Qa];exact je):=by rw[Zj,Zj];exact e'
  have:=(Yf ax).mp e2
  subst this
  rfl
 ·obtain ⟨hW,rfl,aw⟩:=refs_perm ap
  obtain⟨aH,cx,dO⟩:=zd9 aw R3.ts
  have k4:Keep [] H3 (upd H3 l2 (.lst (hW.map V.ref))):=Keep.new ak
  have bv:(upd H3 l2 (.lst (hW.map V.ref))) l2=some (.lst (hW.map V.ref)):=zac
  generalize upd H3 l2 (.lst (hW.map V.ref))=H4 at k4 bv
  have nH:Paired (λa (e:Ent)=>H4 a=some (.tup [.str e.1,.ref e.2.2])) hW aH:=Paired.imp' (λ_ _ h=>k4 _ _ h (by simp)) dO
  have tU:∀e∈aH,H4 e.2.2=some (.lst (e.2.1.map V.str)):=λe he=>k4 _ _ (R3.ro e (cx.mem_iff.mp he)) (by simp)
  have ox:(aH.map (·.1)).Nodup:=(cx.map _).nodup_iff.mpr ax
  have pI:hW.length=aH.length:=Yp nH
  have hel2:aH.length=es.length:=cx.length_eq
  refine⟨l2,rfl,⟨_,SqL.of bv⟩,λi m ys τ H'=>Aj5 (m=aH.length-i) (i≤aH.length) (Ex2 λx0 x1=>τ=[x0,x1]) (Keep [] H4 H') (Ex1 λ(ts:List Ent)=>Aj3 (ys=(eV ts)) (∀e∈ts,H' e.2.2=some (.tup (e.2.1.map V.str))) (zg0 ts (aH.take i))),
   ⟨aH.length,rfl,Zg _,⟨none,none,rfl⟩,Keep.refl,[],rfl,λe he=>(by cases he),.nil⟩,?_⟩
  rintro i m ys τ H5 ⟨rfl,hi,⟨x0,x1,rfl⟩,k5,ts,rfl,gN,bp⟩
  by_cases ag:i<aH.length
  ·have gO:=zb1 bp
   have lI:ts.length≤i:=by
    have:=congrArg List.length gO
    rw[Qa,Qa,Zi]at this
    lia
   refine .inr ⟨⟨_,.ref hW[i],SqL.of (k5 _ _ bv (by simp)),by rw[Qq,Qd (by exact zar6 ‹_› ‹_›)];rfl⟩,by rw[Qa];lia,?_⟩
   rintro v H6 ⟨rfl,hv⟩
   have fO:=hv _ (SqL.of (k5 _ _ bv (by simp)))
   rw[Qq,Qd (by exact zar6 ‹_› ‹_›)]at fO
   obtain rfl:V.ref hW[i]=v:=Qk fO
   obtain⟨aF,fC⟩:=zbk nH (by exact zar6 ‹_› ‹_›:i<hW.length)
   have ba:aH[i]∈aH:=Qv ag
   have cM:=k5 _ _ (tU _ ba) (by simp)
   have ow:aH[i].1∉ts.map (·.1):=by
    rw[gO]
    have h1:(aH.map (·.1)).take (i+1)=(aH.map (·.1)).take i++[aH[i].1]:=by
     rw[Qm (by rw[Qa];exact ag),Zj]
    have h2:((aH.map (·.1)).take (i+1)).Nodup:=Yr (Uq _ _) ox
    rw[h1,Zb,←Uh]at h2
    exact λz=>h2.2.2 _ z _ (Qb.mpr rfl) rfl
   refine⟨hW[i],_,rfl,SqT.of (k5 _ _ fC (by simp)),rfl,_,_,rfl,_,_,rfl,rfl,_,rfl,_,rfl,aH[i].2.2,aH[i].2.1,rfl,cM,Zk (aI _ (cx.mem_iff.mp ba)) (by decide),λt j H7 hj qG htfr k7=>?_⟩
   refine⟨Sum.inr aH[i].1,rfl,aH.length-(i+1),by exact zar1 ‹_›,rfl,ag,⟨_,_,rfl⟩,k5.trans k7,ts++[(aH[i].1,aH[i].2.1.drop j++aH[i].2.1.take j,t)],zib (r:=aH[i].2.1.drop j++aH[i].2.1.take j) ow,λe he=>?_,?_⟩
   ·rcases Qi.mp he with z | z
    ·exact k7 _ _ (gN e z) (by simp)
    ·rw[Qb.mp z];exact qG
   ·rw [Qm ag]
    exact zbl bp (.cons ⟨rfl,j,rfl⟩ .nil)
  ·have kR:i=aH.length:=by exact zar3 ‹_› ‹_›
   subst kR
   rw[Qx (Qh _)]at bp
   refine .inl ⟨⟨_,SqL.of (k5 _ _ bv (by simp)),by rw[Qa,pI];exact Qh _⟩,λd hd=>?_⟩
   have k6:Keep [] H5 (upd H5 d (.dK (eV ts))):=Keep.new hd
   have pj:(upd H5 d (.dK (eV ts))) d=some (.dK (eV ts)):=zac
   generalize upd H5 d (.dK (eV ts))=H6 at k6 pj
   have gO:=zb1 bp
   have T6:TAt H6 d ts:=⟨pj,λe he=>k6 _ _ (gN e he) (by simp),by rw[gO];exact ox⟩
   have lI:ts.length=es.length:=by
    have:=congrArg List.length gO
    rw[Qa,Qa,cx.length_eq]at this
    exact this
   have C6:Cert (ts.map (·.1)) (row (rsOf ts)) cs aa:=cert_turn Ct (by rw[gO];exact cx.map _) (zdm bp cx ax)
   refine⟨_,rfl,d,ts,cs,aa,rfl,T6,by lia,λe he=>?_,C6,λH7 k7=>?_⟩
   ·obtain ⟨e',aN,_,kk,e2⟩:=zex bp he
    rw[e2,(zfs _ kk).length_eq]
    exact Zk (aI e' (cx.mem_iff.mp aN)) (by decide)
   ·have k07:Keep [] H H7:=(((gM.trans k4).trans k5).trans k6).trans k7
    have jM:=k07 _ _ hx (by simp)
    have T7:TAt H7 d ts:=T6.keep k7 (by simp) (λ_ _=>by simp)
    have nxd:d≠x:=za2 T7.dc jM (by intro z;cases z)
    refine⟨_,rfl,_,rfl,x,C,dx,[],rfl,jM,cW,nW,(by decide),?_⟩
    refine k d ts aH _ ⟨zac,T7.keep (xs:=[x]) (Keep.wr (by simp)) (by simpa using nxd) λe he=>by simpa using za2 (T7.ro e he) jM (by intro z;cases z)⟩ cx bp ((k07.sub (by simp)).trans (Keep.wr (by simp)))
abbrev zga:Stmt:=top 29
abbrev sPot:Stmt:=top 28
inductive IspPot(K:Na)(vs:List V)(H:Hp)(Q:VK):Prop
 |mk (a:Nb) (ns:List Int) (j:Nat) (h0:vs=[.ref a,.int j]) (h1:SqL K H a (ns.map V.int)) (h2:j≤1000) (md:ns.length≤1000) (h3:∀(l:Nb) (b m:Int) (H':Hp),H l=none→Pot H' l b m→Keep [] H H'→Q (.ref l) H'):IspPot K vs H Q
def spPot(K:Na):Sp:=λvs H Q _=>IspPot K vs H Q
def zf4(h:SqL K H a xs)(k:Keep [] H H'):SqL K H' a xs:=h.imp (λr=>r.imp (λe=>k _ _ e (by simp)) λ⟨o,e⟩=>⟨o,k _ _ e (by simp)⟩) id
def scDraw:zap [qP,qM, "_law_digit"] [qP,qM] (zag zga):=fsk
def ok_draw(F:Fun K qD qD zga f fd):FnOk P w K mg base CX0 1 f fd [qP,qM] zeg:=by
 refine F.okL scDraw (λcdv A outer s H vs Q E hr h=>?_)
 obtain⟨p,b,m,n,rfl,⟨hp,hb,hm,cI⟩,hn,bm,k⟩:=h
 have i0:atI [V.int b,V.int m] ((0:Nat):Int)=some (.int b):=zar rfl
 have i1:atI [V.int b,V.int m] ((1:Nat):Int)=some (.int m):=zar rfl
 refine⟨_,zad (zbp (zaq op_gt (zay zao (pv 0) zai (λ_ _=>rfl)) zai (zba _))
  (zad (zau 2 scDraw.nd (zav zff (zay zao (pv 0) zai (λ_ _=>rfl)) (pv 1)))
  (zad (ps_asg (zav zii (zay zao (pv 0) zai (fun _ _=>rfl)) (pv 1)) (pg_sub (pv 0) zai set_list))
   (zah (zbn (pv 2))))) zaw)
  (zad (ps_asg (zav zff (zav zbv (zav zfe (zay zao (pv 0) zai (λ_ _=>rfl)) zai) zai) zai) (pg_sub (pv 0) zai set_list))
  (zah (zbn (zav zff (zav zii (zay zao (pv 0) zai (λ_ _=>rfl)) zai) (pv 1))))),?_⟩
 refine⟨_,rfl,p,_,_,_,rfl,rfl,SqL.of hp,i0,_,_,rfl,rfl,_,rfl,?_⟩
 refine ite2 (λil=>?_) (λhneg=>?_)
 ·have lX:0 < b:=of_decide_eq_true il
  refine⟨_,rfl,p,_,_,_,rfl,rfl,SqL.of hp,i0,_,rfl,_,_,rfl,rfl,hn,?_⟩
  refine⟨_,rfl,p,_,_,_,rfl,rfl,SqL.of hp,i0,_,rfl,_,_,rfl,rfl,⟨hn,bm⟩,_,rfl,p,_,0,0,rfl,rfl,hp,rfl,_,rfl,?_⟩
  refine k (b%n) (b/n) m _ (Jf _ (by lia)) (Uk _ hn) ⟨zac,Int.ediv_nonneg hb (by lia),hm,cI⟩ λc o e hc=>?_
  rw[zae hc]
  exact e
 ·have i1':∀ x:Int,atI [V.int b,V.int x] ((1:Nat):Int)=some (.int x):=fun x=>zar rfl
  have r0:0≤(m*40692+6553)%2147483399:=Jf _ (by decide)
  have r1:(m*40692+6553)%2147483399<2147483399:=Uk _ (by decide)
  refine⟨_,rfl,p,_,_,_,rfl,rfl,SqL.of hp,i1,_,_,rfl,rfl,.inl ⟨by lia,by lia⟩,_,_,rfl,rfl,_,_,rfl,rfl,(by show(0:Int)<2147483399;decide),_,rfl,p,_,1,1,rfl,rfl,hp,rfl,?_⟩
  refine⟨_,rfl,p,_,_,_,rfl,rfl,SqL.of zac,i1' _,_,_,rfl,rfl,⟨by decide,by decide⟩,_,rfl,_,_,rfl,rfl,hn,?_⟩
  refine k _ b ((m*40692+6553)%2147483399) _ (Jf _ (by lia)) (Uk _ hn) ⟨zac,hb,r0,by lia⟩ λc o e hc=>?_
  rw[zae hc]
  exact e
def scPot:zap [qS, "_law_k", "_law_cell"] [qS, "_law_k"] (zag sPot):=fsk
def ok_pot(F:Fun K "_law_pot" "_law_pot" sPot f fd)(af:mg "len" = none)(ga:mg "min" = none)(aK:mg "list" = none)(hint:mg "int" = none):FnOk P w K mg base CX0 1 f fd [qS, "_law_k"] (spPot K):=by
 refine F.okL scPot (λcdv A outer s H vs Q E hr h=>?_)
 obtain⟨a,ns,j,rfl,hS,hj,df,k⟩:=h
 have av  := sizeLine_eq
 refine⟨_,zad (zau 2 scPot.nd (zay zao (zav zd0 (zbe zdj (by rfl) aK Ui (zab (pv 0) zaf)) (zbd (zab zai zaf)))
   (zal (call_min2 rfl) (by rfl) ga Xg (zab (pv 1) (zab (zal zas (by rfl) af Zv (zab (pv 0) zaf)) zaf))) (λ_ _=>rfl)))
  (zah (zbn (zbd (zab (zav zfe (pv 2) (zbe zgx (by rfl) hint Xh (zab (pe_cmpR op_ge (pv 2) (zav op_pow zai zai) (zba _)) zaf)))
   (zab (zav zff (zav zbv (zav zbv (zav zfe (zav zff (pv 2) zai) zai) (zav zfe zai (pv 1))) zai) zai) zaf))))),?_⟩
 refine⟨_,rfl,a,_,rfl,.inl hS,λp1 h1=>?_⟩
 refine⟨(by show 1≤sizeLine;decide),λp2 h2=>?_⟩
 have cX:p1≠p2:=zaa (o:=_) zac h2
 refine⟨p1,p2,_,_,rfl,rfl,(by rw[zae cX];exact zac),zac,by rw[Qa];show _+1≤_;omega,λp3 h3=>?_⟩
 have k3:Keep [] H (upd (upd (upd H p1 (.lst (ns.map V.int))) p2 (.lst [.int 0])) p3 (.lst (ns.map V.int++[.int 0]))):=((Keep.new h1).trans (Keep.new h2)).trans (Keep.new h3)
 have S3:=zf4 hS k3
 have l3:(upd (upd (upd H p1 (.lst (ns.map V.int))) p2 (.lst [.int 0])) p3 (.lst (ns.map V.int++[.int 0]))) p3=some (.lst ((ns++[0]).map V.int)):=by rw[zac,Qp];rfl
 refine⟨_,rfl,_,rfl,a,_,rfl,.inl S3,j,ns.length,by rw[Qa],?_⟩
 generalize upd (upd (upd H p1 (.lst (ns.map V.int))) p2 (.lst [.int 0])) p3 (.lst (ns.map V.int++[.int 0]))=H3 at S3 k3 l3
 obtain⟨i,hi,e⟩:∃i:Nat,i<(ns++[0]).length∧(if(ns.length:Int)<(j:Int) then(ns.length:Int) else(j:Int))=(i:Int):=by
  rw[Qs]
  split
  ·exact⟨ns.length,Ys _,rfl⟩
  ·exact⟨j,by show j<ns.length+1;omega,rfl⟩
 rw[e]
 have g:((ns++[0]).map V.int)[i]?=some (.int (ns++[0])[i]):=by rw[Qq,Qd hi];rfl
 refine⟨p3,_,_,_,rfl,rfl,SqL.of l3,zar g,?_⟩
 generalize(ns++[0])[i]=c
 refine⟨_,rfl,_,rfl,_,_,rfl,rfl,⟨by decide,by decide,by decide⟩,_,_,rfl,rfl,.inr ⟨_,rfl,?_⟩⟩
 refine⟨_,_,rfl,rfl,.inr ⟨by split<;>decide,by split<;>decide⟩,?_⟩
 have q0:0≤c%2147483587:=Jf _ (by decide)
 have q1:c%2147483587<2147483587:=Uk _ (by decide)
 refine⟨_,rfl,_,_,rfl,rfl,(by show(0:Int)<2147483587;decide),_,_,rfl,rfl,.inl ⟨by lia,by lia⟩,_,rfl,_,_,rfl,rfl,.inl ⟨by decide,by decide⟩,_,_,rfl,rfl,_,_,rfl,rfl,_,_,rfl,rfl,(by show(0:Int)<2147483587;decide),(by show 2≤sizeLine;decide),λl hl=>?_⟩
 refine k l _ _ _ (zak k3 hl (by simp)) ⟨zac,?_,Jf _ (by decide),Int.lt_trans (Uk _ (by decide)) (by decide)⟩ (k3.trans (Keep.new hl))
 cases z:decide (c≥10 ^ (18:Int).toNat) with
 |true =>
  have:=of_decide_eq_true z
  have t:(0:Int)≤10 ^ (18:Int).toNat:=by decide
  show 0≤c*1
  lia
 |false=>show 0≤c*0;lia
end
end K21
end
section
namespace L2
open PySem PySem.Spec PyProof.Rows
def Itz(a b:Nb)(K:Na):It :=
 ⟨fun i H=>∃ xs ys,SqL K H a xs∧SqL K H b ys∧i < xs.length∧i < ys.length,fun i H x H'=>∃ u v t,(∀ xs,SqL K H a xs→xs[i]?=some u)∧(∀ ys,SqL K H b ys→ys[i]?=some v)∧H t=none∧x=.ref t∧H'=upd H t (.tup [u,v]),
  λi H=>∃xs ys,SqL K H a xs∧SqL K H b ys∧(xs.length≤i∨ys.length≤i)⟩
theorem turn_zip{P:Ni}{w:Nk}{K:Na}{elts:Np}{kk:Nat}{pos:Pos}(a b z TI TO i1 i2:Nb)(D:ZipApart z TI TO i1 i2 a b) :
  Turn P w K (.Tuple elts kk pos) (Itz a b K) [z,TI,TO,i1,i2] z (λi h=>IsZip h z TI TO .none∧IsPair h TI (.ref i1) (.ref i2)∧(∃u v,IsPair h TO u v)∧h.IsListIter i1 a i∧h.IsListIter i2 b i) where
 mem:=by simp
 obj:=λi h st c hc=>by
  obtain⟨q1,q2,⟨u,v,q3⟩,⟨o4,q4,_,d4⟩,⟨o5,q5,_,d5⟩⟩:=st
  simp only[Qe,Wa,or_false]at hc
  rcases hc with rfl | rfl | rfl | rfl | rfl
  ·exact⟨_,q1,λv z=>by cases z⟩
  ·exact⟨_,q2,λv z=>by cases z⟩
  ·exact⟨_,q3,λv z=>by cases z⟩
  ·exact⟨o4,q4,λv z=>by rw[d4]at z;cases z⟩
  ·exact⟨o5,q5,λv z=>by rw[d5]at z;cases z⟩
 keep:=λi h h' st k=>by
  obtain⟨q1,q2,⟨u,v,q3⟩,q4,q5⟩:=st
  exact⟨k z (by simp) _ q1,k TI (by simp) _ q2,⟨u,v,k TO (by simp) _ q3⟩,q4.at λo q=>k i1 (by simp) o q,q5.at λo q=>k i2 (by simp) o q⟩
 item:=by
  intro X hP hw hK hc i a7 s σ H E I hf st hg
  subst hP hw hK
  obtain⟨xs,ys,j9,qQ,hix,hiy⟩:=hg
  obtain⟨ix,rx,px,_⟩:=I.list j9
  obtain⟨iy,ry,py,_⟩:=I.list qQ
  obtain⟨hz,li,⟨u0,v0,lY⟩,h1,h2⟩:=st
  obtain⟨u,hu,ru⟩:=rx.get (Qd hix)
  obtain⟨v,hv,rv⟩:=ry.get (Qd hiy)
  refine wpAny_pyNext_zip_item D hz li lY h1 h2 px.isList py.isList (by simpa using hu) (by simpa using hv) λg a1 a2 a3 a4 a5 a6 hk=>⟨.ref s.heap.objs.size,rfl,?_⟩
  have aZ:∀c u,H c=some u→c≠z∧c≠TO∧c≠i1∧c≠i2:=λc u q=>by
   refine⟨λe=>?_,λe=>?_,λe=>?_,λe=>?_⟩<;>(rw[e,(hf _ (by simp)).1]at q;cases q)
  have dC:∀c o,c∉[z,TO,i1,i2]→s.heap.get? c=some o→g.get? c=some o:=λc o hc q=>hk c o (λe=>hc (by simp[e])) (λe=>hc (by simp[e])) (λe=>hc (by simp[e])) (λe=>hc (by simp[e])) q
  have I1:Inv X a7 σ H {s with heap:=g}:=by
   refine I.step (g':=s.gens) (d':=s.drawn) (ch:=[z,TO,i1,i2]) (λc hc=>?_) (λc o _ _ hc q _=>dC c o hc q) (λc o _ _ hc q _=>⟨o.slots,dC c o hc q⟩) (λ_ _ _ _ n=>n)
    (λc o hc q=>⟨o,dC c o hc q⟩) (λ_ _ q=>q) (λ_ _ _ q=>q) (λc ps q=>⟨#[],by rw[q];simp⟩) (λm hm=>?_) (λc u q=>?_) I.bare
   ·have bZ:c∈[z,TI,TO,i1,i2]:=by
     simp only[Qe,Wa,or_false]at hc ⊢
     rcases hc with e | e | e | e<;>simp[e]
    obtain⟨e0,e1,e2,e3,e4,e5⟩:=hf c bZ
    exact⟨e3,e1,e4,e5⟩
   ·obtain ⟨o,es,ep,q,r⟩:=hm
    exact⟨o,es,ep,hk _ o (Qw (hf z (by simp)).2.1) (Qw (hf TO (by simp)).2.1) (Qw (hf i1 (by simp)).2.1) (Qw (hf i2 (by simp)).2.1) q,r⟩
   ·refine (I.hok c u q).stay (fun c' v hc z=>?_) (fun _ z=>z) fun _ _ z=>z
    obtain⟨n1,n2,n3,n4⟩:c'≠_∧c'≠TO∧c'≠i1∧c'≠i2:=by
     rcases hc with rfl | hc
     ·exact aZ c' u q
     ·exact aZ c' _ hc
    exact hk c' v n1 n2 n3 n4 z
  obtain⟨e0,e1,e2,e3,e4,e5⟩:=hf z (by simp)
  have hN:H s.heap.objs.size=none:=I.hok.fresh (Qh _)
  refine wpAny_letOwnedTupleGo_zip a1 λg' aN ai=>?_
  have nT:s.heap.objs.size≠z:=Yc (Qt hz)
  have I2:Inv X a7 σ H {s with heap:=g'}:=Inv.turned (s:={s with heap:=g}) (t':=s.toks) (it:=z) I1 (λb o hb q=>(ai.2 b hb).trans q) e0 e1 e3 e4 e5
  have pO:g'.get? s.heap.objs.size=some {cls:=.type "tuple",data:=.seq #[u,v]}:=(ai.2 _ nT).trans a5
  have I3:Inv X a7 σ (upd H s.heap.objs.size (.tup [xs[i],ys[i]])) {s with heap:=g'}:=by
   refine⟨I2.ok,I2.os,I2.bare,⟨I2.base.keep,I2.base.slot,λb o q n hx=>?_,I2.base.there,λb zs q=>?_,λb o v q=>?_,λb ps q=>?_⟩,I2.loc,I2.cell,?_,λz c q=>?_,λpp hp=>?_,λb v' q=>?_,I2.len⟩
   ·have lt:b < s.heap.objs.size:=Zo (Qt q) I.sz
    rw[zae (Zc lt)];exact I2.base.free b o q n hx
   ·have:=I2.base.tups b zs q
    rw[zae (zaa this hN)];exact this
   ·have:=I2.base.frzs b o v q
    rw[zae (zaa this hN)];exact this
   ·obtain ⟨m,z⟩:=I2.base.tbls b ps q
    exact⟨m,by rw[zae (zaa z hN)];exact z⟩
   ·rw[zae (Zc I.lt)];exact I2.free
   ·rw[zae (Zc (I.cl_lt z c q))];exact I2.freeC z c q
   ·obtain ⟨h1,h2,h3⟩:=I2.pin pp hp
    exact⟨h1,by rw[zae (Zc (I.pin_lt pp hp))];exact h2,h3⟩
   ·by_cases hb:b=s.heap.objs.size
    ·subst hb
     rw[zac]at q
     cases q
     exact⟨by show 2≤sizeLine;decide,[u,v],.cons ru (.cons rv .nil),_,pO,rfl,_,rfl⟩
    ·rw [zae hb] at q
     exact(I2.hok b v' q).stay (λc v _ z=>z) (λc z=>by rw[zae (zaa z hN)];exact z) λc zs z=>by rw[zae (zaa z hN)];exact z
  refine⟨.ref s.heap.objs.size,_,I3,rfl,⟨xs[i],ys[i],_,λys' jJ=>by rw[I.list_inj jJ j9];exact Qd hix,λys' jJ=>by rw[I.list_inj jJ qQ];exact Qd hiy,hN,rfl,rfl⟩,
   ⟨aN,(ai.2 TI D.TIz).trans (hk _ _ D.TIz D.TITO D.TIi1 D.TIi2 li),⟨_,_,(ai.2 TO D.TOz).trans a2⟩,a3.at λo q=>(ai.2 _ D.i1z).trans q,a4.at λo q=>(ai.2 _ D.i2z).trans q⟩,λb hb=>?_⟩
  have lt:b<s.heap.objs.size:=by
   simp only[Qe,Wa,or_false]at hb
   obtain⟨o4,q4,_⟩:=h1
   obtain⟨o5,q5,_⟩:=h2
   rcases hb with rfl | rfl | rfl | rfl | rfl
   ·exact Qt hz
   ·exact Qt li
   ·exact Qt lY
   ·exact Qt q4
   ·exact Qt q5
  rw[zae (Zc lt)]
  exact(hf b hb).1
 done:=by
  intro X hP hw hK hc i a7 s σ H E I hf st hg
  subst hP hw hK
  obtain⟨xs,ys,j9,qQ,vf⟩:=hg
  obtain⟨ix,rx,px,_⟩:=I.list j9
  obtain⟨iy,ry,py,_⟩:=I.list qQ
  have lx:=rx.length
  have ly:=ry.length
  obtain⟨hz,li,⟨u0,v0,lY⟩,h1,h2⟩:=st
  refine wpAny_pyNext_zip_end (I.ok.hd hc) D hz li lY h1 h2 px.isList py.isList (vf.imp (λh=>by simp;omega) λh=>by simp;omega) λg hk=>⟨rfl,?_⟩
  have aZ:∀c u,H c=some u→c≠z∧c≠TO∧c≠i1∧c≠i2:=λc u q=>by
   refine⟨λe=>?_,λe=>?_,λe=>?_,λe=>?_⟩<;>(rw[e,(hf _ (by simp)).1]at q;cases q)
  have dC:∀c o,c∉[z,TO,i1,i2]→s.heap.get? c=some o→g.get? c=some o:=λc o hc q=>hk c o (λe=>hc (by simp[e])) (λe=>hc (by simp[e])) (λe=>hc (by simp[e])) (λe=>hc (by simp[e])) q
  refine I.step (g':=s.gens) (d':=s.drawn) (ch:=[z,TO,i1,i2]) (λc hc=>?_) (λc o _ _ hc q _=>dC c o hc q) (λc o _ _ hc q _=>⟨o.slots,dC c o hc q⟩) (λ_ _ _ _ n=>n)
   (λc o hc q=>⟨o,dC c o hc q⟩) (λ_ _ q=>q) (λ_ _ _ q=>q) (λc ps q=>⟨#[],by rw[q];simp⟩) (λm hm=>?_) (λc u q=>?_) I.bare
  ·have bZ:c∈[z,TI,TO,i1,i2]:=by
    simp only[Qe,Wa,or_false]at hc ⊢
    rcases hc with e | e | e | e<;>simp[e]
   obtain⟨e0,e1,e2,e3,e4,e5⟩:=hf c bZ
   exact⟨e3,e1,e4,e5⟩
  ·obtain ⟨o,es,ep,q,r⟩:=hm
   exact⟨o,es,ep,hk _ o (Qw (hf z (by simp)).2.1) (Qw (hf TO (by simp)).2.1) (Qw (hf i1 (by simp)).2.1) (Qw (hf i2 (by simp)).2.1) q,r⟩
  ·refine (I.hok c u q).stay (fun c' v hc z=>?_) (fun _ z=>z) fun _ _ z=>z
   obtain⟨n1,n2,n3,n4⟩:c'≠_∧c'≠TO∧c'≠i1∧c'≠i2:=by
    rcases hc with rfl | hc
    ·exact aZ c' u q
    ·exact aZ c' _ hc
   exact hk c' v n1 n2 n3 n4 z
 self:=λA i s Q E st h=>wpAny_pyIter_zip st.1 h
section
variable{X:Cx}
def iZip(K:Na)(ta:TA):TI:=λ σ H R=>ta σ H λvs H1=>∃a b,vs=[.ref a,.ref b]∧(∃xs,SqL K H1 a xs)∧(∃ys,SqL K H1 b ys)∧R (Itz a b K) H1
def pi_zip{elts:Np}{kk:Nat}{tpos:Pos}{a b:Expr}{ta:TA}{p pos:Pos}(hg:Gl X "zip")(hm:X.mg "zip" = none)(ha:PA X [a,b] ta)(hs:starEach [a,b] X.env=(false,eval a X.env)::starEach [b] X.env:=by rfl)(cg:(backTo pos (starEach [b] X.env)).any (·.1)=false:=by rfl) :
  PI X (.Tuple elts kk tpos) (.Call (.Name "zip" p) [a,b] [] pos) (iZip X.K ta):=by
 intro a7 s σ H R I h
 refine Call_ (zd1 I hg hm boot_zip (Yo (thn (ha pos a7 s σ H _ I h) λus s1 ⟨vs,H1,I1,r1,q1⟩=>?_) hs cg))
 obtain⟨l1,l2,e,⟨xs,eT⟩,⟨ys,g7⟩,q⟩:=q1
 subst e
 obtain⟨u,v,rfl,ru,rv⟩:=vals2 r1
 cases ru
 cases rv
 obtain⟨ix,rx,px,_⟩:=I1.list eT
 obtain⟨iy,ry,py,_⟩:=I1.list g7
 have lt1:l1<s1.heap.objs.size:=by obtain⟨o,q,_⟩:=px.isList;exact Qt q
 have lt2:l2<s1.heap.objs.size:=by obtain⟨o,q,_⟩:=py.isList;exact Qt q
 refine call_zip_2 px.isList py.isList λg hz li lY h1 h2 hsz k=>wpAny_pyIter_zip hz ?_
 have I2:Inv X a7 σ H1 {s1 with heap:=g}:=I1.kept (t':=s1.toks) k
 refine⟨s1.heap.objs.size+4,_,_,_,H1,rfl,I2,turn_zip l1 l2 _ _ _ _ _ (zipApart_new lt1 lt2),⟨hz,li,⟨_,_,lY⟩,h1,h2⟩,λc hc=>?_,q⟩
 have cq:s1.heap.objs.size≤c:=by
  simp only[Qe,Wa,or_false]at hc
  rcases hc with e | e | e | e | e<;>rw[e]
  ·exact Yl _ _
  ·exact Yl _ _
  ·exact Yl _ _
  ·exact Qh _
  ·exact Yl _ _
 exact I1.fpOk cq (I1.hok.fresh cq)
end
end L2
end
section
namespace K21
open PySem L2 Wb
abbrev zdz:Stmt:=top 30
theorem mul_cps(c:Nat):∀n:Nat,n≤6→(Txt.mul (⟨#[c]⟩:Str) (n:Int)).cps.toList=List.replicate n c
 |0,_ | 1,_ | 2,_ | 3,_ | 4,_ | 5,_ | 6,_=>rfl
 |n+7,h=>by omega
inductive IspNames(vs:List V)(H:Hp)(Q:VK):Prop
 |mk (p:Nb) (b m:Int) (n:Nat) (h0:vs=[.ref p,.int n]) (h1:Pot H p b m) (h2:n≤60) (h3:∀(l:Nb) (zs:Ng) (b' m':Int) (H':Hp),H' l=some (.lst (zs.map V.str))→zs.length=n→zs.Nodup→(∀z∈zs,zfi z)→Pot H' p b' m'→H l=none→Keep [p] H H'→Q (.ref l) H'):IspNames vs H Q
def spNames:Sp:=λvs H Q _=>IspNames vs H Q
abbrev csNa:Scope:=scOf (eOf (sAt zdz 3))
def csNa_k:csNa.kind=.function:=by rfl
def csNa_c:∀y∈csNa.names,y.2≠.cell:=by decide +kernel
def csNa_n:∀y∈csNa.names,y.2=.local→csNa.names.lookup y.1=some .local:=by decide +kernel
def csNa_f:∀y∈csNa.names,y.2=.free→(zag zdz).names.lookup y.1=some .cell∨(zag zdz).names.lookup y.1=some .free:=by decide +kernel
def csNa_l:csNa.names.lookup ("_law_letters" : Str)=some NameKind.free:=by decide +kernel
def csNa_p:csNa.names.lookup (qP:Str)=some NameKind.free:=by decide +kernel
def ndNa:(["_law_rank", "_law_letters",qP]:List Str).Nodup:=by decide +kernel
abbrev csNb:Scope:=scOf (eOf (sAt zdz 4))
def csNb_k:csNb.kind=.function:=by rfl
def csNb_c:∀y∈csNb.names,y.2≠.cell:=by decide +kernel
def csNb_n:∀y∈csNb.names,y.2=.local→csNb.names.lookup y.1=some .local:=by decide +kernel
def csNb_f:∀y∈csNb.names,y.2=.free→(zag zdz).names.lookup y.1=some .cell∨(zag zdz).names.lookup y.1=some .free:=by decide +kernel
def csNb_l:csNb.names.lookup ("_law_letters" : Str)=some NameKind.free:=by decide +kernel
def ndNb:(["_law_rank", "_law_tail", "_law_letters"]:List Str).Nodup:=by decide +kernel
abbrev intsV(rs:List Nat):List V:=rs.map λ(r:Nat)=>V.int (r:Int)
section
variable{P:Ni}{w:Nk}{K:Na}{mg:Nd}{base:Nm}
def zf7:zap [qP,qM, "_law_letters", "_law_ranks", "_law_k", "_law_tails"] [qP,qM] (zag zdz):=fsk
def ok_names(F:Fun K "_law_names" "_law_names" zdz f fd)(FT:Fun K qD qD zga ft fdt)(bT:Binds K fdt [qP,qM] [])(mT:mg qD=some (.ref ft))(GT:FnOk P w K mg base CX0 1 ft fdt [qP,qM] zeg)(bV:mg "range" = none)(sQ:mg "zip" = none):FnOk P w K mg base CX0 2 f fd [qP,qM] spNames:=by
 refine F.okL zf7 (λcdv A outer s H vs Q E hr h=>?_)
 obtain⟨p,b,m,n,rfl,hp,hn,k⟩:=h
 have hu:=zbz hr
 refine⟨_,zad (zen (i:=2) zf7.nd rfl (Or.inr rfl) pe_str)
  (zad (zau 3 zf7.nd (zbd zaf))
  (zad (zbq Zr rfl (zeo rfl bV (zab (pv 1) zaf)) (za9 4 zf7.nd)
   (zah (za3 (zd8 Zq PySem.F.slot_list_insert PySem.F.type_list_insert mt_insert (pv 3) (zab (zaj GT hr rfl mT FT.kp bT .nil zat (zab (pv 0) (zab (zav zbv (pv 4) zai) zaf))) (zab (pv 4) zaf))))))
  (zad (ps_lc (i:=5) (M:=["_law_rank", "_law_letters",qP]) (ix:=[none,some 2,some 0]) zf7.nd rfl rfl ⟨csNa_k,csNa_c,csNa_n,csNa_f,rfl,ndNa,λj i x h1 h2=>by
     match j,h1,h2 with
     |0,_,h2=>cases h2
     |1,h1,h2=>cases h1;cases h2;exact⟨rfl,csNa_l⟩
     |2,h1,h2=>cases h1;cases h2;exact⟨rfl,csNa_p⟩
     |n+3,h1,_=>cases h1⟩ rfl (za8 (pv 3))
     (λC a7 ex s H=>za9 0 ndNa)
     (fun C a7 ex s H=>zck) (fun C a7 ex s H=>zav op_mul_str (zay ix_str (pv 1) (zaj GT (by exact hr) rfl (by exact mT) FT.kp bT .nil zat (zab (pv 2) (zab zai zaf))) (fun _ _=>rfl))
      (zaj GT (by exact hr) rfl (by exact mT) FT.kp bT .nil zat (zab (pv 2) (zab zai zaf)))) rfl)
  (zah (zbn (zg8 (M:=["_law_rank", "_law_tail", "_law_letters"]) (ix:=[none,none,some 2]) ⟨csNb_k,csNb_c,csNb_n,csNb_f,rfl,ndNb,λj i x h1 h2=>by
     match j,h1,h2 with
     |0,_,h2=>cases h2
     |1,_,h2=>cases h2
     |2,h1,h2=>cases h1;cases h2;exact⟨rfl,csNb_l⟩
     |n+3,h1,_=>cases h1⟩ rfl (pi_zip (by rfl) sQ (zab (pv 3) (zab (pv 5) zaf)))
     (λC a7 ex s H=>zid (K:=K) (n:=2) rfl rfl (za4 (za9 0 ndNb) (za4 (za9 1 ndNb) zcl)))
     (λC a7 ex s H=>zck) (λC a7 ex s H=>zav zhm (zav zhm (zay ix_str (pv 2) (zav zff (pv 0) zai) (λ_ _=>rfl)) (zay ix_str (pv 2) (zav zii (pv 0) zai) (λ_ _=>rfl))) (pv 1)))))))),?_⟩
 have av  := sizeLine_eq
 refine⟨(by show 0≤sizeLine;decide),λl hl=>?_⟩
 have npl:p≠l:=zaa hp.1 hl
 refine⟨_,rfl,(n:Int),rfl,by omega,by omega,?_⟩
 rw[Ur]
 refine zdh (λi σ H2=>Ex4 λ(rs:List Nat) (bb mm:Int) (x4:Option V)=>Aj5 (σ=[some (.ref p),some (.int n),some (.str zde),some (.ref l),x4,none]) (H2 l=some (.lst (intsV rs))) (rs.Perm (List.range i)) (Pot H2 p bb mm) (Keep [p,l] H H2))
  ⟨[],b,m,none,rfl,zac,List.Perm.refl _,hp.keep (xs:=[]) (Keep.new hl) (by simp),Keep.new hl⟩ ?_ ?_
 ·rintro i σ H2 hi ⟨rs,bb,mm,x4,rfl,ak,bK,aw,k2⟩
  have aI:rs.length=i:=by rw[bK.length_eq,Yh]
  refine⟨_,rfl,.inl ⟨rfl,_,SqL.of ak⟩,_,rfl,_,rfl,_,_,rfl,rfl,p,bb,mm,_,rfl,aw,by omega,by omega,λd3 b3 m3 H3 ma rG aA fG=>?_⟩
  have bn:H3 l=some (.lst (intsV rs)):=fG _ _ ak (Qw npl)
  obtain⟨d,rfl⟩:=Zt ma
  have hd:d≤rs.length:=by omega
  refine⟨_,rfl,l,_,_,d,rfl,rfl,bn,by rw[Qa];omega,by rw[Qa];exact hd,?_⟩
  refine⟨rs.take d++i::rs.drop d,b3,m3,_,rfl,?_,?_,aA.keep (xs:=[l]) (Keep.wr Qc) (by simpa using npl),(k2.trans ((zbf fG).sub (by simp))).trans (Keep.wr (by simp))⟩
  ·rw[zac,intsV,intsV,Qp,Ql,Uh,Jq,Int.zero_add]
  ·rw [List.range_succ]
   refine List.Perm.trans ?_ (bK.append_right [i])
   refine List.Perm.trans Jo ?_
   rw[Yz]
   exact(List.perm_append_singleton i rs).symm
 ·rintro σ H2 ⟨rs,bb,mm,x4,rfl,ak,bK,aw,k2⟩
  have aI:rs.length=n:=by rw[bK.length_eq,Yh]
  have ag:∀r∈rs,r<n:=λr hr=>Uu.mp (bK.mem_iff.mp hr)
  refine⟨_,rfl,l,rfl,⟨_,SqL.of ak⟩,λi m' ys τ H3=>Ex4 λ(ts:Ng) (b4 m4:Int) (x0:Option V)=>Aj8 (m'=n-i) (i≤n) (ys=ts.map V.str) (ts.length=i) (∀t∈ts,t.cps.toList.length≤6∧∀c∈t.cps.toList,97≤c∧c≤122) (τ=[x0,some (.str zde),some (.ref p)]) (Pot H3 p b4 m4) (Keep [p] H2 H3),
   ⟨n,[],bb,mm,none,rfl,Zg _,rfl,rfl,by simp,rfl,aw,Keep.refl⟩,?_⟩
  rintro i m' ys τ H3 ⟨ts,b4,m4,x0,rfl,hi,rfl,lI,cb,rfl,aA,k3⟩
  have bn:H3 l=some (.lst (intsV rs)):=k3 _ _ ak (by simpa using Qw npl)
  by_cases aE:i<n
  ·have hir:i < rs.length:=by omega
   refine .inr ⟨⟨_,_,SqL.of bn,by rw[Qq,Qd hir];rfl⟩,by rw[Qa];omega,?_⟩
   rintro x H5 ⟨rfl,_⟩
   refine⟨_,rfl,_,rfl,p,b4,m4,26,rfl,aA,by decide,by decide,λd6 b6 m6 H6 l' pW eY dF=>?_⟩
   refine⟨_,_,_,rfl,rfl,zeb,zgk l' pW,?_⟩
   refine⟨_,rfl,p,b6,m6,7,rfl,eY,by decide,by decide,λd7 b7 m7 H7 h70 h71 iu kp7=>?_⟩
   obtain⟨d,rfl⟩:=Zt h70
   have pj:d≤6:=by omega
   have e:=mul_cps (97+d6.toNat) d pj
   refine⟨_,d,rfl,rfl,by show 1≤1000;decide,by omega,_,?_,ts++[Txt.mul (⟨#[97+d6.toNat]⟩:Str) (d:Int)],b7,m7,_,rfl,aE,?_,?_,?_,rfl,iu,(k3.trans (zbf dF)).trans (zbf kp7)⟩
   ·omega
   ·rw[Qp];rfl
   ·rw[Qs];show _+1=_;omega
   ·intro t ht
    rcases Qi.mp ht with z | z
    ·exact cb t z
    ·rw [Qb.mp z,e]
     refine⟨by rw[Jn];exact pj,λc hc=>?_⟩
     rw[(List.mem_replicate.mp hc).2];omega
  ·have kR:i=n:=by omega
   subst kR
   refine .inl ⟨⟨_,SqL.of bn,by rw[Qa];omega⟩,λD hD=>?_⟩
   have nlD:l≠D:=zaa bn hD
   have bv:(upd H3 D (.lst (ts.map V.str))) l=some (.lst (intsV rs)):=by rw[zae nlD];exact bn
   have k4:Keep [p,l] H (upd H3 D (.lst (ts.map V.str))):=(k2.trans (k3.sub (by simp))).trans (Keep.new hD)
   have ci:Pot (upd H3 D (.lst (ts.map V.str))) p b4 m4:=aA.keep (xs:=[]) (Keep.new hD) (by simp)
   have jq:(upd H3 D (.lst (ts.map V.str))) D=some (.lst (ts.map V.str)):=zac
   generalize upd H3 D (.lst (ts.map V.str))=H4 at bv k4 ci jq
   refine⟨_,rfl,_,rfl,l,D,rfl,⟨_,SqL.of bv⟩,⟨_,SqL.of jq⟩,λj m' ys τ H5=>Ex3 λ(zs:Ng) (x0 x1:Option V)=>Aj7 (m'=i-j) (j≤i) (ys=zs.map V.str) (zs.map (λz=>z.cps.toList.take 2)=(rs.take j).map λr=>[97+r%26,97+r/26]) (∀z∈zs,zfi z) (τ=[x0,x1,some (.str zde)]) (Keep [] H4 H5),
    ⟨i,[],none,none,rfl,Zg _,rfl,rfl,by simp,rfl,Keep.refl⟩,?_⟩
   rintro j m' ys τ H5 ⟨zs,x0,x1,rfl,hj,rfl,dI,hok,rfl,k5⟩
   have dG:zs.length=j:=by
    have:=congrArg List.length dI
    rw[Qa,Qa,Zi]at this
    omega
   have cz:=k5 _ _ bv (by simp)
   have iP:=k5 _ _ jq (by simp)
   by_cases kO:j<i
   ·have r6:j < rs.length:=by omega
    have uw:j<ts.length:=by omega
    refine .inr ⟨⟨_,_,SqL.of cz,SqL.of iP,by rw[Qa];exact r6,by rw[Qa];exact uw⟩,by rw[Qa];omega,?_⟩
    rintro y H' ⟨u,v,t',e1,e2,nN,rfl,rfl⟩
    have eJ:=e1 _ (SqL.of cz)
    have ll:=e2 _ (SqL.of iP)
    rw[Qq,Qd r6]at eJ
    rw[Qq,Qd uw]at ll
    obtain rfl:V.int (rs[j]:Int)=u:=Qk eJ
    obtain rfl:V.str ts[j]=v:=Qk ll
    have au:=ag _ (Qv r6)
    obtain⟨t1,t2⟩:=cb _ (Qv uw)
    have tk:rs.take (j+1)=rs.take j++[rs[j]]:=Qm r6
    generalize rs[j]=r at au tk
    generalize ts[j]=t at t1 t2
    have c1:atI zde.cps.toList ((r:Int)%26)=some (97+r%26):=by
     rw[zgk (Jf _ (by decide)) (Uk _ (by decide)),show((r:Int)%26).toNat=r%26 by omega]
    have c2:atI zde.cps.toList ((r:Int)/26)=some (97+r/26):=by
     rw[zgk (by omega) (by omega),show((r:Int)/26).toNat=r/26 by omega]
    have ez:((⟨#[97+r%26]⟩:Str)++(⟨#[97+r/26]⟩:Str)++t).cps.toList=(97+r%26)::(97+r/26)::t.cps.toList:=by
     show(((#[97+r%26]:Array Nat)++(#[97+r/26]:Array Nat))++t.cps).toList=_
     rw[Yb,Yb];rfl
    have cE:((⟨#[97+r%26]⟩:Str)++(⟨#[97+r/26]⟩:Str)++t).length=t.cps.toList.length+2:=by
     show Array.size _=_
     rw[←Yv]
     exact congrArg List.length ez
    have bp:t.length=t.cps.toList.length:=by show t.cps.size=_;rw[Yv]
    refine⟨t',_,rfl,SqT.of zac,rfl,_,_,rfl,_,_,rfl,rfl,?_⟩
    refine⟨_,rfl,_,rfl,_,_,rfl,rfl,(by show(0:Int)<26;decide),_,_,_,rfl,rfl,zeb,c1,_,rfl,_,rfl,_,_,rfl,rfl,⟨by decide,by decide⟩,_,_,_,rfl,rfl,zeb,c2,_,_,rfl,rfl,(by show 1+1≤sizeLine;decide),_,rfl,_,_,rfl,rfl,?_,i-(j+1),by omega,zs++[(⟨#[97+r%26]⟩:Str)++(⟨#[97+r/26]⟩:Str)++t],_,_,rfl,kO,?_,?_,?_,rfl,k5.trans (Keep.new nN)⟩
    ·rw[bp];show 2+_≤_;omega
    ·rw[Qp];rfl
    ·rw[Qp,dI,tk,Qp,Ql,Ql,Jk,Jk,ez];rfl
    ·intro z hz
     rcases Qi.mp hz with h | h
     ·exact hok z h
     ·rw [Qb.mp h]
      refine⟨by omega,by omega,λc hc=>?_⟩
      rw[ez]at hc
      rcases Qe.mp hc with h2 | h2
      ·rw[h2];omega
      ·rcases Qe.mp h2 with h3 | h3
       ·rw[h3];omega
       ·exact t2 c h3
   ·have hje:j=i:=by omega
    subst hje
    refine .inl ⟨⟨_,_,SqL.of cz,SqL.of iP,.inl (by rw[Qa];omega)⟩,λD2 dl=>?_⟩
    have oF:H l=none:=hl
    have kF:Keep [p,l] H (upd H5 D2 (.lst (zs.map V.str))):=(k4.trans (k5.sub (by simp))).trans (Keep.new dl)
    refine k D2 zs b4 m4 _ zac dG ?_ hok (ci.keep (xs:=[]) (k5.trans (Keep.new dl)) (by simp)) ?_ ?_
    ·have hnr:rs.Nodup:=bK.nodup_iff.mpr List.nodup_range
     have:(zs.map λz=>z.cps.toList.take 2).Nodup:=by
      rw[dI,Qx (by omega)]
      refine zik hnr λa ha c hc e=>?_
      injection e with e1 e2
      injection e2 with e2 _
      omega
     exact nodup_of_map this
    ·have nD:D2≠p:=Qw (zaa (ci.keep (xs:=[]) k5 (by simp)).1 dl)
     have nl:D2≠l:=Qw (zaa cz dl)
     exact zak (k4.trans (k5.sub (by simp))) dl (by simp;exact⟨nD,nl⟩)
    ·exact λc o ec hc=>kF c o ec (by simp at hc ⊢;exact⟨hc,zaa ec oF⟩)
end
end K21
end
section
namespace L2
open PySem PySem.Spec PyProof.Rows
section
variable{X:Cx}
def op_ne_pairs(hu:X.A.units<cLine):OpR X (compareOp .NotEq) (λx y H Q=>Ex4 λ(a b:Nb) (q r:Str×Str)=>Aj5 (x=.ref a) (y=.ref b) (H a=some (.tup [.str q.1,.str q.2])) (H b=some (.tup [.str r.1,.str r.2])) (Q (.bl (!decide (q=r))) H)):=by
 intro a7 s σ H x y v u Q I rx ry h
 obtain⟨a,b,q,r,rfl,rfl,ha,hb,k⟩:=h
 cases rx;cases ry
 obtain⟨_,a8,r1,p⟩:=I.hok a _ ha
 obtain⟨_,bh,r2,p2⟩:=I.hok b _ hb
 obtain⟨u1,u2,rfl,⟨t1,rfl⟩,⟨t2,rfl⟩⟩:=vals2 r1
 obtain⟨w1,w2,rfl,⟨t3,rfl⟩,⟨t4,rfl⟩⟩:=vals2 r2
 refine SeqAt.RcNeAt.tuples (e:=λj=>if j=0 then q.1==r.1 else q.2==r.2) p p2 hu (λj j1 j2=>?_) _ _ _ _ ⟨.bl (!decide (q=r)),H,I,?_,k⟩
 ·have j1':j < 2:=by simpa using j1
  match j,j1' with
  |0,_=>exact SeqAt.EqAt.str_str q.1 t1 r.1 t3
  |1,_=>exact SeqAt.EqAt.str_str q.2 t2 r.2 t4
 ·show Value.bool _=Value.bool _
  congr 1
  have:decide (q=r)=((q.1==r.1)&&(q.2==r.2)):=by
   rw[Wj]
   simp[Prod.ext_iff]
  rw[this]
  show(!((List.range 2).all (λj=>if j=0 then q.1==r.1 else q.2==r.2)&&true))=_
  rw[show List.range 2=[0,1] from rfl]
  simp
end
end L2
namespace Wb
section
variable{α:Type}[DecidableEq α]
theorem zgq(rs:Rs α)(s:α×α):∀n,itr rs s (n+1)=itr rs (stp rs s) n
 |0=>rfl
 |n+1=>congrArg (stp rs) (zgq rs s n)
theorem lk_itr:∀{t:List (α×α)} {s:α×α},Lk (st (row rs)) s t e→run rs s (t.length+1)=s::t∧itr rs s (t.length+1)=e
 |[],s,k=>⟨rfl,k⟩
 |y::t,s,k=>by
  obtain⟨h1,h2⟩:=lk_itr k.2
  have hs:stp rs s=y:=k.1
  refine⟨?_,by rw[Qz,zgq,hs];exact h2⟩
  unfold run at h1 ⊢
  rw[Qz,List.range_succ_eq_map,Ql,Ze,←h1]
  refine congrArg (s::·) (Yj λn _=>?_)
  show itr rs s (n+1)=_
  rw[zgq,hs]
def good_round{rs:Rs α}(h:Good rs){s:α×α}(hs:IsSt rs s):∃L,itr rs s (L+1)=s∧(run rs s (L+1)).Nodup:=by
 obtain⟨cs,aa,C⟩:=h
 obtain⟨c,hc,h⟩:=Zu.mp ((C.cm s).mpr ((zbx C.nd).mp hs))
 obtain⟨A,B,e⟩:=Yn h
 have k:=C.cy c hc
 rw[e]at k
 obtain⟨h1,h2⟩:=lk_itr (zc4 k)
 refine⟨_,h2,?_⟩
 rw[h1]
 have hn:c.Nodup:=(List.pairwise_flatten.mp C.cf).1 c hc
 rw[e]at hn
 have:=(Yw (l₁:=A) (l₂:=s::B)).nodup_iff.mp hn
 exact this
def round_ne{rs:Rs α}{s:α×α}{L n:Nat}(nd:(run rs s (L+1)).Nodup)(h0:0<n)(h:n≤L):itr rs s n≠s:=λe=>by
 unfold run at nd
 have:=(Yf (i:=n) (j:=0) (h₀:=by rw[Qa,Yh];omega) (h₁:=by rw[Qa,Yh];omega) nd).mp (by
  rw[Zj,Zj,Uj,Uj];exact e)
 omega
end
end Wb
namespace K21
open PySem L2 Wb
abbrev zh7:Stmt:=top 31
abbrev sFace:Stmt:=top 32
abbrev sPut:Stmt:=top 33
abbrev sTie:Stmt:=top 34
structure RN(H:Hp)(d:Nb)(es:List Ent):Prop extends RAt H d es where
 an:(es.map (·.2.2)).Nodup
def RN.keep{H H':Hp}{d:Nb}{es:List Ent}{xs:Nl}(r:RN H d es)(k:Keep xs H H')(hd:d∉xs)(h:∀e∈es,e.2.2∉xs):RN H' d es:=⟨r.toRAt.keep k hd h,r.an⟩
def RN.pot(r:RN H d es)(h:Pot H p b m)(k:Keep [p] H H'):RN H' d es:=⟨r.toRAt.pot h k,r.an⟩
def RN.k0(r:RN H d es)(k:Keep [] H H'):RN H' d es:=r.keep k (by simp) λ_ _=>by simp
def ent_eq{es:List Ent}(nd:(es.map (·.1)).Nodup){e e':Ent}(h:e∈es)(h':e'∈es)(q:e.1=e'.1):e=e':=by
 obtain⟨i,hi,rfl⟩:=Zp h
 obtain⟨j,hj,rfl⟩:=Zp h'
 have:i=j:=(Yf (h₀:=by rw[Qa];exact hi) (h₁:=by rw[Qa];exact hj) nd).mp (by rw[Zj,Zj];exact q)
 subst this;rfl
def ent_ad{es:List Ent}(nd:(es.map (·.2.2)).Nodup){e e':Ent}(h:e∈es)(h':e'∈es)(q:e.2.2=e'.2.2):e=e':=by
 obtain⟨i,hi,rfl⟩:=Zp h
 obtain⟨j,hj,rfl⟩:=Zp h'
 have:i=j:=(Yf (h₀:=by rw[Qa];exact hi) (h₁:=by rw[Qa];exact hj) nd).mp (by rw[Zj,Zj];exact q)
 subst this;rfl
def setE_ad{es:List Ent}(nd:(es.map (·.1)).Nodup){e:Ent}(h:e∈es)(r:Ng):(setE es e.1 r e.2.2).map (λe=>(e.1,e.2.2))=es.map λe=>(e.1,e.2.2):=by
 unfold setE
 rw[Ze]
 refine Yj λe' h'=>?_
 show(λe:Ent=>(e.1,e.2.2)) (if e'.1=e.1 then(e'.1,r,e.2.2) else e')=_
 split
 ·rename_i q
  rw[ent_eq nd h' h q]
 ·rfl
def RN.set(R:RN H d es){e:Ent}(he:e∈es)(r:Ng):RN (upd H e.2.2 (.lst (r.map V.str))) d (setE es e.1 r e.2.2):=by
 have q:=setE_ad R.nd he r
 have nd':d≠e.2.2:=za2 R.dc (R.ro e he) (by intro z;cases z)
 have q2:(setE es e.1 r e.2.2).map (·.2.2)=es.map (·.2.2):=by
  have:=congrArg (List.map (·.2)) q
  rwa[Ze,Ze]at this
 refine⟨⟨?_,λe' h'=>?_,by rw[zax];exact R.nd⟩,by rw[q2];exact R.an⟩
 ·rw [zae nd',R.dc]
  have:=congrArg (List.map λp:Str×Addr=>((Sum.inr p.1:Key),V.ref p.2)) q
  rw[Ze,Ze]at this
  exact congrArg (λz=>some (HO.dK z)) this.symm
 ·unfold setE at h'
  obtain⟨e0,h0,rfl⟩:=Qf.mp h'
  by_cases z:e0.1=e.1
  ·rw[if_pos z];exact zac
  ·rw [if_neg z,zae (fun y=>z (congrArg (·.1) (ent_ad R.an h0 he y)))]
   exact R.ro e0 h0
def zc1(h:e∈es)(n:e.1≠x):e∈setE es x r a:=by
 unfold setE
 exact Qf.mpr ⟨e,h,if_neg n⟩
inductive IspBehind(vs:List V)(H:Hp)(Q:VK):Prop
 |mk (d:Nb) (es:List Ent) (s:Str×Str) (h0:vs=[.ref d,.str s.1,.str s.2]) (h1:RAt H d es) (h2:IsSt (rsOf es) s) (h3:∀e∈es,e.2.1.length≤900) (h4:∀t,H t=none→Q (.ref t) (upd H t (.tup [.str (stp (rsOf es) s).1,.str (stp (rsOf es) s).2]))):IspBehind vs H Q
def spBehind:Sp:=λvs H Q _=>IspBehind vs H Q
inductive IspFace(vs:List V)(H:Hp)(Q:VK):Prop
 |mk (d t0:Nb) (es:List Ent) (s:Str×Str) (h0:vs=[.ref d,.ref t0]) (h1:RAt H d es) (h2:IsSt (rsOf es) s) (h3:Good (rsOf es)) (h4:es.length≤40) (ht:H t0=some (.tup [.str s.1,.str s.2])) (h6:∀(l:Nb) (as:Nl) (n:Nat) (H':Hp),H l=none→H' l=some (.lst (as.map V.ref))→zbr H' as (run (rsOf es) s (n+1))→(run (rsOf es) s (n+1)).Nodup→itr (rsOf es) s (n+1)=s→Keep [] H H'→Q (.ref l) H'):IspFace vs H Q
def spFace:Sp:=λvs H Q _=>IspFace vs H Q
inductive IspPut(vs:List V)(H:Hp)(Q:VK):Prop
 |mk (d:Nb) (es:List Ent) (e:Ent) (c:Option Str) (n:Str) (h0:vs=[.ref d,.str e.1,zgv c,.str n]) (h1:RN H d es) (h2:e∈es) (h3:(∀x,c=some x→x∈e.2.1)) (h4:e.2.1.length≤1000) (h6:∀(H':Hp),RN H' d (setE es e.1 (ins e.2.1 c n) e.2.2)→Keep [e.2.2] H H'→Q .non H'):IspPut vs H Q
def spPut:Sp:=λvs H Q _=>IspPut vs H Q
inductive IspTie(vs:List V)(H:Hp)(Q:VK):Prop
 |mk (d:Nb) (es:List Ent) (e1 e2:Ent) (c1 c2:Option Str) (h0:vs=[.ref d,.str e1.1,zgv c1,.str e2.1,zgv c2]) (h1:RN H d es) (h2:e1∈es) (md:e2∈es) (az:e1.1≠e2.1) (h3:(∀x,c1=some x→x∈e1.2.1)) (h3':(∀x,c2=some x→x∈e2.2.1)) (h4:e1.2.1.length≤1000) (h4':e2.2.1.length≤1000)
  (h6:∀(H':Hp),RN H' d (setE (setE es e1.1 (ins e1.2.1 c1 e2.1) e1.2.2) e2.1 (ins e2.2.1 c2 e1.1) e2.2.2)→Keep [e1.2.2,e2.2.2] H H'→Q .non H'):IspTie vs H Q
def spTie:Sp:=λvs H Q _=>IspTie vs H Q
section
variable{P:Ni}{w:Nk}{K:Na}{mg:Nd}{base:Nm}
def scBehind:zap [qR, "_law_p", "_law_q", "_law_row"] [qR, "_law_p", "_law_q"] (zag zh7):=fsk
def ok_behind(F:Fun K "_law_behind" "_law_behind" zh7 f fd)(af:mg "len" = none):FnOk P w K mg base CX0 1 f fd [qR, "_law_p", "_law_q"] spBehind:=by
 refine F.okL scBehind (λcdv A outer s H vs Q E hr h=>?_)
 obtain⟨d,es,st,rfl,R,aq,aI,k⟩:=h
 have hu:=zbz hr
 refine⟨_,zad (zau 3 scBehind.nd (zbo hu (pv 0) (pv 2)))
  (zah (zbn (zgd (zab (pv 2) (zab (zay zao (pv 3) (zav zff (zav zbv (zd8 Zq Ku Kt zil (pv 3) (zab (pv 1) zaf)) zai)
  (zal zas (by rfl) af Zv (zab (pv 3) zaf))) (λ_ _=>rfl)) zaf))))),?_⟩
 obtain⟨p,hp,ep,hx⟩:=aq
 obtain⟨e,he,rfl⟩:=Qf.mp hp
 have ep':e.1=st.2:=ep
 have cv:st.1∈e.2.1:=hx
 have ha:=R.ro e he
 have g0:=DGet.k (k:=Sum.inr e.1) R.dc
 rw[zbu R.nd he,ep']at g0
 refine⟨_,rfl,_,rfl,d,_,rfl,g0,?_⟩
 have hz:=aI e he
 have ar:row (rsOf es) st.2=e.2.1:=by rw[←ep'];exact zbj R.nd he
 unfold stp at k
 rw[ar]at k
 generalize e.2.1=zs at cv ha hz k
 obtain⟨i1,i2⟩:=zir cv
 have il:0<zs.length:=Yd cv
 have hm:(zs.idxOf st.1+1)%zs.length<zs.length:=Nat.mod_lt _ il
 have g:(zs.map V.str)[(zs.idxOf st.1+1)%zs.length]?=some (.str (nxt zs st.1)):=by
  rw[Qq,Qd hm]
  unfold nxt
  simp[List.getD,hm]
 have e1:((zs.idxOf st.1:Nat):Int)+1=((zs.idxOf st.1+1:Nat):Int):=by lia
 have g2:atI (zs.map V.str) ((((zs.idxOf st.1:Nat):Int)+1)%((zs.map V.str).length:Int))=some (.str (nxt zs st.1)):=by
  rw[e1,Qa,←Int.natCast_emod]
  exact zar g
 refine⟨_,rfl,_,rfl,_,rfl,.inl ⟨rfl,_,SqL.of ha⟩,_,rfl,e.2.2,_,_,_,rfl,rfl,ha,rfl,zce zs,i1,i2,_,_,rfl,rfl,_,rfl,e.2.2,_,rfl,.inl (SqL.of ha),_,_,rfl,rfl,?_,e.2.2,_,_,_,rfl,rfl,SqL.of ha,g2,(by show 2≤sizeLine;decide),λt ht=>k t ht⟩
 rw[Qa];exact zar9 ‹_›
def scFace:zap [qR, "_law_step_here", "_law_found", "_law_here"] [qR, "_law_step_here"] (zag sFace):=fsk
def ok_face{f fb:Nb}{fd fdb:No}(F:Fun K "_law_face" "_law_face" sFace f fd)(FB:Fun K "_law_behind" "_law_behind" zh7 fb fdb)(bB:Binds K fdb [qR, "_law_p", "_law_q"] [])(mB:mg "_law_behind" = some (.ref fb))(GB:FnOk P w K mg base CX0 1 fb fdb [qR, "_law_p", "_law_q"] spBehind) :
  FnOk P w K mg base CX0 2 f fd [qR, "_law_step_here"] spFace:=by
 refine F.okL scFace (λcdv A outer s H vs Q E hr h=>?_)
 obtain⟨d,t0,es,st,rfl,R,aq,hG,aS,qI,k⟩:=h
 have hu:=zbz hr
 refine⟨_,zad (zau 2 scFace.nd (zbd (zab (pv 1) zaf)))
  (zad (zau 3 scFace.nd (zaj GB hr rfl mB FB.kp bB .nil zat (zab (pv 0) (zab (zay zcd (pv 1) zai (λ_ _=>rfl)) (zab (zay zcd (pv 1) zai (λ_ _=>rfl)) zaf)))))
  (zad (zfu Zr (zaq (op_ne_pairs (Wp (Ys _) hu)) (pv 3) (pv 1) rfl)
   (zad (za3 (zd8 Zq Wn Wm zcw (pv 2) (zab (pv 3) zaf)))
   (zah (zau 3 scFace.nd (zaj GB hr rfl mB FB.kp bB .nil zat (zab (pv 0) (zab (zay zcd (pv 3) zai (λ_ _=>rfl)) (zab (zay zcd (pv 3) zai (λ_ _=>rfl)) zaf))))))))
  (zah (zbn (pv 2))))),?_⟩
 obtain⟨L,hL,nd⟩:=good_round hG aq
 have aL:=za1.clo _ hG
 have aI:∀e∈es,e.2.1.length≤900:=λe he=>by
  have:=za1.rows hG (e.1,e.2.1) (Qf.mpr ⟨e,he,rfl⟩)
  rw[show(rsOf es).length=es.length from Qa ..]at this
  exact Zk this (by omega)
 have hLb:L+1≤1600:=by
  have:=zer nd (m:=zi8 (rsOf es)) λx hx=>by
   obtain⟨i,_,rfl⟩:=Qf.mp hx
   exact zgi.mpr (zgp aL aq i)
  unfold Wb.run at this
  rw[Qa,Yh]at this
  exact Zk this (za1.steps hG (by rw[show(rsOf es).length=es.length from Qa ..];exact aS))
 have i0:∀x y:V,atI [x,y] ((0:Nat):Int)=some x:=λx y=>zar rfl
 have i1:∀x y:V,atI [x,y] ((1:Nat):Int)=some y:=λx y=>zar rfl
 have av  := sizeLine_eq
 refine⟨_,rfl,(by show 1≤sizeLine;decide),λl hl=>?_⟩
 have ntl:t0≠l:=zaa qI hl
 have k1:Keep [] H (upd H l (.lst [.ref t0])):=Keep.new hl
 have bf:=k1 _ _ qI (by simp)
 have R1:RAt (upd H l (.lst [.ref t0])) d es:=R.keep k1 (by simp) λ_ _=>by simp
 refine⟨_,rfl,_,rfl,t0,_,_,_,rfl,rfl,SqT.of bf,i0 _ _,_,rfl,t0,_,_,_,rfl,rfl,SqT.of bf,i1 _ _,d,es,st,rfl,R1,aq,aI,λt ht=>?_⟩
 have nlt:l≠t:=zaa (o:=_) zac ht
 refine⟨λm σ H1=>Ex3 λ(n:Nat) (t:Nb) (as:Nl)=>Aj8 (m=L-n) (n≤L) (σ=[some (.ref d),some (.ref t0),some (.ref l),some (.ref t)]) (Keep [l] H H1) (H1 l=some (.lst (as.map V.ref))) (zbr H1 as (run (rsOf es) st (n+1))) (H1 t=some (.tup [.str (itr (rsOf es) st (n+1)).1,.str (itr (rsOf es) st (n+1)).2])) (as.length=n+1),
  ⟨_,0,t,[t0],rfl,Zg _,rfl,(k1.trans (Keep.new ht)).sub (by simp),by rw[zae nlt];exact zac,.cons ((k1.trans (Keep.new ht)) _ _ qI (by simp)) .nil,zac,rfl⟩,?_⟩
 rintro m σ H1 ⟨n,t,as,rfl,hn,rfl,k2,ak,pa,aQ,cV⟩
 have tE:=k2 _ _ qI (by simpa using ntl)
 refine⟨_,rfl,_,rfl,t,t0,itr (rsOf es) st (n+1),st,rfl,rfl,aQ,tE,_,rfl,?_⟩
 by_cases he:n=L
 ·subst he
  refine zcq (by rw[decide_eq_true hL];rfl) ?_
  exact⟨_,rfl,k l as n H1 hl ak pa nd hL λc o ec _=>k2 c o ec (by simpa using zaa ec hl)⟩
 ·refine zdv (by rw [decide_eq_false (round_ne nd (Nat.succ_pos n) (by omega))];rfl) ?_
  have ndl:d≠l:=zaa R.dc hl
  have ss:t≠l:=za2 aQ ak (by intro z;cases z)
  refine⟨_,λ σ' H' z=>z,?_⟩
  refine⟨_,rfl,.inl ⟨rfl,_,SqL.of ak⟩,_,rfl,l,_,_,rfl,rfl,ak,by rw[Qa];omega,?_⟩
  have k3:Keep [l] H (upd H1 l (.lst (as.map V.ref++[V.ref t]))):=k2.trans (Keep.wr Qc)
  have cL:(upd H1 l (.lst (as.map V.ref++[V.ref t]))) t=some (.tup [.str (itr (rsOf es) st (n+1)).1,.str (itr (rsOf es) st (n+1)).2]):=by rw[zae ss];exact aQ
  have bn:(upd H1 l (.lst (as.map V.ref++[V.ref t]))) l=some (.lst ((as++[t]).map V.ref)):=by rw[zac,Qp];rfl
  have pa3:zbr (upd H1 l (.lst (as.map V.ref++[V.ref t]))) (as++[t]) (run (rsOf es) st (n+1+1)):=by
   rw[run_succ]
   refine zbr.snoc (zbr.keep pa λb x y eb=>?_) cL
   rw[zae (za2 eb ak (by intro z;cases z))];exact eb
  generalize upd H1 l (.lst (as.map V.ref++[V.ref t]))=H3 at k3 cL bn pa3
  have R3:RAt H3 d es:=R.keep k3 (by simpa using ndl) λe he=>by simpa using zaa (R.ro e he) hl
  refine⟨_,rfl,_,rfl,t,_,_,_,rfl,rfl,SqT.of cL,i0 _ _,_,rfl,t,_,_,_,rfl,rfl,SqT.of cL,i1 _ _,d,es,itr (rsOf es) st (n+1),rfl,R3,zgp aL aq _,aI,λt' nN=>?_⟩
  have nl':l≠t':=zaa bn nN
  exact⟨L-(n+1),by omega,n+1,t',as++[t],rfl,by omega,rfl,k3.trans (Keep.new nN),by rw[zae nl'];exact bn,zbr.keep pa3 λb x y eb=>by rw[zae (zaa eb nN)];exact eb,zac,by rw[Qs,cV];rfl⟩
def scPut:zap [qR, "_law_one",qB,qO, "_law_at"] [qR, "_law_one",qB,qO] (zag sPut):=fsk
def ok_put(F:Fun K "_law_put" "_law_put" sPut f fd):FnOk P w K mg base CX0 1 f fd [qR, "_law_one",qB,qO] spPut:=by
 refine F.okL scPut (λcdv A outer s H vs Q E hr h=>?_)
 obtain⟨d,es,e,c,n,rfl,R,he,hc,hl,k⟩:=h
 have hu:=zbz hr
 have ar:=R.ro e he
 have g0:DGet H d (.str e.1) (some (.ref e.2.2)):=(zbu R.nd he▸DGet.k (k:=Sum.inr e.1) R.dc)
 have av  := sizeLine_eq
 refine⟨_,zad (zau 4 scPut.nd zai)
  (zad (zbp (zcv (zig (pv 2))) (zah (zau 4 scPut.nd (zav zbv (zd8 Zq Ku Kt zil (zbo hu (pv 0) (pv 1)) (zab (pv 2) zaf)) zai))) zaw)
  (zah (za3 (zd8 Zq PySem.F.slot_list_insert PySem.F.type_list_insert mt_insert (zbo hu (pv 0) (pv 1)) (zab (pv 4) (zab (pv 3) zaf)))))),?_⟩
 have fin:∀j:Nat,j≤e.2.1.length→ins e.2.1 c n=e.2.1.take j++n::e.2.1.drop j→Q .non (upd H e.2.2 (.lst ((e.2.1.map V.str).take j++V.str n::(e.2.1.map V.str).drop j))):=λj hj ei=>by
  rw[←Uh,←Jq,←Ql,←Qp,←ei]
  exact k _ (R.set he _) (Keep.wr Qc)
 cases c with
 |none =>
  refine⟨_,rfl,_,rfl,?_⟩
  refine iteF ?_
  exact⟨_,rfl,_,rfl,d,_,rfl,g0,.inl ⟨rfl,_,SqL.of ar⟩,_,rfl,_,rfl,e.2.2,_,_,0,rfl,rfl,ar,by rw[Qa];omega,Zg _,fin 0 (Zg _) rfl⟩
 |some x =>
  have hx:=hc x rfl
  obtain⟨i1,i2⟩:=zir hx
  have hi:=idx_lt hx
  refine⟨_,rfl,_,rfl,?_⟩
  refine iteT ?_
  refine⟨_,rfl,_,rfl,d,_,rfl,g0,.inl ⟨rfl,_,SqL.of ar⟩,_,rfl,e.2.2,_,_,_,rfl,rfl,ar,rfl,zce _,i1,i2,_,_,rfl,rfl,?_⟩
  exact⟨_,rfl,_,rfl,d,_,rfl,g0,.inl ⟨rfl,_,SqL.of ar⟩,_,rfl,_,rfl,e.2.2,_,_,e.2.1.idxOf x+1,rfl,by rw[show((e.2.1.idxOf x+1:Nat):Int)=(e.2.1.idxOf x:Int)+1 by lia],ar,by rw[Qa];omega,by rw[Qa];omega,fin _ hi rfl⟩
def scTie:zap [qR, "_law_one",qB,qO, "_law_after"] [qR, "_law_one",qB,qO, "_law_after"] (zag sTie):=fsk
def ok_tie(F:Fun K "_law_tie" "_law_tie" sTie f fd)(FP:Fun K "_law_put" "_law_put" sPut fp fdp)(bP:Binds K fdp [qR, "_law_one",qB,qO] [])(mP:mg "_law_put" = some (.ref fp))(GP:FnOk P w K mg base CX0 1 fp fdp [qR, "_law_one",qB,qO] spPut):FnOk P w K mg base CX0 2 f fd [qR, "_law_one",qB,qO, "_law_after"] spTie:=by
 refine F.okL scTie (λcdv A outer s H vs Q E hr h=>?_)
 obtain⟨d,es,e1,e2,c1,c2,rfl,R,h1,h2,az,bw,rj,cC,ak,k⟩:=h
 refine⟨_,zad (za3 (zaj GP hr rfl mP FP.kp bP .nil zat (zab (pv 0) (zab (pv 1) (zab (pv 2) (zab (pv 3) zaf))))))
  (zah (za3 (zaj GP hr rfl mP FP.kp bP .nil zat (zab (pv 0) (zab (pv 3) (zab (pv 4) (zab (pv 1) zaf))))))),?_⟩
 refine⟨_,rfl,_,rfl,_,rfl,_,rfl,d,es,e1,c1,e2.1,rfl,R,h1,bw,cC,λH1 R1 k1=>?_⟩
 refine⟨_,rfl,_,rfl,_,rfl,_,rfl,d,_,e2,c2,e1.1,rfl,R1,zc1 h2 (Qw az),rj,ak,λH2 R2 k2=>?_⟩
 exact k H2 R2 ((k1.sub (by simp)).trans (k2.sub (by simp)))
end
end K21
end
section
namespace K21
open PySem L2 Wb
abbrev zh2:Stmt:=top 35
structure Dr(H:Hp)(d:Nb)(es:List Ent):Prop where
 rn:RN H d es
 gd:Good (rsOf es)
 few:es.length≤40
def Dr.k0(r:Dr H d es)(k:Keep [] H H'):Dr H' d es:=⟨r.rn.k0 k,r.gd,r.few⟩
def Dr.pot(r:Dr H d es)(h:Pot H p b m)(k:Keep [p] H H'):Dr H' d es:=⟨r.rn.pot h k,r.gd,r.few⟩
def Dr.row(r:Dr H d es):∀e∈es,e.2.1.length≤40:=λe he=>by
 have:=za1.rows r.gd (e.1,e.2.1) (Qf.mpr ⟨e,he,rfl⟩)
 rw[show(rsOf es).length=es.length from Qa ..]at this
 exact Zk this r.few
def zbi(es:List Ent):(rsOf es).map (·.1)=es.map (·.1):=by
 unfold rsOf;rw[List.map_map];rfl
def zhy(G:Good (rsOf es))(h:IsSt (rsOf es) s):∃e1∈es,∃e2∈es,e1.1=s.1∧e2.1=s.2∧s.2∈e1.2.1∧s.1∈e2.2.1∧e1.1≠e2.1:=by
 obtain⟨cs,aa,C⟩:=G
 have h1:=(zbx C.nd).mp h
 have h2:=C.sy _ _ h1
 have n1:=C.inn h1
 have n2:=C.inn h2
 rw[zbi]at n1 n2
 obtain⟨e2,cp,q2⟩:=Qf.mp n1
 obtain⟨e1,eD,q1⟩:=Qf.mp n2
 have lv:e2.1=s.2:=q2
 have sk:e1.1=s.1:=q1
 have nd:(es.map (·.1)).Nodup:=by rw[←zbi];exact C.nd
 refine⟨e1,eD,e2,cp,sk,lv,by rw[←zbj nd eD,sk];exact h2,by rw[←zbj nd cp,lv];exact h1,λe=>?_⟩
 rw[sk,lv]at e
 rw[e]at h1
 exact C.ir _ h1
inductive IspStep(vs:List V)(H:Hp)(Q:VK):Prop
 |mk (p d:Nb) (b m:Int) (es:List Ent) (h0:vs=[.ref d,.ref p]) (h1:Pot H p b m) (h2:Dr H d es) (h3:∀(b' m':Int) (H':Hp),Pot H' p b' m'→Keep [p] H H'→Q .non H')
  (h4:∀(t:Nb) (s:Str×Str) (b' m':Int) (H':Hp),H t=none→H' t=some (.tup [.str s.1,.str s.2])→IsSt (rsOf es) s→Pot H' p b' m'→Keep [p] H H'→Q (.ref t) H'):IspStep vs H Q
def spStep:Sp:=λvs H Q _=>IspStep vs H Q
abbrev zhq:Scope:=scOf (eOf (sAt zh2 0))
def csStep_k:zhq.kind=.function:=by rfl
def csStep_c:∀y∈zhq.names,y.2≠.cell:=by decide +kernel
def csStep_n:∀y∈zhq.names,y.2=.local→zhq.names.lookup y.1=some .local:=by decide +kernel
def csStep_f:∀y∈zhq.names,y.2=.free→(zag zh2).names.lookup y.1=some .cell∨(zag zh2).names.lookup y.1=some .free:=by decide +kernel
def csStep_l:zhq.names.lookup (qR:Str)=some NameKind.free:=by decide +kernel
def ndStep:(["_law_place",qR]:List Str).Nodup:=by decide +kernel
section
variable{P:Ni}{w:Nk}{K:Na}{mg:Nd}{base:Nm}
def scStep:zap [qR,qP, "_law_tied", "_law_place"] [qR,qP] (zag zh2):=fsk
def ok_step(F:Fun K "_law_step" "_law_step" zh2 f fd)(FT:Fun K qD qD zga ft fdt)(bT:Binds K fdt [qP,qM] [])(mT:mg qD=some (.ref ft))(GT:FnOk P w K mg base CX0 1 ft fdt [qP,qM] zeg)(af:mg "len" = none):FnOk P w K mg base CX0 2 f fd [qR,qP] spStep:=by
 refine F.okL scStep (λcdv A outer s0 H0 vs Q E hr h=>?_)
 obtain⟨p,d,b,m,es,rfl,hp,D0,kN,kT⟩:=h
 have R:=D0.rn.toRAt
 have aS:=D0.few
 have hu:=zbz hr
 have dv:=Uo hu
 refine⟨_,zad (ze2 (ps_lc (i:=2) (M:=["_law_place",qR]) (ix:=[none,some 0]) scStep.nd rfl rfl ⟨csStep_k,csStep_c,csStep_n,csStep_f,rfl,ndStep,λj i x h1 h2=>by
     match j,h1,h2 with
     |0,_,h2=>cases h2
     |1,h1,h2=>cases h1;cases h2;exact⟨rfl,csStep_l⟩
     |n+2,h1,_=>cases h1⟩ rfl (ze3 (pv 0)) (λC a7 ex s H=>za9 0 ndStep)
    (λC a7 ex s H=>zdc (zaq (op_ne_nilK (K:=K) rfl dv) (zbo (by exact hu) (pv 1) (pv 0)) (zbd zaf) (zba _))) (λC a7 ex s H=>pv 0) rfl))
  (zad (zbp (zaq (op_eq_nil dv) (pv 2) (zbd zaf) (zba _)) (zah (zbn zhk)) zaw)
  (zad (zau 3 scStep.nd (zay zao (pv 2) (zaj GT hr rfl mT FT.kp bT .nil zat (zab (pv 1) (zab (zal zas (by rfl) af Zv (zab (pv 2) zaf)) zaf))) (λ_ _=>rfl)))
  (zah (zbn (zgd (zab (pv 3) (zab (zay zao (zbo hu (pv 0) (pv 3)) (zaj GT hr rfl mT FT.kp bT .nil zat (zab (pv 1) (zab (zal zas (by rfl) af Zv (zab (zbo hu (pv 0) (pv 3)) zaf)) zaf))) (λ_ _=>rfl)) zaf))))))),?_⟩
 have nfz:∀o' u',H0 d≠some (.frz o' u'):=λo' u' z=>by rw[R.dc]at z;cases z
 have av  := sizeLine_eq
 refine⟨_,rfl,d,_,rfl,R.dc,λo=>⟨λi m ys τ H1=>Aj6 (m=es.length-i) (i≤es.length) (ys=((es.take i).filter λe=>!e.2.1.isEmpty).map (λe=>V.str e.1)) (Ex1 λx=>τ=[x,some (.ref d)]) (H1 d=some (.frz o (.dK (eV es)))) (Keep [d] H0 H1),
  ⟨es.length,by simp,Zg _,rfl,⟨none,rfl⟩,zac,Keep.wr Qc⟩,?_⟩⟩
 rintro i m1 ys τ H1 ⟨rfl,hi,rfl,⟨x0,rfl⟩,hz,k1⟩
 by_cases ag:i<es.length
 ·refine .inr ⟨⟨hz,by rw [Qa];exact ag⟩,?_,?_⟩
  ·have h1:(((es.take i).filter fun e=>!e.2.1.isEmpty).map (fun e=>V.str e.1)).length≤es.length:=by
    rw[Qa]
    exact Zk (Ud _ _) (by rw[Zi];lia)
   lia
  ·rintro x H' ⟨rfl,pr,e1,rfl⟩
   have g1:pr=((Sum.inr es[i].1:Key),V.ref es[i].2.2):=by
    rw[Qq,Qd ag]at e1
    exact(Qk e1).symm
   subst g1
   have ba:es[i]∈es:=Qv ag
   have oe:=R.ro _ ba
   have nri:es[i].2.2≠d:=za2 oe R.dc (by intro z;cases z)
   have bQ:=k1 _ _ oe (by simpa using nri)
   refine⟨_,rfl,_,rfl,d,.ref es[i].2.2,rfl,.inl ⟨_,Sum.inr es[i].1,.inr ⟨o,hz⟩,rfl,(zbu R.nd ba).symm⟩,(by show 0≤sizeLine;decide),λq hq=>?_⟩
   have nq:es[i].2.2≠q:=zaa bQ hq
   have nqd:d≠q:=zaa hz hq
   refine⟨es[i].2.2,q,_,rfl,rfl,SqL.of (by rw[zae nq];exact bQ),SqL.of zac,_,rfl,?_⟩
   have hk2:Keep [d] H0 (upd H' q (.lst [])):=k1.trans (Keep.new hq)
   have dI:(upd H' q (.lst [])) d=some (.frz o (.dK (eV es))):=by rw[zae nqd];exact hz
   have cb:es.take (i+1)=es.take i++[es[i]]:=Qm ag
   have gT:(es[i].2.1.map V.str).isEmpty=es[i].2.1.isEmpty:=by cases es[i].2.1<;>rfl
   rw[if_pos rfl,gT]
   by_cases hb:es[i].2.1.isEmpty=true
   ·rw [hb]
    refine iteF ⟨_,?_,rfl,ag,?_,⟨_,rfl⟩,dI,hk2⟩
    ·exact zar1 ‹_›
    ·rw[cb,Ua,Zx (by rw[hb];decide),Je,Zy]
   ·have cq:es[i].2.1.isEmpty=false:=by simpa using hb
    rw[cq]
    refine iteT ⟨_,rfl,_,?_,rfl,ag,?_,⟨_,rfl⟩,dI,hk2⟩
    ·exact zar1 ‹_›
    ·rw [cb,Ua,Zw (by rw [cq];decide),Je,Qp]
     rfl
 ·have kR:i=es.length:=by exact zar3 ‹_› ‹_›
  subst kR
  refine .inl ⟨⟨hz,by rw[Qa];exact Qh _⟩,λD hD=>?_⟩
  have ndD:d≠D:=zaa hz hD
  rw[Qx (Qh _)]
  refine⟨d,o,_,(by rw[zae ndD];exact hz),nfz,?_⟩
  have hDm:((es.filter λe=>!e.2.1.isEmpty).map λe=>V.str e.1)=((es.filter λe=>!e.2.1.isEmpty).map (·.1)).map V.str:=by rw[Ze];rfl
  have k2:Keep [] H0 (upd (upd H1 D (.lst ((es.filter λe=>!e.2.1.isEmpty).map λe=>V.str e.1))) d (.dK (eV es))):=λc u ec _=>by
   by_cases aB:c=d
   ·subst aB
    rw[zac,←R.dc];exact ec
   ·have qa:=k1 c u ec (by simpa using aB)
    rw[zae aB,zae (zaa qa hD)];exact qa
  have dl:(upd (upd H1 D (.lst ((es.filter λe=>!e.2.1.isEmpty).map λe=>V.str e.1))) d (.dK (eV es))) D=some (.lst (((es.filter λe=>!e.2.1.isEmpty).map (·.1)).map V.str)):=by rw[zae (Qw ndD),hDm];exact zac
  generalize upd (upd H1 D (.lst ((es.filter λe=>!e.2.1.isEmpty).map λe=>V.str e.1))) d (.dK (eV es))=H2 at k2 dl
  have n6:∀z∈(es.filter λe=>!e.2.1.isEmpty).map (·.1),∃e∈es,e.1=z∧e.2.1≠[]:=λz h=>by
   obtain⟨e,he,rfl⟩:=Qf.mp h
   obtain⟨h1,h2⟩:=Za.mp he
   refine⟨e,h1,rfl,λq=>?_⟩
   rw[q]at h2;cases h2
  have cY:((es.filter λe=>!e.2.1.isEmpty).map (·.1)).length≤40:=by
   rw[Qa]
   exact Zk (Ud _ _) aS
  generalize(es.filter λe=>!e.2.1.isEmpty).map (·.1)=ws at dl n6 cY
  refine⟨_,rfl,(by show 0≤sizeLine;decide),λq hq=>?_⟩
  have nDq:D≠q:=zaa dl hq
  refine⟨D,q,_,rfl,rfl,SqL.of (by rw[zae nDq];exact dl),SqL.of zac,_,rfl,?_⟩
  have k3:Keep [] H0 (upd H2 q (.lst [])):=k2.trans (Keep.new hq)
  have gF:(upd H2 q (.lst [])) D=some (.lst (ws.map V.str)):=by rw[zae nDq];exact dl
  generalize upd H2 q (.lst [])=H3 at k3 gF
  have R3:RAt H3 d es:=R.keep k3 (by simp) (λ_ _=>by simp)
  have aA:Pot H3 p b m:=hp.keep k3 (by simp)
  by_cases du:ws=[]
  ·subst du
   refine iteT ?_
   exact kN b m H3 aA (k3.sub (by simp))
  ·have gT:(ws.map V.str).isEmpty=false:=by
    cases ws with
    |nil=>exact absurd rfl du
    |cons _ _=>rfl
   refine zcq gT ?_
   have hw0:0<ws.length:=Wg.mpr du
   have aJ:(ws.map V.str).length=ws.length:=Qa ..
   refine⟨_,rfl,_,rfl,_,rfl,D,_,rfl,.inl (SqL.of gF),p,b,m,_,rfl,aA,by rw[aJ];omega,by rw[aJ];omega,λj1 b4 m4 H4 rF rE ci iT=>?_⟩
   obtain⟨j,rfl⟩:=Zt rF
   have hj:j<ws.length:=by rw[aJ]at rE;omega
   have k4:=zbf iT
   have nDp:D≠p:=zb5 aA gF
   have jq:=k4 _ _ gF (by simpa using nDp)
   refine⟨D,_,_,_,rfl,rfl,SqL.of jq,zar (by rw[Qq,Qd hj];rfl),?_⟩
   obtain⟨e,he,ez,az⟩:=n6 _ (Qv hj)
   rw[←ez]
   have R4:=R3.pot aA k4
   have g4:=DGet.k (k:=Sum.inr e.1) R4.dc
   rw[zbu R4.nd he]at g4
   have gP:=R4.ro e he
   have aI:=D0.row e he
   have gQ:0<e.2.1.length:=Wg.mpr az
   have kh:(e.2.1.map V.str).length=e.2.1.length:=Qa ..
   refine⟨_,rfl,_,rfl,_,rfl,d,_,rfl,g4,_,rfl,_,rfl,_,rfl,d,_,rfl,g4,e.2.2,_,rfl,.inl (SqL.of gP),p,b4,m4,_,rfl,ci,by rw[kh];omega,by rw[kh];omega,λi1 b5 m5 H5 vH h51 br sC=>?_⟩
   obtain⟨i,rfl⟩:=Zt vH
   have hi5:i<e.2.1.length:=by rw[kh]at h51;omega
   have k5:=zbf sC
   have og:=k5 _ _ gP (by simpa using zb5 ci gP)
   refine⟨e.2.2,_,_,_,rfl,rfl,SqL.of og,zar (by rw[Qq,Qd hi5];rfl),(by show 2≤sizeLine;decide),λt ht=>?_⟩
   have lG:Keep [p] H0 H5:=((k3.sub (by simp)).trans k4).trans k5
   have ntp:t≠p:=Qw (zaa br.1 ht)
   refine kT t (e.1,e.2.1[i]) b5 m5 _ (zak lG ht (by simpa using ntp)) zac ?_ (br.keep (xs:=[]) (Keep.new ht) (by simp)) (lG.trans (Keep.new ht))
   obtain⟨cs,aa,C⟩:=D0.gd
   refine(zbx C.nd).mpr (C.sy e.1 _ ?_)
   rw[zbj R.nd he]
   exact Qv hi5
abbrev sMore:Stmt:=top 36
abbrev zh8:Stmt:=top 37
def zb8(nd:(es.map (·.1)).Nodup)(h:e∈es)(r:Ng):(setE es e.1 r e.2.2).map (·.2.2)=es.map (·.2.2):=by
 have:=congrArg (List.map (·.2)) (setE_ad nd h r)
 rwa[Ze,Ze]at this
structure Deed(p d:Nb)(H:Hp)(es:List Ent)(ex:Ng)(ao:List Ent)(H':Hp):Prop where
 dr:Dr H' d ao
 nm:ao.map (·.1)=es.map (·.1)++ex
 ad:∀c∈ao.map (·.2.2),c∈es.map (·.2.2)∨H c=none
 kp:Keep (p::d::es.map (·.2.2)) H H'
def RN.new(R:RN H d es)(k:Keep [] H H1)(hn:H a=none)(hx:x∉es.map (·.1))(ha:H1 a=some (.lst (([]:List Str).map V.str))) :
  RN (upd H1 d (.dK (putK (eV es) (Sum.inr x) (.ref a)))) d (es++[(x,[],a)]):=by
 refine⟨rat_new (R.k0 k).toRAt hx ha,?_⟩
 rw[Qp,Zb]
 refine⟨R.an,Qr.mpr ⟨by simp,Zn⟩,λy hy z hz e=>?_⟩
 have ca:z=a:=by simpa using hz
 obtain⟨e0,h0,rfl⟩:=Qf.mp hy
 have:=R.ro e0 h0
 rw[show e0.2.2=a from e.trans ca,hn]at this
 cases this
def out3{es:List Ent}{e:Ent}(hc:c∉p::d::es.map (·.2.2))(he:e∈es):c≠e.2.2:=λz=>hc (Qg _ (Qg _ (Qf.mpr ⟨e,he,z.symm⟩)))
inductive IspMore(vs:List V)(H:Hp)(Q:VK):Prop
 |mk (p d:Nb) (b m:Int) (es:List Ent) (x:Str) (h0:vs=[.ref d,.ref p,.str x]) (h1:Pot H p b m) (h2:Dr H d es) (md:es.length<40) (az:es≠[]) (hx:x∉es.map (·.1)) (h3:∀(b' m':Int) (ao:List Ent) (H':Hp),Pot H' p b' m'→Deed p d H es [x] ao H'→Q .non H'):IspMore vs H Q
def spMore:Sp:=λvs H Q _=>IspMore vs H Q
inductive IspAcross(vs:List V)(H:Hp)(Q:VK):Prop
 |mk (p d:Nb) (b m:Int) (es:List Ent) (h0:vs=[.ref d,.ref p]) (h1:Pot H p b m) (h2:Dr H d es) (h3:∀(b' m':Int) (ao:List Ent) (H':Hp),Pot H' p b' m'→Deed p d H es [] ao H'→Q .non H'):IspAcross vs H Q
def zfq:Sp:=λvs H Q _=>IspAcross vs H Q
def scMore:zap [qR,qP, "_law_name", "_law_old", "_law_one",qB] [qR,qP, "_law_name"] (zag sMore):=fsk
def ok_more{f ft fi:Nb}{fd fdt fdi:No}(F:Fun K "_law_more" "_law_more" sMore f fd)(FT:Fun K qD qD zga ft fdt)(bT:Binds K fdt [qP,qM] [])(mT:mg qD=some (.ref ft))(GT:FnOk P w K mg base CX0 1 ft fdt [qP,qM] zeg)(FI:Fun K "_law_tie" "_law_tie" sTie fi fdi)(bI:Binds K fdi [qR, "_law_one",qB,qO, "_law_after"] [])(mI:mg "_law_tie" = some (.ref fi))(GI:FnOk P w K mg base CX0 2 fi fdi [qR, "_law_one",qB,qO, "_law_after"] spTie)(af:mg "len" = none)(aK:mg "list" = none):FnOk P w K mg base CX0 3 f fd [qR,qP, "_law_name"] spMore:=by
 refine F.okL scMore (λcdv A outer s0 H vs Q E hr h=>?_)
 obtain⟨p,d,b,m,es,x,rfl,hp,D0,aS,az,hx,k⟩:=h
 have R:=D0.rn.toRAt
 have hu:=zbz hr
 have dv:=Uo hu
 have au:Room 1 _:=hr.mono (by decide)
 have av  := sizeLine_eq
 refine⟨_,zad (zau 3 scMore.nd (zbe (zd2 rfl) (by rfl) aK Ui (zab (pv 0) zaf)))
  (zad (zcg hu (pv 0) (pv 2) (zbd zaf) rfl)
  (zah (zbp (zaq op_gt (zaj GT au rfl mT FT.kp bT .nil zat (zab (pv 1) (zab zai zaf))) zai (zba _))
   (zad (zau 4 scMore.nd (zay zao (pv 3) (zaj GT au rfl mT FT.kp bT .nil zat (zab (pv 1) (zab (zal zas (by rfl) af Zv (zab (pv 3) zaf)) zaf))) (λ_ _=>rfl)))
   (zad (zau 5 scMore.nd zhk)
   (zad (zbp (zaq (zep dv) (zbo hu (pv 0) (pv 4)) (zbd zaf) (zba _))
    (zah (zau 5 scMore.nd (zay zao (zbo hu (pv 0) (pv 4)) (zaj GT au rfl mT FT.kp bT .nil zat (zab (pv 1) (zab (zal zas (by rfl) af Zv (zab (zbo hu (pv 0) (pv 4)) zaf)) zaf))) (λ_ _=>rfl)))) zaw)
   (zah (za3 (zaj GI hr rfl mI FI.kp bI .nil zat (zab (pv 0) (zab (pv 4) (zab (pv 5) (zab (pv 2) (zab zhk zaf)))))))))))
   zaw))),?_⟩
 refine⟨_,rfl,d,_,rfl,.inl R.dc,λl hl=>?_⟩
 rw[zgm]
 refine⟨(by show 0≤sizeLine;decide),λa ha=>?_⟩
 have nla:l≠a:=zaa (o:=_) zac ha
 have cC:(upd (upd H l (.lst ((es.map (·.1)).map V.str))) a (.lst [])) l=some (.lst ((es.map (·.1)).map V.str)):=by rw[zae nla];exact zac
 have ha1:(upd (upd H l (.lst ((es.map (·.1)).map V.str))) a (.lst [])) a=some (.lst (([]:List Str).map V.str)):=zac
 have k1:Keep [] H (upd (upd H l (.lst ((es.map (·.1)).map V.str))) a (.lst [])):=(Keep.new hl).trans (Keep.new ha)
 have cJ:H a=none:=zak (xs:=[]) (Keep.new hl) ha (by simp)
 generalize upd (upd H l (.lst ((es.map (·.1)).map V.str))) a (.lst [])=H1 at cC ha1 k1
 have R1:RAt H1 d es:=R.keep k1 (by simp) (λ_ _=>by simp)
 have aR:Pot H1 p b m:=hp.keep k1 (by simp)
 refine⟨_,rfl,_,rfl,d,_,rfl,DPut.k (k:=Sum.inr x) R1.dc (by rw[Qa];omega),?_⟩
 have R2:=D0.rn.new k1 cJ hx ha1
 have k2:Keep [d] H (upd H1 d (.dK (putK (eV es) (Sum.inr x) (.ref a)))):=(k1.sub (by simp)).trans (Keep.wr Qc)
 have nld:l≠d:=za2 cC R1.dc (by intro z;cases z)
 have npd:p≠d:=Qw (zhj aR R1.dc)
 have ak:(upd H1 d (.dK (putK (eV es) (Sum.inr x) (.ref a)))) l=some (.lst ((es.map (·.1)).map V.str)):=by rw[zae nld];exact cC
 have aw:Pot (upd H1 d (.dK (putK (eV es) (Sum.inr x) (.ref a)))) p b m:=aR.keep (Keep.wr (xs:=[d]) Qc) (by simpa using npd)
 generalize upd H1 d (.dK (putK (eV es) (Sum.inr x) (.ref a)))=H2 at R2 k2 ak aw
 have bK:rsOf (es++[(x,[],a)])=rsOf es++[(x,[])]:=by unfold rsOf;rw[List.map_append];rfl
 have iX:x∉(rsOf es).map (·.1):=by rw[zbi];exact hx
 have D2:Dr H2 d (es++[(x,[],a)]):=⟨R2,by rw[bK];exact za1.new _ _ D0.gd iX,by rw[Qs];show _+1≤40;omega⟩
 refine⟨_,rfl,p,b,m,8,rfl,aw,by decide,by decide,λd3 b3 m3 H3 ma rG aA fG=>?_⟩
 have k3:=zbf fG
 have D3:=D2.pot aw k3
 have gM:Keep [p,d] H H3:=(k2.sub (by simp)).trans (k3.sub (by simp))
 have fE:∀y∈[p,d],y∈p::d::es.map (·.2.2):=λy hy=>by
  rcases Qe.mp hy with z | z
  ·rw[z];exact Qc
  ·rw[Qb.mp z];exact Qg _ Qc
 have ad2:∀c∈(es++[(x,([]:List Str),a)]).map (·.2.2),c∈es.map (·.2.2)∨H c=none:=λc hc=>by
  rw[Qp]at hc
  rcases Qi.mp hc with z | z
  ·exact .inl z
  ·rw[Qb.mp z];exact .inr cJ
 refine⟨_,_,rfl,rfl,_,rfl,?_⟩
 refine ite2 (λ_=>?_) (λ_=>?_)
 ·have bn:=k3 _ _ ak (by simpa using zb5 aw ak)
  have uh:0<es.length:=Wg.mpr az
  have aJ:((es.map (·.1)).map V.str).length=es.length:=by rw[Qa,Qa]
  refine⟨_,rfl,_,rfl,_,rfl,l,_,rfl,.inl (SqL.of bn),p,b3,m3,_,rfl,aA,by rw[aJ];omega,by rw[aJ];omega,λj1 b4 m4 H4 rF rE ci iT=>?_⟩
  obtain⟨j,rfl⟩:=Zt rF
  have hj:j<es.length:=by rw[aJ]at rE;omega
  have k4:=zbf iT
  have bv:=k4 _ _ bn (by simpa using zb5 aA bn)
  refine⟨l,_,_,_,rfl,rfl,SqL.of bv,zar (by rw[Qq,Qq,Qd hj];rfl),?_⟩
  have D4:=D3.pot aA k4
  have eB:es[j]∈es:=Qv hj
  generalize es[j]=e at eB
  have ji:e∈es++[(x,([]:List Str),a)]:=Qo _ eB
  have eO:(x,([]:List Str),a)∈es++[(x,([]:List Str),a)]:=Qn _ Qc
  have nex:e.1≠x:=λq=>hx (q▸Qf.mpr ⟨e,eB,rfl⟩)
  have g4:=DGet.k (k:=Sum.inr e.1) D4.rn.dc
  rw[zbu D4.rn.nd ji]at g4
  have gP:=D4.rn.ro e ji
  have aI:=D4.row e ji
  have kh:(e.2.1.map V.str).length=e.2.1.length:=Qa ..
  refine⟨_,rfl,_,rfl,d,_,rfl,g4,(by show 0≤sizeLine;decide),λq hq=>?_⟩
  have nq:e.2.2≠q:=zaa gP hq
  refine⟨e.2.2,q,_,rfl,rfl,SqL.of (by rw[zae nq];exact gP),SqL.of zac,_,rfl,?_⟩
  have k5:Keep [] H4 (upd H4 q (.lst [])):=Keep.new hq
  have D5:=D4.k0 k5
  have br:Pot (upd H4 q (.lst [])) p b4 m4:=ci.keep k5 (by simp)
  have lG:Keep [p,d] H (upd H4 q (.lst [])):=(gM.trans (k4.sub (by simp))).trans (k5.sub (by simp))
  generalize upd H4 q (.lst [])=H5 at D5 br lG
  have fin:∀(c:Option Str) (b6 m6:Int) (H6:Hp),(∀y,c=some y→y∈e.2.1)→(c=none→e.2.1=[])→Pot H6 p b6 m6→Dr H6 d (es++[(x,[],a)])→Keep [p,d] H H6 →
    IspTie [.ref d,.str e.1,zgv c,.str x,.non] H6 (λ_ H'=>Q .non H'):=λc b6 m6 H6 hc fB eY D6 k06=>by
   refine⟨d,_,e,(x,[],a),c,none,rfl,D6.rn,ji,eO,nex,hc,λy z=>(by cases z),Zk aI (by decide),Zg _,λH7 R7 k7=>?_⟩
   have jM:(x,([]:List Str),a)∈setE (es++[(x,[],a)]) e.1 (ins e.2.1 c x) e.2.2:=zc1 eO (Qw nex)
   have eV:p∉[e.2.2,a]:=by
    have q1:=zb5 eY (D6.rn.ro e ji)
    have q2:a≠p:=zb5 eY (zs:=[]) (D6.rn.ro _ eO)
    simp
    exact⟨Qw q1,Qw q2⟩
   have nd6:((es++[(x,([]:List Str),a)]).map (·.1)).Nodup:=D6.rn.nd
   refine k b6 m6 _ H7 (eY.keep k7 eV) ⟨⟨R7,?_,?_⟩,?_,λc hc=>?_,?_⟩
   ·rw [zb4,zb4,bK]
    exact za1.leaf (rsOf es) x (e.1,e.2.1) c D0.gd iX (Qf.mpr ⟨e,eB,rfl⟩) hc fB
   ·unfold setE
    rw[Qa,Qa]
    exact D6.few
   ·rw[zax,zax,Qp];rfl
   ·rw [zb8 (e:=(x,([]:List Str),a)) (by rw [zax];exact nd6) jM,zb8 nd6 ji] at hc
    exact ad2 c hc
   ·refine fun c o ec hc=>k7 c o (k06 c o ec fun z=>hc (fE c z)) ?_
    simp
    exact⟨out3 hc eB,zaa ec cJ⟩
  have gT:(e.2.1.map V.str).isEmpty=e.2.1.isEmpty:=by cases e.2.1<;>rfl
  rw[if_pos rfl,gT]
  by_cases hb:e.2.1=[]
  ·rw [hb]
   refine iteF ?_
   exact⟨_,rfl,_,rfl,_,rfl,_,rfl,fin none b4 m4 H5 (λy z=>by cases z) (λ_=>hb) br D5 lG⟩
  ·have cq:e.2.1.isEmpty=false:=by simpa using hb
   rw[cq]
   refine iteT ?_
   have g5:=DGet.k (k:=Sum.inr e.1) D5.rn.dc
   rw[zbu D5.rn.nd ji]at g5
   have og:=D5.rn.ro e ji
   have h0:0<e.2.1.length:=Wg.mpr hb
   refine⟨_,rfl,_,rfl,d,_,rfl,g5,_,rfl,_,rfl,_,rfl,d,_,rfl,g5,e.2.2,_,rfl,.inl (SqL.of og),p,b4,m4,_,rfl,br,by rw[kh];omega,by rw[kh];omega,λi1 b6 m6 H6 l' pW eY dF=>?_⟩
   obtain⟨i,rfl⟩:=Zt l'
   have hi:i<e.2.1.length:=by rw[kh]at pW;omega
   have k6:=zbf dF
   have hr6:=k6 _ _ og (by simpa using zb5 br og)
   refine⟨e.2.2,_,_,_,rfl,rfl,SqL.of hr6,zar (by rw[Qq,Qd hi];rfl),?_⟩
   exact⟨_,rfl,_,rfl,_,rfl,_,rfl,fin (some e.2.1[i]) b6 m6 H6 (λy z=>by rw[←Qk z];exact Qv hi) (λz=>by cases z) eY (D5.pot br k6) (lG.trans (k6.sub (by simp)))⟩
 ·exact k b3 m3 _ H3 aA ⟨D3,by rw[Qp];rfl,ad2,gM.sub fE⟩
def zel:zap [qR,qP, "_law_step_here", "_law_row", "_law_after",qO] [qR,qP] (zag zh8):=fsk
def ok_across{f ft fi fs ff:Nb}{fd fdt fdi fds fdf:No}(F:Fun K "_law_across" "_law_across" zh8 f fd)(FT:Fun K qD qD zga ft fdt)(bT:Binds K fdt [qP,qM] [])(mT:mg qD=some (.ref ft))(GT:FnOk P w K mg base CX0 1 ft fdt [qP,qM] zeg)(FI:Fun K "_law_tie" "_law_tie" sTie fi fdi)(bI:Binds K fdi [qR, "_law_one",qB,qO, "_law_after"] [])(mI:mg "_law_tie" = some (.ref fi))(GI:FnOk P w K mg base CX0 2 fi fdi [qR, "_law_one",qB,qO, "_law_after"] spTie)(FS:Fun K "_law_step" "_law_step" zh2 fs fds)(bS:Binds K fds [qR,qP] [])(mS:mg "_law_step" = some (.ref fs))(GS:FnOk P w K mg base CX0 2 fs fds [qR,qP] spStep)(FF:Fun K "_law_face" "_law_face" sFace ff fdf)(bF:Binds K fdf [qR, "_law_step_here"] [])(mF:mg "_law_face" = some (.ref ff))(GF:FnOk P w K mg base CX0 2 ff fdf [qR, "_law_step_here"] spFace)(af:mg "len" = none):FnOk P w K mg base CX0 3 f fd [qR,qP] zfq:=by
 refine F.okL zel (λcdv A outer s0 H vs Q E hr h=>?_)
 obtain⟨p,d,b,m,es,rfl,hp,D0,k⟩:=h
 have R:=D0.rn.toRAt
 have hu:=zbz hr
 have au:Room 1 _:=hr.mono (by decide)
 have av  := sizeLine_eq
 have i0:∀x y:V,atI [x,y] ((0:Nat):Int)=some x:=λx y=>zar rfl
 have i1:∀x y:V,atI [x,y] ((1:Nat):Int)=some y:=λx y=>zar rfl
 refine⟨_,zad (zau 2 zel.nd (zaj GS hr rfl mS FS.kp bS .nil zat (zab (pv 0) (zab (pv 1) zaf))))
  (zah (zbp (zcv (zig (pv 2)))
   (zad (zau 3 zel.nd (zaj GF hr rfl mF FF.kp bF .nil zat (zab (pv 0) (zab (pv 2) zaf))))
   (zad (ps_asg (zay zao (pv 3) (zaj GT au rfl mT FT.kp bT .nil zat (zab (pv 1) (zab (zal zas (by rfl) af Zv (zab (pv 3) zaf)) zaf))) (fun _ _=>rfl))
    (zfc rfl (za4 (za9 4 zel.nd) (za4 (za9 5 zel.nd) zcl))))
   (zah (zbp (PW.pt (pw_and (zaq op_ne (pv 5) (zay zcd (pv 2) zai (fun _ _=>rfl)) (zba _)) (zgb (zaq zct (pv 5) (zbo hu (pv 0) (zay zcd (pv 2) zai (fun _ _=>rfl))) rfl))))
    (zah (za3 (zaj GI hr rfl mI FI.kp bI .nil zat (zab (pv 0) (zab (zay zcd (pv 2) zai (λ_ _=>rfl)) (zab (zay zcd (pv 2) zai (λ_ _=>rfl)) (zab (pv 5) (zab (pv 4) zaf)))))))) zaw))))
   zaw)),?_⟩
 have fF:∀y∈[p],y∈p::d::es.map (·.2.2):=λy hy=>by rw[Qb.mp hy];exact Qc
 have none':∀(b1 m1:Int) (H1:Hp),Pot H1 p b1 m1→Dr H1 d es→Keep [p] H H1→Q .non H1:=λb1 m1 H1 aR D1 k1 =>
  k b1 m1 es H1 aR ⟨D1,(Zy _).symm,λc hc=>.inl hc,k1.sub fF⟩
 refine⟨_,rfl,_,rfl,p,d,b,m,es,rfl,hp,D0,λb1 m1 H1 aR k1=>?_,λt s b1 m1 H1 hft bf aq aR k1=>?_⟩
 ·refine ⟨_,rfl,_,rfl,iteF ?_⟩
  exact none' b1 m1 H1 aR (D0.pot hp k1) k1
 ·refine ⟨_,rfl,_,rfl,iteT ?_⟩
  have D1:=D0.pot hp k1
  refine⟨_,rfl,_,rfl,d,t,es,s,rfl,D1.rn.toRAt,aq,D0.gd,D0.few,bf,λl as n H2 e8 ak pa nd hL k2=>?_⟩
  have aw:Pot H2 p b1 m1:=aR.keep k2 (by simp)
  have cV:as.length=n+1:=by
   have:=Yp pa
   unfold Wb.run at this
   rw[Qa,Yh]at this
   exact this
  have aJ:(as.map V.ref).length=n+1:=by rw[Qa,cV]
  have hnb:n+1≤1600:=by
   have:=zer nd (m:=zi8 (rsOf es)) λx hx=>by
    obtain⟨i,_,rfl⟩:=Qf.mp hx
    exact zgi.mpr (zgp (za1.clo _ D0.gd) aq i)
   unfold Wb.run at this
   rw[Qa,Yh]at this
   exact Zk this (za1.steps D0.gd (by rw[show(rsOf es).length=es.length from Qa ..];exact D0.few))
  refine⟨_,rfl,_,rfl,_,rfl,l,_,rfl,.inl (SqL.of ak),p,b1,m1,_,rfl,aw,by rw[aJ];omega,by rw[aJ];omega,λj1 b3 m3 H3 ma rG aA fG=>?_⟩
  obtain⟨j,rfl⟩:=Zt ma
  have hj:j<n+1:=by rw[aJ]at rG;omega
  have hja:j<as.length:=by omega
  have k3:=zbf fG
  have nlp:l≠p:=za2 ak aw.1 (by
   intro z
   injection z with z
   rcases as with _ | ⟨_,_⟩<;>cases z)
  have bn:H3 l=some (.lst (as.map V.ref)):=k3 _ _ ak (by simpa using nlp)
  obtain⟨je,gY⟩:=zbk pa hja
  have aQ:=k2 _ _ bf (by simp)
  have ntp:∀{c:Nb} {u v:V},H2 c=some (.tup [u,v])→c≠p:=λhc=>za2 hc aw.1 (by intro z;cases z)
  have pL:=k3 _ _ gY (by simpa using ntp gY)
  have cL:=k3 _ _ aQ (by simpa using ntp aQ)
  have eq:(run (rsOf es) s (n+1))[j]=itr (rsOf es) s j:=by simp[Wb.run]
  rw[eq]at pL
  refine⟨l,_,_,_,rfl,rfl,SqL.of bn,zar (by rw[Qq,Qd hja];rfl),as[j],_,rfl,SqT.of pL,rfl,_,_,rfl,_,_,rfl,rfl,?_⟩
  have D3:=(D1.k0 k2).pot aw k3
  have gM:Keep [p] H H3:=(k1.trans (k2.sub (by simp))).trans k3
  have hqs:=zgp (za1.clo _ D0.gd) aq j
  obtain⟨e1,eD,e2,cp,q1,q2,qr,lB,cX⟩:=zhy D0.gd aq
  obtain⟨f1,hf1,f2,gS,p1,p2,m3',m4',n34⟩:=zhy D0.gd hqs
  refine⟨_,rfl,_,rfl,t,_,_,_,rfl,rfl,SqT.of cL,i1 _ _,rfl,_,rfl,?_⟩
  by_cases c1:(itr (rsOf es) s j).2=s.2
  ·refine zcq (by show (!decide (V.str (itr (rsOf es) s j).2=V.str s.2))=false;rw [c1,decide_eq_true rfl];rfl) ?_
   exact none' b3 m3 H3 aA D3 gM
  ·refine zdv (by show (!decide (V.str (itr (rsOf es) s j).2=V.str s.2))=true;rw [decide_eq_false (fun z=>c1 (by injection z))];rfl) ?_
   have g3:=DGet.k (k:=Sum.inr e2.1) D3.rn.dc
   rw[zbu D3.rn.nd cp,q2]at g3
   have lM:=D3.rn.ro e2 cp
   refine⟨_,rfl,_,rfl,_,rfl,t,_,_,_,rfl,rfl,SqT.of cL,i1 _ _,d,_,rfl,g3,e2.2.2,_,rfl,.inl (SqL.of lM),rfl,zce _,_,rfl,?_⟩
   rw[ze7]
   by_cases c2:(itr (rsOf es) s j).2∈e2.2.1
   ·refine zcq (by rw [decide_eq_true c2];rfl) ?_
    exact none' b3 m3 H3 aA D3 gM
   ·refine zdv (by rw [decide_eq_false c2];rfl) ?_
    have nef:e2.1≠f2.1:=λz=>c1 (by rw[←p2,←z,q2])
    refine⟨_,rfl,_,rfl,t,_,_,_,rfl,rfl,SqT.of cL,i1 _ _,_,rfl,t,_,_,_,rfl,rfl,SqT.of cL,i0 _ _,_,rfl,_,rfl,d,es,e2,f2,some s.1,some (itr (rsOf es) s j).1,by rw[q2,p2];rfl,D3.rn,cp,gS,nef,λy z=>by rw[←Qk z];exact lB,λy z=>by rw[←Qk z];exact m4',Zk (D3.row e2 cp) (by decide),Zk (D3.row f2 gS) (by decide),λH4 R4 k4=>?_⟩
    have uX:f2∈setE es e2.1 (ins e2.2.1 (some s.1) f2.1) e2.2.2:=zc1 gS (Qw nef)
    have eV:p∉[e2.2.2,f2.2.2]:=by
     have z1:=zb5 aA lM
     have z2:=zb5 aA (D3.rn.ro f2 gS)
     simp
     exact⟨Qw z1,Qw z2⟩
    refine k b3 m3 _ H4 (aA.keep k4 eV) ⟨⟨R4,?_,?_⟩,?_,λc hc=>.inl ?_,?_⟩
    ·rw [zb4,zb4]
     have hs:s=(s.1,e2.1):=Jb rfl q2.symm
     have:=za1.tie (rsOf es) s.1 (e2.1,e2.2.1) j D0.gd (Qf.mpr ⟨e2,cp,rfl⟩) lB (by show(itr (rsOf es) (s.1,e2.1) j).2≠e2.1;rw[←hs];exact λz=>nef (by rw[p2];exact z.symm)) (by show(itr (rsOf es) (s.1,e2.1) j).2∉e2.2.1;rw[←hs];exact c2)
     simp only[←hs]at this
     rw[←p2,zbj R.nd gS]at this
     exact this
    ·unfold setE
     rw[Qa,Qa]
     exact D0.few
    ·rw[zax,zax,Zy]
    ·rw [zb8 (by rw [zax];exact R.nd) uX,zb8 R.nd cp] at hc
     exact hc
    ·refine fun c o ec hc=>k4 c o (gM c o ec fun z=>hc (fF c z)) ?_
     simp
     exact⟨out3 hc cp,out3 hc gS⟩
end
end K21
end
section
namespace Wb
section
variable{α:Type}[DecidableEq α]
def zgt{A B:List α}{n:α}(h:n∉A):(A++n::B).erase n=A++B:=by
 rw[List.erase_append_right _ h,List.erase_cons_head]
def nxt_erase{zs:List α}(nd:zs.Nodup){n w:α}(hn:n∈zs)(hw:w∈zs)(dL:w≠n):nxt (zs.erase n) w=if nxt zs w=n then nxt zs n else nxt zs w:=by
 obtain⟨A,B,rfl,hA,hB⟩:=zbt hw nd
 have k1:=zbb (B:=B) hA
 rw[Zb,Qr]at nd
 obtain⟨nA,⟨_,nB⟩,nAB⟩:=nd
 rcases Qi.mp hn with h | h
 ·obtain ⟨A1,A2,rfl,h1,h2⟩:=zbt h nA
  have e0:(A1++n::A2)++w::B=A1++n::(A2++w::B):=by rw[Qy];rfl
  have hw':w∉A1++A2:=λz=>hA (by
   rcases Qi.mp z with q | q
   ·exact Qo _ q
   ·exact Qn _ (Qg _ q))
  have k2:=zbb (B:=B) hw'
  have e1:((A1++n::A2)++w::B).erase n=(A1++A2)++w::B:=by rw[e0,zgt h1,Qy]
  have k3:=zbb (B:=A2++w::B) h1
  rw[←e0]at k3
  rw[e1]
  cases B with
  |cons b t =>
   have q1:=Qk k1;have q2:=Qk k2
   rw[if_neg (λz=>nAB n h n (Qg _ (by rw[q1.trans z];exact Qc)) rfl)]
   exact q2.symm.trans q1
  | nil =>
   cases A1 with
   |cons a t =>
    have q1:=Qk k1;have q2:=Qk k2
    rw[if_neg (λz=>h1 (by rw[q1.trans z];exact Qc))]
    exact q2.symm.trans q1
   |nil =>
    have q1:=Qk k1
    rw[if_pos q1.symm]
    refine Qk (k2.symm.trans (Eq.trans ?_ k3))
    cases A2<;>rfl
 ·have h':n∈B:=by
   rcases Qe.mp h with z | z
   ·exact absurd z.symm dL
   ·exact z
  obtain⟨B1,B2,rfl,h1,h2⟩:=zbt h' nB
  have ug:n∉A:=λz=>nAB n z n h rfl
  have hm:n∉A++w::B1:=by
   simp only[Qi,Qe,not_or];exact⟨ug,λz=>dL z.symm,h1⟩
  have e0:A++w::(B1++n::B2)=(A++w::B1)++n::B2:=by rw[Qy];rfl
  have e1:(A++w::(B1++n::B2)).erase n=A++w::(B1++B2):=by rw[e0,zgt hm,Qy];rfl
  have k2:=zbb (B:=B1++B2) hA
  have k3:=zbb (B:=B2) hm
  rw[←e0]at k3
  rw[e1]
  cases B1 with
  |cons b t =>
   have q1:=Qk k1;have q2:=Qk k2
   rw[if_neg (λz=>h1 (by rw[q1.trans z];exact Qc))]
   exact q2.symm.trans q1
  |nil =>
   have q1:=Qk k1
   rw[if_pos q1.symm]
   refine Qk (k2.symm.trans (Eq.trans ?_ k3))
   cases B2 with
   |cons b t=>rfl
   |nil=>cases A<;>rfl
def nxt_self{zs:List α}(nd:zs.Nodup)(hw:w∈zs)(h:nxt zs w=w):zs=[w]:=by
 obtain⟨A,B,rfl,hA,hB⟩:=zbt hw nd
 have k:=zbb (B:=B) hA
 rw[h]at k
 cases B with
 |cons b t=>exact absurd (by rw[←Qk k];exact Qc) hB
 |nil =>
  cases A with
  |nil=>rfl
  |cons a t=>exact absurd (by rw[←Qk k];exact Qc) hA
structure Web(ns:List α)(r:α→List α)(cs:List (List (α×α))):Prop where
 nd:ns.Nodup
 ro:∀x,x∉ns→r x=[]
 rn:∀x,(r x).Nodup
 ir:∀x,x∉r x
 sy:∀x y,y∈r x→x∈r y
 cf:cs.flatten.Nodup
 cm:∀s,s∈cs.flatten↔s.1∈r s.2
 cy:∀c∈cs,Cyc (st r) c
def vl(r:α→List α)(x:α):Int:=2+(if r x=[] then 2 else 0)-((r x).length:Int)
def tot(ns:List α)(r:α→List α)(cs:List (List (α×α))):Int:=(ns.map (vl r)).sum+2*(cs.length:Int)
structure Flat(ns:List α)(r:α→List α)(cs:List (List (α×α))):Prop extends Web ns r cs where
 fl:∀T:List α,(∀t∈T,t∈ns)→T.Pairwise (λx y=>¬Conn r x y)→4*(T.length:Int)≤tot ns r cs
def Conn.symm{r:α→List α}(sy:∀x y,y∈r x→x∈r y)(h:Conn r x y):Conn r y x:=by
 induction h with
 |refl=>exact .refl
 |step a hz ih=>exact Conn.trans (.step .refl (sy _ _ hz)) ih
variable{ns:List α}{r r':α→List α}{cs:List (List (α×α))}
def Web.inn(C:Web ns r cs)(h:y∈r x):x∈ns:=Kj λz=>by rw[C.ro x z]at h;cases h
structure Less(r r':α→List α)(v u:α):Prop where
 tie:u∈r v
 one:r' v=(r v).erase u
 two:r' u=(r u).erase v
 els:∀x,x≠v→x≠u→r' x=r x
section del
variable{v u:α}(C:Web ns r cs)(L:Less r r' v u)
include C L
theorem del_ne:v≠u:=λe=>C.ir u (by have:=L.tie;rwa[e]at this)
theorem zb6(s:α×α):s.1∈r' s.2↔s.1∈r s.2∧s≠(v,u)∧s≠(u,v):=by
 obtain⟨a,b⟩:=s
 have eQ:=del_ne C L
 by_cases hb:b=v
 ·subst hb
  show a∈r' b↔a∈r b∧_
  rw[L.one,(C.rn b).mem_erase_iff]
  constructor
  ·rintro ⟨h1,h2⟩
   exact⟨h2,λe=>eQ (congrArg Prod.snd e),λe=>h1 (congrArg Prod.fst e)⟩
  ·rintro ⟨h1,h2,h3⟩
   exact⟨λe=>h3 (by rw[e]),h1⟩
 ·by_cases c7:b=u
  ·subst c7
   show a∈r' b↔a∈r b∧_
   rw[L.two,(C.rn b).mem_erase_iff]
   constructor
   ·rintro ⟨h1,h2⟩
    exact⟨h2,λe=>h1 (congrArg Prod.fst e),λe=>hb (congrArg Prod.snd e)⟩
   ·rintro ⟨h1,h2,h3⟩
    exact⟨λe=>h2 (by rw[e]),h1⟩
  ·show a∈r' b↔a∈r b∧_
   rw[L.els b hb c7]
   exact⟨λh=>⟨h,λe=>c7 (congrArg Prod.snd e),λe=>hb (congrArg Prod.snd e)⟩,λh=>h.1⟩
theorem del_st{s:α×α}(hs:s.1∈r' s.2):st r' s=if st r s=(v,u) then st r (u,v) else if st r s=(u,v) then st r (v,u) else st r s:=by
 have hm:=(zb6 C L s).mp hs
 obtain⟨a,b⟩:=s
 have eQ:=del_ne C L
 obtain⟨ha,gR,bm⟩:=hm
 by_cases hb:b=v
 ·subst hb
  have vy:a≠u:=λe=>bm (by rw[e])
  have k:=nxt_erase (C.rn b) L.tie ha vy
  show(b,nxt (r' b) a)=if(b,nxt (r b) a)=(b,u) then(b,nxt (r b) u) else if(b,nxt (r b) a)=(u,b) then _ else(b,nxt (r b) a)
  rw[L.one,k]
  by_cases h:nxt (r b) a=u
  ·rw[if_pos h,if_pos (by rw[h])]
  ·rw[if_neg h,if_neg (λe=>h (congrArg Prod.snd e)),if_neg (λe=>eQ (congrArg Prod.fst e))]
 ·by_cases c7:b=u
  ·subst c7
   have vy:a≠v:=λe=>gR (by rw[e])
   have k:=nxt_erase (C.rn b) (C.sy _ _ L.tie) ha vy
   show(b,nxt (r' b) a)=if(b,nxt (r b) a)=(v,b) then _ else if(b,nxt (r b) a)=(b,v) then(b,nxt (r b) v) else(b,nxt (r b) a)
   rw[L.two,k,if_neg (λe=>hb (congrArg Prod.fst e))]
   by_cases h:nxt (r b) a=v
   ·rw[if_pos h,if_pos (by rw[h])]
   ·rw[if_neg h,if_neg (λe=>h (congrArg Prod.snd e))]
  ·show (b,nxt (r' b) a)=if (b,nxt (r b) a)=(v,u) then _ else if (b,nxt (r b) a)=(u,v) then _ else (b,nxt (r b) a)
   rw[if_neg (λe=>hb (congrArg Prod.fst e)),if_neg (λe=>c7 (congrArg Prod.fst e)),L.els b hb c7]
theorem del_web(hp:cs.flatten.Perm ((v,u)::(u,v)::cs'.flatten))(hc:∀c∈cs',Cyc (st r') c):Web ns r' cs':=by
 have eQ:=del_ne C L
 have nd:=hp.nodup_iff.mp C.cf
 rw[Qr,Qr,Qe,not_or]at nd
 refine⟨C.nd,λx hx=>?_,λx=>?_,λx h=>?_,λx y h=>?_,nd.2.2,λs=>?_,hc⟩
 ·have hv:x≠v:=fun e=>hx (by rw [e];exact C.inn L.tie)
  have hu:x≠u:=λe=>hx (by rw[e];exact C.inn (C.sy _ _ L.tie))
  rw[L.els x hv hu,C.ro x hx]
 ·by_cases h1:x=v
  ·rw[h1,L.one];exact(C.rn v).erase _
  ·by_cases h2:x=u
   ·rw[h2,L.two];exact(C.rn u).erase _
   ·rw[L.els x h1 h2];exact C.rn x
 ·exact C.ir x ((zb6 C L (x,x)).mp h).1
 ·obtain ⟨h1,h2,h3⟩:=(zb6 C L (y,x)).mp h
  exact(zb6 C L (x,y)).mpr ⟨C.sy x y h1,λe=>h3 (by cases e;rfl),λe=>h2 (by cases e;rfl)⟩
 ·rw [zb6 C L,← C.cm,hp.mem_iff,Qe,Qe]
  constructor
  ·intro h
   exact⟨.inr (.inr h),λe=>nd.1.2 (e▸h),λe=>nd.2.1 (e▸h)⟩
  ·rintro ⟨h | h | h,h2,h3⟩
   ·exact absurd h h2
   ·exact absurd h h3
   ·exact h
theorem del_tot:tot ns r' cs'=tot ns r cs+2+(if r' v=[] then 2 else 0)+(if r' u=[] then 2 else 0)+2*((cs'.length:Int)-(cs.length:Int)):=by
 have eQ:=del_ne C L
 have hv:=C.inn L.tie
 have hu:=C.inn (C.sy _ _ L.tie)
 have e1:=zey (g:=vl r) (g':=λx=>if x=v then vl r' v else vl r x) C.nd hv λx _ h=>if_neg h
 have e2:=zey (g:=λx=>if x=v then vl r' v else vl r x) (g':=vl r') C.nd hu λx _ h=>by
  show vl r' x=if x=v then vl r' v else vl r x
  by_cases hx:x=v
  ·rw[if_pos hx,hx]
  ·rw[if_neg hx];unfold vl;rw[L.els x hx h]
 have a1:(if v=v then vl r' v else vl r v)=vl r' v:=if_pos rfl
 have a2:(if u=v then vl r' v else vl r u)=vl r u:=if_neg λe=>eQ e.symm
 have l1:=Ym L.tie
 have l2:=Ym (C.sy _ _ L.tie)
 have p1:=Yd L.tie
 have p2:=Yd (C.sy _ _ L.tie)
 have n1:r v≠[]:=λe=>by have:=L.tie;rw[e]at this;cases this
 have n2:r u≠[]:=λe=>by have:=C.sy _ _ L.tie;rw[e]at this;cases this
 have b1:vl r' v=vl r v+1+(if r' v=[] then 2 else 0):=by
  unfold vl;rw[if_neg n1];rw[←L.one]at l1;rw[l1];omega
 have b2:vl r' u=vl r u+1+(if r' u=[] then 2 else 0):=by
  unfold vl;rw[if_neg n2];rw[←L.two]at l2;rw[l2];omega
 unfold tot
 rw[e2,e1]
 show(_+((if v=v then vl r' v else vl r v)-vl r v))+(vl r' u-(if u=v then vl r' v else vl r u))+_=_
 rw[a1,a2,b1,b2];omega
theorem del_conn(h:Conn r x y):Conn r' x y∨(Conn r' x v∧Conn r' u y)∨(Conn r' x u∧Conn r' v y):=by
 induction h with
 |refl=>exact .inl .refl
 | @step y z a hz ih =>
  by_cases h1:(z,y)=(v,u)
  ·cases h1
   rcases ih with h | ⟨h,_⟩ | ⟨h,_⟩
   ·exact .inr (.inr ⟨h,.refl⟩)
   ·exact .inl h
   ·exact .inr (.inr ⟨h,.refl⟩)
  ·by_cases h2:(z,y)=(u,v)
   ·cases h2
    rcases ih with h | ⟨h,_⟩ | ⟨h,_⟩
    ·exact .inr (.inl ⟨h,.refl⟩)
    ·exact .inr (.inl ⟨h,.refl⟩)
    ·exact .inl h
   ·have ca:z∈r' y:=(zb6 C L (z,y)).mpr ⟨hz,h1,h2⟩
    rcases ih with h | ⟨h,k⟩ | ⟨h,k⟩
    ·exact .inl (.step h ca)
    ·exact .inr (.inl ⟨h,.step k ca⟩)
    ·exact .inr (.inr ⟨h,.step k ca⟩)
end del
end
section
variable{α:Type}[DecidableEq α]{ns:List α}{r r':α→List α}{cs:List (List (α×α))}
def Web.iso(C:Web ns r cs)(h:p∈r q):(r q).erase p=[]↔st r (p,q)=(q,p):=by
 constructor
 ·intro e
  have l:=Ym h
  rw[e]at l
  have p1:=Yd h
  obtain⟨a,ha⟩:=List.length_eq_one_iff.mp (show(r q).length=1 by simp at l;omega)
  rw[ha]at h
  have:p=a:=Qb.mp h
  show(q,nxt (r q) p)=_
  rw[ha,this,zij]
 ·intro e
  have:=nxt_self (C.rn q) h (congrArg Prod.snd e)
  rw[this,List.erase_cons_head]
section del
variable{v u:α}(C:Web ns r cs)(L:Less r r' v u)
include C L
theorem lk_del:∀{t:List (α×α)} {s:α×α},Lk (st r) s t x→(∀y,y=s∨y∈t→y.1∈r' y.2)→Lk (st r') s t (if x=(v,u) then st r (u,v) else if x=(u,v) then st r (v,u) else x):=by
 intro t
 induction t with
 |nil=>intro s k h;rw[←show st r s=x from k];exact del_st C L (h s (.inl rfl))
 |cons a t ih =>
  intro s k h
  refine⟨?_,ih k.2 λy hy=>h y (.inr (Qe.mpr hy))⟩
  have ha:=((zb6 C L a).mp (h a (.inr Qc))).2
  rw[del_st C L (h s (.inl rfl)),k.1,if_neg ha.1,if_neg ha.2]
theorem rest_cyc(hc:c∈cs)(h1:(v,u)∉c)(h2:(u,v)∉c):Cyc (st r') c:=by
 refine zeu (λy hy=>?_) (C.cy c hc)
 have hn:=ziv (C.cy c hc) hy
 have fI:y.1∈r' y.2:=(zb6 C L y).mpr ⟨(C.cm y).mp (Zu.mpr ⟨c,hc,hy⟩),λe=>h1 (e▸hy),λe=>h2 (e▸hy)⟩
 rw[del_st C L fI,if_neg (show st r y≠(v,u) from λe=>h1 (by rw[←e];exact hn)),if_neg (show st r y≠(u,v) from λe=>h2 (by rw[←e];exact hn))]
theorem lk_conn(sy:∀x y,y∈r' x→x∈r' y):∀{t:List (α×α)} {s:α×α},Lk (st r) s t x→(∀y,y=s∨y∈t→y.1∈r' y.2)→Conn r' s.1 x.1:=by
 intro t
 induction t with
 |nil=>intro s k h;rw[←show st r s=x from k];exact .step .refl (sy _ _ (h s (.inl rfl)))
 |cons a t ih =>
  intro s k h
  refine Conn.trans (.step .refl (sy _ _ (h s (.inl rfl)))) ?_
  have:=ih k.2 λy hy=>h y (.inr (Qe.mpr hy))
  rwa[show a.1=s.2 by rw[←k.1];rfl]at this
end del
def filter_one{T:List α}{R:α→α→Prop}{P:α→Bool}(h:T.Pairwise fun x y=>¬ R x y)(hR:∀ x y,P x=false→P y=false→R x y):T.length≤(T.filter P).length+1:=by
 induction T with
 |nil=>exact Zg _
 | cons a t ih =>
  rw[Ke]at h
  by_cases ha:P a=true
  ·rw [Zw ha]
   have:=ih h.2
   rw[Qz,Qz];omega
  ·rw [Zx ha]
   have:t.filter P=t:=List.filter_eq_self.mpr λy hy=>by
    cases e:P y with
    |true=>rfl
    |false=>exact absurd (hR a y (by simpa using ha) e) (h.1 y hy)
   rw[this];exact Qh _
def web_less(C:Web ns r cs)(L:Less r r' v u):∃ cs',Web ns r' cs'∧(tot ns r' cs'=tot ns r cs∧Conn r' u v∨tot ns r' cs'=tot ns r cs+4):=by
 have eQ:=del_ne C L
 have ul:v∈r u:=C.sy _ _ L.tie
 have az:((u,v):α×α)≠(v,u):=λe=>eQ (congrArg Prod.snd e)
 obtain⟨c,hc,hec⟩:=Zu.mp ((C.cm (v,u)).mpr ul)
 obtain⟨P,Q,ecq⟩:=Yn hec
 have k0:Lk (st r) (v,u) (Q++P) (v,u):=zc4 (ecq▸C.cy c hc)
 have pc:c.Perm ((v,u)::(Q++P)):=by
  rw[ecq];exact Jo.trans ((Yw).cons _)
 by_cases hb:(u,v)∈c
 ·have cq:(u,v)∈Q++P:=by
   rcases Qe.mp (pc.mem_iff.mp hb) with z | z
   ·exact absurd z az
   ·exact z
  obtain⟨A,B,eAB⟩:=Yn cq
  rw[eAB]at k0 pc
  obtain⟨kA,kB⟩:=lk_app.mp k0
  have qm:c.Perm ((v,u)::(u,v)::(A++B)):=pc.trans (Jo.cons _)
  let N:List (List (α×α)):=(if A=[] then[] else[A])++(if B=[] then[] else[B])
  have hN:N.flatten=A++B:=by
   show((if A=[] then[] else[A])++(if B=[] then[] else[B])).flatten=_
   rw[Wh]
   congr 1
   ·by_cases h:A=[]
    ·rw[if_pos h,h];rfl
    ·rw[if_neg h];simp
   ·by_cases h:B=[]
    ·rw[if_pos h,h];rfl
    ·rw[if_neg h];simp
  have hp:cs.flatten.Perm ((v,u)::(u,v)::(N++cs.erase c).flatten):=by
   rw[Wh,hN]
   refine(zb3 hc).trans ((qm.append_right _).trans ?_)
   exact List.Perm.refl _
  have nd:=hp.nodup_iff.mp C.cf
  have aE:∀y,y∈(N++cs.erase c).flatten→y.1∈r' y.2:=λy hy=>by
   rw[Qr,Qr,Qe,not_or]at nd
   exact(zb6 C L y).mpr ⟨(C.cm y).mp (hp.mem_iff.mpr (Qg _ (Qg _ hy))),λe=>nd.1.2 (e▸hy),λe=>nd.2.1 (e▸hy)⟩
  have dY:∀y∈A,y.1∈r' y.2:=λy hy=>aE y (by rw[Wh,hN];exact Qo _ (Qo _ hy))
  have gp:∀y∈B,y.1∈r' y.2:=λy hy=>aE y (by rw[Wh,hN];exact Qo _ (Qn _ hy))
  have cA:∀a t,A=a::t→Cyc (st r') A:=λa t e=>by
   subst e
   have k:=lk_del C L kA.2 λy hy=>dY y (Qe.mpr hy)
   rw[if_neg az,if_pos rfl,kA.1]at k
   exact⟨a,t,rfl,k⟩
  have cB:∀a t,B=a::t→Cyc (st r') B:=λa t e=>by
   subst e
   have k:=lk_del C L kB.2 λy hy=>gp y (Qe.mpr hy)
   rw[if_pos rfl,kB.1]at k
   exact⟨a,t,rfl,k⟩
  have pq:∀d∈N++cs.erase c,Cyc (st r') d:=λd hd=>by
   rcases Qi.mp hd with z | z
   ·rcases Qi.mp z with y | y
    ·cases A with
     |nil=>rw[if_pos rfl]at y;cases y
     |cons a t =>
      rw[if_neg (Kz _ _)]at y
      rw[Qb.mp y];exact cA a t rfl
    ·cases B with
     |nil=>rw[if_pos rfl]at y;cases y
     |cons a t =>
      rw[if_neg (Kz _ _)]at y
      rw[Qb.mp y];exact cB a t rfl
   ·rw [Qr,Qr,Qe,not_or] at nd
    have hf:∀y∈d,y∈(N++cs.erase c).flatten:=λy hy=>Zu.mpr ⟨d,hd,hy⟩
    exact rest_cyc C L (Uc z) (λy=>nd.1.2 (hf _ y)) (λy=>nd.2.1 (hf _ y))
  have W:=del_web C L hp pq
  have iA:r' u=[]↔A=[]:=by
   rw[L.two,C.iso ul]
   constructor
   ·intro e
    cases A with
    |nil=>rfl
    |cons a t =>
     have ha:a=(u,v):=kA.1.symm.trans e
     have:=((zb6 C L a).mp (dY a Qc)).2.2
     exact absurd ha this
   ·intro e;subst e;exact kA
  have iB:r' v=[]↔B=[]:=by
   rw[L.one,C.iso L.tie]
   constructor
   ·intro e
    cases B with
    |nil=>rfl
    |cons a t =>
     have ha:a=(v,u):=kB.1.symm.trans e
     have:=((zb6 C L a).mp (gp a Qc)).2.1
     exact absurd ha this
   ·intro e;subst e;exact kB
  have ht:tot ns r' (N++cs.erase c)=tot ns r cs+4:=by
   rw[del_tot C L (cs':=N++cs.erase c)]
   have lc:=Ym hc
   have lp:=Yd hc
   have ln:N.length=(if A=[] then 0 else 1)+(if B=[] then 0 else 1):=by
    show((if A=[] then[] else[A])++(if B=[] then[] else[B])).length=_
    rw[Qs]
    congr 1
    ·by_cases h:A=[]
     ·rw[if_pos h,if_pos h];rfl
     ·rw[if_neg h,if_neg h];rfl
    ·by_cases h:B=[]
     ·rw[if_pos h,if_pos h];rfl
     ·rw[if_neg h,if_neg h];rfl
   rw[Qs,ln,lc]
   by_cases hA:A=[]
   ·by_cases hB:B=[]
    ·rw[if_pos (iA.mpr hA),if_pos (iB.mpr hB),if_pos hA,if_pos hB];omega
    ·rw[if_pos (iA.mpr hA),if_neg (λz=>hB (iB.mp z)),if_pos hA,if_neg hB];omega
   ·by_cases hB:B=[]
    ·rw[if_neg (λz=>hA (iA.mp z)),if_pos (iB.mpr hB),if_neg hA,if_pos hB];omega
    ·rw[if_neg (λz=>hA (iA.mp z)),if_neg (λz=>hB (iB.mp z)),if_neg hA,if_neg hB];omega
  exact⟨N++cs.erase c,W,.inr ht⟩
 ·obtain ⟨c2,rj,ph⟩:=Zu.mp ((C.cm (u,v)).mpr L.tie)
  have eG:c2≠c:=λe=>hb (e▸ph)
  have l9:c2∈cs.erase c:=(List.mem_erase_of_ne eG).mpr rj
  obtain⟨P2,Q2,pZ⟩:=Yn ph
  have k2:Lk (st r) (u,v) (Q2++P2) (u,v):=zc4 (pZ▸C.cy c2 rj)
  have qm:c2.Perm ((u,v)::(Q2++P2)):=by
   rw[pZ];exact Jo.trans ((Yw).cons _)
  generalize hA:Q++P=A at k0 pc
  generalize hB:Q2++P2=B at k2 qm
  have hp:cs.flatten.Perm ((v,u)::(u,v)::((A++B)::(cs.erase c).erase c2).flatten):=by
   rw[Yx]
   refine(zb3 hc).trans ((pc.append_right _).trans ?_)
   rw[Uy]
   refine List.Perm.cons _ ?_
   refine((zb3 l9).append_left A).trans ?_
   refine((qm.append_right _).append_left A).trans ?_
   rw[Uy]
   refine Jo.trans ?_
   rw[Qy]
  have nd:=hp.nodup_iff.mp C.cf
  have aE:∀y,y∈((A++B)::(cs.erase c).erase c2).flatten→y.1∈r' y.2:=λy hy=>by
   rw[Qr,Qr,Qe,not_or]at nd
   exact(zb6 C L y).mpr ⟨(C.cm y).mp (hp.mem_iff.mpr (Qg _ (Qg _ hy))),λe=>nd.1.2 (e▸hy),λe=>nd.2.1 (e▸hy)⟩
  have dY:∀y∈A,y.1∈r' y.2:=λy hy=>aE y (by rw[Yx];exact Qo _ (Qo _ hy))
  have gp:∀y∈B,y.1∈r' y.2:=λy hy=>aE y (by rw[Yx];exact Qo _ (Qn _ hy))
  have nA:∃a t,A=a::t:=by
   cases A with
   |nil =>
    have:=congrArg Prod.fst (show st r (v,u)=(v,u) from k0)
    exact absurd this.symm eQ
   |cons a t=>exact⟨a,t,rfl⟩
  have nB:∃a t,B=a::t:=by
   cases B with
   |nil =>
    have:=congrArg Prod.fst (show st r (u,v)=(u,v) from k2)
    exact absurd this eQ
   |cons a t=>exact⟨a,t,rfl⟩
  obtain⟨a,tA,rfl⟩:=nA
  obtain⟨b,tB,rfl⟩:=nB
  have pq:∀d∈((a::tA)++(b::tB))::(cs.erase c).erase c2,Cyc (st r') d:=λd hd=>by
   rcases Qe.mp hd with z | z
   ·have k:=lk_del C L k0.2 fun y hy=>dY y (Qe.mpr hy)
    have k':=lk_del C L k2.2 λy hy=>gp y (Qe.mpr hy)
    rw[if_pos rfl,k2.1]at k
    rw[if_neg az,if_pos rfl,k0.1]at k'
    rw[z]
    exact⟨a,tA++b::tB,rfl,lk_app.mpr ⟨k,k'⟩⟩
   ·rw [Qr,Qr,Qe,not_or] at nd
    have hf:∀y∈d,y∈(((a::tA)++(b::tB))::(cs.erase c).erase c2).flatten:=λy hy=>Zu.mpr ⟨d,hd,hy⟩
    exact rest_cyc C L (Uc (Uc z)) (λy=>nd.1.2 (hf _ y)) (λy=>nd.2.1 (hf _ y))
  have W:=del_web C L hp pq
  have nu:r' u≠[]:=λe=>by
   rw[L.two,C.iso ul]at e
   have ha:a=(u,v):=k0.1.symm.trans e
   exact((zb6 C L a).mp (dY a Qc)).2.2 ha
  have nv:r' v≠[]:=λe=>by
   rw[L.one,C.iso L.tie]at e
   have ha:b=(v,u):=k2.1.symm.trans e
   exact((zb6 C L b).mp (gp b Qc)).2.1 ha
  have gB:Conn r' u v:=by
   have:=lk_conn C L W.sy k0.2 λy hy=>dY y (Qe.mpr hy)
   rwa[←k0.1]at this
  refine⟨_,W,.inl ⟨?_,gB⟩⟩
  rw[del_tot C L,if_neg nu,if_neg nv]
  have lc:=Ym hc
  have lc2:=Ym l9
  have lp:=Yd hc
  have lp2:=Yd l9
  rw[Qz,lc2,lc]
  omega
def zhs{v u:α}(C:Web ns r cs)(L:Less r r' v u)(sy:∀x y,y∈r' x→x∈r' y){T:List α}(lN:T.Pairwise λx y=>¬Conn r' x y):∃T':List α,(∀t∈T',t∈T)∧T'.Pairwise (λx y=>¬Conn r x y)∧T.length≤T'.length+1:=by
 let P:α→Bool:=λx=>@decide (¬Conn r' x v) (Classical.propDecidable _)
 have hP:∀x,P x=false→Conn r' x v:=λx e=>by
  have:=@of_decide_eq_false _ (Classical.propDecidable _) e
  exact Classical.not_not.mp this
 refine⟨T.filter P,λt ht=>(Za.mp ht).1,?_,filter_one (P:=P) lN λx y hx hy=>Conn.trans (hP x hx) (Conn.symm sy (hP y hy))⟩
 refine Kr ?_ (lN.filter P)
 intro x y hx hy sU hc
 have px:¬Conn r' x v:=@of_decide_eq_true _ (Classical.propDecidable _) (Za.mp hx).2
 have py:¬Conn r' y v:=@of_decide_eq_true _ (Classical.propDecidable _) (Za.mp hy).2
 rcases del_conn C L hc with h | ⟨h,_⟩ | ⟨_,h⟩
 ·exact sU h
 ·exact px h
 ·exact py (Conn.symm sy h)
def back_less(C:Web ns r cs)(L:Less r r' v u)(sy:∀x y,y∈r' x→x∈r' y)(h:Conn r' u v)(hc:Conn r x y):Conn r' x y:=by
 rcases del_conn C L hc with z | ⟨z1,z2⟩ | ⟨z1,z2⟩
 ·exact z
 ·exact(z1.trans (Conn.symm sy h)).trans z2
 ·exact(z1.trans h).trans z2
def flat_less{v u:α}(F:Flat ns r cs)(L:Less r r' v u):∃cs',Flat ns r' cs':=by
 obtain⟨cs',W,⟨ht,gB⟩ | ht⟩:=web_less F.toWeb L
 ·refine ⟨cs',W,fun T hT lN=>?_⟩
  rw[ht]
  exact F.fl T hT (lN.imp λ{x y} h hc=>h (back_less F.toWeb L W.sy gB hc))
 ·refine ⟨cs',W,fun T hT lN=>?_⟩
  obtain⟨T',h1,h2,h3⟩:=zhs F.toWeb L W.sy lN
  have:=F.fl T' (λt ht=>hT t (h1 t ht)) h2
  rw[ht]
  omega
def conn_iso(hr:r x=[])(h:Conn r x y):y=x:=by
 induction h with
 |refl=>rfl
 |step _ hz ih=>rw[ih,hr]at hz;cases hz
def sum_one{L:List α}(nd:L.Nodup){a:α}(h:a∈L)(k:Int):(L.map λl=>if a=l then k else 0).sum=k:=by
 have:=zey (g:=λ_=>(0:Int)) (g':=λl=>if a=l then k else 0) nd h λx _ hx=>if_neg λe=>hx e.symm
 rw[this,zdn λ_ _=>rfl,if_pos rfl];omega
def zf2{β:Type}(f g:β→Int):∀l:List β,(l.map λx=>f x+g x).sum=(l.map f).sum+(l.map g).sum:=by
 intro l
 induction l with
 |nil=>rfl
 |cons a t ih=>rw[Ql,Ql,Ql,Zm,Zm,Zm,ih];omega
def sum_exch{β:Type}{L:List α}(nd:L.Nodup)(f:β→α)(g:β→Int):∀{xs:List β},(∀x∈xs,f x∈L)→(L.map λl=>(xs.map λx=>if f x=l then g x else 0).sum).sum=(xs.map g).sum:=by
 intro xs
 induction xs with
 |nil=>intro _;exact zdn λ_ _=>rfl
 |cons a t ih =>
  intro h
  rw[Ql,Zm,←ih λx hx=>h x (Qg _ hx),←sum_one nd (h a Qc) (g a),←zf2]
  refine zcb λl _=>?_
  rw[Ql,Zm]
def labels(aa:α→α):∀ ns:List α,∃ L:List α,L.Nodup∧(∀ x∈ns,aa x∈L)∧∀ l∈L,∃ x∈ns,aa x=l:=by
 intro ns
 induction ns with
 |nil=>exact⟨[],Zn,(by intro x h;cases h),(by intro x h;cases h)⟩
 | cons a t ih =>
  obtain⟨L,h1,h2,h3⟩:=ih
  by_cases h:aa a∈L
  ·refine ⟨L,h1,fun x hx=>?_,fun l hl=>?_⟩
   ·rcases Qe.mp hx with z | z
    ·rw[z];exact h
    ·exact h2 x z
   ·obtain ⟨x,hx,e⟩:=h3 l hl
    exact⟨x,Qg _ hx,e⟩
  ·refine ⟨aa a::L,Qr.mpr ⟨h,h1⟩,fun x hx=>?_,fun l hl=>?_⟩
   ·rcases Qe.mp hx with z | z
    ·rw[z];exact Qc
    ·exact Qg _ (h2 x z)
   ·rcases Qe.mp hl with z | z
    ·exact⟨a,Qc,z.symm⟩
    ·obtain ⟨x,hx,e⟩:=h3 l z
     exact⟨x,Qg _ hx,e⟩
def cert_flat{aa:α→α}(C:Cert ns r cs aa):Flat ns r cs:=by
 refine⟨⟨C.nd,C.ro,C.rn,C.ir,C.sy,C.cf,C.cm,C.cy⟩,λT hT hp=>?_⟩
 obtain⟨L,h1,h2,h3⟩:=labels aa ns
 have e1:(L.map λl=>wt ns r aa l).sum=(ns.map (vl r)).sum:=sum_exch h1 aa (vl r) h2
 have e2:(L.map λl=>ct cs aa l).sum=2*(cs.length:Int):=by
  have key:∀D:List (List (α×α)),(∀c∈D,c∈cs)→(L.map λl=>ct D aa l).sum=2*(D.length:Int):=by
   intro D
   induction D with
   |nil=>intro _;exact zdn λ_ _=>rfl
   | cons c D ih =>
    intro h
    have hc:=h c Qc
    obtain⟨s,t,rfl,_⟩:=C.cy c hc
    have ha:aa s.1∈L:=h2 _ (C.inn' (C.inc hc Qc))
    have hs:∀l∈L,ct ((s::t)::D) aa l=(if aa s.1=l then 2 else 0)+ct D aa l:=λl _=>by
     rw[zdi,zdl (λu hu=>C.one_lab hc Qc hu) (Kz _ _)]
     congr 1
     by_cases e:aa s.1=l
     ·rw[if_pos e,if_pos (decide_eq_true e)]
     ·rw[if_neg e,if_neg (λz=>e (of_decide_eq_true z))]
    rw[zcb hs,zf2,sum_one h1 ha,ih λd hd=>h d (Qg _ hd),Qz];omega
  exact key cs λ_ h=>h
 have e3:(L.map λl=>wt ns r aa l+ct cs aa l).sum=4*(L.length:Int):=by
  have:∀M:List α,(∀l∈M,l∈L)→(M.map λl=>wt ns r aa l+ct cs aa l).sum=4*(M.length:Int):=by
   intro M
   induction M with
   |nil=>intro _;rfl
   |cons a t ih =>
    intro h
    obtain⟨x,hx,e⟩:=h3 a (h a Qc)
    rw[Ql,Zm,ih λl hl=>h l (Qg _ hl),←e,C.eu x hx,Qz];omega
  exact this L λ_ h=>h
 rw[zf2,e1,e2]at e3
 have nd:(T.map aa).Nodup:=Wr.mpr (Kr (λ{x y} hx hy h e=>h (C.co x (hT x hx) y (hT y hy) e)) hp)
 have:=nd.length_le_of_subset (l₂:=L) λl hl=>by
  obtain⟨x,hx,rfl⟩:=Qf.mp hl
  exact h2 x (hT x hx)
 rw[Qa]at this
 unfold tot
 omega
end
section
variable{α:Type}[DecidableEq α]{ns:List α}{r r':α→List α}{cs:List (List (α×α))}{aa:α→α}
def cutR(r:α→List α)(v u:α):α→List α:=λx=>if x=v then(r v).erase u else if x=u then(r u).erase v else r x
def cut_less(C:Web ns r cs){v u:α}(h:u∈r v):Less r (cutR r v u) v u :=
 have eQ:v≠u:=λe=>C.ir u (by rw[e]at h;exact h)
 ⟨h,if_pos rfl,(if_neg (Qw eQ)).trans (if_pos rfl),λx h1 h2=>(if_neg h1).trans (if_neg h2)⟩
def sum_lt{f g:α→Nat}:∀ {l:List α},(∀ x∈l,f x≤g x)→(∃ a∈l,f a < g a)→(l.map f).sum < (l.map g).sum:=by
 intro l
 induction l with
 |nil=>rintro _ ⟨a,h,_⟩;cases h
 | cons b t ih =>
  rintro h ⟨a,ha,hl⟩
  rw[Ql,Ql,Zm,Zm]
  have h1:=h b Qc
  have h2:(t.map f).sum≤(t.map g).sum:=by
   clear ih hl ha
   induction t with
   |nil=>exact Qh _
   |cons c t ih2 =>
    rw[Ql,Ql,Zm,Zm]
    have:=h c (by simp)
    have:=ih2 (λx hx=>h x (by rcases Qe.mp hx with z | z<;>simp[z]))
    omega
  rcases Qe.mp ha with z | z
  ·subst z;omega
  ·have:=ih (fun x hx=>h x (Qg _ hx)) ⟨a,z,hl⟩
   omega
def genus:∀ (n:Nat) {r:α→List α} {cs:List (List (α×α))},Web ns r cs→(ns.map fun x=>(r x).length).sum=n→∃ T:List α,(∀ t∈T,t∈ns)∧T.Pairwise (fun x y=>¬ Conn r x y)∧tot ns r cs≤4*(T.length:Int):=by
 intro n
 induction n using Nat.strongRecOn with
 | ind n ih =>
  intro r cs C hn
  by_cases h:∃v u,u∈r v
  ·obtain ⟨v,u,h⟩:=h
   have L:=cut_less C h
   obtain⟨cs',W,hh⟩:=web_less C L
   have ut:∀x∈ns,(cutR r v u x).length≤(r x).length:=λx _=>by
    unfold cutR
    by_cases e1:x=v
    ·rw[if_pos e1,e1];exact List.length_erase_le ..
    ·rw [if_neg e1]
     by_cases e2:x=u
     ·rw[if_pos e2,e2];exact List.length_erase_le ..
     ·rw[if_neg e2];exact Qh _
   have ag:(ns.map λx=>(cutR r v u x).length).sum<n:=by
    rw[←hn]
    refine sum_lt ut ⟨v,C.inn h,?_⟩
    rw[L.one,Ym h]
    have:=Yd h
    omega
   obtain⟨T,h1,h2,h3⟩:=ih _ ag W rfl
   rcases hh with⟨ht,gB⟩ | ht
   ·exact⟨T,h1,h2.imp λ{x y} h hc=>h (back_less C L W.sy gB hc),by rw[←ht];exact h3⟩
   ·obtain ⟨T',g1,g2,g3⟩:=zhs C L W.sy h2
    exact⟨T',λt ht=>h1 t (g1 t ht),g2,by omega⟩
  ·have hr:∀ x,r x=[]:=fun x=>by
    cases e:r x with
    |nil=>rfl
    |cons a t=>exact absurd ⟨x,a,by rw[e];exact Qc⟩ h
   have l4:cs=[]:=by
    cases cs with
    |nil=>rfl
    |cons c t =>
     obtain⟨s,t',rfl,_⟩:=C.cy c Qc
     have:=(C.cm s).mp (by rw[Yx];exact Qo _ Qc)
     rw[hr]at this
     cases this
   refine⟨ns,λt h=>h,C.nd.imp λ{x y} h hc=>h (conn_iso (hr x) hc).symm,?_⟩
   have:∀l:List α,(l.map (vl r)).sum=4*(l.length:Int):=by
    intro l
    induction l with
    |nil=>rfl
    |cons a t ih2 =>
     rw[Ql,Zm,ih2,Qz]
     unfold vl
     rw[if_pos (hr a),hr a,Ul]
     omega
   unfold tot
   rw[l4,this,Ul]
   omega
def Web.inc(C:Web ns r cs){c:List (α×α)}(hc:c∈cs){s:α×α}(hs:s∈c):s.1∈r s.2:=(C.cm s).mp (Zu.mpr ⟨c,hc,hs⟩)
def Web.one_lab(C:Web ns r cs)(la:∀ x y,y∈r x→aa y=aa x){c:List (α×α)}(hc:c∈cs){s u:α×α}(hs:s∈c)(hu:u∈c):aa u.1=aa s.1:=by
 obtain⟨A,B,rfl⟩:=Yn hs
 have k:=zc4 (C.cy _ hc)
 have hl:∀y,y=s∨y∈B++A→aa (st r y).1=aa y.1:=λy hy=>by
  have fI:y∈A++s::B:=by
   rcases hy with z | z
   ·rw[z];exact hs
   ·rcases Qi.mp z with q | q
    ·exact Qn _ (Qg _ q)
    ·exact Qo _ q
  exact(la _ _ (C.inc hc fI)).symm
 rcases Qi.mp hu with z | z
 ·exact lk_lab (lb:=λy:α×α=>aa y.1) hl k u (Qn _ z)
 ·rcases Qe.mp z with q | q
  ·rw[q]
  ·exact lk_lab (lb:=λy:α×α=>aa y.1) hl k u (Qo _ q)
def sum_filter(p:β→Bool)(f:β→Int):∀l:List β,((l.filter p).map f).sum=(l.map λx=>if p x=true then f x else 0).sum:=by
 intro l
 induction l with
 |nil=>rfl
 |cons a t ih =>
  rw[Ql,Zm]
  by_cases h:p a=true
  ·rw[Zw h,if_pos h,Ql,Zm,ih]
  ·rw[Zx h,if_neg h,ih];omega
theorem zis(p:List β→Bool):∀cs:List (List β),(cs.filter p).flatten.Sublist cs.flatten
 |[]=>List.Sublist.refl _
 | c::t=>by
  by_cases h:p c=true
  ·rw [Zw h,Yx,Yx]
   exact List.Sublist.append (List.Sublist.refl _) (zis p t)
  ·rw [Zx h,Yx]
   exact(zis p t).trans (List.sublist_append_right _ _)
def sum_two(p:β→Bool)(l:List β):(l.map λc=>if p c=true then(2:Int) else 0).sum=2*((l.filter p).length:Int):=by
 rw[←sum_filter p λ_=>2]
 induction l.filter p with
 |nil=>rfl
 |cons a t ih=>rw[Ql,Zm,ih,Qz];omega
def piece_le(C:Web ns r cs)(la:∀ x y,y∈r x→aa y=aa x)(co:∀ x∈ns,∀ y∈ns,aa x=aa y→Conn r x y)(t:α):wt ns r aa t+ct cs aa t≤4:=by
 let rt:α→List α:=λx=>if aa x=t then r x else[]
 have r1:∀{x},aa x=t→rt x=r x:=λh=>if_pos h
 have r0:∀{x},¬aa x=t→rt x=[]:=λh=>if_neg h
 have rm:∀{x y},y∈rt x↔y∈r x∧aa x=t:=λ{x y}=>by
  by_cases h:aa x=t
  ·rw[r1 h];exact⟨λz=>⟨z,h⟩,λz=>z.1⟩
  ·rw[r0 h];exact⟨λz=>(by cases z),λz=>absurd z.2 h⟩
 have iM:∀{c},c∈cs→(c.any λs=>decide (aa s.1=t))=true→∀s∈c,aa s.2=t:=λ{c} hc h s hs=>by
  obtain⟨q,hq,e⟩:=Yq.mp h
  rw[←la _ _ (C.inc hc hs),C.one_lab la hc hq hs]
  exact of_decide_eq_true e
 have W:Web (ns.filter λx=>decide (aa x=t)) rt (cs.filter λc=>c.any λs=>decide (aa s.1=t)):=by
  refine⟨C.nd.filter _,λx hx=>?_,λx=>?_,λx h=>C.ir x (rm.mp h).1,λx y h=>?_,Yr (zis _ cs) C.cf,λs=>?_,λc hc=>?_⟩
  ·by_cases h:aa x=t
   ·rw [r1 h]
    exact C.ro x λz=>hx (Za.mpr ⟨z,decide_eq_true h⟩)
   ·exact r0 h
  ·by_cases h:aa x=t
   ·rw[r1 h];exact C.rn x
   ·rw[r0 h];exact Zn
  ·obtain ⟨h1,h2⟩:=rm.mp h
   exact rm.mpr ⟨C.sy _ _ h1,(la _ _ h1).trans h2⟩
  ·rw [rm]
   constructor
   ·intro h
    obtain⟨c,hc,hs⟩:=Zu.mp h
    obtain⟨h1,h2⟩:=Za.mp hc
    exact⟨C.inc h1 hs,iM h1 h2 s hs⟩
   ·rintro ⟨h1,h2⟩
    obtain⟨c,hc,hs⟩:=Zu.mp ((C.cm s).mpr h1)
    exact Zu.mpr ⟨c,Za.mpr ⟨hc,Yq.mpr ⟨s,hs,decide_eq_true ((la _ _ h1).trans h2)⟩⟩,hs⟩
  ·obtain ⟨h1,h2⟩:=Za.mp hc
   refine zeu (λy hy=>?_) (C.cy c h1)
   show(y.2,nxt (rt y.2) y.1)=(y.2,nxt (r y.2) y.1)
   rw[r1 (iM h1 h2 y hy)]
 have e1:((ns.filter λx=>decide (aa x=t)).map (vl rt)).sum=wt ns r aa t:=by
  rw[sum_filter]
  refine zcb λx _=>?_
  by_cases h:aa x=t
  ·rw [if_pos (decide_eq_true h),if_pos h]
   unfold vl
   rw[r1 h]
  ·rw[if_neg (by simpa using h),if_neg h]
 have e2:=sum_two (λc:List (α×α)=>c.any λs=>decide (aa s.1=t)) cs
 obtain⟨T,h1,h2,h3⟩:=genus _ W rfl
 unfold tot at h3
 rw[e1,←e2]at h3
 have hl:T.length≤1:=by
  match T,h1,h2 with
  |[],_,_=>exact Zg _
  |[_],_,_=>exact Qh _
  | a::b::T',h1,h2 =>
   obtain⟨a1,a2⟩:=Za.mp (h1 a Qc)
   obtain⟨b1,b2⟩:=Za.mp (h1 b (by simp))
   have a2:=of_decide_eq_true a2
   have b2:=of_decide_eq_true b2
   have key:∀{y},Conn r a y→Conn rt a y∧aa y=t:=λ{y} h=>by
    induction h with
    |refl=>exact⟨.refl,a2⟩
    |step _ hz ih=>exact⟨.step ih.1 (rm.mpr ⟨hz,ih.2⟩),(la _ _ hz).trans ih.2⟩
   exact absurd (key (co a a1 b b1 (a2.trans b2.symm))).1 ((Ke.mp h2).1 b Qc)
 have:wt ns r aa t+ct cs aa t≤4*(T.length:Int):=h3
 omega
def tot_sum(C:Web ns r cs)(la:∀ x y,y∈r x→aa y=aa x){L:List α}(h1:L.Nodup)(h2:∀ x∈ns,aa x∈L):(L.map fun l=>wt ns r aa l+ct cs aa l).sum=tot ns r cs:=by
 have e1:(L.map λl=>wt ns r aa l).sum=(ns.map (vl r)).sum:=sum_exch h1 aa (vl r) h2
 have e2:(L.map λl=>ct cs aa l).sum=2*(cs.length:Int):=by
  have key:∀D:List (List (α×α)),(∀c∈D,c∈cs)→(L.map λl=>ct D aa l).sum=2*(D.length:Int):=by
   intro D
   induction D with
   |nil=>intro _;exact zdn λ_ _=>rfl
   | cons c D ih =>
    intro h
    have hc:=h c Qc
    obtain⟨s,t,rfl,_⟩:=C.cy c hc
    have ha:aa s.1∈L:=h2 _ (C.inn (C.sy _ _ (C.inc hc Qc)))
    have hs:∀l∈L,ct ((s::t)::D) aa l=(if aa s.1=l then 2 else 0)+ct D aa l:=λl _=>by
     rw[zdi,zdl (λu hu=>C.one_lab la hc Qc hu) (Kz _ _)]
     congr 1
     by_cases e:aa s.1=l
     ·rw[if_pos e,if_pos (decide_eq_true e)]
     ·rw[if_neg e,if_neg (λz=>e (of_decide_eq_true z))]
    rw[zcb hs,zf2,sum_one h1 ha,ih λd hd=>h d (Qg _ hd),Qz];omega
  exact key cs λ_ h=>h
 rw[zf2,e1,e2]
 rfl
def all_four{g:α→Int}:∀ {L:List α},(∀ l∈L,g l≤4)→4*(L.length:Int)≤(L.map g).sum→∀ l∈L,g l=4:=by
 intro L
 induction L with
 |nil=>intro _ _ l hl;cases hl
 | cons a t ih =>
  intro h hs l hl
  rw[Ql,Zm,Qz]at hs
  have ha:=h a Qc
  have ht:(t.map g).sum≤4*(t.length:Int):=by
   clear ih hs hl ha
   induction t with
   |nil=>exact Int.le_refl _
   |cons b t ih =>
    rw[Ql,Zm,Qz]
    have:=h b (by simp)
    have:=ih λx hx=>h x (by rcases Qe.mp hx with z | z<;>simp[z])
    omega
  rcases Qe.mp hl with z | z
  ·rw[z];omega
  ·exact ih (λx hx=>h x (Qg _ hx)) (by omega) l z
def flat_cert(F:Flat ns r cs):∃aa,Cert ns r cs aa:=by
 have C:=F.toWeb
 let f:α→Option α:=λx=>ns.find? λy=>@decide (Conn r x y) (Classical.propDecidable _)
 have hf:∀{x},x∈ns→∃y,f x=some y∧y∈ns∧Conn r x y:=λ{x} hx=>by
  cases e:f x with
  |none=>exact absurd (@decide_eq_true _ (Classical.propDecidable _) (Conn.refl (r:=r) (x:=x))) (List.find?_eq_none.mp e x hx)
  |some y =>
   have h:=List.find?_some (p:=λy=>@decide (Conn r x y) (Classical.propDecidable _)) e
   exact⟨y,rfl,List.mem_of_find?_eq_some e,@of_decide_eq_true _ (Classical.propDecidable _) h⟩
 have hs:∀{x y},Conn r x y→f x=f y:=λ{x y} h=>by
  show ns.find? _=ns.find? _
  congr 1
  funext z
  congr 1
  exact propext ⟨λq=>(h.symm C.sy).trans q,λq=>h.trans q⟩
 let aa:α→α:=λx=>(f x).getD x
 have hl:∀{x},x∈ns→aa x∈ns∧Conn r x (aa x):=λ{x} hx=>by
  obtain⟨y,e,h1,h2⟩:=hf hx
  show(f x).getD x∈ns∧Conn r x ((f x).getD x)
  rw[e];exact⟨h1,h2⟩
 have he:∀{x y},x∈ns→y∈ns→Conn r x y→aa x=aa y:=λ{x y} hx hy h=>by
  obtain⟨z,e,_⟩:=hf hy
  show(f x).getD x=(f y).getD y
  rw[hs h,e];rfl
 have la:∀x y,y∈r x→aa y=aa x:=λx y h=>(he (C.inn h) (C.inn (C.sy _ _ h)) (.step .refl h)).symm
 have co:∀x∈ns,∀y∈ns,aa x=aa y→Conn r x y:=λx hx y hy e=>by
  have h1:=(hl hx).2
  rw[e]at h1
  exact h1.trans ((hl hy).2.symm C.sy)
 obtain⟨L,h1,h2,h3⟩:=labels aa ns
 have hL:∀l∈L,l∈ns∧aa l=l:=λl hl'=>by
  obtain⟨x,hx,e⟩:=h3 l hl'
  obtain⟨a,b⟩:=hl hx
  refine⟨e▸a,?_⟩
  have:=he hx a b
  rw[e]at this
  exact this.symm
 have fl:=F.fl L (λl h=>(hL l h).1) (Kr (λ{x y} hx hy sU hc=>sU (by
  have:=he (hL x hx).1 (hL y hy).1 hc
  rwa[(hL x hx).2,(hL y hy).2]at this)) h1)
 rw[←tot_sum C la h1 h2]at fl
 have four:=all_four (λl _=>piece_le C la co l) fl
 exact⟨aa,C.nd,C.ro,C.rn,C.ir,C.sy,C.cf,C.cm,C.cy,λx hx=>(hl hx).1,la,co,λx hx=>four _ (h2 x hx)⟩
def cert_less(C:Cert ns r cs aa)(L:Less r r' v u):∃cs' ah,Cert ns r' cs' ah:=by
 obtain⟨cs',F⟩:=flat_less (cert_flat C) L
 obtain⟨ah,C'⟩:=flat_cert F
 exact⟨cs',ah,C'⟩
end
section
variable{α:Type}[DecidableEq α]
structure Fil(r0 rs:Rs α)(s:α×α)(x:α)(L j:Nat):Prop where
 gd:Good rs
 nm:rs.map (·.1)=r0.map (·.1)
 su:∀y z,z∈row r0 y→z∈row rs y
 ch:∀i,j≤i→i≤L→stp rs (itr r0 s i)=itr r0 s (i+1)
 cs:stp rs s=(s.2,x)
 in2:s.2∈row rs x
variable{r0 rs:Rs α}{s:α×α}{x:α}{L j:Nat}
def run_inj(nd:(run r0 s (L+1)).Nodup)(ha:a≤L)(hb:b≤L)(e:itr r0 s a=itr r0 s b):a=b:=by
 unfold run at nd
 exact(Yf (i:=a) (j:=b) (h₀:=by rw[Qa,Yh];omega) (h₁:=by rw[Qa,Yh];omega) nd).mp (by
  rw[Zj,Zj,Uj,Uj];exact e)
def fil_leaf(G:Good rb)(hx:x∉rb.map (·.1))(hs:IsSt rb s)(hr:r0=rb++[(x,[])])(nd:(run r0 s (L+1)).Nodup) :
  Fil r0 (zaz (zaz r0 s.2 (ins (row rb s.2) (some s.1) x)) x [s.2]) s x L 1:=by
 obtain⟨cs,aa,C⟩:=id G
 have h1:=(zbx C.nd).mp hs
 have bm:s.2∈rb.map (·.1):=C.inn h1
 have e0:row r0=row rb:=by rw[hr];exact zh9 hx
 have qy:s.2≠x:=λe=>hx (e▸bm)
 have iC:r0.map (·.1)=rb.map (·.1)++[x]:=by rw[hr,Qp];rfl
 have n2:s.2∈r0.map (·.1):=by rw[iC];exact Qo _ bm
 have nx:x∈(zaz r0 s.2 (ins (row rb s.2) (some s.1) x)).map (·.1):=by rw[zbc,iC];exact Qn _ Qc
 have r2:row (zaz (zaz r0 s.2 (ins (row rb s.2) (some s.1) x)) x [s.2]) s.2=ins (row rb s.2) (some s.1) x:=by rw[za5 qy,za7 n2]
 have rx:row (zaz (zaz r0 s.2 (ins (row rb s.2) (some s.1) x)) x [s.2]) x=[s.2]:=za7 nx
 have ro:∀y,y≠s.2→y≠x→row (zaz (zaz r0 s.2 (ins (row rb s.2) (some s.1) x)) x [s.2]) y=row rb y:=λy a b=>by rw[za5 b,za5 a,e0]
 have iX:x∉row rb s.2:=λz=>hx (C.inn' z)
 obtain⟨p,hp,ep,_⟩:=hs
 have aq:∀i,IsSt rb (itr r0 s i):=λi=>by
  induction i with
  |zero=>exact(zbx C.nd).mpr h1
  |succ n ih =>
   have:=za1.clo _ G _ ih
   show IsSt rb (stp r0 (itr r0 s n))
   unfold stp at this ⊢
   rw[e0];exact this
 refine⟨?_,by rw[zbc,zbc],λy z hz=>?_,λi hi hl=>?_,?_,by rw[rx];exact Qc⟩
 ·have:=za1.leaf rb x p (some s.1) G hx hp (fun y z=>by rw [← Qk z,← zdb C.nd hp,ep];exact h1) (fun z=>by cases z)
  rw[ep,←zdb C.nd hp,ep,←hr]at this
  exact this
 ·rw [e0] at hz
  by_cases a:y=s.2
  ·rw [a,r2,zea h1 (C.rn _)]
   exact .inr (a▸hz)
  ·rw[ro y a (λb=>hx (b▸C.inn hz))];exact hz
 ·have ht:=(zbx C.nd).mp (aq i)
  have tx:(itr r0 s i).2≠x:=λb=>hx (b▸C.inn ht)
  show((itr r0 s i).2,nxt (row _ (itr r0 s i).2) (itr r0 s i).1)=((itr r0 s i).2,nxt (row r0 (itr r0 s i).2) (itr r0 s i).1)
  congr 1
  rw[e0]
  by_cases a:(itr r0 s i).2=s.2
  ·rw [a] at ht ⊢
   rw[r2]
   exact zdd h1 (C.rn _) iX ht λb=>round_ne nd (Zo Nat.zero_lt_one hi) hl (Jb b a)
  ·rw[ro _ a tx]
 ·show (s.2,nxt (row _ s.2) s.1)=_
  rw[r2,zeq h1 (C.rn _)]
theorem Fil.go(F:Fil r0 rs s x L j):∀k,j+k≤L+1→itr rs (itr r0 s j) k=itr r0 s (j+k)
 |0,_=>rfl
 |k+1,h=>by
  show stp rs (itr rs (itr r0 s j) k)=_
  rw[F.go k (by omega),F.ch _ (by omega) (by omega)]
  rfl
def Fil.skip(F:Fil r0 rs s x L j):Fil r0 rs s x L (j+1):=⟨F.gd,F.nm,F.su,λi h=>F.ch i (by omega),F.cs,F.in2⟩
def Fil.tie(F:Fil r0 rs s x L j)(nd:(run r0 s (L+1)).Nodup)(hL:itr r0 s (L+1)=s)(hj:j≤L)(hs:∀i,IsSt r0 (itr r0 s i))(i5:(r0.map (·.1)).Nodup)(rH:row r0 x=[])(aZ:(itr r0 s j).2∉row rs x) :
  Fil r0 (zaz (zaz rs (itr r0 s j).2 (ins (row rs (itr r0 s j).2) (some (itr r0 s j).1) x)) x (ins (row rs x) (some s.2) (itr r0 s j).2)) s x L (j+1):=by
 obtain⟨cs,aa,C⟩:=id F.gd
 have aE:∀i,(itr r0 s i).1∈row rs (itr r0 s i).2:=λi=>F.su _ _ ((zbx i5).mp (hs i))
 have eN:∀i,(itr r0 s i).2≠x:=λi e=>by
  have:=(zbx i5).mp (hs i)
  rw[e,rH]at this
  cases this
 have far:itr rs (itr r0 s j) (L+1-j+1)=(s.2,x):=by
  show stp rs (itr rs (itr r0 s j) (L+1-j))=_
  rw[F.go _ (by omega),show j+(L+1-j)=L+1 by omega,hL,F.cs]
 have tQ:s.2≠x:=eN 0
 have o0:s.2≠(itr r0 s j).2:=λe=>aZ (e▸F.in2)
 have az:∀i,j+1≤i→i≤L→itr r0 s i≠itr r0 s j:=λi h1 h2 e=>by
  have:=run_inj nd h2 hj e
  omega
 have bg:=aE j
 have sV:=eN j
 generalize hq:itr r0 s j=q at far aZ o0 az bg sV
 have iw:q.2∈rs.map (·.1):=C.inn bg
 have hxm:x∈rs.map (·.1):=C.inn F.in2
 have qx:x∉row rs q.2:=λz=>aZ (C.sy _ _ z)
 obtain⟨p,hp,ep⟩:=Qf.mp iw
 have er:=zdb C.nd hp
 have rq:row (zaz (zaz rs q.2 (ins (row rs q.2) (some q.1) x)) x (ins (row rs x) (some s.2) q.2)) q.2=ins (row rs q.2) (some q.1) x:=by rw[za5 sV,za7 iw]
 have rx:row (zaz (zaz rs q.2 (ins (row rs q.2) (some q.1) x)) x (ins (row rs x) (some s.2) q.2)) x=ins (row rs x) (some s.2) q.2:=za7 (by rw[zbc];exact hxm)
 have ro:∀y,y≠q.2→y≠x→row (zaz (zaz rs q.2 (ins (row rs q.2) (some q.1) x)) x (ins (row rs x) (some s.2) q.2)) y=row rs y:=λy a b=>by rw[za5 b,za5 a]
 refine⟨?_,by rw[zbc,zbc];exact F.nm,λy z hz=>?_,λi hi hl=>?_,?_,?_⟩
 ·have ep':p.1=q.2:=ep
  have:=za1.tie rs q.1 p (L+1-j+1) F.gd hp (by rw[←er,ep'];exact bg) (by rw[ep',far];exact Qw sV) (by rw[ep',far,←er,ep'];exact qx)
  rw[ep',far,←er,ep']at this
  exact this
 ·have ca:=F.su _ _ hz
  by_cases a:y=q.2
  ·rw[a,rq,zea bg (C.rn _)];exact .inr (a▸ca)
  ·by_cases b:y=x
   ·rw[b,rx,zea F.in2 (C.rn _)];exact .inr (b▸ca)
   ·rw[ro y a b];exact ca
 ·rw [← F.ch i (by omega) hl]
  show((itr r0 s i).2,nxt (row _ (itr r0 s i).2) (itr r0 s i).1)=((itr r0 s i).2,nxt (row rs (itr r0 s i).2) (itr r0 s i).1)
  congr 1
  have hii:=aE i
  by_cases a:(itr r0 s i).2=q.2
  ·rw [a] at hii ⊢
   rw[rq]
   exact zdd bg (C.rn _) qx hii λb=>az i hi hl (Jb b a)
  ·rw[ro _ a (eN i)]
 ·show (s.2,nxt (row _ s.2) s.1)=_
  rw[ro _ o0 tQ]
  exact F.cs
 ·rw [rx,zea F.in2 (C.rn _)]
  exact .inr F.in2
def good_less(G:Good rs)(h:u∈row rs v)(hn:r1.map (·.1)=rs.map (·.1))(hv:row r1 v=(row rs v).erase u)(hu:row r1 u=(row rs u).erase v)(ho:∀y,y≠v→y≠u→row r1 y=row rs y):Good r1:=by
 obtain⟨cs,aa,C⟩:=G
 obtain⟨cs',ah,C'⟩:=cert_less C (v:=v) (u:=u) (r':=row r1) ⟨h,hv,hu,ho⟩
 exact⟨cs',ah,by rw[hn];exact C'⟩
end
end Wb
end
section
namespace HT
open PySem PyProof.Rows
section
open PySem.SeqAt
open PySem.AutoSeq1 (wpAny_loadPart')
open PySem.MeetsSeq PySem.MeetsSeq2 PySem.MeetsSeq3
end
section
variable{prog:Ni}{w:Nk}{A:Nn}{E:Nc}{s:Nh}
end
end HT
namespace PySem
section
variable{prog:Ni}{w:Nk}{A:Nn}{R:Nt}{I:Nb}{fp wr:Nl}{n:Nat}{P:Nat→Value→Prop}{St:Nat→Heap→Prop}
end
section
variable{prog:Ni}{w:Nk}{A:Nn}{E:Nc}{s:Nh}
end
end PySem
end
section
namespace L2
open PySem PySem.Spec PyProof.Rows
section
variable{X:Cx}
theorem idx_le:∀(l:Ng) (j:Nat) (hj:j<l.length),l[j]=x→l.idxOf x≤j
 |a::r,0,_,e=>by
  have e':a=x:=e
  rw[e',List.idxOf_cons_self];exact Qh _
 |a::r,j+1,hj,e=>by
  have:=idx_le r j (Nat.lt_of_succ_lt_succ hj) e
  rw[Xd]
  cases(a==x)
  ·exact Ky this
  ·exact Zg _
theorem zfg:∀(l:Ng) (i:Nat),(l.eraseIdx i).map V.str=(l.map V.str).eraseIdx i
 |[],_=>rfl
 |a::r,0=>rfl
 |a::r,i+1=>congrArg (V.str a::·) (zfg r i)
inductive RrRemove(x:V)(vs:List V)(H:Hp)(Q:VK):Prop
 |mk (l:Nb) (zs:Ng) (z:Str) (h0:x=.ref l) (h1:vs=[.str z]) (h2:H l=some (.lst (zs.map V.str))) (h3:z∈zs) (h4:Q .non (upd H l (.lst ((zs.erase z).map V.str)))):RrRemove x vs H Q
def rRemove:V→List V→Hp→VK→Prop:=λx vs H Q=>RrRemove x vs H Q
def mt_remove:MtM X "list.remove" rRemove:=by
 intro a7 s σ H x vs v us Q I rx rv h
 obtain⟨l,zs,z,rfl,rfl,hH,hz,q⟩:=h
 cases rx
 obtain⟨u,rfl,⟨t,rfl⟩⟩:=rv.one
 obtain⟨zz,a8,n,r,hl,e⟩:=I.lstM hH
 obtain⟨ps,rfl,qU⟩:=zee r
 have cg:ps.length=zs.length:=by rw[←qU,Qa]
 have hj:zs.idxOf z<ps.length:=by rw[cg];exact List.idxOf_lt_length_of_mem hz
 have cH:∀(m:Nat) (hm:m<ps.length),ps[m].1=zs[m]'(cg▸hm):=λm hm=>by
  have:(ps.map (·.1))[m]'(by rw[Qa];exact hm)=zs[m]'(cg▸hm):=by simp[qU]
  rw[←this,Zj]
 have iK:∀(m:Nat) (hm:m<(strValues ps).toArray.size),(strValues ps).toArray[m]=.str (ps[m]'(by simpa[strValues] using hm)).1 (ps[m]'(by simpa[strValues] using hm)).2:=λm hm=>by simp[strValues]
 have hsz:(strValues ps).toArray.size=ps.length:=by simp[strValues]
 refine call_meets F.slot_list_remove ⟨_,e,rfl⟩ F.entry_list_remove (F.args_list_remove_2 _ _)
  (MeetsSeq.list_remove l (strValues ps).toArray n (.str z t) (λv=>match v with | .str a _=>a==z | _=>false) (λy hy=>?_) (zs.idxOf z) (by rw[hsz];exact hj) ?_ (λm hm ag=>?_) (by rw[hsz,cg];rw[Qa]at zz;exact zz)) ⟨e,?_⟩
 ·obtain ⟨pr,_,rfl⟩:=Qf.mp (by simpa [strValues] using hy:y∈ps.map fun p=>Value.str p.1 p.2)
  exact eqGives_str _ _ _ _
 ·rw [iK]
  show((ps[zs.idxOf z]'hj).1==z)=true
  rw[cH,List.getElem_idxOf]
  exact beq_self_eq_true z
 ·rw [iK]
  show((ps[m]'(by rw[←hsz];exact hm)).1==z)=false
  rw[cH]
  exact beq_eq_false_iff_ne.mpr λez=>absurd (idx_le zs m _ ez) (Nat.not_le.mpr ag)
 ·refine ⟨.non,_,I.lset (its':=(strValues ps).eraseIdx (zs.idxOf z)) (ys:=(zs.erase z).map V.str) hH e (by rw [Jm]) ?_ ?_,rfl,q⟩
  ·rw [List.erase_eq_eraseIdx_of_idxOf rfl,zfg]
   exact r.eraseIdx _
  ·rw [Qa] at zz ⊢
   exact Zk (List.length_erase_le ..) zz
end
end L2
end
section
namespace K21
open PySem L2 Wb
abbrev sFill:Stmt:=top 38
abbrev sAway:Stmt:=top 39
inductive IspFill(vs:List V)(H:Hp)(Q:VK):Prop
 |mk (p d:Nb) (b m:Int) (es:List Ent) (x:Str) (h0:vs=[.ref d,.ref p,.str x]) (h1:Pot H p b m) (h2:Dr H d es) (md:es.length<40) (hx:x∉es.map (·.1)) (h3:∀(b' m':Int) (ao:List Ent) (H':Hp),Pot H' p b' m'→Deed p d H es [x] ao H'→Q .non H'):IspFill vs H Q
def spFill:Sp:=λvs H Q _=>IspFill vs H Q
def run_len{rs:Rs Str}{s:Str×Str}{n:Nat}:(run rs s n).length=n:=by
 unfold Wb.run;rw[List.length_map,List.length_range]
def run_b{es:List Ent}{s:Str×Str}{n:Nat}(G:Good (rsOf es))(few:es.length≤40)(aq:IsSt (rsOf es) s)(nd:(run (rsOf es) s (n+1)).Nodup):n+1≤1600:=by
 have:=zer nd (m:=zi8 (rsOf es)) λx hx=>by
  obtain⟨i,_,rfl⟩:=Qf.mp hx
  exact zgi.mpr (zgp (za1.clo _ G) aq i)
 rw[run_len]at this
 exact Zk this (za1.steps G (by rw[show(rsOf es).length=es.length from Qa ..];exact few))
section
variable{P:Ni}{w:Nk}{K:Na}{mg:Nd}{base:Nm}
def scFill:zap [qR,qP, "_law_name", "_law_step_here", "_law_row", "_law_after",qO] [qR,qP, "_law_name"] (zag sFill):=fsk
def ok_fill{f fi fs ff:Nb}{fd fdi fds fdf:No}(F:Fun K "_law_fill" "_law_fill" sFill f fd)(FI:Fun K "_law_tie" "_law_tie" sTie fi fdi)(bI:Binds K fdi [qR, "_law_one",qB,qO, "_law_after"] [])(mI:mg "_law_tie" = some (.ref fi))(GI:FnOk P w K mg base CX0 2 fi fdi [qR, "_law_one",qB,qO, "_law_after"] spTie)(FS:Fun K "_law_step" "_law_step" zh2 fs fds)(bS:Binds K fds [qR,qP] [])(mS:mg "_law_step" = some (.ref fs))(GS:FnOk P w K mg base CX0 2 fs fds [qR,qP] spStep)(FF:Fun K "_law_face" "_law_face" sFace ff fdf)(bF:Binds K fdf [qR, "_law_step_here"] [])(mF:mg "_law_face" = some (.ref ff))(GF:FnOk P w K mg base CX0 2 ff fdf [qR, "_law_step_here"] spFace) :
  FnOk P w K mg base CX0 3 f fd [qR,qP, "_law_name"] spFill:=by
 refine F.okL scFill (λcdv A outer s0 H vs Q E hr h=>?_)
 obtain⟨p,d,b,m,es,x,rfl,hp,D0,aS,hx,k⟩:=h
 have R:=D0.rn.toRAt
 have hu:=zbz hr
 have av  := sizeLine_eq
 have i0:∀x y:V,atI [x,y] ((0:Nat):Int)=some x:=λx y=>zar rfl
 have i1:∀x y:V,atI [x,y] ((1:Nat):Int)=some y:=λx y=>zar rfl
 refine⟨_,zad (zau 3 scFill.nd (zaj GS hr rfl mS FS.kp bS .nil zat (zab (pv 0) (zab (pv 1) zaf))))
  (zad (zcg hu (pv 0) (pv 2) (zbd zaf) rfl)
  (zah (zbp (zcv (zig (pv 3)))
   (zad (zau 4 scFill.nd (zaj GF hr rfl mF FF.kp bF .nil zat (zab (pv 0) (zab (pv 3) zaf))))
   (zad (za3 (zaj GI hr rfl mI FI.kp bI .nil zat (zab (pv 0) (zab (zay zcd (pv 3) zai (λ_ _=>rfl)) (zab (zay zcd (pv 3) zai (λ_ _=>rfl)) (zab (pv 2) (zab zhk zaf)))))))
   (zah (zbq Zr rfl (za8 (zcs zc9 (pv 4) (zc0 zai) zd7)) (zfc rfl (za4 (za9 5 scFill.nd) (za4 (za9 6 scFill.nd) zcl)))
    (zah (zbp (zaq zct (pv 6) (zbo hu (pv 0) (pv 2)) rfl)
     (zah (za3 (zaj GI hr rfl mI FI.kp bI .nil zat (zab (pv 0) (zab (pv 6) (zab (pv 5) (zab (pv 2) (zab (zay zcd (pv 3) zai (λ_ _=>rfl)) zaf)))))))) zaw))))))
   zaw))),?_⟩
 have new:∀(b1 m1:Int) (H1:Hp) (a:Nb),Pot H1 p b1 m1→Dr H1 d es→Keep [p] H H1→H1 a=none→∃H2,H2=upd (upd H1 a (.lst [])) d (.dK (putK (eV es) (Sum.inr x) (.ref a)))∧Pot H2 p b1 m1∧Dr H2 d (es++[(x,[],a)])∧Keep [p,d] H H2∧Keep [d] H1 H2∧H a=none:=λb1 m1 H1 a aR D1 k1 ha=>by
  have ka:Keep [] H1 (upd H1 a (.lst [])):=Keep.new ha
  have jb:Pot (upd H1 a (.lst [])) p b1 m1:=aR.keep ka (by simp)
  have npd:p≠d:=Qw (zhj aR D1.rn.dc)
  have nap:a≠p:=Qw (zaa aR.1 ha)
  have bK:rsOf (es++[(x,[],a)])=rsOf es++[(x,[])]:=by unfold rsOf;rw[List.map_append];rfl
  refine⟨_,rfl,jb.keep (Keep.wr (xs:=[d]) Qc) (by simpa using npd),⟨D1.rn.new ka ha hx zac,by rw[bK];exact za1.new _ _ D0.gd (by rw[zbi];exact hx),by rw[Qs];show _+1≤40;omega⟩,((k1.sub (by simp)).trans (ka.sub (by simp))).trans (Keep.wr (by simp)),(ka.sub (by simp)).trans (Keep.wr Qc),zak k1 ha (by simpa using nap)⟩
 have fE:∀y∈[p,d],y∈p::d::es.map (·.2.2):=λy hy=>by
  rcases Qe.mp hy with z | z
  ·rw[z];exact Qc
  ·rw[Qb.mp z];exact Qg _ Qc
 have lh:∀{a:Nb},H a=none→∀c∈(es++[(x,([]:List Str),a)]).map (·.2.2),c∈es.map (·.2.2)∨H c=none:=λ{a} cJ c hc=>by
  rw[Qp]at hc
  rcases Qi.mp hc with z | z
  ·exact .inl z
  ·rw[Qb.mp z];exact .inr cJ
 refine⟨_,rfl,_,rfl,p,d,b,m,es,rfl,hp,D0,λb1 m1 H1 aR k1=>?_,λt s b1 m1 H1 hft bf aq aR k1=>?_⟩
 ·have D1:=D0.pot hp k1
  refine⟨(by show 0≤sizeLine;decide),λa ha=>?_⟩
  obtain⟨H2,eH,aw,D2,sL,lF,cJ⟩:=new b1 m1 H1 a aR D1 k1 ha
  refine⟨_,rfl,_,rfl,d,_,rfl,DPut.k (k:=Sum.inr x) (by rw[zae (zaa D1.rn.dc ha)];exact D1.rn.dc) (by rw[Qa];omega),?_⟩
  rw[←eH]
  refine⟨_,rfl,_,rfl,iteF ?_⟩
  exact k b1 m1 _ H2 aw ⟨D2,by rw[Qp];rfl,lh cJ,sL.sub fE⟩
 ·have D1:=D0.pot hp k1
  refine⟨(by show 0≤sizeLine;decide),λa ha=>?_⟩
  obtain⟨H2,eH,aw,D2,sL,lF,cJ⟩:=new b1 m1 H1 a aR D1 k1 ha
  refine⟨_,rfl,_,rfl,d,_,rfl,DPut.k (k:=Sum.inr x) (by rw[zae (zaa D1.rn.dc ha)];exact D1.rn.dc) (by rw[Qa];omega),?_⟩
  rw[←eH]
  clear eH
  refine⟨_,rfl,_,rfl,iteT ?_⟩
  have aQ:=lF _ _ bf (by simpa using za2 bf D1.rn.dc (by intro z;cases z))
  have bK:rsOf (es++[(x,[],a)])=rsOf es++[(x,[])]:=by unfold rsOf;rw[List.map_append];rfl
  have iX:x∉(rsOf es).map (·.1):=by rw[zbi];exact hx
  have jX:IsSt (rsOf (es++[(x,[],a)])) s:=by
   obtain⟨q,h1,h2⟩:=aq
   rw[bK]
   exact⟨q,Qo _ h1,h2⟩
  refine⟨_,rfl,_,rfl,d,t,_,s,rfl,D2.rn.toRAt,jX,D2.gd,D2.few,aQ,λl as n H3 e8 bn pa nd hL k3=>?_⟩
  have D3:=D2.k0 k3
  have aA:Pot H3 p b1 m1:=aw.keep k3 (by simp)
  have cL:=k3 _ _ aQ (by simp)
  have gM:Keep [p,d] H H3:=sL.trans (k3.sub (by simp))
  obtain⟨e1,eD,e2,cp,q1,q2,qr,lB,cX⟩:=zhy D0.gd aq
  have bY:e2∈es++[(x,([]:List Str),a)]:=Qo _ cp
  have eO:(x,([]:List Str),a)∈es++[(x,([]:List Str),a)]:=Qn _ Qc
  have nex:e2.1≠x:=λq=>hx (q▸Qf.mpr ⟨e2,cp,rfl⟩)
  refine⟨_,rfl,_,rfl,t,_,_,_,rfl,rfl,SqT.of cL,i1 _ _,_,rfl,t,_,_,_,rfl,rfl,SqT.of cL,i0 _ _,_,rfl,d,_,e2,(x,[],a),some s.1,none,by rw[q2];rfl,D3.rn,bY,eO,nex,λy z=>by rw[←Qk z];exact lB,λy z=>(by cases z),Zk (D3.row e2 bY) (by decide),Zg _,λH4 R4 k4=>?_⟩
  have lA:((es++[(x,([]:List Str),a)]).map (·.1)).Nodup:=D3.rn.nd
  have hx5:(x,([]:List Str),a)∈setE (es++[(x,[],a)]) e2.1 (ins e2.2.1 (some s.1) x) e2.2.2:=zc1 eO (Qw nex)
  have vD:∀y∈[e2.2.2,a],y∈(es++[(x,([]:List Str),a)]).map (·.2.2):=λy hy=>by
   rcases Qe.mp hy with z | z
   ·rw[z];exact Qf.mpr ⟨e2,bY,rfl⟩
   ·rw[Qb.mp z];exact Qf.mpr ⟨_,eO,rfl⟩
  have notRow:∀{c:Nb} {u v:V},H3 c=some (.tup [u,v])→c∉(es++[(x,([]:List Str),a)]).map (·.2.2):=λhc z=>by
   obtain⟨e,he,rfl⟩:=Qf.mp z
   rw[D3.rn.ro e he]at hc
   cases hc
  have cV:as.length=n+1:=by
   have:=Yp pa
   rwa[run_len]at this
  have nlrow:l∉(es++[(x,([]:List Str),a)]).map (·.2.2):=λz=>by
   obtain⟨e,he,ee⟩:=Qf.mp z
   have:=D2.rn.ro e he
   rw[show e.2.2=l from ee,e8]at this
   cases this
  have nprow:p∉(es++[(x,([]:List Str),a)]).map (·.2.2):=λz=>by
   obtain⟨e,he,ee⟩:=Qf.mp z
   exact zb5 aA (D3.rn.ro e he) ee
  have k34:Keep ((es++[(x,([]:List Str),a)]).map (·.2.2)) H3 H4:=k4.sub vD
  have bv:=k34 _ _ bn nlrow
  have hnb:=run_b D2.gd D2.few jX nd
  have aJ:(as.map V.ref).length=n+1:=by rw[Qa,cV]
  refine⟨_,rfl,_,rfl,l,_,rfl,SqL.of bv,λl5 cz=>?_⟩
  rw[show(1:Int)=((1:Nat):Int) from rfl,zfz (by rw[aJ];omega),←Jq]
  have k45:Keep ((es++[(x,([]:List Str),a)]).map (·.2.2)) H3 (upd H4 l5 (.lst ((as.drop 1).map V.ref))):=k34.trans (Keep.new cz)
  have kJ:(upd H4 l5 (.lst ((as.drop 1).map V.ref))) l5=some (.lst ((as.drop 1).map V.ref)):=zac
  have R5:=R4.k0 (Keep.new (o:=.lst ((as.drop 1).map V.ref)) cz)
  have nl5row:l5∉(es++[(x,([]:List Str),a)]).map (·.2.2):=λz=>by
   rw[←zb8 lA bY (ins e2.2.1 (some s.1) x),←zb8 (e:=(x,([]:List Str),a)) (by rw[zax];exact lA) hx5 (ins [] none e2.1)]at z
   obtain⟨e,he,ee⟩:=Qf.mp z
   have:=R4.ro e he
   rw[show e.2.2=l5 from ee,cz]at this
   cases this
  generalize upd H4 l5 (.lst ((as.drop 1).map V.ref))=H5 at k45 kJ R5
  have F5:Fil (rsOf (es++[(x,[],a)])) (rsOf (setE (setE (es++[(x,[],a)]) e2.1 (ins e2.2.1 (some s.1) x) e2.2.2) x (ins [] none e2.1) a)) s x n 1:=by
   rw[zb4,zb4]
   have:=fil_leaf (L:=n) D0.gd iX aq bK nd
   rw[←q2,zbj R.nd cp]at this
   exact this
  have nP:∀i,IsSt (rsOf (es++[(x,[],a)])) (itr (rsOf (es++[(x,[],a)])) s i):=zgp (za1.clo _ D2.gd) jX
  have rH:row (rsOf (es++[(x,[],a)])) x=[]:=zbj lA eO
  have i5:((rsOf (es++[(x,([]:List Str),a)])).map (·.1)).Nodup:=by rw[zbi];exact lA
  have g0:∀{ao:List Ent} {H':Hp},RN H' d ao→ao.map (·.1)=(es++[(x,([]:List Str),a)]).map (·.1)→∀y∈(es++[(x,([]:List Str),a)]).map (·.1),∃e∈ao,e.1=y:=λR' nm y hy=>by
   rw[←nm]at hy
   exact Qf.mp hy
  refine⟨l5,rfl,⟨_,SqL.of kJ⟩,zby (xs:=(as.drop 1).map V.ref) (λi σ H'=>Aj2 (Ex2 λx5 x6=>σ=[some (.ref d),some (.ref p),some (.str x),some (.ref t),some (.ref l),x5,x6]) (Ex1 λ(ao:List Ent)=>Aj5 (RN H' d ao) (ao.map (·.1)=(es++[(x,([]:List Str),a)]).map (·.1)) (ao.map (·.2.2)=(es++[(x,([]:List Str),a)]).map (·.2.2)) (Fil (rsOf (es++[(x,[],a)])) (rsOf ao) s x n (i+1)) (Keep ((es++[(x,([]:List Str),a)]).map (·.2.2)) H3 H'∧H' l5=some (.lst ((as.drop 1).map V.ref)))))
   ⟨⟨_,_,rfl⟩,_,R5,by rw[zax,zax],by rw[zb8 (e:=(x,([]:List Str),a)) (by rw[zax];exact lA) hx5,zb8 lA bY],F5,k45,kJ⟩ (λi σ H' _ hh=>by obtain⟨_,_,h⟩:=hh;exact SqL.of h.h4.2) ?_ ?_⟩
  ·rintro i v σ H6 hv ⟨⟨x5,x6,rfl⟩,ao,R6,nm,am,F6,k6,dz⟩
   have hi:i+1<as.length:=by
    have:=(Zd.mp hv).1
    rw[Qa,Jp]at this
    omega
   have fO:v=.ref as[i+1]:=by
    rw[Qq,List.getElem?_drop,Nat.add_comm 1 i,Qd hi]at hv
    exact(Qk hv).symm
   subst fO
   obtain⟨aF,gY⟩:=zbk pa hi
   have eq:(run (rsOf (es++[(x,[],a)])) s (n+1))[i+1]=itr (rsOf (es++[(x,[],a)])) s (i+1):=by simp[Wb.run]
   rw[eq]at gY
   have vA:=k6 _ _ gY (notRow gY)
   have jV:=k6 _ _ cL (notRow cL)
   refine⟨as[i+1],_,rfl,SqT.of vA,rfl,_,_,rfl,_,_,rfl,rfl,?_⟩
   obtain⟨ex,cD,eex⟩:=g0 R6 nm x (Qf.mpr ⟨_,eO,rfl⟩)
   have g6:=DGet.k (k:=Sum.inr ex.1) R6.dc
   rw[zbu R6.nd cD,eex]at g6
   have qK:=R6.ro ex cD
   have erx:row (rsOf ao) x=ex.2.1:=by rw[←eex];exact zbj R6.nd cD
   have ij:=(zbx i5).mp (nP (i+1))
   obtain⟨cs0,lab0,C0⟩:=id D2.gd
   have iw:=C0.inn ij
   rw[zbi]at iw
   have qx:(itr (rsOf (es++[(x,[],a)])) s (i+1)).2≠x:=λe=>by rw[e,rH]at ij;cases ij
   refine⟨_,rfl,_,rfl,_,rfl,d,_,rfl,g6,ex.2.2,_,rfl,.inl (SqL.of qK),rfl,zce _,_,rfl,?_⟩
   rw[ze7]
   by_cases c2:(itr (rsOf (es++[(x,[],a)])) s (i+1)).2∈ex.2.1
   ·refine zcq (by rw [decide_eq_true c2];rfl) ?_
    exact⟨⟨_,_,rfl⟩,ao,R6,nm,am,F6.skip,k6,dz⟩
   ·refine zdv (by rw [decide_eq_false c2];rfl) ?_
    obtain⟨eo,fk,eeo⟩:=g0 R6 nm _ iw
    have ero:row (rsOf ao) (itr (rsOf (es++[(x,[],a)])) s (i+1)).2=eo.2.1:=by rw[←eeo];exact zbj R6.nd fk
    have nox:eo.1≠ex.1:=by rw[eeo,eex];exact qx
    have pX:∀e∈ao,e.2.1.length≤1000:=λe he=>by
     have:=za1.rows F6.gd (e.1,e.2.1) (Qf.mpr ⟨e,he,rfl⟩)
     rw[show(rsOf ao).length=ao.length from Qa ..]at this
     have h1:e.2.1.length≤ao.length:=this
     have e1:=congrArg List.length nm
     rw[Qa,Qa]at e1
     have:=D2.few
     omega
    refine⟨_,rfl,_,rfl,_,rfl,_,rfl,_,rfl,t,_,_,_,rfl,rfl,SqT.of jV,i1 _ _,d,ao,eo,ex,some (itr (rsOf (es++[(x,[],a)])) s (i+1)).1,some s.2,by rw[eeo,eex];rfl,R6,fk,cD,nox,λy z=>by rw[←Qk z,←ero];exact F6.su _ _ ij,λy z=>by rw[←Qk z,←erx];exact F6.in2,pX eo fk,pX ex cD,λH7 R7 k7=>?_⟩
    have vc:ex∈setE ao eo.1 (ins eo.2.1 (some (itr (rsOf (es++[(x,[],a)])) s (i+1)).1) ex.1) eo.2.2:=zc1 cD (Qw nox)
    have uz:∀y∈[eo.2.2,ex.2.2],y∈(es++[(x,([]:List Str),a)]).map (·.2.2):=λy hy=>by
     rw[←am]
     rcases Qe.mp hy with z | z
     ·rw[z];exact Qf.mpr ⟨eo,fk,rfl⟩
     ·rw[Qb.mp z];exact Qf.mpr ⟨ex,cD,rfl⟩
    have k7':=k7.sub uz
    refine⟨⟨_,_,rfl⟩,_,R7,by rw[zax,zax];exact nm,by rw[zb8 (by rw[zax];exact R6.nd) vc,zb8 R6.nd fk];exact am,?_,k6.trans k7',k7' _ _ dz nl5row⟩
    rw[zb4,zb4,eex,eeo]
    have:=F6.tie nd hL (by omega) nP i5 rH (by rw[erx];exact c2)
    rw[erx,ero]at this
    exact this
  ·rintro σ H6 ⟨⟨x5,x6,rfl⟩,ao,R6,nm,am,F6,k6,dz⟩
   have oC:ao.length=(es++[(x,([]:List Str),a)]).length:=by
    have:=congrArg List.length nm
    rwa[Qa,Qa]at this
   refine k b1 m1 ao H6 (aA.keep k6 nprow) ⟨⟨R6,F6.gd,by rw[oC];exact D2.few⟩,by rw[nm,Qp];rfl,λc hc=>?_,λc o ec hc=>k6 c o (gM c o ec λz=>hc (fE c z)) λz=>?_⟩
   ·rw [am] at hc
    exact lh cJ c hc
   ·rcases lh cJ c z with y | y
    ·exact hc (Qg _ (Qg _ y))
    ·rw[ec]at y;cases y
def scAway:zap [qR,qP, "_law_step_here"] [qR,qP] (zag sAway):=fsk
def ok_away(F:Fun K "_law_away" "_law_away" sAway f fd)(FS:Fun K "_law_step" "_law_step" zh2 fs fds)(bS:Binds K fds [qR,qP] [])(mS:mg "_law_step" = some (.ref fs))(GS:FnOk P w K mg base CX0 2 fs fds [qR,qP] spStep) :
  FnOk P w K mg base CX0 3 f fd [qR,qP] zfq:=by
 refine F.okL scAway (λcdv A outer s0 H vs Q E hr h=>?_)
 obtain⟨p,d,b,m,es,rfl,hp,D0,k⟩:=h
 have R:=D0.rn.toRAt
 have hu:=zbz hr
 have i0:∀x y:V,atI [x,y] ((0:Nat):Int)=some x:=λx y=>zar rfl
 have i1:∀x y:V,atI [x,y] ((1:Nat):Int)=some y:=λx y=>zar rfl
 refine⟨_,zad (zau 2 scAway.nd (zaj GS hr rfl mS FS.kp bS .nil zat (zab (pv 0) (zab (pv 1) zaf))))
  (zah (zbp (zcv (zig (pv 2)))
   (zad (za3 (zd8 Zq PySem.F.slot_list_remove PySem.F.type_list_remove mt_remove (zbo hu (pv 0) (zay zcd (pv 2) zai (λ_ _=>rfl))) (zab (zay zcd (pv 2) zai (λ_ _=>rfl)) zaf)))
   (zah (za3 (zd8 Zq PySem.F.slot_list_remove PySem.F.type_list_remove mt_remove (zbo hu (pv 0) (zay zcd (pv 2) zai (λ_ _=>rfl))) (zab (zay zcd (pv 2) zai (λ_ _=>rfl)) zaf)))))
   zaw)),?_⟩
 have fF:∀y∈[p],y∈p::d::es.map (·.2.2):=λy hy=>by rw[Qb.mp hy];exact Qc
 refine⟨_,rfl,_,rfl,p,d,b,m,es,rfl,hp,D0,λb1 m1 H1 aR k1=>?_,λt s b1 m1 H1 hft bf aq aR k1=>?_⟩
 ·refine ⟨_,rfl,_,rfl,iteF ?_⟩
  exact k b1 m1 es H1 aR ⟨D0.pot hp k1,(Zy _).symm,λc hc=>.inl hc,k1.sub fF⟩
 ·refine ⟨_,rfl,_,rfl,iteT ?_⟩
  have D1:=D0.pot hp k1
  obtain⟨e1,eD,e2,cp,q1,q2,qr,lB,cX⟩:=zhy D0.gd aq
  have g1:=DGet.k (k:=Sum.inr e1.1) D1.rn.dc
  rw[zbu D1.rn.nd eD,q1]at g1
  have au:=D1.rn.ro e1 eD
  refine⟨_,rfl,_,rfl,t,_,_,_,rfl,rfl,SqT.of bf,i0 _ _,d,_,rfl,g1,.inl ⟨rfl,_,SqL.of au⟩,_,rfl,t,_,_,_,rfl,rfl,SqT.of bf,i1 _ _,e1.2.2,_,s.2,rfl,rfl,au,qr,?_⟩
  have R2:=D1.rn.set eD (e1.2.1.erase s.2)
  have k2:Keep [e1.2.2] H1 (upd H1 e1.2.2 (.lst ((e1.2.1.erase s.2).map V.str))):=Keep.wr Qc
  generalize upd H1 e1.2.2 (.lst ((e1.2.1.erase s.2).map V.str))=H2 at R2 k2
  have aQ:=k2 _ _ bf (by simpa using za2 bf au (by intro z;cases z))
  have bY:e2∈setE es e1.1 (e1.2.1.erase s.2) e1.2.2:=zc1 cp (Qw cX)
  have g2:=DGet.k (k:=Sum.inr e2.1) R2.dc
  rw[zbu R2.nd bY,q2]at g2
  have da:=R2.ro e2 bY
  refine⟨_,rfl,_,rfl,t,_,_,_,rfl,rfl,SqT.of aQ,i1 _ _,d,_,rfl,g2,.inl ⟨rfl,_,SqL.of da⟩,_,rfl,t,_,_,_,rfl,rfl,SqT.of aQ,i0 _ _,e2.2.2,_,s.1,rfl,rfl,da,lB,?_⟩
  have R3:=R2.set bY (e2.2.1.erase s.1)
  have k3:Keep [e2.2.2] H2 (upd H2 e2.2.2 (.lst ((e2.2.1.erase s.1).map V.str))):=Keep.wr Qc
  generalize upd H2 e2.2.2 (.lst ((e2.2.1.erase s.1).map V.str))=H3 at R3 k3
  have jF:Keep [e1.2.2,e2.2.2] H1 H3:=(k2.sub (by simp)).trans (k3.sub (by simp))
  have eV:p∉[e1.2.2,e2.2.2]:=by
   have z1:=zb5 aR au
   have z2:=zb5 aR (D1.rn.ro e2 cp)
   simp
   exact⟨Qw z1,Qw z2⟩
  refine k b1 m1 _ H3 (aR.keep jF eV) ⟨⟨R3,?_,?_⟩,?_,λc hc=>.inl ?_,?_⟩
  ·rw [zb4,zb4]
   have h1n:e1.1∈(rsOf es).map (·.1):=by rw[zbi];exact Qf.mpr ⟨e1,eD,rfl⟩
   have h2n:e2.1∈(rsOf es).map (·.1):=by rw[zbi];exact Qf.mpr ⟨e2,cp,rfl⟩
   refine good_less D0.gd (v:=e1.1) (u:=e2.1) (by rw[zbj R.nd eD,q2];exact qr) (by rw[zbc,zbc]) ?_ ?_ λy h1 h2=>by rw[za5 h2,za5 h1]
   ·rw[za5 cX,za7 h1n,zbj R.nd eD,q2]
   ·rw[za7 (by rw[zbc];exact h2n),zbj R.nd cp,q1]
  ·unfold setE
   rw[Qa,Qa]
   exact D0.few
  ·rw[zax,zax,Zy]
  ·rw [zb8 (by rw [zax];exact R.nd) bY,zb8 R.nd eD] at hc
   exact hc
  ·refine fun c o ec hc=>jF c o (k1 c o ec fun z=>hc (fF c z)) ?_
   simp
   exact⟨out3 hc eD,out3 hc cp⟩
abbrev sLong:Stmt:=top 41
def at_last(ys:List α)(z:α):atI (ys++[z]) (-1)=some z:=by
 unfold atI ixN
 rw[Qs,if_neg (by decide),if_pos (by show -((ys.length+1:Nat):Int)≤-1;omega)]
 show(ys++[z])[((-1:Int)+((ys.length+1:Nat):Int)).toNat]?=some z
 rw[show((-1:Int)+((ys.length+1:Nat):Int)).toNat=ys.length by omega,Uw (Qh _),Nat.sub_self]
 rfl
inductive IspMade(ns:List Str→Prop)(vs:List V)(H:Hp)(Q:VK)(l:Nb)(zs:Ng):Prop
 |mk (h1:H l=some (.lst (zs.map V.str))) (h2:zs.Nodup) (h3:zs.length=40) (h4:∀(d:Nb) (es:List Ent) (H':Hp),H d=none→Dr H' d es→es≠[]→ns (es.map (·.1))→(∀e∈es,H e.2.2=none)→Keep [] H H'→Q (.ref d) H'):IspMade ns vs H Q l zs
def spLong:Sp:=λvs H Q _=>∃l zs,vs=[.ref l]∧IspMade (λn=>n=zs) vs H Q l zs
def scLong:zap [qN,qR, "_law_k",qB] [qN] (zag sLong):=fsk
def ok_long(F:Fun K "_law_long" "_law_long" sLong f fd)(FI:Fun K "_law_tie" "_law_tie" sTie fi fdi)(bI:Binds K fdi [qR, "_law_one",qB,qO, "_law_after"] [])(mI:mg "_law_tie" = some (.ref fi))(GI:FnOk P w K mg base CX0 2 fi fdi [qR, "_law_one",qB,qO, "_law_after"] spTie)(af:mg "len" = none)(bV:mg "range" = none):FnOk P w K mg base CX0 3 f fd [qN] spLong:=by
 refine F.okL scLong (λcdv A outer s0 H vs Q E hr h=>?_) λ_ _ _ _ ⟨_,_,e,_⟩=>e▸rfl
 obtain⟨l,zs,rfl,hl,ax,dG,k⟩:=h
 have hu:=zbz hr
 have av  := sizeLine_eq
 refine⟨_,zad (zau 1 scLong.nd (zge (zcz (zay zao (pv 0) zai (λ_ _=>rfl)) (zbd zaf) zgc) rfl rfl (by decide) (by decide)))
  (zad (zbq Zr rfl (pi_range2 rfl bV (zab zai (zab (zal zas (by rfl) af Zv (zab (pv 0) zaf)) zaf))) (za9 2 scLong.nd)
   (zad (zau 3 scLong.nd (zav zd0 (zbd (zab zhk zaf)) (zcs zc9 (pv 0) zd7 (zc0 (zav zfd (pv 2) zai)))))
   (zad (zcg hu (pv 1) (zay zao (pv 0) (pv 2) (λ_ _=>rfl)) (zbd zaf) rfl)
   (zah (za3 (zaj GI hr rfl mI FI.kp bI .nil zat (zab (pv 1) (zab (zay zao (pv 0) (zav zfd (pv 2) zai) (λ_ _=>rfl)) (zab (zay zao (pv 3) (pe_un un_neg zai) (λ_ _=>rfl)) (zab (zay zao (pv 0) (pv 2) (λ_ _=>rfl)) (zab zhk zaf)))))))))))
  (zah (zbn (pv 1)))),?_⟩
 have aJ:(zs.map V.str).length=40:=by rw[Qa,dG]
 have z0:0<zs.length:=by omega
 refine λd hd=>?_
 have k1:Keep [] H (upd H d (.dK [])):=Keep.new hd
 have cC:=k1 _ _ hl (by simp)
 refine⟨_,rfl,l,_,_,_,rfl,rfl,SqL.of cC,zar (j:=0) (by rw[Qq,Qd z0];rfl),(by show 0≤sizeLine;decide),λa ha=>⟨by rw[zae (zaa (o:=_) zac ha)];exact zac,[(Sum.inr zs[0],.ref a)],rfl,(by show 1≤15;decide),?_⟩⟩
 have nda:d≠a:=zaa (o:=_) zac ha
 have cJ:H a=none:=zak k1 ha (by simp)
 have k2:Keep [] H (upd (upd (upd H d (.dK [])) a (.lst [])) d (.dK (zcn [] [((Sum.inr zs[0]:Key),V.ref a)]))):=λc o ec _=>by
  rw[zae (zaa ec hd),zae (zaa ec cJ),zae (zaa ec hd)];exact ec
 have R2:RN (upd (upd (upd H d (.dK [])) a (.lst [])) d (.dK (zcn [] [((Sum.inr zs[0]:Key),V.ref a)]))) d [(zs[0],[],a)]:=by
  refine⟨⟨zac,λe he=>?_,Wq _ _⟩,Wq _ _⟩
  rw[Qb.mp he]
  show upd _ _ _ a=_
  rw[zae (Qw nda)]
  exact zac
 generalize upd (upd (upd H d (.dK [])) a (.lst [])) d (.dK (zcn [] [((Sum.inr zs[0]:Key),V.ref a)]))=H2 at k2 R2
 have ak:=k2 _ _ hl (by simp)
 have D2:Dr H2 d [(zs[0],[],a)]:=⟨R2,za1.new [] zs[0] za1.nil (by simp),by show 1≤40;decide⟩
 refine⟨_,rfl,l,_,rfl,.inl (SqL.of ak),1,40,by rw[aJ];rfl,⟨by decide,by decide,by decide,by decide⟩,?_⟩
 refine zdh (n:=39) (lo:=1) (λi σ H'=>Ex3 λ(es:List Ent) (x2 x3:Option V)=>Aj6 (σ=[some (.ref l),some (.ref d),x2,x3]) (Dr H' d es) (es.map (·.1)=zs.take (i+1)) (row (rsOf es) (zs.getD i zs[0])=if i=0 then[] else[zs.getD (i-1) zs[0]]) (∀e∈es,H e.2.2=none) (Keep [] H H'))
  ⟨_,none,none,rfl,D2,by rw[Qm z0];rfl,?_,λe he=>by rw[Qb.mp he];exact cJ,k2⟩ ?_ ?_
 ·rw [show zs.getD 0 zs[0]=zs[0] by simp [List.getD,z0]]
  exact zbj (e:=(zs[0],[],a)) R2.nd Qc
 ·rintro i σ H3 hi ⟨es,x2,x3,rfl,D3,cH,ar,fj,k3⟩
  have bn:=k3 _ _ hl (by simp)
  have r9:i<zs.length:=by omega
  have r8:i+1<zs.length:=by omega
  have gi:∀(j:Nat) (hj:j<zs.length),(zs.map V.str)[j]?=some (.str zs[j]):=λj hj=>by rw[Qq,Qd hj];rfl
  have gd:∀(j:Nat) (hj:j<zs.length),zs.getD j zs[0]=zs[j]:=λj hj=>by simp[List.getD,hj]
  refine⟨(by show 1≤sizeLine;decide),λp1 h1=>?_⟩
  have n1:l≠p1:=zaa bn h1
  refine⟨_,rfl,_,rfl,_,_,rfl,rfl,_,rfl,l,_,rfl,SqL.of (by rw[zae n1];exact bn),λp2 h2=>?_⟩
  have cX:p1≠p2:=zaa (o:=_) zac h2
  rw[show(1:Int)+(i:Int)-1=(i:Int) by omega,cut_to (by rw[aJ];omega),←Uh]
  refine⟨p1,p2,_,_,rfl,rfl,(by rw[zae cX];exact zac),zac,by rw[Qa,Zi];show 1+_≤_;omega,λp3 h3=>?_⟩
  have k4:Keep [] H3 (upd (upd (upd H3 p1 (.lst [.non])) p2 (.lst ((zs.take i).map V.str))) p3 (.lst ([.non]++(zs.take i).map V.str))):=((Keep.new h1).trans (Keep.new h2)).trans (Keep.new h3)
  have lW:(upd (upd (upd H3 p1 (.lst [.non])) p2 (.lst ((zs.take i).map V.str))) p3 (.lst ([.non]++(zs.take i).map V.str))) p3=some (.lst ([.non]++(zs.take i).map V.str)):=zac
  generalize upd (upd (upd H3 p1 (.lst [.non])) p2 (.lst ((zs.take i).map V.str))) p3 (.lst ([.non]++(zs.take i).map V.str))=H4 at k4 lW
  have D4:=D3.k0 k4
  have bv:=k4 _ _ bn (by simp)
  refine⟨(by show 0≤sizeLine;decide),λa ha=>?_⟩
  have k5:Keep [] H4 (upd H4 a (.lst [])):=Keep.new ha
  have cz:=k5 _ _ bv (by simp)
  have eN:zs[i+1]∉es.map (·.1):=λz=>by
   rw[cH]at z
   obtain⟨j,hj,e⟩:=Zp z
   rw[Zi]at hj
   rw[Ws]at e
   have:=(Yf ax).mp e
   omega
  have aS:es.length<40:=by
   have:=congrArg List.length cH
   rw[Qa,Zi]at this
   omega
  refine⟨_,rfl,_,rfl,_,rfl,l,_,_,_,rfl,rfl,SqL.of cz,by rw[show(1:Int)+(i:Int)=((i+1:Nat):Int) by omega];exact zar (gi _ r8),d,_,rfl,DPut.k (k:=Sum.inr zs[i+1]) (k5 _ _ D4.rn.dc (by simp)) (by rw[Qa];omega),?_⟩
  have R6:=D4.rn.new k5 ha eN zac
  have nld:l≠d:=za2 cz (k5 _ _ D4.rn.dc (by simp)) (by intro z;cases z)
  have nbd:p3≠d:=za2 lW D4.rn.dc (by intro z;cases z)
  have k6:Keep [d] H3 (upd (upd H4 a (.lst [])) d (.dK (putK (eV es) (Sum.inr zs[i+1]) (.ref a)))):=((k4.trans k5).sub (by simp)).trans (Keep.wr Qc)
  have sG:Keep [d] H4 (upd (upd H4 a (.lst [])) d (.dK (putK (eV es) (Sum.inr zs[i+1]) (.ref a)))):=(k5.sub (by simp)).trans (Keep.wr Qc)
  generalize upd (upd H4 a (.lst [])) d (.dK (putK (eV es) (Sum.inr zs[i+1]) (.ref a)))=H6 at R6 k6 sG
  have dz:=sG _ _ bv (by simpa using nld)
  have lV:=sG _ _ lW (by simpa using nbd)
  have oZ:H a=none:=zak ((k3.trans k4)) ha (by simp)
  obtain⟨e,he,ee⟩:∃e∈es,e.1=zs[i]:=by
   have:zs[i]∈es.map (·.1):=by
    rw[cH,Qm r9]
    exact Qn _ Qc
   exact Qf.mp this
  have he6:e∈es++[(zs[i+1],([]:List Str),a)]:=Qo _ he
  have sX:(zs[i+1],([]:List Str),a)∈es++[(zs[i+1],([]:List Str),a)]:=Qn _ Qc
  have nex:e.1≠zs[i+1]:=λq=>eN (q▸Qf.mpr ⟨e,he,rfl⟩)
  have her:e.2.1=if i=0 then[] else[zs.getD (i-1) zs[0]]:=by
   rw[←zbj D3.rn.nd he,ee,←gd i r9];exact ar
  obtain⟨c,hc,hcr,fB⟩:∃c:Option Str,atI ([V.non]++(zs.take i).map V.str) (-1)=some (zgv c)∧(∀y,c=some y→y∈e.2.1)∧(c=none→e.2.1=[]):=by
   cases i with
   |zero=>exact⟨none,rfl,λy z=>(by cases z),λ_=>by rw[her,if_pos rfl]⟩
   | succ j =>
    have hj:j<zs.length:=by omega
    refine⟨some zs[j],?_,λy z=>?_,λz=>(by cases z)⟩
    ·rw [Qm hj,Qp,← Qy]
     exact at_last _ _
    ·rw [her,if_neg (Nat.succ_ne_zero j),← Qk z,Nat.add_sub_cancel,gd j hj]
     exact Qc
  refine⟨_,rfl,_,rfl,_,rfl,_,_,rfl,rfl,l,_,_,_,rfl,rfl,SqL.of dz,by rw[show(1:Int)+(i:Int)-1=(i:Int) by omega];exact zar (gi _ r9),_,rfl,_,rfl,p3,_,_,_,rfl,rfl,SqL.of lV,hc,_,rfl,_,rfl,l,_,_,_,rfl,rfl,SqL.of dz,by rw[show(1:Int)+(i:Int)=((i+1:Nat):Int) by omega];exact zar (gi _ r8),?_⟩
  have bK:rsOf (es++[(zs[i+1],[],a)])=rsOf es++[(zs[i+1],[])]:=by unfold rsOf;rw[List.map_append];rfl
  have iX:zs[i+1]∉(rsOf es).map (·.1):=by rw[zbi];exact eN
  refine⟨d,_,e,(zs[i+1],[],a),c,none,by rw[ee];rfl,R6,he6,sX,nex,hcr,λy z=>(by cases z),Zk (D3.row e he) (by decide),Zg _,λH7 R7 k7=>?_⟩
  have jM:(zs[i+1],([]:List Str),a)∈setE (es++[(zs[i+1],[],a)]) e.1 (ins e.2.1 c zs[i+1]) e.2.2:=zc1 sX (Qw nex)
  refine⟨_,_,_,rfl,⟨R7,?_,?_⟩,?_,?_,λe' aN=>?_,λc' o ec _=>k7 c' o (k6 c' o (k3 c' o ec (by simp)) (by simpa using zaa ec hd)) ?_⟩
  ·rw [zb4,zb4,bK]
   exact za1.leaf (rsOf es) _ (e.1,e.2.1) c D3.gd iX (Qf.mpr ⟨e,he,rfl⟩) hcr fB
  ·unfold setE
   rw[Qa,Qa,Qs]
   show _+1≤40
   omega
  ·rw[zax,zax,Qp,cH,Qm r8];rfl
  ·rw [if_neg (Nat.succ_ne_zero i),Nat.add_sub_cancel,gd _ r8,gd _ r9,zb4,zb4,za7]
   ·rw[←ee];rfl
   ·rw[zbc,zbi];exact Qf.mpr ⟨_,sX,rfl⟩
  ·have:e'.2.2∈(es++[(zs[i+1],([]:List Str),a)]).map (·.2.2):=by
    rw[←zb8 R6.nd he6 (ins e.2.1 c zs[i+1]),←zb8 (e:=(zs[i+1],([]:List Str),a)) (by rw[zax];exact R6.nd) jM (ins [] none e.1)]
    exact Qf.mpr ⟨e',aN,rfl⟩
   obtain⟨e'',h1,h2⟩:=Qf.mp this
   rw[←h2]
   rcases Qi.mp h1 with z | z
   ·exact fj _ z
   ·rw[Qb.mp z];exact oZ
  ·simp
   exact⟨λz=>(by rw[z,fj e he]at ec;cases ec),λz=>(by rw[z,oZ]at ec;cases ec)⟩
 ·rintro σ H3 ⟨es,x2,x3,rfl,D3,cH,ar,fj,k3⟩
  have kI:es.map (·.1)=zs:=by rw[cH,Qx (by omega)]
  refine⟨_,rfl,k d es H3 hd D3 (λz=>?_) kI fj k3⟩
  rw[z]at kI
  rw[←kI]at dG
  cases dG
abbrev sRows:Stmt:=top 43
def zhl{α β:Type}{R:α→β→Prop}{as:List α}{bs:List β}(h:Paired R as bs):Paired R as.reverse bs.reverse:=by
 induction h with
 |nil=>exact .nil
 |cons h t ih=>rw[Kl,Kl];exact zbl ih (.cons h .nil)
inductive IspRows(vs:List V)(H:Hp)(Q:VK):Prop
 |mk (p d:Nb) (b m:Int) (es:List Ent) (h0:vs=[.ref d,.ref p]) (h1:Pot H p b m) (h2:Dr H d es)
  (h3:∀(l:Addr) (as:List Addr) (bz ao:List Ent) (b' m':Int) (H':Hp),RwAt H' l as bz→ao.Perm es→zg0 bz ao→Pot H' p b' m'→Keep [p] H H'→Q (.ref l) H'):IspRows vs H Q
def spRows:Sp:=λvs H Q _=>IspRows vs H Q
def scRows:zap [qR,qP, "_law_found", "_law_place", "_law_at"] [qR,qP] (zag sRows):=fsk
def ok_rows{f ft:Nb}{fd fdt:No}(F:Fun K "_law_rows" "_law_rows" sRows f fd)(FT:Fun K qD qD zga ft fdt)(bT:Binds K fdt [qP,qM] [])(mT:mg qD=some (.ref ft))(GT:FnOk P w K mg base CX0 1 ft fdt [qP,qM] zeg)(af:mg "len" = none):FnOk P w K mg base CX0 2 f fd [qR,qP] spRows:=by
 refine F.okL scRows (λcdv A outer s H vs Q E hr h=>?_)
 obtain⟨p,d,b,m,es,rfl,hp,D0,k⟩:=h
 have R:=D0.rn.toRAt
 have hu:=zbz hr
 have av  := sizeLine_eq
 refine⟨_,zad (zau 2 scRows.nd (zbd zaf))
  (zad (ze2 (zbq Zr rfl (ze3 (pv 0)) (za9 3 scRows.nd)
   (zad (zau 4 scRows.nd (zaj GT hr rfl mT FT.kp bT .nil zat (zab (pv 1) (zab (zav zbv (zal zas (by rfl) af Zv (zab (zbo hu (pv 0) (pv 3)) zaf)) zai) zaf))))
   (zah (za3 (zd8 Zq Wn Wm zcw (pv 2)
    (zab (zgd (zab (pv 3) (zab (zav zd0 (zcs zc9 (zbo hu (pv 0) (pv 3)) (zc0 (pv 4)) zd7) (zcs zc9 (zbo hu (pv 0) (pv 3)) zd7 (zc0 (pv 4)))) zaf))) zaf)))))))
  (zad (zbp (zaq op_eq (zaj GT hr rfl mT FT.kp bT .nil zat (zab (pv 1) (zab zai zaf))) zai (zba _))
   (zah (za3 (pe_bm0 Zq PySem.F.slot_list_reverse PySem.F.type_list_reverse mt_reverse (pv 2)))) zaw)
  (zah (zbn (pv 2))))),?_⟩
 have ax:(es.map (·.1)).Nodup:=R.nd
 have aI:=D0.row
 have aS:=D0.few
 refine⟨(by show 0≤sizeLine;decide),λro cM=>?_⟩
 have nfz:∀o' u',H d≠some (.frz o' u'):=λo' u' z=>by rw[R.dc]at z;cases z
 have npd:p≠d:=Qw (zhj hp R.dc)
 have npr:p≠ro:=zaa hp.1 cM
 have dq:d≠ro:=zaa R.dc cM
 have k1:Keep [] H (upd H ro (.lst [])):=Keep.new cM
 have o8:(upd H ro (.lst [])) ro=some (.lst []):=zac
 generalize upd H ro (.lst [])=H1 at k1 o8
 have R1:RAt H1 d es:=R.keep k1 (by simp) (λ_ _=>by simp)
 have aR:Pot H1 p b m:=hp.keep k1 (by simp)
 have rowne:∀e∈es,e.2.2∉[p,d,ro]:=λe he=>by
  have h1:=R.ro e he
  simp only[Qe,Wa,or_false,not_or]
  exact⟨zb5 hp h1,za2 h1 R.dc (by intro z;cases z),zaa h1 cM⟩
 refine⟨_,rfl,d,_,rfl,R1.dc,λo=>zfx (λi σ H'=>Aj4 (Ex2 λx3 x4=>σ=[some (.ref d),some (.ref p),some (.ref ro),x3,x4]) (H' d=some (.frz o (.dK (eV es)))) (Keep [p,d,ro] H1 H') (Ex4 λ(b' m':Int) (as:Nl) (bz:List Ent)=>Aj6 (Pot H' p b' m') (H' ro=some (.lst (as.map V.ref))) (Paired (λa (e:Ent)=>H' a=some (.tup [.str e.1,.ref e.2.2])) as bz) (∀e∈bz,H' e.2.2=some (.lst (e.2.1.map V.str))) (zg0 bz (es.take i)) (∀e∈bz,e.2.2≠ro)))
  ⟨⟨_,_,rfl⟩,zac,Keep.wr (by simp),b,m,[],[],aR.keep (xs:=[d]) (Keep.wr (by simp)) (by simpa using npd),by rw[zae (Qw dq)];exact o8,.nil,λe he=>(by cases he),.nil,λe he=>(by cases he)⟩ (λi σ H' _ hh=>hh.2) ?_ ?_⟩
 ·rintro i pr σ H2 cF ⟨⟨x3,x4,rfl⟩,hz,k2,b2,m2,as,bz,aw,ke,dO,fT,bp,rowro⟩
  have hi:i<es.length:=by
   have:=(Zd.mp cF).1
   rwa[Qa]at this
  have g1:pr=((Sum.inr es[i].1:Key),V.ref es[i].2.2):=by
   rw[Qq,Qd hi]at cF
   exact(Qk cF).symm
  subst g1
  have ba:es[i]∈es:=Qv hi
  have tk:es.take (i+1)=es.take i++[es[i]]:=Qm hi
  have cV:as.length=i:=by
   rw[Yp dO,Yp bp,Zi];lia
  generalize es[i]=e at ba tk
  have tV:=aI _ ba
  have bQ:=R1.ro _ ba
  have d8:=k2 _ _ bQ (rowne _ ba)
  have aJ:(e.2.1.map V.str).length=e.2.1.length:=Qa ..
  have dg:∀{H':Hp},H' d=some (.frz o (.dK (eV es)))→DGet H' d (.str e.1) (some (.ref e.2.2)):=λca=>.inl ⟨_,Sum.inr e.1,.inr ⟨o,ca⟩,rfl,(zbu ax ba).symm⟩
  refine⟨_,rfl,_,rfl,_,rfl,d,.ref e.2.2,rfl,dg hz,e.2.2,_,rfl,.inl (SqL.of d8),_,_,rfl,rfl,p,b2,m2,_,rfl,aw,(by rw[aJ];lia),(by rw[aJ];lia),λj3 b3 m3 H3 hj3 ux aA fG=>?_⟩
  have k3:=zbf fG
  obtain⟨j,rfl⟩:=Zt hj3
  rw[aJ]at ux
  have hj:j≤e.2.1.length:=by lia
  have nrop:ro≠p:=Qw npr
  have kb:=k3 _ _ ke (by simpa using nrop)
  have fV:=k3 _ _ d8 (by simpa using zb5 aw d8)
  have dH:=k3 _ _ hz (by simpa using Qw npd)
  have tt:Paired (λa (e:Ent)=>H3 a=some (.tup [.str e.1,.ref e.2.2])) as bz:=Paired.imp' (λa e h=>k3 _ _ h (by simpa using za2 h aw.1 (by intro z;cases z))) dO
  have tS:∀e∈bz,H3 e.2.2=some (.lst (e.2.1.map V.str)):=λe he=>k3 _ _ (fT e he) (by simpa using zb5 aw (fT e he))
  refine⟨_,rfl,.inl ⟨rfl,_,SqL.of kb⟩,.str e.1,rfl,_,rfl,_,rfl,d,_,rfl,dg dH,_,rfl,_,rfl,e.2.2,_,rfl,SqL.of fV,λq1 h1=>?_⟩
  have n1:e.2.2≠q1:=zaa fV h1
  have nd1:d≠q1:=zaa dH h1
  refine⟨_,rfl,_,rfl,d,_,rfl,dg (by rw[zae nd1];exact dH),_,rfl,_,rfl,e.2.2,_,rfl,SqL.of (by rw[zae n1];exact fV),λq2 h2=>?_⟩
  have cX:q1≠q2:=zaa (o:=_) zac h2
  refine⟨q1,q2,_,_,rfl,rfl,(by rw[zae cX];exact zac),zac,?_,λq3 h3=>?_⟩
  ·have c1:=zb0 (e.2.1.map V.str) (some (j:Int)) none
   have c2:=zb0 (e.2.1.map V.str) none (some (j:Int))
   rw[aJ]at c1 c2
   lia
  have ecut:cutV (e.2.1.map V.str) (some (j:Int)) none++cutV (e.2.1.map V.str) none (some (j:Int))=(e.2.1.drop j++e.2.1.take j).map V.str:=by
   rw[zfz (by rw[aJ];exact hj),cut_to (by rw[aJ];exact hj),Qp,Jq,Uh]
  rw[ecut]
  have k5:Keep [] H3 (upd (upd (upd H3 q1 (.lst (cutV (e.2.1.map V.str) (some (j:Int)) none))) q2 (.lst (cutV (e.2.1.map V.str) none (some (j:Int))))) q3 (.lst ((e.2.1.drop j++e.2.1.take j).map V.str))):=((Keep.new h1).trans (Keep.new h2)).trans (Keep.new h3)
  have u3:(upd (upd (upd H3 q1 (.lst (cutV (e.2.1.map V.str) (some (j:Int)) none))) q2 (.lst (cutV (e.2.1.map V.str) none (some (j:Int))))) q3 (.lst ((e.2.1.drop j++e.2.1.take j).map V.str))) q3=some (.lst ((e.2.1.drop j++e.2.1.take j).map V.str)):=zac
  have nq3ro:q3≠ro:=Qw (zaa (((Keep.new (xs:=[]) h1).trans (Keep.new h2)) _ _ kb (by simp)) h3)
  generalize upd (upd (upd H3 q1 (.lst (cutV (e.2.1.map V.str) (some (j:Int)) none))) q2 (.lst (cutV (e.2.1.map V.str) none (some (j:Int))))) q3 (.lst ((e.2.1.drop j++e.2.1.take j).map V.str))=H5 at k5 u3
  refine⟨(by show 2≤sizeLine;decide),λt ht=>?_⟩
  have k6:Keep [] H3 (upd H5 t (.tup [.str e.1,.ref q3])):=k5.trans (Keep.new ht)
  have jV:(upd H5 t (.tup [.str e.1,.ref q3])) t=some (.tup [.str e.1,.ref q3]):=zac
  have ja:(upd H5 t (.tup [.str e.1,.ref q3])) q3=some (.lst ((e.2.1.drop j++e.2.1.take j).map V.str)):=by rw[zae (zaa u3 ht)];exact u3
  generalize upd H5 t (.tup [.str e.1,.ref q3])=H6 at k6 jV ja
  have o7:=k6 _ _ kb (by simp)
  refine⟨ro,_,_,rfl,rfl,o7,by rw[Qa];lia,?_⟩
  have keepro:∀{a:Nb} {u:HO},H6 a=some u→a≠ro→(upd H6 ro (.lst (as.map V.ref++[V.ref t]))) a=some u:=λ{a u} e ne=>by rw[zae ne];exact e
  have tupro:∀{a:Nb} {xs:List V},H6 a=some (.tup xs)→a≠ro:=λ{a xs} e=>za2 e o7 (by intro z;cases z)
  refine⟨⟨_,_,rfl⟩,by rw[zae dq];exact k6 _ _ dH (by simp),((k2.trans (k3.sub (by simp))).trans (k6.sub (by simp))).trans (Keep.wr (by simp)),b3,m3,as++[t],bz++[(e.1,e.2.1.drop j++e.2.1.take j,q3)],(aA.keep k6 (by simp)).keep (xs:=[ro]) (Keep.wr (by simp)) (by simpa using npr),by rw[zac,Qp];rfl,?_,λe' he=>?_,?_,λe' he=>?_⟩
  ·exact zbl (Paired.imp' (λa e h=>keepro (k6 _ _ h (by simp)) (tupro (k6 _ _ h (by simp)))) tt) (.cons (keepro jV (tupro jV)) .nil)
  ·rcases Qi.mp he with z | z
   ·exact keepro (k6 _ _ (tS e' z) (by simp)) (rowro e' z)
   ·rw[Qb.mp z];exact keepro ja nq3ro
  ·rw [tk]
   exact zbl bp (.cons ⟨rfl,j,rfl⟩ .nil)
  ·rcases Qi.mp he with z | z
   ·exact rowro e' z
   ·rw[Qb.mp z];exact nq3ro
 ·rintro σ H2 ⟨⟨x3,x4,rfl⟩,hz,k2,b2,m2,as,bz,aw,ke,dO,fT,bp,rowro⟩
  rw[Qa,Qx (Qh _)]at bp
  refine⟨d,o,_,hz,nfz,?_⟩
  have kf:Keep [p,ro] H1 (upd H2 d (.dK (eV es))):=λc u ec hc=>by
   by_cases aB:c=d
   ·subst aB
    rw[zac,←R1.dc];exact ec
   ·rw [zae aB]
    refine k2 c u ec ?_
    simp only[Qe,Wa,or_false,not_or]at hc ⊢
    exact⟨hc.1,aB,hc.2⟩
  have aA:Pot (upd H2 d (.dK (eV es))) p b2 m2:=aw.keep (xs:=[d]) (Keep.wr (by simp)) (by simpa using npd)
  have pQ:RwAt (upd H2 d (.dK (eV es))) ro as bz:=⟨by rw[zae (Qw dq)];exact ke,Paired.imp' (λa e h=>by rw[zae (za2 h hz (by intro z;cases z))];exact h) dO,λe he=>by rw[zae (za2 (fT e he) hz (by intro z;cases z))];exact fT e he⟩
  generalize upd H2 d (.dK (eV es))=H3 at kf aA pQ
  have jF:Keep [p,ro] H H3:=(k1.sub (by simp)).trans kf
  have nrop:ro≠p:=Qw npr
  refine⟨_,rfl,p,b2,m2,2,rfl,aA,by decide,by decide,λj4 b4 m4 H4 rF rE ci iT=>?_⟩
  have k4:=zbf iT
  have R4:RwAt H4 ro as bz:=⟨k4 _ _ pQ.ls (by simpa using nrop),Paired.imp' (λa e h=>k4 _ _ h (by simpa using za2 h aA.1 (by intro z;cases z))) pQ.ts,λe he=>k4 _ _ (pQ.ro e he) (by simpa using zb5 aA (pQ.ro e he))⟩
  have lE:Keep [p,ro] H H4:=jF.trans (k4.sub (by simp))
  have out:∀{H':Hp},Keep [p,ro] H H'→Keep [p] H H':=λkk c o ec hc=>kk c o ec (by simp at hc ⊢;exact⟨hc,zaa ec cM⟩)
  refine⟨rfl,_,rfl,?_⟩
  refine ite2 (λ_=>?_) (λ_=>?_)
  ·refine ⟨_,rfl,.inl ⟨rfl,_,SqL.of R4.ls⟩,ro,_,rfl,rfl,R4.ls,?_⟩
   have tupro:∀{a:Nb} {xs:List V},H4 a=some (.tup xs)→a≠ro:=λ{a xs} e=>za2 e R4.ls (by intro z;cases z)
   refine⟨_,rfl,k ro as.reverse bz.reverse es.reverse b4 m4 _ ⟨by rw[zac,List.map_reverse],zhl (Paired.imp' (λa e h=>by rw[zae (tupro h)];exact h) R4.ts),λe he=>?_⟩ (Jj es) (zhl bp) (ci.keep (xs:=[ro]) (Keep.wr (by simp)) (by simpa using npr)) (out (lE.trans (Keep.wr (by simp))))⟩
   rw[zae (rowro e (List.mem_reverse.mp he))]
   exact R4.ro e (List.mem_reverse.mp he)
  ·exact⟨_,rfl,k ro as bz es b4 m4 H4 R4 (List.Perm.refl _) bp ci (out lE)⟩
end
end K21
end
section
namespace L2
open PySem PySem.Spec PyProof.Rows
def lc_map{K:Na}{g:TG}{te:TE}{Q:VK}{a:Nb}{τ:St}{H:Hp}{xs:List V}(T:St→Prop)(f:V→V)(ha:SqL K H a xs)(hn:xs.length≤sizeLine)(h0:T τ)(hs:∀x∈xs,∀τ,T τ→∀k:V→St→Hp→Prop,(∀τ2,T τ2→k (f x) τ2 H)→g x τ H λ τ2 H2=>te τ2 H2 λy H4=>k y τ2 H4)(q:∀D,H D=none→Q (.ref D) (upd H D (.lst (xs.map f)))):rLC g tAll te Q (Itl K a) τ H:=by
 refine⟨λi m ys τ H1=>Aj5 (H1=H) (T τ) (m=xs.length-i) (i≤xs.length) (ys=(xs.take i).map f),⟨_,rfl,h0,rfl,Zg _,rfl⟩,?_⟩
 rintro i m ys τ H1 ⟨rfl,ht,rfl,hi,rfl⟩
 by_cases ag:i<xs.length
 ·refine .inr ⟨⟨xs,xs[i],ha,Qd ag⟩,by rw [Qa,Zi];lia,?_⟩
  rintro x H' ⟨rfl,hx⟩
  have cv:=hx xs ha
  rw[Qd ag]at cv
  have jL:xs[i]=x:=Qk cv
  refine hs x (jL▸Qv ag) τ ht (λy τ2 H4=>∃m',m'<xs.length-i∧Aj5 (H4=H') (T τ2) (m'=xs.length-(i+1)) (i+1≤xs.length) ((xs.take i).map f++[y]=(xs.take (i+1)).map f)) λ τ2 h2=>?_
  exact⟨_,by exact zar1 ‹_›,rfl,h2,rfl,ag,by rw[Qm ag,Qp,jL];rfl⟩
 ·have e:i=xs.length:=by exact zar3 ‹_› ‹_›
  subst e
  refine .inl ⟨⟨xs,ha,Qh _⟩,λD hD=>?_⟩
  rw[Qx (Qh _)]
  exact q D hD
def zih{X:Cx}{K:Na}(hK:X.K=K):OpR X (compareOp .NotIn) (rIn K true):=hK▸zct
end L2
namespace L2
def tOr_all{t u:TT}{σ:St}{H:Hp}{Q:Bool→Hp→Prop}(I:Hp→Prop)(h0:I H)(ht:∀H,I H→∀k:Bool→Hp→Prop,(∀c H',I H'→k c H')→t σ H k)(hu:∀H,I H→∀k:Bool→Hp→Prop,(∀c H',I H'→k c H')→u σ H k)(q:∀c H',I H'→Q c H'):tOr t u σ H Q :=
 ht _ h0 _ λc H' h=>by
  show if c=true then Q true H' else u σ H' Q
  cases c with
  |true=>exact iteT (q _ _ h)
  |false=>exact iteF (hu _ h _ q)
end L2
namespace K21
open PySem L2 Wb
abbrev zg6:Stmt:=top 44
structure HAt(H:Hp)(u:Nb)(hs:List (Str×Int)):Prop where
 dc:H u=some (.dK (hs.map λe=>((Sum.inr e.1:Key),V.int e.2)))
 nd:(hs.map (·.1)).Nodup
def zef{hs:List (Str×Int)}{x:Str}(h:x∉hs.map (·.1)):valV (hs.map λe=>((Sum.inr e.1:Key),V.int e.2)) (Sum.inr x)=none:=by
 induction hs with
 |nil=>rfl
 |cons a t ih =>
  rw[Ql,Qe,not_or]at h
  rw[Ql,zbh]
  ·exact ih h.2
  ·intro q;exact h.1 (Wi q).symm
def zcf{hs:List (Str×Int)}(nd:(hs.map (·.1)).Nodup){e:Str×Int}(h:e∈hs):valV (hs.map fun e=>((Sum.inr e.1:Key),V.int e.2)) (Sum.inr e.1)=some (.int e.2):=by
 induction hs with
 |nil=>cases h
 | cons a t ih =>
  rw[Ql,Qr]at nd
  rw[Ql]
  rcases Qe.mp h with z | z
  ·subst z;exact zbw rfl
  ·rw [zbh]
   ·exact ih nd.2 z
   ·intro q
    exact nd.1 (by rw[Wi q];exact Qf.mpr ⟨e,z,rfl⟩)
def HAt.keep{H H':Hp}{u:Nb}{hs:List (Str×Int)}{xs:Nl}(h:HAt H u hs)(k:Keep xs H H')(hu:u∉xs):HAt H' u hs:=⟨k _ _ h.dc hu,h.nd⟩
def HAt.pot{H H':Hp}{u p:Nb}{b m:Int}{hs:List (Str×Int)}(r:HAt H u hs)(h:Pot H p b m)(k:Keep [p] H H'):HAt H' u hs :=
 r.keep k (by simpa using zhj h r.dc)
def hueV(hs:List (Str×Int))(z:Str):V:=(valV (hs.map λe=>((Sum.inr e.1:Key),V.int e.2)) (Sum.inr z)).getD .non
def hueV_is(hs:List (Str×Int))(z:Str):hueV hs z=.non∨∃v,hueV hs z=.int v:=by
 unfold hueV
 induction hs with
 |nil=>exact .inl rfl
 |cons a t ih =>
  rw[Ql]
  by_cases h:a.1=z
  ·rw[h,zbw rfl];exact .inr ⟨_,rfl⟩
  ·rw[zbh (λq=>h (Wi q))];exact ih
def flat_hues(hs:List (Str×Int))(zs:Ng):(zs.map (hueV hs)).all zdw=true:=by
 rw[Uz]
 intro v hv
 obtain⟨z,_,rfl⟩:=Qf.mp hv
 rcases hueV_is hs z with h | ⟨n,h⟩<;>rw[h]<;>rfl
def inV_hues(hs:List (Str×Int))(zs:Ng)(n:Int):inV (.int n) (zs.map (hueV hs))=true↔V.int n∈zs.map (hueV hs):=by
 unfold inV
 rw[Yq]
 constructor
 ·rintro ⟨v,hv,e⟩
  obtain⟨z,hz,rfl⟩:=Qf.mp hv
  rcases hueV_is hs z with h | ⟨j,h⟩
  ·rw[h]at e;cases e
  ·rw [h] at e
   have:j=n:=eq_of_beq e
   rw[←this,←h];exact hv
 ·intro h
  exact⟨_,h,beq_self_eq_true n⟩
def HAt.new{H:Hp}{u:Nb}{hs:List (Str×Int)}(h:HAt H u hs){x:Str}(v:Int)(hx:x∉hs.map (·.1)):HAt (upd H u (.dK (putK (hs.map λe=>((Sum.inr e.1:Key),V.int e.2)) (Sum.inr x) (.int v)))) u (hs++[(x,v)]):=by
 refine⟨by rw[zac,zdp _ (zef hx),Qp];rfl,?_⟩
 rw[Qp,Zb]
 refine⟨h.nd,Qr.mpr ⟨by simp,Zn⟩,λy hy z hz e=>?_⟩
 have ca:z=x:=by simpa using hz
 exact hx (by rw[←ca,←e];exact hy)
inductive IspHues(vs:List V)(H:Hp)(Q:VK):Prop
 |mk (p d:Nb) (b m:Int) (es:List Ent) (h0:vs=[.ref d,.ref p]) (h1:Pot H p b m) (h2:Dr H d es)
  (h5:∀(t u l:Nb) (hs:List (Str×Int)) (ns:List Int) (b' m':Int) (H':Hp),H' t=some (.tup [.ref u,.ref l])→HAt H' u hs→(∀h∈hs,h.1∈es.map (·.1)∧0≤h.2)→hs.length≤40→H' l=some (.lst (ns.map V.int))→(∀n∈ns,0≤n)→ns.length≤7→(∀a∈hs,∀b∈hs,b.1∈row (rsOf es) a.1→a.2≠b.2)→0∈ns→10 ^ (8:Int).toNat∈ns→Pot H' p b' m'→H u=none→H l=none→Keep [p] H H'→Q (.ref t) H'):IspHues vs H Q
def spHues:Sp:=λvs H Q _=>IspHues vs H Q
abbrev csHa:Scope:=scOf (eOf (bAt (sAt zg6 3) 0))
def csHa_k:csHa.kind=.function:=by rfl
def csHa_c:∀y∈csHa.names,y.2≠.cell:=by decide +kernel
def csHa_n:∀y∈csHa.names,y.2=.local→csHa.names.lookup y.1=some .local:=by decide +kernel
def csHa_f:∀y∈csHa.names,y.2=.free→(zag zg6).names.lookup y.1=some .cell∨(zag zg6).names.lookup y.1=some .free:=by decide +kernel
def csHa_l:csHa.names.lookup ("_law_found" : Str)=some NameKind.free:=by decide +kernel
def ndHa:([qO, "_law_found"]:List Str).Nodup:=by decide +kernel
abbrev csHb:Scope:=scOf (eOf (bAt (sAt zg6 3) 1))
def csHb_k:csHb.kind=.function:=by rfl
def csHb_c:∀y∈csHb.names,y.2≠.cell:=by decide +kernel
def csHb_n:∀y∈csHb.names,y.2=.local→csHb.names.lookup y.1=some .local:=by decide +kernel
def csHb_f:∀y∈csHb.names,y.2=.free→(zag zg6).names.lookup y.1=some .cell∨(zag zg6).names.lookup y.1=some .free:=by decide +kernel
def csHb_l:csHb.names.lookup ("_law_had" : Str)=some NameKind.free:=by decide +kernel
def ndHb:(["_law_hue", "_law_had"]:List Str).Nodup:=by decide +kernel
section
variable{P:Ni}{w:Nk}{K:Na}{mg:Nd}{base:Nm}
def zf8:zap [qR,qP, "_law_sorts", "_law_found", "_law_way", "_law_place", "_law_had", "_law_free"] [qR,qP] (zag zg6):=fsk
def ok_hues{f ft:Nb}{fd fdt:No}(F:Fun K "_law_hues" "_law_hues" zg6 f fd)(FT:Fun K qD qD zga ft fdt)(bT:Binds K fdt [qP,qM] [])(mT:mg qD=some (.ref ft))(GT:FnOk P w K mg base CX0 1 ft fdt [qP,qM] zeg)(af:mg "len" = none)(hint:mg "int" = none):FnOk P w K mg base CX0 2 f fd [qR,qP] spHues:=by
 refine F.okL zf8 (λcdv A outer s H vs Q E hr h=>?_)
 obtain⟨p,d,b,m,es,rfl,hp,D0,k⟩:=h
 have R:=D0.rn.toRAt
 have hu:=zbz hr
 have dv:=Uo hu
 have av  := sizeLine_eq
 refine⟨_,zad (zau 2 zf8.nd (zcs zc9 (zbd (zab zai (zab zai (zab zai (zab zai
    (zab (zav zfd (zav op_pow zai zai) (zaj GT hr rfl mT FT.kp bT .nil zat (zab (pv 1) (zab zai zaf))))
    (zab (zav zbv zai (zaj GT hr rfl mT FT.kp bT .nil zat (zab (pv 1) (zab zai zaf)))) zaf))))))) zd7
    (zc0 (zav zbv zai (zaj GT hr rfl mT FT.kp bT .nil zat (zab (pv 1) (zab zai zaf)))))))
  (zad (zen (i:=3) zf8.nd rfl (Or.inr rfl) zfv)
  (zad (zau 4 zf8.nd (zaj GT hr rfl mT FT.kp bT .nil zat (zab (pv 1) (zab zai zaf))))
  (zad (ze2 (zbq Zr rfl (ze3 (pv 0)) (za9 5 zf8.nd)
   (zad (zen (i:=6) zf8.nd rfl (Or.inr rfl) (zg8 (M:=[qO, "_law_found"]) (ix:=[none,some 3]) ⟨csHa_k,csHa_c,csHa_n,csHa_f,rfl,ndHa,λj i x h1 h2=>by
      match j,h1,h2 with
      |0,_,h2=>cases h2
      |1,h1,h2=>cases h1;cases h2;exact⟨rfl,csHa_l⟩
      |n+2,h1,_=>cases h1⟩ rfl (za8 (zbo hu (pv 0) (pv 5))) (λC a7 ex s H=>za9 0 ndHa)
      (λC a7 ex s H=>zck) (λC a7 ex s H=>zif (by exact hu) (pv 1) (pv 0) ⟨rfl,rfl,rfl,rfl⟩)))
   (zad (ps_lc (i:=7) (M:=["_law_hue", "_law_had"]) (ix:=[none,some 6]) zf8.nd rfl rfl ⟨csHb_k,csHb_c,csHb_n,csHb_f,rfl,ndHb,λj i x h1 h2=>by
      match j,h1,h2 with
      |0,_,h2=>cases h2
      |1,h1,h2=>cases h1;cases h2;exact⟨rfl,csHb_l⟩
      |n+2,h1,_=>cases h1⟩ rfl (za8 (pv 2)) (λC a7 ex s H=>za9 0 ndHb)
      (λC a7 ex s H=>zdc (zaq (zih (K:=K) rfl) (pv 0) (pv 1) rfl)) (λC a7 ex s H=>pv 0) rfl)
   (zah (zbp (PW.pt (pw_and (zaq (zep dv) (pv 7) (zbd zaf) (zba _)) (zgb (PW.pt (pw_or (zaq op_eq (pv 4) zai (zba _)) (zhi (zaq op_gt (zaj GT hr rfl mT FT.kp bT .nil zat (zab (pv 1) (zab zai zaf))) zai (zba _))))))))
    (zah (zcg hu (pv 3) (pv 5) (zay zao (pv 7) (zav zfe (zaj GT hr rfl mT FT.kp bT .nil zat (zab (pv 1) (zab (zal zas (by rfl) af Zv (zab (pv 7) zaf)) zaf)))
     (zbe zgx (by rfl) hint Xh (zab (pe_cmpR op_gt (pv 4) zai (zba _)) zaf))) (λ_ _=>rfl)) rfl)) zaw))))))
  (zah (zbn (zgd (zab (pv 3) (zab (zav zd0 (pv 2) (zbd (zab (zav op_pow zai zai) zaf))) zaf)))))))),?_⟩
 have ax:(es.map (·.1)).Nodup:=R.nd
 refine⟨_,_,rfl,rfl,⟨by decide,by decide,by decide⟩,_,rfl,p,b,m,9,rfl,hp,by decide,by decide,λd1 b1 m1 H1 iQ vI aR kp1=>?_⟩
 have k1:=zbf kp1
 refine⟨_,_,rfl,rfl,_,rfl,p,b1,m1,99,rfl,aR,by decide,by decide,λd2 b2 m2 H2 h20 h21 aw jE=>?_⟩
 have k2:=k1.trans (zbf jE)
 refine⟨_,_,rfl,rfl,(by show 6≤sizeLine;decide),λq hq=>?_⟩
 have hqp:q≠p:=Qw (zaa aw.1 hq)
 refine⟨_,rfl,p,b2,m2,5,rfl,aw.keep (xs:=[]) (Keep.new hq) (by simp),by decide,by decide,λd3 b3 m3 H3 ma rG aA fG=>?_⟩
 have k3:Keep [p] H H3:=(k2.trans (Keep.new hq)).trans (zbf fG)
 have hq3:=fG _ _ zac hqp
 obtain⟨j3,rfl⟩:=Zt ma
 refine⟨_,_,rfl,rfl,_,rfl,q,_,rfl,SqL.of hq3,λso j7=>?_⟩
 have e6:cutV [V.int 0,V.int 1,V.int 2,V.int 3,V.int (10 ^ (9:Int).toNat-d1),V.int (4+d2)] none (some (2+(j3:Int)))=([0,1,2,3,10 ^ (9:Int).toNat-d1,4+d2].take (2+j3)).map V.int:=by
  rw[show(2:Int)+(j3:Int)=((2+j3:Nat):Int) by omega,cut_to (by show 2+j3≤6;omega),Uh];rfl
 rw[e6]
 have df:∀n∈[0,1,2,3,10 ^ (9:Int).toNat-d1,4+d2].take (2+j3),(0:Int)≤n:=λn hn=>by
  have e9:(10:Int) ^ (9:Int).toNat=1000000000:=by decide
  have:=Uv hn
  simp at this
  rcases this with z | z | z | z | z | z<;>omega
 have qX:([0,1,2,3,10 ^ (9:Int).toNat-d1,4+d2].take (2+j3)).length≤6:=by rw[Zi];exact Nat.min_le_right _ _
 have lj:(0:Int)∈[0,1,2,3,10 ^ (9:Int).toNat-d1,4+d2].take (2+j3):=by
  rw[show 2+j3=(1+j3)+1 by omega,List.take_succ_cons]
  exact Qc
 generalize[0,1,2,3,10 ^ (9:Int).toNat-d1,4+d2].take (2+j3)=ns at df qX lj
 have k4:Keep [p] H (upd H3 so (.lst (ns.map V.int))):=k3.trans (Keep.new j7)
 have jY:(upd H3 so (.lst (ns.map V.int))) so=some (.lst (ns.map V.int)):=zac
 have ci:Pot (upd H3 so (.lst (ns.map V.int))) p b3 m3:=aA.keep (xs:=[]) (Keep.new j7) (by simp)
 have nsop:so≠p:=Qw (zaa aA.1 j7)
 generalize upd H3 so (.lst (ns.map V.int))=H4 at k4 jY ci
 refine λu nE=>?_
 have npu:p≠u:=zaa ci.1 nE
 have nsu:so≠u:=zaa jY nE
 have k5:Keep [p] H (upd H4 u (.dK [])):=k4.trans (Keep.new nE)
 have br:Pot (upd H4 u (.dK [])) p b3 m3:=ci.keep (xs:=[]) (Keep.new nE) (by simp)
 have nQ:(upd H4 u (.dK [])) so=some (.lst (ns.map V.int)):=by rw[zae nsu];exact jY
 have hu5:HAt (upd H4 u (.dK [])) u []:=⟨zac,Zn⟩
 have uG:H u=none:=zak k4 nE (by simpa using Qw npu)
 generalize upd H4 u (.dK [])=H5 at k5 br nQ hu5
 refine⟨_,rfl,p,b3,m3,3,rfl,br,by decide,by decide,λway b6 m6 H6 l' pW eY dF=>?_⟩
 have gJ:=zbf dF
 have k6:Keep [p] H H6:=k5.trans gJ
 have fS:=gJ _ _ nQ (by simpa using nsop)
 have qF:=hu5.pot br gJ
 have R6:RAt H6 d es:=R.pot hp k6
 have ndu:d≠u:=zaa R.dc uG
 have npd:p≠d:=Qw (zhj hp R.dc)
 have nfz:∀o' u',H d≠some (.frz o' u'):=λo' u' z=>by rw[R.dc]at z;cases z
 have nsd:so≠d:=za2 fS R6.dc (by intro z;cases z)
 refine⟨_,rfl,d,_,rfl,R6.dc,λo=>zfx (λi σ H'=>Aj4 (Ex3 λx5 x6 x7=>σ=[some (.ref d),some (.ref p),some (.ref so),some (.ref u),some (.int way),x5,x6,x7]) (H' d=some (.frz o (.dK (eV es)))) (Keep [p,d,u] H6 H') (Ex3 λ(hs:List (Str×Int)) (b' m':Int)=>Aj5 (HAt H' u hs) (∀h∈hs,h.1∈(es.take i).map (·.1)∧0≤h.2) (hs.length≤i) (∀a∈hs,∀b∈hs,b.1∈row (rsOf es) a.1→a.2≠b.2) (Pot H' p b' m')))
  ⟨⟨_,_,_,rfl⟩,zac,Keep.wr (by simp),[],b6,m6,qF.keep (xs:=[d]) (Keep.wr (by simp)) (by simpa using Qw ndu),λh hh=>(by cases hh),Qh _,λa ha=>(by cases ha),eY.keep (xs:=[d]) (Keep.wr (by simp)) (by simpa using npd)⟩ (λi σ H' _ hh=>hh.2) ?_ ?_⟩
 ·rintro i pr σ H7 kr ⟨⟨x5,x6,x7,rfl⟩,hz,k7,hs,b7,m7,jS,gq,iF,cF,iu⟩
  have hi:i<es.length:=by
   have:=(Zd.mp kr).1
   rwa[Qa]at this
  have g1:pr=((Sum.inr es[i].1:Key),V.ref es[i].2.2):=by
   rw[Qq,Qd hi]at kr
   exact(Qk kr).symm
  subst g1
  have ba:es[i]∈es:=Qv hi
  have tk:es.take (i+1)=es.take i++[es[i]]:=Qm hi
  have eN:es[i].1∉hs.map (·.1):=λz=>by
   obtain⟨h,hh,e⟩:=Qf.mp z
   have:=(gq h hh).1
   rw[show h.1=es[i].1 from e]at this
   have jB:((es.take (i+1)).map (·.1)).Nodup:=Yr ((Uq _ _).map _) ax
   rw[tk,Qp,Zb]at jB
   exact jB.2.2 _ this _ (by simp) rfl
  have aS:=D0.few
  generalize es[i]=e at ba tk eN
  have tV:=D0.row _ ba
  have ig:=R6.ro _ ba
  have o9:=k7 _ _ ig (by
   simp
   exact⟨zb5 eY ig,za2 ig R6.dc (by intro z;cases z),za2 ig qF.dc (by intro z;cases z)⟩)
  have tL:=k7 _ _ fS (by simp;exact⟨nsop,nsd,nsu⟩)
  refine⟨_,rfl,.str e.1,rfl,d,.ref e.2.2,rfl,.inl ⟨_,Sum.inr e.1,.inr ⟨o,hz⟩,rfl,(zbu ax ba).symm⟩,e.2.2,rfl,⟨_,SqL.of o9⟩,lc_map (xs:=e.2.1.map V.str) (λ τ=>∃x0,τ=[x0,some (.ref u)]) (λx=>match x with | .str z=>hueV hs z | v=>v) (SqL.of o9) (by rw[Qa];omega) ⟨none,rfl⟩ ?_ (λha hha=>?_)⟩
  ·rintro x hx τ ⟨x0,rfl⟩ kk hk
   obtain⟨z,hz,rfl⟩:=Qf.mp hx
   exact⟨_,rfl,u,rfl,.inl ⟨_,.inl jS.dc⟩,_,rfl,_,DGet.k (k:=Sum.inr z) jS.dc,hk _ ⟨_,rfl⟩⟩
  ·have emap:(e.2.1.map V.str).map (fun x=>match x with | .str z=>hueV hs z | v=>v)=e.2.1.map (hueV hs):=by rw [Ze];rfl
   rw[emap]
   have k8:Keep [] H7 (upd H7 ha (.lst (e.2.1.map (hueV hs)))):=Keep.new hha
   have oK:(upd H7 ha (.lst (e.2.1.map (hueV hs)))) ha=some (.lst (e.2.1.map (hueV hs))):=zac
   generalize upd H7 ha (.lst (e.2.1.map (hueV hs)))=H8 at k8 oK
   have fR:=k8 _ _ tL (by simp)
   refine⟨_,rfl,so,rfl,⟨_,SqL.of fR⟩,ze5 (xs:=ns.map V.int) (λ τ=>∃x0,τ=[x0,some (.ref ha)]) (λx=>!inV x (e.2.1.map (hueV hs))) (SqL.of fR) (by rw[Qa];omega) ⟨none,rfl⟩ ?_ (λfr fj=>?_)⟩
   ·rintro x hx τ ⟨x0,rfl⟩ sK k0' h1' gG
    obtain⟨n,hn,rfl⟩:=Qf.mp hx
    refine⟨_,rfl,_,rfl,ha,_,rfl,.inl (SqL.of oK),rfl,flat_hues _ _,_,rfl,?_⟩
    cases hb:inV (.int n) (e.2.1.map (hueV hs)) with
    |true=>exact iteF (gG (by rw[hb];rfl) _ ⟨_,rfl⟩)
    |false=>exact iteT ⟨_,rfl,h1' (by rw[hb];rfl) _ ⟨_,rfl⟩⟩
   ·have hfm:∀ v∈(ns.map V.int).filter fun x=>!inV x (e.2.1.map (hueV hs)),∃ n:Int,v=.int n∧0≤n∧inV (.int n) (e.2.1.map (hueV hs))=false:=fun v hv=>by
     obtain⟨n,hn,rfl⟩:=Qf.mp (Za.mp hv).1
     have:=(Za.mp hv).2
     exact⟨n,rfl,df n hn,by simpa using this⟩
    have e8:((ns.map V.int).filter λx=>!inV x (e.2.1.map (hueV hs))).length≤6:=Zk (Ud _ _) (by rw[Qa];exact qX)
    generalize(ns.map V.int).filter (λx=>!inV x (e.2.1.map (hueV hs)))=fs at hfm e8
    have k9:Keep [] H7 (upd H8 fr (.lst fs)):=k8.trans (Keep.new fj)
    have iG:(upd H8 fr (.lst fs)) fr=some (.lst fs):=zac
    have nfp:fr≠p:=Qw (zaa (iu.keep k8 (by simp)).1 fj)
    generalize upd H8 fr (.lst fs)=H9 at k9 iG
    refine⟨_,rfl,(by show 0≤sizeLine;decide),λq2 g7=>?_⟩
    have nfq:fr≠q2:=zaa iG g7
    refine⟨fr,q2,_,rfl,rfl,SqL.of (by rw[zae nfq];exact iG),SqL.of zac,_,rfl,?_⟩
    have cu:Keep [] H7 (upd H9 q2 (.lst [])):=k9.trans (Keep.new g7)
    have jg:(upd H9 q2 (.lst [])) fr=some (.lst fs):=by rw[zae nfq];exact iG
    generalize upd H9 q2 (.lst [])=gH at cu jg
    have oq:=iu.keep cu (by simp)
    have stop:∀(b' m':Int) (H':Hp),Pot H' p b' m'→Keep [p] H7 H'→Aj4 (Ex3 λx5 x6 x7=>[some (V.ref d),some (.ref p),some (.ref so),some (.ref u),some (.int way),some (.str e.1),some (.ref ha),some (.ref fr)]=[some (V.ref d),some (.ref p),some (.ref so),some (.ref u),some (.int way),x5,x6,x7]) (H' d=some (.frz o (.dK (eV es)))) (Keep [p,d,u] H6 H') (Ex3 λ(hs:List (Str×Int)) (b' m':Int)=>Aj5 (HAt H' u hs) (∀h∈hs,h.1∈(es.take (i+1)).map (·.1)∧0≤h.2) (hs.length≤i+1) (∀a∈hs,∀b∈hs,b.1∈row (rsOf es) a.1→a.2≠b.2) (Pot H' p b' m')):=λb' m' H' cG k' =>
     ⟨⟨_,_,_,rfl⟩,k' _ _ hz (by simpa using Qw npd),k7.trans (k'.sub (by simp)),hs,b',m',jS.keep k' (by simpa using Qw npu),λh hh=>⟨by rw[tk,Qp];exact Qo _ (gq h hh).1,(gq h hh).2⟩,by omega,cF,cG⟩
    by_cases oW:fs=[]
    ·subst oW
     exact iteF (stop b7 m7 gH oq (cu.sub (by simp)))
    ·have gT:fs.isEmpty=false:=by
      cases fs with
      |nil=>exact absurd rfl oW
      |cons _ _=>rfl
     rw[if_pos rfl,gT]
     refine iteT ?_
     have vb:0<fs.length:=Wg.mpr oW
     refine tOr_all (λH'=>Ex2 λb' m'=>Aj3 (Pot H' p b' m') (Keep [p] H7 H') (H' fr=some (.lst fs))) ⟨b7,m7,oq,cu.sub (by simp),jg⟩ (λH' hI kk hk=>⟨_,rfl,rfl,_,rfl,hk _ _ hI⟩) (λH' hI kk hk=>?_) (λc H' hI=>?_)
     ·obtain ⟨b',m',cG,k',rf⟩:=hI
      exact⟨_,rfl,p,b',m',6,rfl,cG,by decide,by decide,λj b2 m2 H2 _ _ aw jE=>⟨_,_,rfl,rfl,_,rfl,hk _ _ ⟨b2,m2,aw,k'.trans (zbf jE),jE _ _ rf nfp⟩⟩⟩
     ·obtain ⟨b',m',cG,k',rf⟩:=hI
      cases c with
      |false=>exact iteF (stop b' m' H' cG k')
      | true =>
       refine iteT ⟨_,rfl,_,rfl,_,rfl,fr,fs,rfl,.inl (SqL.of rf),p,b',m',(fs.length:Int),rfl,cG,by omega,by omega,λj b2 m2 H2 gm gl aw jE=>?_⟩
       have k2:Keep [p] H7 H2:=k'.trans (zbf jE)
       have gS:=jE _ _ rf nfp
       obtain⟨jn,kO,ejn⟩:∃jn:Nat,jn<fs.length∧j*(if decide (way>0)=true then 1 else 0)=(jn:Int):=by
        obtain⟨j',rfl⟩:=Zt gm
        by_cases hw:way>0
        ·exact⟨j',by omega,by simp[hw]⟩
        ·exact⟨0,vb,by simp[hw]⟩
       obtain⟨v,hv,hv0,hvn⟩:=hfm fs[jn] (Qv kO)
       have iK:atI fs (j*(if decide (way>0)=true then 1 else 0))=some (.int v):=by
        rw[ejn];exact zar (by rw[Qd kO,hv])
       have lH:HAt H2 u hs:=jS.keep k2 (by simpa using Qw npu)
       have uA:hs.length<sizeLine:=by omega
       refine⟨_,rfl,_,_,rfl,rfl,.inr ⟨_,rfl,_,_,rfl,rfl,.inr ⟨by split<;>decide,by split<;>decide⟩,fr,fs,_,.int v,rfl,rfl,SqL.of gS,iK,_,rfl,_,rfl,u,_,rfl,DPut.k (k:=Sum.inr e.1) lH.dc (by rw[Qa];exact uA),?_⟩⟩
       have hu3:=lH.new v eN
       refine⟨⟨_,_,_,rfl⟩,by rw[zae ndu];exact k2 _ _ hz (by simpa using Qw npd),(k7.trans (k2.sub (by simp))).trans (Keep.wr (by simp)),hs++[(e.1,v)],b2,m2,hu3,λh hh=>?_,by rw[Qs];exact Ky iF,?_,aw.keep (xs:=[u]) (Keep.wr (by simp)) (by simpa using npu)⟩
       ·rw [tk,Qp]
        rcases Qi.mp hh with z | z
        ·exact⟨Qo _ (gq h z).1,(gq h z).2⟩
        ·rw [Qb.mp z]
         exact⟨Qn _ (Qb.mpr rfl),hv0⟩
       ·obtain ⟨cs,aa,Ct⟩:=D0.gd
        have eS:row (rsOf es) e.1=e.2.1:=zbj ax ba
        have key:∀b∈hs,b.1∈row (rsOf es) e.1→v≠b.2:=λb hb hr z=>by
         have h1:hueV hs b.1=.int b.2:=by unfold hueV;rw[zcf jS.nd hb];rfl
         have h2:V.int v∈e.2.1.map (hueV hs):=Qf.mpr ⟨b.1,eS▸hr,by rw[h1,z]⟩
         rw[(inV_hues hs e.2.1 v).mpr h2]at hvn
         cases hvn
        intro a ha b hb hr
        rcases Qi.mp ha with z | z
        ·rcases Qi.mp hb with y | y
         ·exact cF a z b y hr
         ·rw [Qb.mp y] at hr ⊢
          exact λq=>key a z (Ct.sy _ _ hr) q.symm
        ·rw [Qb.mp z] at hr ⊢
         rcases Qi.mp hb with y | y
         ·exact key b y hr
         ·rw [Qb.mp y] at hr
          exact absurd hr (Ct.ir _)
 ·rintro σ H7 ⟨⟨x5,x6,x7,rfl⟩,hz,k7,hs,b7,m7,jS,gq,iF,cF,iu⟩
  rw[Qa]at gq iF
  rw[Qx (Qh _)]at gq
  refine⟨d,o,_,hz,nfz,?_⟩
  have kf:Keep [p,u] H6 (upd H7 d (.dK (eV es))):=λc w' ec hc=>by
   by_cases aB:c=d
   ·subst aB
    rw[zac,←R6.dc];exact ec
   ·rw [zae aB]
    refine k7 c w' ec ?_
    simp only[Qe,Wa,or_false,not_or]at hc ⊢
    exact⟨hc.1,aB,hc.2⟩
  have jc:Pot (upd H7 d (.dK (eV es))) p b7 m7:=iu.keep (xs:=[d]) (Keep.wr (by simp)) (by simpa using npd)
  have eR:HAt (upd H7 d (.dK (eV es))) u hs:=jS.keep (xs:=[d]) (Keep.wr (by simp)) (by simpa using Qw ndu)
  generalize upd H7 d (.dK (eV es))=H8 at kf jc eR
  have fR:=kf _ _ fS (by simp;exact⟨nsop,nsu⟩)
  refine⟨_,rfl,_,rfl,_,_,rfl,rfl,⟨by decide,by decide,by decide⟩,(by show 1≤sizeLine;decide),λq1 eT=>?_⟩
  refine⟨so,q1,_,_,rfl,rfl,by rw[zae (zaa fR eT)];exact fR,zac,by rw[Qa];show ns.length+1≤sizeLine;omega,λl hl=>?_⟩
  have el:ns.map V.int++[V.int (10 ^ (8:Int).toNat)]=(ns++[10 ^ (8:Int).toNat]).map V.int:=by rw[Qp];rfl
  rw[el]
  refine⟨(by show 2≤sizeLine;decide),λt ht=>?_⟩
  have k9:Keep [] H8 (upd (upd (upd H8 q1 (.lst [V.int (10 ^ (8:Int).toNat)])) l (.lst ((ns++[10 ^ (8:Int).toNat]).map V.int))) t (.tup [.ref u,.ref l])):=((Keep.new eT).trans (Keep.new hl)).trans (Keep.new ht)
  have nlt:l≠t:=zaa zac ht
  have hd9:es.length≤40:=D0.few
  refine k t u l hs (ns++[10 ^ (8:Int).toNat]) b7 m7 _ zac (eR.keep k9 (by simp)) gq (by omega) (by rw[zae nlt];exact zac) (λn hn=>?_) (by rw[Qs];show ns.length+1≤7;omega) cF (Qo _ lj) (Qn _ Qc) (jc.keep k9 (by simp)) uG ?_ ?_
  ·rcases Qi.mp hn with z | z
   ·exact df n z
   ·rw[Qb.mp z];decide
  ·have nlp:l≠p:=Qw (zaa (jc.keep (xs:=[]) (Keep.new eT) (by simp)).1 hl)
   have nlu:l≠u:=Qw (zaa ((eR.keep (xs:=[]) (Keep.new eT) (by simp)).dc) hl)
   refine zak (xs:=[p,u]) ((k6.sub (by simp)).trans (kf.trans (Keep.new eT))) hl (by simp;exact⟨nlp,nlu⟩)
  ·intro c w' ec hc
   have kk:Keep [p,u] H _:=(k6.sub (by simp)).trans (kf.trans (k9.sub (by simp)))
   exact kk c w' ec (by simp at hc ⊢;exact⟨hc,zaa ec uG⟩)
end
end K21
end
section
namespace L2
open PySem PySem.Spec PyProof.Rows
section
variable{X:Cx}{a7:Nf}{σ:St}{H:Hp}{s:Nh}
end
section
variable{prog:Ni}{w:Nk}{A:Nn}{E:Nc}{s:Nh}
def rev_no_len:typeLookup (.type "list_reverseiterator") "__len__" = pure none:=by rw[typeLookup_type,builtinLookup_eq_fast];kernel_rfl
def rev_hint:typeLookup (.type "list_reverseiterator") "__length_hint__" = pure (some (.builtin "list_reverseiterator.__length_hint__")):=by rw[typeLookup_type,builtinLookup_eq_fast];kernel_rfl
def hint_rev(hT:s.TypeIs (.ref r) "list_reverseiterator")(h:Q false s):wpAny (model prog w) A (Builtin.List.listLengthHint (.ref r)) Q E s:=by
 unfold Builtin.List.listLengthHint
 refine wpAny_bind (wpAny_specialOf hT rev_no_len ?_)
 show wpAny _ A (specialOf (Value.ref r) (Str.ofString "__length_hint__") >>= _) _ _ _
 refine wpAny_bind (wpAny_specialOf hT rev_hint ?_)
 generalize hid:("list_reverseiterator.__length_hint__" : String)=id0
 wp_delta
 rw[show splitId id0=some ("list_reverseiterator", "__length_hint__") from by subst hid;decide +kernel]
 subst hid
 refine wpAny_bind (wpAny_isInstance (T := "list_reverseiterator") (b:=true) hT (by rw[isSubtype_type];kernel_rfl) ?_)
 refine wpAny_ite_split (λgZ=>absurd gZ (by decide)) (λ_=>?_)
 refine wpAny_ite_split (λ_=>?_) (λgZ=>absurd (by decide +kernel) gZ)
 refine wpAny_ite_split (λgZ=>absurd gZ (by decide)) (λ_=>?_)
 exact wpAny_pure h
def zi3(hh:A.handled=none)(hit:s.heap.IsRevIter I l ((items.size:Int)-1))(hl:s.heap.IsList l items)(az:l≠I)(hn:items.size≤sizeLine)(hQ:∀h' tk aj c',(∀b o,b≠I→s.heap.get? b=some o→h'.get? b=some o)→h'.get? s.heap.objs.size=some {cls:=.type "list",dict:=none,data:=.seq aj c',slots:=#[]}→ItemsOf (λi v=>items[items.size-1-i]?=some v) aj items.size→Q (.ref s.heap.objs.size) {s with heap:=h',toks:=tk}) :
  wpAny (model prog w) A (call (.type "list") [.ref I]) Q E s:=by
 have W:=Walks.listRev (prog:=prog) (w:=w) (A:=A.in1.in1) hh I l az items
 refine callType_codes (Q₁:=λobj s₁=>obj=.ref s.heap.objs.size∧s₁={s with heap:=s.heap.push {cls:=.type "list",data:=.seq #[]}}) PySem.F.called_list (PySem.F.typeCall_list_1 _) PySem.F.entry_list_init
  (code_list_new _ ⟨rfl,rfl⟩) λobj s₁ h₁=>?_
 obtain⟨rfl,rfl⟩:=h₁
 have hS:(s.heap.push {cls:=.type "list",data:=.seq #[]}).get? s.heap.objs.size=some {cls:=.type "list",data:=.seq #[]}:=Zf _ rfl
 have hSI:s.heap.objs.size≠I:=by obtain⟨o,e,_⟩:=hit;exact Yc (Qt e)
 have hSl:s.heap.objs.size≠l:=by obtain⟨o,e,_⟩:=hl;exact Yc (Qt e)
 have lZ:s.heap.objs.size∉[I,l]:=by simp;exact⟨hSI,hSl⟩
 refine⟨⟨_,hS,rfl⟩,PySem.F.args_list_init_2 _ _,?_⟩
 show wpAny _ _ (do let old ←Builtin.List.listItems (.ref s.heap.objs.size);Builtin.List.listUpdate (.ref s.heap.objs.size) (λ_=>#[]);letGo old.toList.reverse;Builtin.List.listExtendWith (.ref s.heap.objs.size) (.ref I) .none) _ _ _
 refine wpAny_bind ?_
 unfold Builtin.List.listItems
 refine wpAny_bind (wpAny_seqItems hS rfl (wpAny_pure ?_))
 show wpAny _ _ (updateSeq s.heap.objs.size (λ_=>#[]) >>= λ_=>letGo (#[]:Array Value).toList.reverse >>= λ_=>Builtin.List.listExtendWith (.ref s.heap.objs.size) (.ref I) .none) _ _ _
 refine wpAny_bind (wpAny_updateSeq hS rfl ?_)
 have hS₂:=Kc (Obj.mapSeq (λ_=>(#[]:Array Value))) hS rfl
 have oth:∀b o,s.heap.get? b=some o→((s.heap.push {cls:=.type "list",data:=.seq #[]}).update s.heap.objs.size (Obj.mapSeq (λ_=>(#[]:Array Value)))).get? b=some o :=
  λb o e=>(Ue _ _ (Yc (Qt e))).trans (Qj _ e)
 refine wpAny_bind (wpAny_letGo ?_)
 generalize(s.heap.push {cls:=.type "list",data:=.seq #[]}).update s.heap.objs.size (Obj.mapSeq (λ_=>(#[]:Array Value)))=h2 at hS₂ oth
 have iD:h2.IsRevIter I l ((items.size:Int)-1):=hit.at λo e=>oth I o e
 have ak:h2.IsList l items:=hl.at λo e=>oth l o e
 unfold Builtin.List.listExtendWith
 refine wpAny_bind (wpAny_typeOf (T := "list_reverseiterator") iD.typeIs ?_)
 have h1:Builtin.List.listSameRef (.ref s.heap.objs.size) (.ref I)=false:=by simp[Builtin.List.listSameRef,hSI]
 have e1:(Value.type "list_reverseiterator" == Value.type "list")=false:=by decide
 have e2:(Value.type "list_reverseiterator" == Value.type "tuple")=false:=by decide
 simp only[h1,e1,e2,Bool.or_false,Jh,if_false]
 refine wpAny_bind (wpAny_pyIter_revIter iD ?_)
 refine wpAny_bind (wpAny_holding (hint_rev iD.typeIs ?_))
 refine wpAny_ite_split (λgZ=>absurd gZ (by decide)) (λ_=>?_)
 refine wpAny_pure ⟨plainId_quiet PySem.F.plain_extend_loop _,codeAny_extend_loopS W.toS hn s.heap.objs.size lZ .none items.size 0 _ #[] _ rfl (Zg _) ⟨Zg _,by simpa using iD,ak⟩ hS₂ (ItemsOf.nil _) λs' wz c' hm jm iO=>?_⟩
 rw[Moved.eq_with hm]
 refine⟨rfl,hQ s'.heap s'.toks wz c' (λb o hb e=>hm.heap b o (λhmem=>?_) (oth b o e)) jm iO⟩
 rcases Qe.mp hmem with e' | hmem
 ·exact absurd (Qt e) (by rw[e'];exact Yu _)
 ·exact hb (Qb.mp hmem)
end
section
variable{X:Cx}
def tRev(K:Na)(t:TE):TE:=λ σ H Q=>t σ H λv H1=>Ex2 λl xs=>Aj3 (v=.ref l) (SqL K H1 l xs) (∀p,H1 p=none→Q (.ref p) (upd H1 p (.lst xs.reverse)))
def pe_rev(hc:X.calm=true)(hg:Gl X "list")(hm:X.mg "list" = none)(hg':Gl X "reversed")(um:X.mg "reversed" = none)(he:PE X e t)(h1:starEach [e] X.env=[(false,eval e X.env)]:=by rfl)(h2:starEach [.Call (.Name "reversed" p2) [e] [] q2] X.env=[(false,eval (.Call (.Name "reversed" p2) [e] [] q2) X.env)]:=by rfl) :
  PE X (.Call (.Name "list" p1) [.Call (.Name "reversed" p2) [e] [] q2] [] q1) (tRev X.K t):=by
 intro a7 s σ H Q I h
 refine Call_ (zd1 I hg hm boot_list (Yo (rest:=[]) ?_ h2 rfl))
 rw[h2]
 show wpAny _ _ (spliced ((false,eval (.Call (.Name "reversed" p2) [e] [] q2) X.env)::[])) _ _ s
 refine Us (Call_ (zd1 I hg' um boot_reversed (Yo (rest:=[]) ?_ h1 rfl)))
 rw[h1]
 show wpAny _ _ (spliced ((false,eval e X.env)::[])) _ _ s
 refine Us (thn (he a7 s σ H _ I h) λu s1 ⟨v,H1,I1,r1,l,xs,ev,hq,q⟩=>Jt ?_)
 subst ev
 cases r1
 obtain⟨a8,rv,pl,hz⟩:=I1.list hq
 have af:=rv.length
 have hl:=pl.isList
 have lt:l<s1.heap.objs.size:=by obtain⟨o,z,_⟩:=hl;exact Qt z
 refine call_reversed_list hl (Jt ?_)
 have hsz:(s1.heap.push (revObj l ((a8.toArray.size:Int)-1))).objs.size=s1.heap.objs.size+1:=Wt ..
 refine zi3 (s:={s1 with heap:=s1.heap.push (revObj l ((a8.toArray.size:Int)-1))}) (I:=s1.heap.objs.size) (l:=l) (items:=a8.toArray) (I1.ok.hd hc) ⟨_,Zf _ rfl,rfl,rfl⟩ (hl.at λo z=>Qj _ z) (Zc lt) (by simp;omega) λh' tk aj c' kp hn iO=>?_
 have kp':∀b o,s1.heap.get? b=some o→h'.get? b=some o:=λb o z=>kp b o (Zc (Qt z)) (Qj _ z)
 have hf:H1 (s1.heap.push (revObj l ((a8.toArray.size:Int)-1))).objs.size=none:=I1.hok.fresh (by rw[hsz];exact Ww _)
 have eacc:aj=a8.reverse.toArray:=by
  refine Array.ext (by simpa using iO.1) λi hi dj=>?_
  have:=iO.2 i aj[i] (by simp[hi])
  have hil:i<a8.length:=by simpa using dj
  simp only[List.getElem?_toArray,Qu]at this
  rw[Qd (by omega)]at this
  show aj[i]=a8.reverse[i]'(by simpa using dj)
  rw[List.getElem_reverse]
  exact(Qk this).symm
 subst eacc
 exact⟨.ref _,_,I1.laid (t':=tk) kp' (by rw[hsz];exact Ww _) (show zbs X.prog X.w _ h' _ (.lst xs.reverse) from⟨by rw[List.length_reverse];exact hz,a8.reverse,c',rv.reverse,hn⟩),rfl,q _ hf⟩
def IteL(a:Nb)(K:Na):It :=
 ⟨λi H=>∃xs,SqL K H a xs∧i<xs.length,λi H x H'=>∃y t,(∀xs,SqL K H a xs→xs[i]?=some y)∧H t=none∧x=.ref t∧H'=upd H t (.tup [.int i,y]),λi H=>∃xs,SqL K H a xs∧xs.length≤i⟩
theorem turn_enumL{P:Ni}{w:Nk}{K:Na}{elts:Np}{kk:Nat}{pos:Pos}(a e j:Nb)(eB:e≠j)(gY:a≠j)(vC:e≠a) :
  Turn P w K (.Tuple elts kk pos) (IteL a K) [e,j] e (λi h=>(∃old,IsEnum h e j i old)∧h.IsListIter j a i) where
 mem:=by simp
 obj:=λi h st b hb=>by
  rcases Qe.mp hb with z | z
  ·subst z
   obtain⟨old,q⟩:=st.1
   exact⟨_,q,λv z=>by
    have z':Data.fields _=Data.cell v:=z
    cases z'⟩
  ·rw [Qb.mp z]
   obtain⟨o,q,c,d⟩:=st.2
   exact⟨o,q,λv z=>by rw[d]at z;cases z⟩
 keep:=λi h h' st k=>⟨let⟨old,q⟩:=st.1;⟨old,k e (by simp) _ q⟩,st.2.at λo q=>k j (by simp) o q⟩
 item:=by
  intro X hP hw hK hc i a7 s σ H E I hf st hg
  subst hP hw hK
  obtain⟨xs,hq,hi⟩:=hg
  obtain⟨a8,rv,p,hz⟩:=I.list hq
  have hl:=rv.length
  obtain⟨⟨old,he⟩,hit⟩:=st
  have hh:X.A.in1.handled=none:=I.ok.hd hc
  refine wpAny_pyNext_enum_itemD (Draws.list hh j a gY a8.toArray) he ⟨hit,p.isList⟩ (by simp;exact zar7 ‹_› ‹_›) eB (by simp[eB,vC]) λx g tk hP ho hs hT hsz hk=>⟨.ref s.heap.objs.size,rfl,?_⟩
  have fr:∀b,b∈[e,j]→FpOk X a7 H b:=hf
  obtain⟨e0,e1,e2,e3,e4,e5⟩:=hf e (by simp)
  obtain⟨j0,j1,j2,j3,j4,j5⟩:=hf j (by simp)
  have pU:∀b u,H b=some u→b≠e∧b≠j:=λb u q=>⟨λz=>(by rw[z,e0]at q;cases q),λz=>(by rw[z,j0]at q;cases q)⟩
  have I1:Inv X a7 σ H {s with heap:=g,toks:=tk+1}:=by
   refine I.step (g':=s.gens) (d':=s.drawn) (ch:=[e,j]) (λb hb=>?_) (λb o _ _ hc q _=>hk b o (λz=>hc (by simp[z])) (λz=>hc (by simp[z])) q) (λb o _ _ hc q _=>⟨o.slots,hk b o (λz=>hc (by simp[z])) (λz=>hc (by simp[z])) q⟩) (λ_ _ _ _ n=>n)
    (λb o hc q=>⟨o,hk b o (λz=>hc (by simp[z])) (λz=>hc (by simp[z])) q⟩) (λ_ _ q=>q) (λ_ _ _ q=>q) (λb ps q=>⟨#[],by rw[q];simp⟩) (λm hm=>?_) (λb u q=>?_) I.bare
   ·rcases Qe.mp hb with z | z
    ·subst z;exact⟨e3,e1,e4,e5⟩
    ·rw[Qb.mp z];exact⟨j3,j1,j4,j5⟩
   ·obtain ⟨o,es,ep,q,r⟩:=hm
    exact⟨o,es,ep,hk _ o (Qw e1) (Qw j1) q,r⟩
   ·refine (I.hok b u q).stay (fun c v hc z=>?_) (fun _ z=>z) fun _ _ z=>z
    have eF:c≠e∧c≠j:=by
     rcases hc with rfl | hc
     ·exact pU c u q
     ·exact pU c _ hc
    exact hk c v eF.1 eF.2 z
  obtain⟨y,hy⟩:∃y,xs[i]?=some y:=⟨xs[i],Qd hi⟩
  obtain⟨u,hu,ru⟩:=rv.get hy
  have pR:a8[i]?=some x:=by simpa using hP
  rw[hu]at pR
  have t8:u=x:=Qk pR
  subst t8
  have hN:H s.heap.objs.size=none:=I.hok.fresh (Qh _)
  refine wpAny_letOwnedTupleGo_enum ho λg' aN ai=>?_
  have nT:s.heap.objs.size≠e:=Yc (Qt he)
  have nJ:s.heap.objs.size≠j:=by obtain⟨o,q,_⟩:=hit;exact Yc (Qt q)
  have I2:Inv X a7 σ H {s with heap:=g',toks:=tk+1}:=Inv.turned (s:={s with heap:=g,toks:=tk+1}) (t':=tk+1) (it:=e) I1 (λb o hb q=>(ai.2 b hb).trans q) e0 e1 e3 e4 e5
  have pO:g'.get? s.heap.objs.size=some {cls:=.type "tuple",data:=.seq #[.int i tk,u]}:=(ai.2 _ nT).trans hT
  have I3:Inv X a7 σ (upd H s.heap.objs.size (.tup [.int i,y])) {s with heap:=g',toks:=tk+1}:=by
   refine⟨I2.ok,I2.os,I2.bare,⟨I2.base.keep,I2.base.slot,λb o q n hx=>?_,I2.base.there,λb zs q=>?_,λb o v q=>?_,λb ps q=>?_⟩,I2.loc,I2.cell,?_,λz c q=>?_,λpp hp=>?_,λb v q=>?_,I2.len⟩
   ·have lt:b < s.heap.objs.size:=Zo (Qt q) I.sz
    rw[zae (Zc lt)];exact I2.base.free b o q n hx
   ·have:=I2.base.tups b zs q
    rw[zae (zaa this hN)];exact this
   ·have:=I2.base.frzs b o v q
    rw[zae (zaa this hN)];exact this
   ·obtain ⟨m,z⟩:=I2.base.tbls b ps q
    exact⟨m,by rw[zae (zaa z hN)];exact z⟩
   ·rw[zae (Zc I.lt)];exact I2.free
   ·rw[zae (Zc (I.cl_lt z c q))];exact I2.freeC z c q
   ·obtain ⟨h1,h2,h3⟩:=I2.pin pp hp
    exact⟨h1,by rw[zae (Zc (I.pin_lt pp hp))];exact h2,h3⟩
   ·by_cases hb:b=s.heap.objs.size
    ·subst hb
     rw[zac]at q
     cases q
     exact⟨by show 2≤sizeLine;decide,[.int i tk,u],.cons ⟨tk,rfl⟩ (.cons ru .nil),_,pO,rfl,_,rfl⟩
    ·rw [zae hb] at q
     exact(I2.hok b v q).stay (λc v _ z=>z) (λc z=>by rw[zae (zaa z hN)];exact z) λc zs z=>by rw[zae (zaa z hN)];exact z
  refine⟨.ref s.heap.objs.size,_,I3,rfl,⟨y,_,λys jJ=>by rw[I.list_inj jJ hq];exact hy,hN,rfl,rfl⟩,⟨⟨u,by simpa using aN⟩,?_⟩,λb hb=>?_⟩
  ·exact hs.1.at λo q=>(ai.2 j (Qw eB)).trans q
  ·rcases Qe.mp hb with z | z
   ·rw[z,zae (Qw nT)];exact e0
   ·rw[Qb.mp z,zae (Qw nJ)];exact j0
 done:=by
  intro X hP hw hK hc i a7 s σ H E I hf st hg
  subst hP hw hK
  obtain⟨xs,hq,hi⟩:=hg
  obtain⟨a8,rv,p,hz⟩:=I.list hq
  have hl:=rv.length
  obtain⟨⟨old,he⟩,hit⟩:=st
  obtain⟨j0,j1,j2,j3,j4,j5⟩:=hf j (by simp)
  have hh:X.A.in1.handled=none:=I.ok.hd hc
  have hT:s.TypeIs (.ref e) "enumerate" := ⟨_,he,rfl⟩
  unfold pyNext
  refine wpAny_bind (wpAny_attempt (wpAny_callSpecial?_slot (name:=Str.ofString "__next__") hT Kd (wpAny_call_entry Kd hT F.entry_enumerate_next ?_ (F.args_enumerate_next_1 _))))
  show wpAny _ _ (field (.ref e) 2 >>= _) _ _ _
  refine wpAny_bind (wpAny_field he rfl (x:=.ref j) rfl (wpAny_bind (wpAny_nextOf_list_end hh hit p.isList (by simp;exact zdu ‹_› ‹_›) λg x hg hx=>?_)))
  obtain⟨o,ho,hc⟩:=hx
  refine wpAny_bind (wpAny_isInstance (T := "StopIteration") (b:=true) ⟨o,ho,hc⟩ isSubtype_stop (wpAny_pure ⟨rfl,?_⟩))
  exact I.turned (t':=s.toks) (λb o hb q=>hg b o hb q) j0 j1 j3 j4 j5
 self:=λA i s Q E st h=>by
  obtain⟨⟨old,he⟩,_⟩:=st
  exact wpAny_pyIter_enum he h
def iEnumL(K:Na)(ta:TA):TI:=λ σ H R=>ta σ H λvs H1=>∃a,vs=[.ref a]∧(∃xs,SqL K H1 a xs)∧R (IteL a K) H1
def pi_enumL{elts:Np}{kk:Nat}{tpos:Pos}{a:Expr}{ta:TA}{p pos:Pos}(hg:Gl X "enumerate")(hm:X.mg "enumerate" = none)(ha:PA X [a] ta)(hs:starEach [a] X.env=[(false,eval a X.env)]:=by rfl) :
  PI X (.Tuple elts kk tpos) (.Call (.Name "enumerate" p) [a] [] pos) (iEnumL X.K ta):=by
 intro a7 s σ H R I h
 refine Call_ (zd1 I hg hm boot_enumerate (Yo (thn (ha pos a7 s σ H _ I h) λus s1 ⟨vs,H1,I1,r1,q1⟩=>?_) hs rfl))
 obtain⟨t,e,⟨xs,hq⟩,q⟩:=q1
 subst e
 obtain⟨u,rfl,ru⟩:=vals1 r1
 cases ru
 obtain⟨a8,rv,pl,hz⟩:=I1.list hq
 have lt:t<s1.heap.objs.size:=by obtain⟨o,q,_⟩:=pl.isList;exact Qt q
 refine call_enumerate_list pl.isList λg he hit hsz k=>wpAny_pyIter_enum he ?_
 have I2:Inv X a7 σ H1 {s1 with heap:=g}:=I1.kept (t':=s1.toks) k
 refine⟨s1.heap.objs.size+1,[s1.heap.objs.size+1,s1.heap.objs.size],_,_,H1,rfl,I2,turn_enumL t _ _ (Kx _) (Zc lt) (Yc (Um lt)),⟨⟨_,he⟩,hit⟩,λb hb=>?_,q⟩
 have cq:s1.heap.objs.size≤b:=by
  rcases Qe.mp hb with z | z
  ·rw[z];exact Ww _
  ·rw[Qb.mp z];exact Qh _
 exact I1.fpOk cq (I1.hok.fresh cq)
def for_enumL{K:Na}{a:Nb}{xs:List V}{g:TG}{tb:TS}{D:Ends}{σ:St}{H:Hp}(Pv:Nat→St→Hp→Prop)(h0:Pv 0 σ H)(hl:∀i σ H,i≤xs.length→Pv i σ H→H a=some (.lst xs))(hs:∀i x t σ H,xs[i]?=some x→Pv i σ H→H t=none→g (.ref t) σ (upd H t (.tup [.int i,x])) λ σ2 H2=>tb {D with nx:=Pv (i+1),ct:=Pv (i+1),bk:=D.nx} σ2 H2)(hd:∀σ H,Pv xs.length σ H→D.nx σ H) :
  ∃W:Nat→Nat→St→Hp→Prop,(∃m,W 0 m σ H)∧∀i m σ H,W i m σ H →
   ((IteL a K).stop i H∧D.nx σ H)∨((IteL a K).go i H∧∃N:St→Hp→Prop,(∀σ' H',N σ' H'→∃m',m'<m∧W (i+1) m' σ' H')∧∀x H',(IteL a K).yld i H x H'→g x σ H' λ σ2 H2=>tb {D with nx:=N,ct:=N,bk:=D.nx} σ2 H2):=by
 refine⟨λi m σ H=>m=xs.length-i∧i≤xs.length∧Pv i σ H,⟨xs.length,by simp,Zg _,h0⟩,?_⟩
 rintro i m σ H ⟨rfl,hi,p⟩
 have q:=hl i σ H hi p
 by_cases ag:i<xs.length
 ·refine .inr ⟨⟨xs,SqL.of q,ag⟩,Pv (i+1),fun σ' H' p'=>⟨xs.length - (i+1),by exact zar1 ‹_›,rfl,ag,p'⟩,fun x H' y=>?_⟩
  obtain⟨z,t,e1,e3,rfl,rfl⟩:=y
  exact hs i z t σ H (e1 xs (SqL.of q)) p e3
 ·have e:i=xs.length:=by exact zar3 ‹_› ‹_›
  subst e
  exact .inl ⟨⟨xs,SqL.of q,Qh _⟩,hd σ H p⟩
end
end L2
end
section
namespace Wb
section
variable{α β:Type}[DecidableEq α][DecidableEq β]{ns:List α}{r:α→List α}{cs:List (List (α×α))}{f:α→β}
theorem idx_map(hf:∀x y,f x=f y→x=y)(w:α):∀zs:List α,(zs.map f).idxOf (f w)=zs.idxOf w
 |[]=>rfl
 |a::t=>by
  rw[Ql,Xd,Xd,idx_map hf w t]
  by_cases h:a=w
  ·rw[h,beq_self_eq_true,beq_self_eq_true]
  ·rw[beq_eq_false_iff_ne.mpr h,beq_eq_false_iff_ne.mpr λe=>h (hf _ _ e)]
def nxt_map(hf:∀x y,f x=f y→x=y)(zs:List α)(w:α):nxt (zs.map f) (f w)=f (nxt zs w):=by
 unfold nxt
 rw[idx_map hf,Qa,Zs,Zs,Qq]
 cases zs[(zs.idxOf w+1)%zs.length]?<;>rfl
def lk_map{γ δ:Type}{F:γ→γ}{G:δ→δ}{g:γ→δ}{e:γ}:∀{t:List γ} {s:γ},(∀y,y=s∨y∈t→G (g y)=g (F y))→Lk F s t e→Lk G (g s) (t.map g) (g e):=by
 intro t
 induction t with
 |nil=>intro s h k;exact(h s (.inl rfl)).trans (congrArg g k)
 |cons a t ih =>
  intro s h k
  exact⟨(h s (.inl rfl)).trans (congrArg g k.1),ih (λy hy=>h y (.inr (Qe.mpr hy))) k.2⟩
def cert_map(hf:∀x y,f x=f y→x=y){a:α}(C:Cert ns r cs λ_=>a){r':β→List β}(hr:∀x,r' (f x)=(r x).map f)(gQ:∀y,(∀x,y≠f x)→r' y=[])(ha:a∈ns) :
  Cert (ns.map f) r' (cs.map λc=>c.map λs=>(f s.1,f s.2)) λ_=>f a:=by
 have hm:∀{y z},z∈r' y→∃x w,y=f x∧z=f w∧w∈r x:=λ{y z} h=>by
  by_cases hy:∃x,y=f x
  ·obtain ⟨x,rfl⟩:=hy
   rw[hr]at h
   obtain⟨w,hw,rfl⟩:=Qf.mp h
   exact⟨x,w,rfl,rfl,hw⟩
  ·rw [gQ y fun x e=>hy ⟨x,e⟩] at h
   cases h
 have hb:∀{x w},w∈r x→f w∈r' (f x):=λh=>by rw[hr];exact Qf.mpr ⟨_,h,rfl⟩
 have hg:∀s t:α×α,(f s.1,f s.2)=(f t.1,f t.2)→s=t:=λs t e=>Jb (hf _ _ (congrArg Prod.fst e)) (hf _ _ (congrArg Prod.snd e))
 have iz:∀{l:List α},l.Nodup→(l.map f).Nodup:=λnd=>Wr.mpr (nd.imp λh e=>h (hf _ _ e))
 have e8:(cs.map λc=>c.map λs=>(f s.1,f s.2)).flatten=cs.flatten.map λs=>(f s.1,f s.2):=List.map_flatten.symm
 refine⟨iz C.nd,λy hy=>?_,λy=>?_,λy h=>?_,λx y h=>?_,?_,λs=>?_,λc hc=>?_,λx hx=>Qf.mpr ⟨a,ha,rfl⟩,λ_ _ _=>rfl,λx hx y hy _=>?_,λx hx=>?_⟩
 ·cases e:r' y with
  |nil=>rfl
  |cons z t =>
   obtain⟨x,w,rfl,_,hw⟩:=hm (y:=y) (z:=z) (by rw[e];exact Qc)
   exact absurd (Qf.mpr ⟨x,C.inn hw,rfl⟩) hy
 ·by_cases hy:∃ x,y=f x
  ·obtain ⟨x,rfl⟩:=hy
   rw[hr];exact iz (C.rn x)
  ·rw[gQ y λx e=>hy ⟨x,e⟩];exact Zn
 ·obtain ⟨x,w,e1,e2,hw⟩:=hm h
  have:=hf _ _ (e1.symm.trans e2)
  subst this
  exact C.ir _ hw
 ·obtain ⟨a,w,rfl,rfl,hw⟩:=hm h
  exact hb (C.sy _ _ hw)
 ·rw [e8]
  exact Wr.mpr (C.cf.imp λh e=>h (hg _ _ e))
 ·rw [e8]
  constructor
  ·intro h
   obtain⟨t,ht,rfl⟩:=Qf.mp h
   exact hb ((C.cm t).mp ht)
  ·intro h
   obtain⟨x,w,e1,e2,hw⟩:=hm h
   exact Qf.mpr ⟨(w,x),(C.cm (w,x)).mpr hw,Jb e2.symm e1.symm⟩
 ·obtain ⟨c0,fB,rfl⟩:=Qf.mp hc
  obtain⟨s,t,rfl,k⟩:=C.cy c0 fB
  refine⟨(f s.1,f s.2),_,rfl,lk_map (g:=λs:α×α=>(f s.1,f s.2)) (λy _=>?_) k⟩
  show(f y.2,nxt (r' (f y.2)) (f y.1))=(f y.2,f (nxt (r y.2) y.1))
  rw[hr,nxt_map hf]
 ·obtain ⟨x0,qz,rfl⟩:=Qf.mp hx
  obtain⟨y0,qw,rfl⟩:=Qf.mp hy
  have:=C.co x0 qz y0 qw rfl
  clear hy qw
  induction this with
  |refl=>exact .refl
  |step _ hz ih=>exact .step ih (hb hz)
 ·have e1:wt (ns.map f) r' (fun _=>f a) (f a)=wt ns r (fun _=>a) a:=by
   unfold wt
   rw[Ze]
   refine zcb λx _=>?_
   show(if f a=f a then _ else _)=_
   rw[if_pos rfl,if_pos rfl,hr,Qa]
   simp only[List.map_eq_nil_iff]
  have e2:ct (cs.map λc=>c.map λs=>(f s.1,f s.2)) (λ_=>f a) (f a)=ct cs (λ_=>a) a:=by
   unfold ct
   rw[Ze]
   refine zcb λc _=>?_
   show(if(List.any (c.map λs=>(f s.1,f s.2)) λs=>decide (f a=f a))=true then _ else _)=_
   rw[List.any_map]
   simp only[Function.comp_def,decide_true]
  rw[e1,e2]
  exact C.eu a ha
end
end Wb
end
section
namespace Wb
open PySem
def bk(n j:Nat):Nat:=if j=0 then n-1 else j-1
def capR(m l i:Nat):List Nat :=
 if i=0 then(List.range m).map (2+·)
 else if i=1 then((List.range m).map λk=>2+m*(l-1)+k).reverse
 else[2+m*((i-2)/m)+((i-2)%m+1)%m]++(if 0<(i-2)/m then[2+m*((i-2)/m-1)+((i-2)%m+1)%m,2+m*((i-2)/m-1)+(i-2)%m] else[0])
  ++ [2+m*((i-2)/m)+bk m ((i-2)%m)]++(if(i-2)/m+1<l then[2+m*((i-2)/m+1)+bk m ((i-2)%m),2+m*((i-2)/m+1)+(i-2)%m] else[1])
def capF(m l:Nat)(i:Fin (2+m*l)):List (Fin (2+m*l)):=(capR m l i.1).filterMap λk=>if h:k<2+m*l then some ⟨k,h⟩ else none
def capT(m l:Nat):List (Fin (2+m*l)×Fin (2+m*l)×Fin (2+m*l)):=(List.finRange (2+m*l)).flatMap λa=>(capF m l a).filterMap λb=>if a<b∧a<nxt (capF m l b) a then some (a,b,nxt (capF m l b) a) else none
def capC(m l:Nat):List (List (Fin (2+m*l)×Fin (2+m*l))):=(capT m l).map λt=>[(t.1,t.2.1),(t.2.1,t.2.2),(t.2.2,t.1)]
def cap0(m l:Nat):Fin (2+m*l):=⟨0,by omega⟩
structure CapOk(m l:Nat):Prop where
 lo:∀i<2+m*l,∀k∈capR m l i,k<2+m*l
 cyc:∀t∈capT m l,st (capF m l) (t.1,t.2.1)=(t.2.1,t.2.2)∧st (capF m l) (t.2.1,t.2.2)=(t.2.2,t.1)∧st (capF m l) (t.2.2,t.1)=(t.1,t.2.1)
 rn:∀x,(capF m l x).Nodup
 ir:∀x,x∉capF m l x
 sy:∀x,∀y∈capF m l x,x∈capF m l y
 cf:(capC m l).flatten.Nodup
 cm:∀s∈(capC m l).flatten,s.1∈capF m l s.2
 mc:∀x,∀y∈capF m l x,(y,x)∈(capC m l).flatten
 eu:wt (List.finRange (2+m*l)) (capF m l) (λ_=>cap0 m l) (cap0 m l)+ct (capC m l) (λ_=>cap0 m l) (cap0 m l)=4
 up:∀x,x.1≠1→x.1=0∨∃y∈capF m l x,y<x∧y.1≠1
 one:∀x,x.1=1→∃y∈capF m l x,y.1≠1
def cap_cert{m l:Nat}(h:CapOk m l):Cert (List.finRange (2+m*l)) (capF m l) (capC m l) λ_=>cap0 m l:=by
 have con:∀n,∀x:Fin (2+m*l),x.1<n→x.1≠1→Conn (capF m l) (cap0 m l) x:=by
  intro n
  induction n with
  |zero=>intro x hx;cases hx
  |succ n ih =>
   intro x hx h1
   rcases h.up x h1 with z | ⟨y,hy,ag,y1⟩
   ·rw[show x=cap0 m l from Fin.ext z];exact .refl
   ·exact .step (ih y (Zo ag (Nat.le_of_lt_succ hx)) y1) (h.sy x y hy)
 have qe:∀x:Fin (2+m*l),Conn (capF m l) (cap0 m l) x:=λx=>by
  by_cases h1:x.1=1
  ·obtain ⟨y,hy,y1⟩:=h.one x h1
   exact .step (con _ y (Ys _) y1) (h.sy x y hy)
  ·exact con _ x (Ys _) h1
 refine⟨List.nodup_finRange _,λx hx=>absurd (List.mem_finRange x) hx,h.rn,h.ir,λx y=>h.sy x y,h.cf,λs=>⟨h.cm s,λz=>h.mc s.2 s.1 z⟩,λc hc=>?_,λ_ _=>List.mem_finRange _,λ_ _ _=>rfl,λx _ y _ _=>((qe x).symm λa b=>h.sy a b).trans (qe y),λ_ _=>h.eu⟩
 obtain⟨t,ht,rfl⟩:=Qf.mp hc
 obtain⟨h1,h2,h3⟩:=h.cyc t ht
 exact⟨_,_,rfl,h1,h2,h3⟩
def cap_ok{m l:Nat}(hm:m=5∨m=6∨m=7)(hl:l=2∨l=3):CapOk m l:=by
 rcases hm with rfl | rfl | rfl<;>rcases hl with rfl | rfl <;>
  exact⟨by decide +kernel,by decide +kernel,by decide +kernel,by decide +kernel,by decide +kernel,by decide +kernel,by decide +kernel,by decide +kernel,by decide +kernel,by decide +kernel,by decide +kernel⟩
def cap_good{m l:Nat}(hm:m=5∨m=6∨m=7)(hl:l=2∨l=3){zs:Ng}(nd:zs.Nodup)(hz:2+m*l≤zs.length)(z0:Str) :
  Good ((List.range (2+m*l)).map λi=>(zs.getD i z0,(capR m l i).map λk=>zs.getD k z0)):=by
 have h:=cap_ok hm hl
 have hf:∀x y:Fin (2+m*l),zs.getD x.1 z0=zs.getD y.1 z0→x=y:=λx y e=>by
  have hx:x.1<zs.length:=Zo x.2 hz
  have hy:y.1<zs.length:=Zo y.2 hz
  simp only[List.getD,Qd hx,Qd hy,Option.getD_some]at e
  exact Fin.ext ((Yf nd).mp e)
 have hn:((List.range (2+m*l)).map λi=>(zs.getD i z0,(capR m l i).map λk=>zs.getD k z0)).map (·.1)=(List.finRange (2+m*l)).map λx=>zs.getD x.1 z0:=by
  rw[Ze]
  refine List.ext_getElem (by simp) λi h1 h2=>?_
  simp
 have ax:(((List.range (2+m*l)).map λi=>(zs.getD i z0,(capR m l i).map λk=>zs.getD k z0)).map (·.1)).Nodup:=by
  rw[hn]
  exact Wr.mpr ((List.nodup_finRange _).imp λne e=>ne (hf _ _ e))
 refine⟨_,_,hn▸cert_map (f:=λx:Fin (2+m*l)=>zs.getD x.1 z0) hf (cap_cert h) (λx=>?_) (λy hy=>?_) (List.mem_finRange _)⟩
 ·have hmem:(zs.getD x.1 z0,(capR m l x.1).map fun k=>zs.getD k z0)∈(List.range (2+m*l)).map fun i=>(zs.getD i z0,(capR m l i).map fun k=>zs.getD k z0):=Qf.mpr ⟨x.1,Uu.mpr x.2,rfl⟩
  rw[zdb ax hmem]
  show(capR m l x.1).map _=(List.filterMap _ _).map _
  have lR:=h.lo x.1 x.2
  generalize capR m l x.1=ks at lR
  induction ks with
  |nil=>rfl
  |cons a t ih =>
   have ha:=lR a Qc
   rw[List.filterMap_cons,dif_pos ha,Ql,Ql,ih λk hk=>lR k (Qg _ hk)]
 ·refine ze1 fun z=>?_
  rw[hn]at z
  obtain⟨x,_,e⟩:=Qf.mp z
  exact hy x e.symm
end Wb
end
section
namespace L2
open PySem PySem.Spec PyProof.Rows
def lc_range{g:TG}{te:TE}{Q:VK}{τ:St}{H:Hp}{lo:Int}{n:Nat}(T:St→Prop)(Pv:List V→Hp→Prop)(hn:n≤sizeLine)(h0:T τ)(p0:Pv [] H)(hs:∀i ys τ H,i<n→ys.length=i→T τ→Pv ys H→∀k:V→St→Hp→Prop,(∀y τ2 H2,T τ2→Pv (ys++[y]) H2→k y τ2 H2)→g (.int (lo+i)) τ H λ τ2 H2=>te τ2 H2 λy H4=>k y τ2 H4)(q:∀ys H',ys.length=n→Pv ys H'→∀D,H' D=none→Q (.ref D) (upd H' D (.lst ys))):rLC g tAll te Q (Itr lo n) τ H:=by
 refine⟨λi m ys τ H1=>Aj5 (T τ) (Pv ys H1) (m=n-i) (i≤n) (ys.length=i),⟨_,h0,p0,rfl,Zg _,rfl⟩,?_⟩
 rintro i m ys τ H1 ⟨ht,hp,rfl,hi,hl⟩
 by_cases ag:i<n
 ·refine .inr ⟨ag,by lia,?_⟩
  rintro x H' ⟨rfl,rfl⟩
  refine hs i ys τ H' ag hl ht hp (λy τ2 H4=>∃m',m'<n-i∧Aj5 (T τ2) (Pv (ys++[y]) H4) (m'=n-(i+1)) (i+1≤n) ((ys++[y]).length=i+1)) λy τ2 H2 h2 p2=>?_
  exact⟨_,by exact zar1 ‹_›,h2,p2,rfl,ag,by rw[Qs,hl];rfl⟩
 ·have e:i=n:=by exact zar3 ‹_› ‹_›
  subst e
  exact .inl ⟨Qh _,λD hD=>q ys H1 hl hp D hD⟩
def sl_listK{X:Cx}{K:Na}(hK:X.K=K):SlR X (rSlL K):=hK▸zc9
def join{t u:TS}{D:Ends}{σ:St}{H:Hp}{c b:St→Hp→Prop}{r:V→Hp→Prop}(P:St→Hp→Prop)(h:∀D':Ends,(∀σ H,P σ H→D'.nx σ H)→t D' σ H)(hD:∀σ H,P σ H→u D σ H):({nx:=tSeq t u D,ct:=c,bk:=b,rt:=r}:Ends).nx σ H:=h {D with nx:=u D} hD
def joinS{t u:TS}{D:Ends}{σ:St}{H:Hp}(P:St→Hp→Prop)(h:∀D':Ends,(∀σ H,P σ H→D'.nx σ H)→t D' σ H)(hD:∀σ H,P σ H→u D σ H):tSeq t u D σ H:=h {D with nx:=u D} hD
end L2
namespace K21
open PySem L2 Wb
abbrev sCap:Stmt:=top 40
def cut_mid{xs:List V}{a b:Nat}(h:a≤b)(hb:b≤xs.length):cutV xs (some (a:Int)) (some (b:Int))=(xs.drop a).take (b-a):=by
 unfold cutV
 have e1:HT.sIx xs.length 0 (some (a:Int))=a:=by rw[HT.sIx_nat];omega
 have e2:HT.sIx xs.length xs.length (some (b:Int))=b:=by rw[HT.sIx_nat];omega
 rw[e1,e2]
def zca(zs:Ng)(z0:Str)(m j:Nat):List Str:=(List.range m).map λk=>zs.getD (2+m*j+k) z0
def cut_ring{zs:Ng}{z0:Str}{m j:Nat}(h:2+m*j+m≤zs.length):((zs.map V.str).drop (2+m*j)).take m=(zca zs z0 m j).map V.str:=by
 unfold zca
 refine List.ext_getElem ?_ λi h1 h2=>?_
 ·rw[Zi,Jp,Qa,Qa,Qa,Yh];omega
 ·have hi:i < m:=by rw [Qa,Qa,Yh] at h2;exact h2
  rw[Ws,List.getElem_drop,Zj,Zj,Zj,Uj,Zs,Qd (by omega)]
  rfl
def capR_at{m l j k:Nat}(hk:k<m):capR m l (2+m*j+k)=[2+m*j+(k+1)%m]++(if 0<j then[2+m*(j-1)+(k+1)%m,2+m*(j-1)+k] else[0])++[2+m*j+bk m k]++(if j+1<l then[2+m*(j+1)+bk m k,2+m*(j+1)+k] else[1]):=by
 have e1:(2+m*j+k-2)=m*j+k:=by omega
 have e2:(m*j+k)/m=j:=by rw[Nat.mul_add_div (by omega),Nat.div_eq_of_lt hk];rfl
 have e3:(m*j+k)%m=k:=by rw[Nat.mul_add_mod,Nat.mod_eq_of_lt hk]
 unfold capR
 rw[if_neg (by omega),if_neg (by omega),e1,e2,e3]
abbrev csC:Scope:=scOf (eOf (sAt sCap 0))
def csC_k:csC.kind=.function:=by rfl
def csC_c:∀y∈csC.names,y.2≠.cell:=by decide +kernel
def csC_n:∀y∈csC.names,y.2=.local→csC.names.lookup y.1=some .local:=by decide +kernel
def csC_f:∀y∈csC.names,y.2=.free→(zag sCap).names.lookup y.1=some .cell∨(zag sCap).names.lookup y.1=some .free:=by decide +kernel
def csC_l1:csC.names.lookup (qN:Str)=some NameKind.free:=by decide +kernel
def csC_l2:csC.names.lookup (qM:Str)=some NameKind.free:=by decide +kernel
def ndC:(["_law_j",qN,qM]:List Str).Nodup:=by decide +kernel
def zgy{zs:Ng}{z0:Str}{m j k:Nat}(h:k<m):atI ((zca zs z0 m j).map V.str) (k:Int)=some (.str (zs.getD (2+m*j+k) z0)):=by
 refine zar ?_
 unfold zca
 rw[Qq,Qq,List.getElem?_range h]
 rfl
def at_ring'{zs:Ng}{z0:Str}{m j k:Nat}(h:k<m):atI ((zca zs z0 m j).map V.str) ((k:Int)-1)=some (.str (zs.getD (2+m*j+bk m k) z0)):=by
 have hl:((zca zs z0 m j).map V.str).length=m:=by unfold zca;rw[List.length_map,List.length_map,List.length_range]
 rw[zi7 (by rw[hl];exact h),hl]
 unfold zca
 have hb:pidx m k<m:=by unfold pidx;split<;>omega
 rw[Qq,Qq,List.getElem?_range hb]
 rfl
def RN.newR{H H1:Hp}{d a:Nb}{es:List Ent}{x:Str}{r:Ng}(R:RN H d es)(k:Keep [] H H1)(hn:H a=none)(hx:x∉es.map (·.1))(ha:H1 a=some (.lst (r.map V.str))) :
  RN (upd H1 d (.dK (putK (eV es) (Sum.inr x) (.ref a)))) d (es++[(x,r,a)]):=by
 refine⟨rat_new (R.k0 k).toRAt hx ha,?_⟩
 rw[Qp,Zb]
 refine⟨R.an,Qr.mpr ⟨by simp,Zn⟩,λy hy z hz e=>?_⟩
 have ca:z=a:=by simpa using hz
 obtain⟨e0,h0,rfl⟩:=Qf.mp hy
 have:=R.ro e0 h0
 rw[show e0.2.2=a from e.trans ca,hn]at this
 cases this
inductive CapI(zs:Ng)(z0:Str)(m ly:Nat)(H H3:Hp)(d:Nb)(c:Nat)(H':Hp):Prop
 |mk (es:List Ent) (rn:RN H' d es) (rs:rsOf es=(List.range c).map λi=>(zs.getD i z0,(capR m ly i).map λk=>zs.getD k z0)) (fr:∀e∈es,H e.2.2=none) (kp:Keep [d] H3 H'):CapI zs z0 m ly H H3 d c H'
def CapI.k0{zs:Ng}{z0:Str}{m ly:Nat}{H H3:Hp}{d:Nb}{c:Nat}{H' H2:Hp}(h:CapI zs z0 m ly H H3 d c H')(k:Keep [] H' H2):CapI zs z0 m ly H H3 d c H2:=by
 obtain⟨es,rn,rs,fr,kp⟩:=h
 exact⟨es,rn.k0 k,rs,fr,kp.trans (k.sub (by simp))⟩
def spCap:Sp:=λvs H Q _=>Ex4 λl zs m ly=>Aj4 (vs=[.ref l,.int (m:Nat),.int (ly:Nat)]) (m=5∨m=6∨m=7) (ly=2∨ly=3) (IspMade (λn=>n=zs.take (2+m*ly)) vs H Q l zs)
section
variable{P:Ni}{w:Nk}{K:Na}{mg:Nd}{base:Nm}
def zg5:zap [qN,qM, "_law_layers", "_law_rows_here",qR, "_law_j", "_law_row", "_law_k", "_law_on", "_law_above", "_law_below"] [qN,qM, "_law_layers"] (zag sCap):=fsk
def ok_cap{f:Nb}{fd:No}(F:Fun K "_law_capped" "_law_capped" sCap f fd)(bV:mg "range" = none)(aK:mg "list" = none)(tX:mg "reversed" = none)(vd:mg "enumerate" = none):FnOk P w K mg base CX0 1 f fd [qN,qM, "_law_layers"] spCap:=by
 refine F.okL zg5 (λcdv A outer s H vs Q E hr h=>?_) λ_ _ _ _ ⟨_,_,_,_,e,_,_,_⟩=>e▸rfl
 obtain⟨l,zs,m,ly,rfl,hm,hly,hl,ax,dG,k⟩:=h
 have hu:=zbz hr
 have av  := sizeLine_eq
 refine⟨_,zad (ps_lc (i:=3) (M:=["_law_j",qN,qM]) (ix:=[none,some 0,some 1]) zg5.nd rfl rfl ⟨csC_k,csC_c,csC_n,csC_f,rfl,ndC,λj i x h1 h2=>by
      match j,h1,h2 with
      |0,_,h2=>cases h2
      |1,h1,h2=>cases h1;cases h2;exact⟨rfl,csC_l1⟩
      |2,h1,h2=>cases h1;cases h2;exact⟨rfl,csC_l2⟩
      |n+3,h1,_=>cases h1⟩ rfl (zeo rfl bV (zab (pv 2) zaf)) (λC a7 ex s H=>za9 0 ndC)
      (λC a7 ex s H=>zck) (λC a7 ex s H=>zcs (sl_listK (K:=K) rfl) (pv 1) (zc0 (zav zbv zai (zav zfe (pv 2) (pv 0)))) (zc0 (zav zbv (zav zbv zai (zav zfe (pv 2) (pv 0))) (pv 2)))) rfl)
  (zad (zau 4 zg5.nd (zge (zcz (zay zao (pv 0) zai (λ_ _=>rfl)) (zbe zdj (by rfl) aK Ui (zab (zay zao (pv 3) zai (λ_ _=>rfl)) zaf))
    (zcz (zay zao (pv 0) zai (λ_ _=>rfl)) (pe_rev rfl (by rfl) aK (by rfl) tX (zay zao (pv 3) (pe_un un_neg zai) (λ_ _=>rfl))) zgc)) rfl rfl (by decide) (by decide)))
  (zad (zbq Zr rfl (pi_enumL (by rfl) vd (zab (pv 3) zaf)) (zfc rfl (za4 (za9 5 zg5.nd) (za4 (za9 6 zg5.nd) zcl)))
   (zah (zbq Zr rfl (zeo rfl bV (zab (pv 1) zaf)) (za9 7 zg5.nd)
    (zad (zau 8 zg5.nd (zav zff (zav zbv (pv 7) zai) (pv 1)))
    (zad (ps_par (i:=9) (j:=10) rfl zg5.nd rfl rfl (by decide) rfl rfl (zab (zbd (zab (zay zao (pv 0) zai (λ_ _=>rfl)) zaf)) (zab (zbd (zab (zay zao (pv 0) zai (λ_ _=>rfl)) zaf)) zaf)) rfl)
    (zad (zbp (zaq op_gt (pv 5) zai (zba _)) (zah (zau 9 zg5.nd (zbd (zab (zay zao (zay zao (pv 3) (zav zfd (pv 5) zai) (λ_ _=>rfl)) (pv 8) (λ_ _=>rfl)) (zab (zay zao (zay zao (pv 3) (zav zfd (pv 5) zai) (λ_ _=>rfl)) (pv 7) (λ_ _=>rfl)) zaf))))) zaw)
    (zad (zbp (zaq op_lt (zav zbv (pv 5) zai) (pv 2) (zba _)) (zah (zau 10 zg5.nd (zbd (zab (zay zao (zay zao (pv 3) (zav zbv (pv 5) zai) (λ_ _=>rfl)) (zav zfd (pv 7) zai) (λ_ _=>rfl)) (zab (zay zao (zay zao (pv 3) (zav zbv (pv 5) zai) (λ_ _=>rfl)) (pv 7) (λ_ _=>rfl)) zaf))))) zaw)
    (zah (zcg hu (pv 4) (zay zao (pv 6) (pv 7) (λ_ _=>rfl)) (zav zd0 (zav zd0 (zav zd0 (zbd (zab (zay zao (pv 6) (pv 8) (λ_ _=>rfl)) zaf)) (pv 9)) (zbd (zab (zay zao (pv 6) (zav zfd (pv 7) zai) (λ_ _=>rfl)) zaf))) (pv 10)) rfl)))))))))
  (zah (zbn (pv 4))))),?_⟩
 have aJ:(zs.map V.str).length=40:=by rw[Qa,dG]
 have hb:∀i,i<ly→2+m*i+m≤40:=by
  rcases hm with rfl | rfl | rfl<;>rcases hly with rfl | rfl<;>(intro i hi;omega)
 have hmp:5≤m∧m≤7:=by omega
 have hlp:2≤ly∧ly≤3:=by omega
 obtain⟨z0,hz0⟩:∃z0,z0=zs[0]:=⟨_,rfl⟩
 have gz:∀j,j<40→(zs.map V.str)[j]?=some (.str (zs.getD j z0)):=λj hj=>by
  rw[Qq,Zs,Qd (by omega)];rfl
 refine⟨_,rfl,(ly:Int),rfl,by omega,by omega,?_⟩
 refine lc_range (n:=ly) (λ τ=>∃x0,τ=[x0,some (.ref l),some (.int m)]) (λys H'=>Ex1 λas:List Addr=>Aj4 (ys=as.map V.ref) (∀j (hj:j<as.length),H' as[j]=some (.lst ((zca zs z0 m j).map V.str))) (∀a∈as,H a=none) (Keep [] H H')) (by omega) ⟨none,rfl⟩ ⟨[],rfl,λj hj=>(by cases hj),λa ha=>(by cases ha),λ_ _ e _=>e⟩ ?_ ?_
 ·rintro i ys τ H1 hi mV ⟨x0,rfl⟩ ⟨as,rfl,rA,fj,k1⟩ kk hk
  rw[Qa]at mV
  have cC:=k1 _ _ hl (by simp)
  refine⟨_,rfl,_,rfl,_,rfl,_,_,rfl,rfl,.inl ⟨by omega,by omega⟩,_,_,rfl,rfl,_,rfl,_,rfl,_,rfl,_,_,rfl,rfl,.inl ⟨by omega,by omega⟩,_,_,rfl,rfl,_,rfl,_,_,rfl,rfl,_,rfl,l,_,rfl,SqL.of cC,λp hp=>?_⟩
  have e1:(2:Int)+(m:Int)*(0+(i:Int))=((2+m*i:Nat):Int):=by simp
  have vq:=hb i hi
  rw[e1,show((2+m*i:Nat):Int)+(m:Int)=((2+m*i+m:Nat):Int) from(Ka _ _).symm,cut_mid (Yl _ _) (by rw[aJ];exact vq),Nat.add_sub_cancel_left,cut_ring (z0:=z0) (by rw[dG];exact vq)]
  refine hk _ _ _ ⟨_,rfl⟩ ⟨as++[p],by rw[Qp];rfl,λj hj=>?_,λa ha=>?_,k1.trans (Keep.new hp)⟩
  ·rw [Qs] at hj
   have oI:j<as.length+1:=hj
   by_cases h:j<as.length
   ·rw[List.getElem_append_left h,zae (zaa (rA j h) hp)];exact rA j h
   ·have:j=i:=by omega
    subst this
    rw[List.getElem_append_right (by omega)]
    simp only[mV,Nat.sub_self,List.getElem_cons_zero]
    exact zac
  ·rcases Qi.mp ha with z | z
   ·exact fj a z
   ·rw[Qb.mp z];exact zak k1 hp (by simp)
 ·rintro ys H1 mV ⟨as,rfl,rA,fj,k1⟩ rl aI
  rw[Qa]at mV
  have cC:=k1 _ _ hl (by simp)
  have k2:Keep [] H (upd H1 rl (.lst (as.map V.ref))):=k1.trans (Keep.new aI)
  have cN:(upd H1 rl (.lst (as.map V.ref))) rl=some (.lst (as.map V.ref)):=zac
  obtain⟨fa,cJ⟩:∃fa:Nat→Addr,∀j (hj:j<as.length),as[j]=fa j:=⟨λj=>as.getD j 0,λj hj=>by simp[List.getD,hj]⟩
  have dk:∀j,j<ly→(upd H1 rl (.lst (as.map V.ref))) (fa j)=some (.lst ((zca zs z0 m j).map V.str)):=λj hj=>by
   have:=rA j (by omega)
   rw[cJ]at this
   rw[zae (zaa this aI)];exact this
  have ra:∀j:Nat,j<ly→(as.map V.ref)[j]?=some (.ref (fa j)):=λj hj=>by
   rw[Qq,Qd (by omega),cJ j (by omega)];rfl
  have cV:(as.map V.ref).length=ly:=by rw[Qa,mV]
  generalize upd H1 rl (.lst (as.map V.ref))=H2 at k2 cN dk
  have ak:=k2 _ _ hl (by simp)
  have lF:1<ly:=hlp.1
  refine λd hd=>?_
  have kd:Keep [] H2 (upd H2 d (.dK [])):=Keep.new hd
  refine⟨_,rfl,l,_,_,_,rfl,rfl,SqL.of (kd _ _ ak (by simp)),zar (j:=0) (gz 0 (by decide)),_,rfl,rl,_,_,_,rfl,rfl,SqL.of (kd _ _ cN (by simp)),zar (j:=0) (ra 0 (by omega)),fa 0,_,rfl,.inl (SqL.of (kd _ _ (dk 0 (by omega)) (by simp))),λa0 h0=>?_⟩
  have k0:Keep [] H2 (upd (upd H2 d (.dK [])) a0 (.lst ((zca zs z0 m 0).map V.str))):=kd.trans (Keep.new h0)
  have i5:d≠a0:=zaa (o:=_) zac h0
  have elast:atI (as.map V.ref) (-1)=some (.ref (fa (ly-1))):=by
   have:=zi7 (zs:=as.map V.ref) (j:=0) (by rw[cV];omega)
   rw[cV]at this
   rw[show(-1:Int)=((0:Nat):Int)-1 by rfl,this]
   exact ra (ly-1) (by omega)
  refine⟨_,rfl,l,_,_,_,rfl,rfl,SqL.of (k0 _ _ ak (by simp)),zar (j:=1) (gz 1 (by decide)),_,rfl,_,rfl,rl,_,_,_,rfl,rfl,SqL.of (k0 _ _ cN (by simp)),elast,fa (ly-1),_,rfl,SqL.of (k0 _ _ (dk (ly-1) (by omega)) (by simp)),λa1 h1=>?_⟩
  have sK:Keep [] H2 (upd (upd (upd H2 d (.dK [])) a0 (.lst ((zca zs z0 m 0).map V.str))) a1 (.lst ((zca zs z0 m (ly-1)).map V.str).reverse)):=k0.trans (Keep.new h1)
  have nd1:d≠a1:=zaa (o:=_) (by rw[zae i5];exact zac) h1
  have n01:a0≠a1:=zaa (o:=_) zac h1
  have kZ:(upd (upd (upd H2 d (.dK [])) a0 (.lst ((zca zs z0 m 0).map V.str))) a1 (.lst ((zca zs z0 m (ly-1)).map V.str).reverse)) d=some (.dK []):=by rw[zae nd1,zae i5];exact zac
  have qz:(upd (upd (upd H2 d (.dK [])) a0 (.lst ((zca zs z0 m 0).map V.str))) a1 (.lst ((zca zs z0 m (ly-1)).map V.str).reverse)) a0=some (.lst ((zca zs z0 m 0).map V.str)):=by rw[zae n01];exact zac
  have hx1:(upd (upd (upd H2 d (.dK [])) a0 (.lst ((zca zs z0 m 0).map V.str))) a1 (.lst ((zca zs z0 m (ly-1)).map V.str).reverse)) a1=some (.lst (((zca zs z0 m (ly-1)).reverse).map V.str)):=by rw[zac,List.map_reverse]
  have f0:H a0=none:=zak (k2.trans kd) h0 (by simp)
  have f1:H a1=none:=zak (k2.trans k0) h1 (by simp)
  have fd:H d=none:=zak k2 hd (by simp)
  refine⟨kZ,[(Sum.inr (zs.getD 0 z0),.ref a0),(Sum.inr (zs.getD 1 z0),.ref a1)],rfl,(by show 2≤15;decide),?_⟩
  generalize upd (upd (upd H2 d (.dK [])) a0 (.lst ((zca zs z0 m 0).map V.str))) a1 (.lst ((zca zs z0 m (ly-1)).map V.str).reverse)=H4 at sK kZ qz hx1
  have sR:∀i j,i<40→j<40→zs.getD i z0=zs.getD j z0→i=j:=λi j hi hj e=>by
   rw[Zs,Zs,Qd (by omega),Qd (by omega)]at e
   exact(Yf ax).mp e
  have z01:zs.getD 1 z0∉[zs.getD 0 z0]:=λz=>by
   have:=sR 1 0 (by decide) (by decide) (Qb.mp z)
   cases this
  have C0:CapI zs z0 m ly H H2 d 2 (upd H4 d (.dK (zcn [] [((Sum.inr (zs.getD 0 z0):Key),V.ref a0),(Sum.inr (zs.getD 1 z0),.ref a1)]))):=by
   refine⟨[(zs.getD 0 z0,zca zs z0 m 0,a0),(zs.getD 1 z0,(zca zs z0 m (ly-1)).reverse,a1)],⟨⟨?_,λe he=>?_,?_⟩,?_⟩,?_,λe he=>?_,(sK.sub (by simp)).trans (Keep.wr (by simp))⟩
   ·rw [zac]
    exact congrArg (λx=>some (HO.dK x)) (zib (es:=[(zs.getD 0 z0,zca zs z0 m 0,a0)]) (r:=(zca zs z0 m (ly-1)).reverse) z01)
   ·rcases Qe.mp he with z | z
    ·rw [z]
     show upd _ _ _ a0=_
     rw[zae (Qw i5)];exact qz
    ·rw [Qb.mp z]
     show upd _ _ _ a1=_
     rw[zae (Qw nd1)];exact hx1
   ·exact Qr.mpr ⟨λz=>z01 (Qb.mpr (Qb.mp z).symm),Qr.mpr ⟨by simp,Zn⟩⟩
   ·exact Qr.mpr ⟨λz=>n01 (Qb.mp z),Qr.mpr ⟨by simp,Zn⟩⟩
   ·show [_,_]=[_,_]
    unfold zca capR
    simp
   ·rcases Qe.mp he with z | z
    ·rw[z];exact f0
    ·rw[Qb.mp z];exact f1
  generalize upd H4 d (.dK (zcn [] [((Sum.inr (zs.getD 0 z0):Key),V.ref a0),(Sum.inr (zs.getD 1 z0),.ref a1)]))=H5 at C0
  have ndl:l≠d:=zaa ak hd
  have dq:rl≠d:=zaa cN hd
  have nda:∀j,j<ly→fa j≠d:=λj hj=>zaa (dk j hj) hd
  refine⟨_,rfl,rl,rfl,⟨_,SqL.of (by obtain⟨_,_,_,_,kp⟩:=C0;exact kp _ _ cN (by simpa using dq))⟩,?_⟩
  refine for_enumL (xs:=as.map V.ref) (λj σ H'=>Ex6 λx5 x6 x7 x8 x9 jx=>Aj2 (σ=[some (.ref l),some (.int m),some (.int ly),some (.ref rl),some (.ref d),x5,x6,x7,x8,x9,jx]) (CapI zs z0 m ly H H2 d (2+m*j) H'))
   ⟨_,_,_,_,_,_,rfl,C0⟩ (λj σ H' _ hh=>by obtain⟨_,_,_,_,_,_,_,_,_,_,_,kp⟩:=hh;exact kp _ _ cN (by simpa using dq)) ?_ ?_
  ·rintro j x t σ H6 hx ⟨x5,x6,x7,x8,x9,jx,rfl,C6⟩ ht
   have hj:j<ly:=by
    have:=(Zd.mp hx).1
    rwa[cV]at this
   have ex:x=.ref (fa j):=Qk (hx.symm.trans (ra j hj))
   subst ex
   have C7:=C6.k0 (Keep.new (o:=.tup [.int j,.ref (fa j)]) ht)
   have qG:(upd H6 t (.tup [.int j,.ref (fa j)])) t=some (.tup [.int j,.ref (fa j)]):=zac
   generalize upd H6 t (.tup [.int j,.ref (fa j)])=H7 at C7 qG
   refine⟨t,_,rfl,SqT.of qG,rfl,_,_,rfl,_,_,rfl,rfl,?_⟩
   refine⟨_,rfl,(m:Int),rfl,by omega,by omega,?_⟩
   refine zdh (n:=m) (lo:=0) (λk σ H'=>Ex4 λx7 x8 x9 jx=>Aj2 (σ=[some (.ref l),some (.int m),some (.int ly),some (.ref rl),some (.ref d),some (.int j),some (.ref (fa j)),x7,x8,x9,jx]) (CapI zs z0 m ly H H2 d (2+m*j+k) H'))
    ⟨_,_,_,_,rfl,C7⟩ ?_ (λ σ H' ⟨_,_,_,_,e,C⟩=>⟨_,_,_,_,_,_,e,by rw[show 2+m*(j+1)=2+m*j+m by rw[Nat.mul_add];omega];exact C⟩)
   rintro q σ H8 hq ⟨y7,y8,y9,y10,rfl,C8⟩
   have hbj:=hb j hj
   have ck:∀{H':Hp},CapI zs z0 m ly H H2 d (2+m*j+q) H'→Keep [d] H2 H':=λ{H'} C=>by obtain⟨_,_,_,_,kp⟩:=C;exact kp
   have eq0:(0:Int)+(q:Int)=(q:Int):=Int.zero_add _
   have eon:((q:Int)+1)%(m:Int)=(((q+1)%m:Nat):Int):=by simp
   rw[eq0]
   have iw:(q+1)%m<m:=Nat.mod_lt _ (by omega)
   refine⟨_,rfl,_,_,rfl,rfl,_,rfl,_,_,rfl,rfl,(by show(0:Int)<m;omega),?_⟩
   rw[eon]
   generalize ua:(q+1)%m=on at iw
   have oE:=ck C8 _ _ ak (by simpa using ndl)
   refine⟨_,rfl,l,_,_,_,rfl,rfl,SqL.of oE,zar (j:=0) (gz 0 (by decide)),(by show 1≤sizeLine;decide),λa9 h9=>?_⟩
   have C9:=C8.k0 (Keep.new (o:=.lst [.str (zs.getD 0 z0)]) h9)
   have e9:(upd H8 a9 (.lst [.str (zs.getD 0 z0)])) a9=some (.lst ([0].map λk=>V.str (zs.getD k z0))):=zac
   generalize upd H8 a9 (.lst [.str (zs.getD 0 z0)])=H9 at C9 e9
   have hl9:=ck C9 _ _ ak (by simpa using ndl)
   refine⟨_,rfl,l,_,_,_,rfl,rfl,SqL.of hl9,zar (j:=1) (gz 1 (by decide)),(by show 1≤sizeLine;decide),λlq iQ=>⟨_,_,rfl,?_⟩⟩
   have qj:=C9.k0 (Keep.new (o:=.lst [.str (zs.getD 1 z0)]) iQ)
   have rL:(upd H9 lq (.lst [.str (zs.getD 1 z0)])) lq=some (.lst ([1].map λk=>V.str (zs.getD k z0))):=zac
   have e9':(upd H9 lq (.lst [.str (zs.getD 1 z0)])) a9=some (.lst ([0].map λk=>V.str (zs.getD k z0))):=by rw[zae (zaa e9 iQ)];exact e9
   generalize upd H9 lq (.lst [.str (zs.getD 1 z0)])=gH at qj rL e9'
   refine join (λ σ H'=>Ex1 λb9=>Aj4 (σ=[some (.ref l),some (.int m),some (.int ly),some (.ref rl),some (.ref d),some (.int j),some (.ref (fa j)),some (.int q),some (.int on),some (.ref b9),some (.ref lq)]) (CapI zs z0 m ly H H2 d (2+m*j+q) H') (H' lq=some (.lst ([1].map λk=>V.str (zs.getD k z0)))) (H' b9=some (.lst ((if 0<j then[2+m*(j-1)+on,2+m*(j-1)+q] else[0]).map λk=>V.str (zs.getD k z0))))) (λD' hD=>?_) ?_
   ·refine ⟨_,rfl,_,_,rfl,rfl,_,rfl,?_⟩
    have f':=ck qj _ _ cN (by simpa using dq)
    refine ite2 (λhc=>?_) (λhc=>?_)
    ·have gm:0 < j:=by have:=of_decide_eq_true hc;omega
     have gl:j-1<ly:=by omega
     have eat:atI (as.map V.ref) ((j:Int)-1)=some (.ref (fa (j-1))):=by rw[show(j:Int)-1=((j-1:Nat):Int) by omega];exact zar (ra _ gl)
     have hg:=ck qj _ _ (dk _ gl) (by simpa using nda _ gl)
     refine⟨_,rfl,_,rfl,_,_,rfl,rfl,rl,_,_,_,rfl,rfl,SqL.of f',eat,_,rfl,fa (j-1),_,_,_,rfl,rfl,SqL.of hg,zgy iw,_,rfl,_,rfl,_,_,rfl,rfl,rl,_,_,_,rfl,rfl,SqL.of f',eat,_,rfl,fa (j-1),_,_,_,rfl,rfl,SqL.of hg,zgy hq,(by show 2≤sizeLine;decide),λb9 hb9=>hD _ _ ⟨b9,rfl,qj.k0 (Keep.new hb9),by rw[zae (zaa rL hb9)];exact rL,by rw[zac,if_pos gm];rfl⟩⟩
    ·have gm:¬ 0 < j:=fun z=>hc (decide_eq_true (by omega))
     exact hD _ _ ⟨a9,rfl,qj,rL,by rw[if_neg gm];exact e9'⟩
   rintro σ hZ ⟨b9,rfl,rY,vQ,mf⟩
   refine joinS (λ σ H'=>Ex1 λju=>Aj4 (σ=[some (.ref l),some (.int m),some (.int ly),some (.ref rl),some (.ref d),some (.int j),some (.ref (fa j)),some (.int q),some (.int on),some (.ref b9),some (.ref ju)]) (CapI zs z0 m ly H H2 d (2+m*j+q) H') (H' b9=some (.lst ((if 0<j then[2+m*(j-1)+on,2+m*(j-1)+q] else[0]).map λk=>V.str (zs.getD k z0)))) (H' ju=some (.lst ((if j+1<ly then[2+m*(j+1)+bk m q,2+m*(j+1)+q] else[1]).map λk=>V.str (zs.getD k z0))))) (λD' hD=>?_) ?_
   ·refine ⟨_,rfl,_,_,rfl,rfl,_,rfl,_,_,rfl,rfl,_,rfl,?_⟩
    have f':=ck rY _ _ cN (by simpa using dq)
    refine ite2 (λhc=>?_) (λhc=>?_)
    ·have gl:j+1 < ly:=by have:=of_decide_eq_true hc;omega
     have eat:atI (as.map V.ref) ((j:Int)+1)=some (.ref (fa (j+1))):=by rw[show(j:Int)+1=((j+1:Nat):Int) by omega];exact zar (ra _ gl)
     have hg:=ck rY _ _ (dk _ gl) (by simpa using nda _ gl)
     refine⟨_,rfl,_,rfl,_,_,rfl,rfl,rl,_,_,_,rfl,rfl,SqL.of f',eat,_,rfl,_,_,rfl,rfl,fa (j+1),_,_,_,rfl,rfl,SqL.of hg,at_ring' hq,_,rfl,_,rfl,_,_,rfl,rfl,rl,_,_,_,rfl,rfl,SqL.of f',eat,_,rfl,fa (j+1),_,_,_,rfl,rfl,SqL.of hg,zgy hq,(by show 2≤sizeLine;decide),λju eI=>hD _ _ ⟨ju,rfl,rY.k0 (Keep.new eI),by rw[zae (zaa mf eI)];exact mf,by rw[zac,if_pos gl];rfl⟩⟩
    ·have gm:¬ j+1 < ly:=fun z=>hc (decide_eq_true (by omega))
     exact hD _ _ ⟨lq,rfl,rY,mf,by rw[if_neg gm];exact vQ⟩
   rintro σ hX ⟨ju,rfl,C12,mf,qb⟩
   generalize gZ:(if 0<j then[2+m*(j-1)+on,2+m*(j-1)+q] else[0])=ab at mf
   generalize dD:(if j+1<ly then[2+m*(j+1)+bk m q,2+m*(j+1)+q] else[1])=be at qb
   have pI:ab.length≤2:=by rw[←gZ];split<;>simp
   have hbl2:be.length≤2:=by rw[←dD];split<;>simp
   have kU:=ck C12 _ _ (dk _ hj) (by simpa using nda _ hj)
   refine⟨_,rfl,_,rfl,fa j,_,_,_,rfl,rfl,SqL.of kU,zgy iw,(by show 1≤sizeLine;decide),λp1 h1=>?_⟩
   have k1:Keep [] hX (upd hX p1 (.lst [V.str (zs.getD (2+m*j+on) z0)])):=Keep.new h1
   have q1:(upd hX p1 (.lst [V.str (zs.getD (2+m*j+on) z0)])) p1=some (.lst ([2+m*j+on].map λk=>V.str (zs.getD k z0))):=zac
   generalize upd hX p1 (.lst [V.str (zs.getD (2+m*j+on) z0)])=iR at k1 q1
   refine⟨_,rfl,p1,b9,_,_,rfl,rfl,q1,k1 _ _ mf (by simp),by rw[Qa,Qa];show 1+_≤_;omega,λp2 h2=>?_⟩
   rw[←Qp]
   have lD:Keep [] hX (upd iR p2 (.lst (([2+m*j+on]++ab).map λk=>V.str (zs.getD k z0)))):=k1.trans (Keep.new h2)
   have q2:(upd iR p2 (.lst (([2+m*j+on]++ab).map λk=>V.str (zs.getD k z0)))) p2=some (.lst (([2+m*j+on]++ab).map λk=>V.str (zs.getD k z0))):=zac
   generalize upd iR p2 (.lst (([2+m*j+on]++ab).map λk=>V.str (zs.getD k z0)))=H14 at lD q2
   refine⟨_,rfl,_,rfl,_,_,rfl,rfl,fa j,_,_,_,rfl,rfl,SqL.of (lD _ _ kU (by simp)),at_ring' hq,(by show 1≤sizeLine;decide),λp3 h3=>?_⟩
   have k3:Keep [] hX (upd H14 p3 (.lst [V.str (zs.getD (2+m*j+bk m q) z0)])):=lD.trans (Keep.new h3)
   have q3:(upd H14 p3 (.lst [V.str (zs.getD (2+m*j+bk m q) z0)])) p3=some (.lst ([2+m*j+bk m q].map λk=>V.str (zs.getD k z0))):=zac
   have lv:(upd H14 p3 (.lst [V.str (zs.getD (2+m*j+bk m q) z0)])) p2=_:=(zae (zaa q2 h3)).trans q2
   generalize upd H14 p3 (.lst [V.str (zs.getD (2+m*j+bk m q) z0)])=lu at k3 q3 lv
   refine⟨p2,p3,_,_,rfl,rfl,lv,q3,by rw[Qa,Qa,Qs];show 1+_+1≤_;omega,λp4 h4=>?_⟩
   rw[←Qp]
   have k4:Keep [] hX (upd lu p4 (.lst (([2+m*j+on]++ab++[2+m*j+bk m q]).map λk=>V.str (zs.getD k z0)))):=k3.trans (Keep.new h4)
   have q4:(upd lu p4 (.lst (([2+m*j+on]++ab++[2+m*j+bk m q]).map λk=>V.str (zs.getD k z0)))) p4=some (.lst (([2+m*j+on]++ab++[2+m*j+bk m q]).map λk=>V.str (zs.getD k z0))):=zac
   generalize upd lu p4 (.lst (([2+m*j+on]++ab++[2+m*j+bk m q]).map λk=>V.str (zs.getD k z0)))=jv at k4 q4
   refine⟨_,rfl,p4,ju,_,_,rfl,rfl,q4,k4 _ _ qb (by simp),by rw[Qa,Qa,Qs,Qs];show 1+_+1+_≤_;omega,λp5 h5=>?_⟩
   rw[←Qp]
   have ecr:[2+m*j+on]++ab++[2+m*j+bk m q]++be=capR m ly (2+m*j+q):=by rw[capR_at hq,ua,gZ,dD]
   rw[ecr]
   have k5:Keep [] hX (upd jv p5 (.lst ((capR m ly (2+m*j+q)).map λk=>V.str (zs.getD k z0)))):=k4.trans (Keep.new h5)
   have q5:(upd jv p5 (.lst ((capR m ly (2+m*j+q)).map λk=>V.str (zs.getD k z0)))) p5=some (.lst (((capR m ly (2+m*j+q)).map λk=>zs.getD k z0).map V.str)):=by rw[zac,Ze];rfl
   have f5:hX p5=none:=zak k4 h5 (by simp)
   generalize upd jv p5 (.lst ((capR m ly (2+m*j+q)).map λk=>V.str (zs.getD k z0)))=qh at k5 q5
   obtain⟨es,rn,rs,fr,kp⟩:=C12
   have aT:es.length=2+m*j+q:=by
    have:=congrArg List.length rs
    unfold rsOf at this
    rw[Qa,Qa,Yh]at this;exact this
   have eN:zs.getD (2+m*j+q) z0∉es.map (·.1):=λz=>by
    rw[←zbi,rs,Ze]at z
    obtain⟨i,hi,e⟩:=Qf.mp z
    have dj:=Uu.mp hi
    have:=sR i (2+m*j+q) (by omega) (by omega) e
    omega
   refine⟨_,rfl,_,rfl,_,rfl,fa j,_,_,_,rfl,rfl,SqL.of (k5 _ _ kU (by simp)),zgy hq,d,_,rfl,DPut.k (k:=Sum.inr (zs.getD (2+m*j+q) z0)) (k5 _ _ rn.dc (by simp)) (by rw[Qa,aT];omega),?_⟩
   have uK:H p5=none:=by
    refine zak (xs:=[d]) ((k2.sub (by simp)).trans kp) f5 ?_
    simpa using λz:p5=d=>(by rw[z,rn.dc]at f5;cases f5)
   refine⟨_,_,_,_,rfl,es++[(zs.getD (2+m*j+q) z0,(capR m ly (2+m*j+q)).map λk=>zs.getD k z0,p5)],rn.newR k5 f5 eN q5,?_,λe he=>?_,(kp.trans (k5.sub (by simp))).trans (Keep.wr (by simp))⟩
   ·rw [← Nat.add_assoc,List.range_succ,Qp,← rs]
    unfold rsOf
    rw[Qp];rfl
   ·rcases Qi.mp he with z | z
    ·exact fr e z
    ·rw[Qb.mp z];exact uK
  ·rintro σ H6 ⟨x5,x6,x7,x8,x9,jx,rfl,es,rn,rs,fr,kp⟩
   rw[cV]at rs
   have hc40:2+m*ly≤40:=by have:=hb (ly-1) (by omega);rw[show m*ly=m*(ly-1)+m by rw[←Nat.mul_succ];congr 1;omega];omega
   have aT:es.length=2+m*ly:=by
    have:=congrArg List.length rs
    unfold rsOf at this
    rw[Qa,Qa,Yh]at this;exact this
   refine⟨_,rfl,k d es H6 fd ⟨rn,?_,by omega⟩ (λz=>by rw[z]at aT;have:0=2+m*ly:=aT;omega) ?_ fr ?_⟩
   ·rw[rs];exact cap_good hm hly ax (by omega) z0
   ·rw [← zbi,rs,Ze]
    refine List.ext_getElem (by rw[Qa,Yh,Zi];omega) λi h1 h2=>?_
    have hi:i<zs.length:=by rw[Zi]at h2;omega
    rw[Zj,Uj,Ws]
    show zs.getD i z0=_
    rw[Zs,Qd hi];rfl
   ·intro c o ec _
    exact kp c o (k2 c o ec (by simp)) (by simpa using zaa ec fd)
end
end K21
end
section
namespace L2
def if_and(P:Prop)(ht:∀k:Bool→Hp→Prop,k true H→k false H→t σ H k)(hu:∀k:Bool→Hp→Prop,(P→k true H)→k false H→u σ H k)(q0:B D σ H)(q1:P→A D σ H):tIfS (tAnd t u) A B D σ H :=
 have q0':if(false=true) then A D σ H else B D σ H:=iteF q0
 ht _ (by
  show if(true=true) then u σ H (λb H1=>if b=true then A D σ H1 else B D σ H1) else _
  exact iteT (hu _ (λp=>iteT (q1 p)) q0')) (by
  show if(false=true) then _ else(if(false=true) then A D σ H else B D σ H)
  exact iteF q0')
end L2
namespace K21
open PySem L2 Wb
abbrev zh3:Stmt:=top 42
inductive RI(zs:Ng)(l:Nb)(H:Hp)(d:Nb)(H':Hp):Prop
 |mk (es:List Ent) (dr:Dr H' d es) (nm:es.map (·.1)=zs.take es.length) (ne:es≠[]) (fr:∀e∈es,H e.2.2=none) (nl:∀e∈es,e.2.2≠l) (hl:H' l=some (.lst (zs.map V.str))) (kp:Keep [] H H'):RI zs l H d H'
def RI.deed(fd:H d=none)(nm:es.map (·.1)=zs.take es.length)(ne:es≠[])(fr:∀e∈es,H e.2.2=none)(nl:∀e∈es,e.2.2≠l)(hl:Hr l=some (.lst (zs.map V.str)))(dr:Dr Hr d es)(kp:Keep [] H Hr)(hp:H p=none)(lp:l≠p)(D:Deed p d Hr es ex ao H2)(cD:zs.take es.length++ex=zs.take (es.length+ex.length)):RI zs l H d H2:=by
 have af:ao.length=es.length+ex.length:=by
  have:=congrArg List.length D.nm
  rwa[Qa,Qs,Qa]at this
 have nld:l≠d:=za2 hl dr.rn.dc (by intro z;cases z)
 have ad:∀e∈ao,H e.2.2=none∧e.2.2≠l:=λe he=>by
  rcases D.ad _ (Qf.mpr ⟨e,he,rfl⟩) with z | z
  ·obtain ⟨e0,h0,e1⟩:=Qf.mp z
   rw[←e1];exact⟨fr e0 h0,nl e0 h0⟩
  ·exact⟨zak kp z (by simp),Qw (zaa hl z)⟩
 refine⟨ao,D.dr,by rw[D.nm,nm,cD,af],λz=>?_,λe he=>(ad e he).1,λe he=>(ad e he).2,D.kp _ _ hl ?_,λc o ec _=>D.kp c o (kp c o ec (by simp)) ?_⟩
 ·rw [z] at af
  have:0<es.length:=Wg.mpr ne
  have:0=es.length+ex.length:=af
  omega
 ·simp only [Qe,not_or]
  refine⟨lp,nld,λz=>?_⟩
  obtain⟨e0,h0,e1⟩:=Qf.mp z
  exact nl e0 h0 e1
 ·simp only [Qe,not_or]
  refine⟨zaa ec hp,zaa ec fd,λz=>?_⟩
  obtain⟨e0,h0,e1⟩:=Qf.mp z
  exact zaa ec (fr e0 h0) e1.symm
inductive zg3(K:Na)(vs:List V)(H:Hp)(Q:VK):Prop
 |mk (a:Nb) (ns:List Int) (h0:vs=[.ref a]) (h1:SqL K H a (ns.map V.int)) (h2:ns.length≤1000) (h3:∀(d:Nb) (es:List Ent) (H':Hp),Dr H' d es→es≠[]→(∀e∈es,zfi e.1)→H d=none→Keep [] H H'→Q (.ref d) H'):zg3 K vs H Q
def zhg(K:Na):Sp:=λvs H Q _=>zg3 K vs H Q
section
variable{P:Ni}{w:Nk}{K:Na}{mg:Nd}{base:Nm}
def zcc:zap [qS,qP,qN,qR, "_law_way", "_law_k", "_law_line", "_law_deed"] [qS] (zag zh3):=fsk
def ok_rounds(F:Fun K "_law_rounds" "_law_rounds" zh3 f fd)(FP:Fun K "_law_pot" "_law_pot" sPot fp fdp)(bP:Binds K fdp [qS, "_law_k"] [])(mP:mg "_law_pot" = some (.ref fp))(GP:FnOk P w K mg base CX0 1 fp fdp [qS, "_law_k"] (spPot K))(FN:Fun K "_law_names" "_law_names" zdz fn fdn)(bN:Binds K fdn [qP,qM] [])(mN:mg "_law_names" = some (.ref fn))(GN:FnOk P w K mg base CX0 2 fn fdn [qP,qM] spNames)(FT:Fun K qD qD zga ft fdt)(bT:Binds K fdt [qP,qM] [])(mT:mg qD=some (.ref ft))(GT:FnOk P w K mg base CX0 1 ft fdt [qP,qM] zeg)(FG:Fun K "_law_long" "_law_long" sLong fg fdg)(bG:Binds K fdg [qN] [])(mG:mg "_law_long" = some (.ref fg))(GG:FnOk P w K mg base CX0 3 fg fdg [qN] spLong)(FC:Fun K "_law_capped" "_law_capped" sCap fc fdc)(bC:Binds K fdc [qN,qM, "_law_layers"] [])(mC:mg "_law_capped" = some (.ref fc))(GC:FnOk P w K mg base CX0 1 fc fdc [qN,qM, "_law_layers"] spCap)(FL:Fun K "_law_fill" "_law_fill" sFill fl fdl)(bL:Binds K fdl [qR,qP, "_law_name"] [])(mL:mg "_law_fill" = some (.ref fl))(GL:FnOk P w K mg base CX0 3 fl fdl [qR,qP, "_law_name"] spFill)(FM:Fun K "_law_more" "_law_more" sMore fm fdm)(bM:Binds K fdm [qR,qP, "_law_name"] [])(mM:mg "_law_more" = some (.ref fm))(GM:FnOk P w K mg base CX0 3 fm fdm [qR,qP, "_law_name"] spMore)(FA:Fun K "_law_away" "_law_away" sAway fa fda)(bA:Binds K fda [qR,qP] [])(mA:mg "_law_away" = some (.ref fa))(GA:FnOk P w K mg base CX0 3 fa fda [qR,qP] zfq)(FX:Fun K "_law_across" "_law_across" zh8 fx fdx)(bX:Binds K fdx [qR,qP] [])(mX:mg "_law_across" = some (.ref fx))(GX:FnOk P w K mg base CX0 3 fx fdx [qR,qP] zfq)(af:mg "len" = none)(ga:mg "min" = none)(bV:mg "range" = none):FnOk P w K mg base CX0 4 f fd [qS] (zhg K):=by
 refine F.okL zcc (λcdv A outer s H vs Q E hr h=>?_)
 obtain⟨a,ns,rfl,ha,df,k⟩:=h
 have hu:=zbz hr
 have au:Room 1 _:=hr.mono (by decide)
 have da:Room 2 _:=hr.mono (by decide)
 have av  := sizeLine_eq
 refine⟨_,zad (zau 1 zcc.nd (zaj GP au rfl mP FP.kp bP .nil zat (zab (pv 0) (zab zai zaf))))
  (zad (zau 2 zcc.nd (zaj GN da rfl mN FN.kp bN .nil zat (zab (pv 1) (zab zai zaf))))
  (zad (zau 3 zcc.nd (zge (zcz (zay zao (pv 2) zai (λ_ _=>rfl)) (zbd zaf) zgc) rfl rfl (by decide) (by decide)))
  (zad (zau 4 zcc.nd (zaj GT au rfl mT FT.kp bT .nil zat (zab (pv 1) (zab zai zaf))))
  (zad (zbp (zaq op_eq (pv 4) zai (zba _)) (zah (zau 3 zcc.nd (zaj GG hr rfl mG FG.kp bG .nil zat (zab (pv 2) zaf))))
    (zah (zbp (zaq op_lt (pv 4) zai (zba _)) (zah (zau 3 zcc.nd (zaj GC au rfl mC FC.kp bC .nil zat (zab (pv 2) (zab (zav zbv zai (zaj GT au rfl mT FT.kp bT .nil zat (zab (pv 1) (zab zai zaf)))) (zab (zav zbv zai (zaj GT au rfl mT FT.kp bT .nil zat (zab (pv 1) (zab zai zaf)))) zaf)))))) zaw)))
  (zad (zbq Zr rfl (pi_range2 rfl bV (zab zai (zab (zal (call_min2 rfl) (by rfl) ga Xg (zab (zal zas (by rfl) af Zv (zab (pv 0) zaf)) (zab zai zaf))) zaf))) (za9 5 zcc.nd)
   (zad (zau 6 zcc.nd (zaj GP au rfl mP FP.kp bP .nil zat (zab (pv 0) (zab (pv 5) zaf))))
   (zad (zau 7 zcc.nd (zaj GT au rfl mT FT.kp bT .nil zat (zab (pv 6) (zab zai zaf))))
   (zah (zbp (PW.pt (pw_and (zaq op_lt (pv 7) zai (zba _)) (zgb (zaq op_lt (zal zdk (by rfl) af Zv (zab (pv 3) zaf)) zai (zba _)))))
    (zah (za3 (zaj GL hr rfl mL FL.kp bL .nil zat (zab (pv 3) (zab (pv 6) (zab (zay zao (pv 2) (zal zdk (by rfl) af Zv (zab (pv 3) zaf)) (λ_ _=>rfl)) zaf))))))
    (zah (zbp (PW.pt (pw_and (zaq op_eq (pv 7) zai (zba _)) (zgb (zaq op_lt (zal zdk (by rfl) af Zv (zab (pv 3) zaf)) zai (zba _)))))
     (zah (za3 (zaj GM hr rfl mM FM.kp bM .nil zat (zab (pv 3) (zab (pv 6) (zab (zay zao (pv 2) (zal zdk (by rfl) af Zv (zab (pv 3) zaf)) (λ_ _=>rfl)) zaf))))))
     (zah (zbp (zaq op_eq (pv 7) zai (zba _))
      (zah (za3 (zaj GA hr rfl mA FA.kp bA .nil zat (zab (pv 3) (zab (pv 6) zaf)))))
      (zah (za3 (zaj GX hr rfl mX FX.kp bX .nil zat (zab (pv 3) (zab (pv 6) zaf))))))))))))))
  (zah (zbn (pv 3)))))))),?_⟩
 refine⟨_,rfl,a,ns,0,rfl,ha,by decide,df,λp b m H1 kE aR k1=>?_⟩
 have fp:H p=none:=kE
 refine⟨_,rfl,p,b,m,40,rfl,aR,by decide,λl zs b2 m2 H2 ak dG jG sM aw fl k2=>?_⟩
 have z0:0<zs.length:=by omega
 have gK:Keep [] H H2:=λc o ec _=>k2 c o (k1 c o ec (by simp)) (by simpa using zaa ec fp)
 have gz:∀j (hj:j<zs.length),(zs.map V.str)[j]?=some (.str zs[j]):=λj hj=>by rw[Qq,Qd hj];rfl
 have nlp:l≠p:=zb5 aw ak
 refine λd hd=>?_
 have kd:Keep [] H2 (upd H2 d (.dK [])):=Keep.new hd
 refine⟨_,rfl,l,_,_,_,rfl,rfl,SqL.of (kd _ _ ak (by simp)),zar (j:=0) (gz 0 z0),(by show 0≤sizeLine;decide),λr gQ=>⟨by rw[zae (zaa (o:=_) zac gQ)];exact zac,[(Sum.inr zs[0],.ref r)],rfl,(by show 1≤15;decide),?_⟩⟩
 have dq:d≠r:=zaa (o:=_) zac gQ
 have frr:H2 r=none:=zak kd gQ (by simp)
 have k3:Keep [] H2 (upd (upd (upd H2 d (.dK [])) r (.lst [])) d (.dK (zcn [] [((Sum.inr zs[0]:Key),V.ref r)]))):=λc o ec _=>by
  rw[zae (zaa ec hd),zae (zaa ec frr),zae (zaa ec hd)];exact ec
 have R3:RN (upd (upd (upd H2 d (.dK [])) r (.lst [])) d (.dK (zcn [] [((Sum.inr zs[0]:Key),V.ref r)]))) d [(zs[0],[],r)]:=by
  refine⟨⟨zac,λe he=>?_,Wq _ _⟩,Wq _ _⟩
  rw[Qb.mp he]
  show upd _ _ _ r=_
  rw[zae (Qw dq)]
  exact zac
 generalize upd (upd (upd H2 d (.dK [])) r (.lst [])) d (.dK (zcn [] [((Sum.inr zs[0]:Key),V.ref r)]))=H3 at k3 R3
 have D3:Dr H3 d [(zs[0],[],r)]:=⟨R3,za1.new [] zs[0] za1.nil (by simp),by show 1≤40;decide⟩
 have aA:=aw.keep k3 (by simp)
 refine⟨_,rfl,p,b2,m2,8,rfl,aA,by decide,by decide,λway b4 m4 H4 hw0 hw1 ci iT=>?_⟩
 have k4:Keep [p] H2 H4:=(k3.sub (by simp)).trans (zbf iT)
 have iU:Keep [] H H4:=λc o ec _=>k4 c o (gK c o ec (by simp)) (by simpa using zaa ec fp)
 have bv:=k4 _ _ ak (by simpa using nlp)
 have fd:H d=none:=zak gK hd (by simp)
 have R0:RI zs l H d H4:=⟨_,D3.pot aA (zbf iT),by show[zs[0]]=zs.take (0+1);rw[Qm z0];rfl,by simp,λe he=>by rw[Qb.mp he];exact zak gK frr (by simp),λe he=>by rw[Qb.mp he];exact Qw (zaa ak frr),bv,iU⟩
 refine join (λ σ H'=>Ex4 λ(d':Nb) x5 x6 x7=>Aj3 (σ=[some (.ref a),some (.ref p),some (.ref l),some (.ref d'),some (.int way),x5,x6,x7]) (H d'=none) (RI zs l H d' H')) (λD' hD=>?_) ?_
 ·refine ⟨_,rfl,rfl,_,rfl,?_⟩
  refine ite2 (λ_=>?_) (λ_=>?_)
  ·refine ⟨_,rfl,l,zs,rfl,bv,jG,dG,fun d' es H5 me D5 ne nm fr k5=>hD _ _ ⟨d',_,_,_,rfl,zak iU me (by simp),es,D5,?_,ne,fun e he=>zak iU (fr e he) (by simp),fun e he=>Qw (zaa bv (fr e he)),k5 _ _ bv (by simp),iU.trans k5⟩⟩
   have:=congrArg List.length nm
   rw[Qa]at this
   rw[nm,this,Qx (Qh _)]
  ·refine ⟨_,rfl,_,_,rfl,rfl,_,rfl,?_⟩
   refine ite2 (λ_=>?_) (λ_=>?_)
   ·refine ⟨_,rfl,_,rfl,p,b4,m4,3,rfl,ci,by decide,by decide,fun e1 b5 m5 H5 vH h51 br sC=>⟨_,_,rfl,rfl,_,rfl,p,b5,m5,2,rfl,br,by decide,by decide,fun e2 b6 m6 H6 l' pW eY dF=>⟨_,_,rfl,rfl,?_⟩⟩⟩
    obtain⟨e1,rfl⟩:=Zt vH
    obtain⟨e2,rfl⟩:=Zt l'
    have k6:Keep [p] H4 H6:=(zbf sC).trans (zbf dF)
    have dz:=k6 _ _ bv (by simpa using nlp)
    have gJ:Keep [] H H6:=λc o ec _=>k6 c o (iU c o ec (by simp)) (by simpa using zaa ec fp)
    refine⟨l,zs,5+e1,2+e2,by rw[Ka,Ka];rfl,by omega,by omega,dz,jG,dG,λd' es H7 me D7 ne nm fr k7=>hD _ _ ⟨d',_,_,_,rfl,zak gJ me (by simp),es,D7,?_,ne,λe he=>zak gJ (fr e he) (by simp),λe he=>Qw (zaa dz (fr e he)),k7 _ _ dz (by simp),gJ.trans k7⟩⟩
    have:=congrArg List.length nm
    rw[Qa,Zi]at this
    rw[nm,this,←List.take_eq_take_min]
   ·exact hD _ _ ⟨d,_,_,_,rfl,fd,R0⟩
 rintro σ H5 ⟨d',x5,x6,x7,rfl,me,R5⟩
 have sE:Keep [] H H5:=by obtain⟨_,_,_,_,_,_,_,kp⟩:=R5;exact kp
 have iz:∀n:Nat,(if(25:Int)<(n:Int) then(25:Int) else(n:Int))≤25∧0≤(if(25:Int)<(n:Int) then(25:Int) else(n:Int)):=λn=>by split<;>omega
 have hmi:=iz (ns.map V.int).length
 refine⟨_,rfl,a,_,rfl,.inl (zf4 ha sE),_,_,rfl,1,_,rfl,⟨by decide,by decide,by omega,by omega⟩,?_⟩
 generalize(if(25:Int)<((ns.map V.int).length:Int) then(25:Int) else((ns.map V.int).length:Int))=top at hmi
 refine zdh (lo:=1) (λi σ H'=>Ex3 λx5 x6 x7=>Aj2 (σ=[some (.ref a),some (.ref p),some (.ref l),some (.ref d'),some (.int way),x5,x6,x7]) (RI zs l H d' H')) ⟨_,_,_,rfl,R5⟩ ?_ ?_
 ·rintro i σ H6 hi ⟨y5,y6,y7,rfl,es,D6,nm,ne,fr,nl,dz,dF⟩
  refine⟨_,rfl,_,rfl,a,ns,1+i,by rw[Ka];rfl,zf4 ha dF,by omega,df,λq bq mq H7 hq0 eT k7=>?_⟩
  refine⟨_,rfl,q,bq,mq,6,rfl,eT,by decide,by decide,λdeed b8 m8 H8 h80 h81 jc lC=>?_⟩
  have k8:=zbf lC
  have D8:Dr H8 d' es:=(D6.k0 k7).pot eT k8
  have nlq:l≠q:=zaa dz hq0
  have oE:=k8 _ _ (k7 _ _ dz (by simp)) (by simpa using nlq)
  have fq:H q=none:=zak dF hq0 (by simp)
  have kk8:Keep [] H H8:=λc o ec _=>k8 c o (k7 c o (dF c o ec (by simp)) (by simp)) (by simpa using zaa ec fq)
  have fin:∀(ex:Ng) (ao:List Ent) (H9:Hp),Deed q d' H8 es ex ao H9→zs.take es.length++ex=zs.take (es.length+ex.length)→RI zs l H d' H9:=λex ao H9 Dd cD=>RI.deed me nm ne fr nl oE D8 kk8 fq nlq Dd cD
  have bj:∀(h:es.length<24),(zs.map V.str)[(eV es).length]?=some (.str (zs[es.length]'(by omega))):=λh=>by rw[Qa];exact gz _ (by omega)
  have hnx:∀(h:es.length<24),zs[es.length]'(by omega)∉es.map (·.1):=λh z=>by
   rw[nm]at z
   obtain⟨j,hj,e⟩:=Zp z
   rw[Zi]at hj
   rw[Ws]at e
   have:=(Yf jG).mp e
   omega
  have cD:∀(h:es.length<24),zs.take es.length++[zs[es.length]'(by omega)]=zs.take (es.length+[zs[es.length]'(by omega)].length):=λh=>(Qm (by omega)).symm
  have small:∀k:Bool→Hp→Prop,(es.length<24→k true H8)→k false H8→k (decide (((eV es).length:Int)<24)) H8:=λk h1 h0=>by
   rw[Qa]
   by_cases h:es.length<24
   ·rw[decide_eq_true (by omega:(es.length:Int)<24)];exact h1 h
   ·rw[decide_eq_false (by omega:¬(es.length:Int)<24)];exact h0
  have both:∀(c:Prop) [Decidable c] (k:Bool→Hp→Prop),k true H8→k false H8→k (decide c) H8:=λc _ k h1 h0=>by
   cases decide c
   ·exact h0
   ·exact h1
  dsimp only[gName]
  refine if_and (es.length<24) (λk h1 h0=>⟨_,rfl,_,_,rfl,rfl,_,rfl,both _ k h1 h0⟩) (λk h1 h0=>⟨_,rfl,d',_,rfl,D8.rn.dc,_,_,rfl,rfl,_,rfl,small k h1 h0⟩) ?_ (λag=>?_)
  ·refine if_and (es.length < 24) (fun k h1 h0=>⟨_,rfl,rfl,_,rfl,both _ k h1 h0⟩) (fun k h1 h0=>⟨_,rfl,d',_,rfl,D8.rn.dc,_,_,rfl,rfl,_,rfl,small k h1 h0⟩) ?_ (fun ag=>?_)
   ·refine ⟨_,rfl,rfl,_,rfl,ite2 (fun _=>?_) (fun _=>?_)⟩
    ·exact⟨_,rfl,_,rfl,q,d',b8,m8,es,rfl,jc,D8,λb9 m9 ao H9 lO Dd=>⟨_,_,_,rfl,fin [] ao H9 Dd (by simp)⟩⟩
    ·exact⟨_,rfl,_,rfl,q,d',b8,m8,es,rfl,jc,D8,λb9 m9 ao H9 lO Dd=>⟨_,_,_,rfl,fin [] ao H9 Dd (by simp)⟩⟩
   ·exact⟨_,rfl,_,rfl,_,rfl,_,rfl,d',_,rfl,D8.rn.dc,l,_,_,_,rfl,rfl,SqL.of oE,zar (bj ag),q,d',b8,m8,es,_,rfl,jc,D8,by omega,ne,hnx ag,λb9 m9 ao H9 lO Dd=>⟨_,_,_,rfl,fin _ ao H9 Dd (cD ag)⟩⟩
  ·exact⟨_,rfl,_,rfl,_,rfl,_,rfl,d',_,rfl,D8.rn.dc,l,_,_,_,rfl,rfl,SqL.of oE,zar (bj ag),q,d',b8,m8,es,_,rfl,jc,D8,by omega,hnx ag,λb9 m9 ao H9 lO Dd=>⟨_,_,_,rfl,fin _ ao H9 Dd (cD ag)⟩⟩
 ·rintro σ H6 ⟨y5,y6,y7,rfl,es,D6,nm,ne,fr,nl,dz,dF⟩
  exact⟨_,rfl,k d' es H6 D6 ne (λe he=>sM _ (Uv (nm▸Qf.mpr ⟨e,he,rfl⟩))) me dF⟩
end
end K21
end
section
namespace K21
open PySem L2 Wb
inductive IspPieceL(vs:List V)(H:Hp)(Q:VK):Prop
 |mk (d:Nb) (es:List Ent) (x:Str) (h0:vs=[.ref d,.str x]) (h1:RAt H d es) (h2:es.length≤60) (h3:∀z y,y∈row (rsOf es) z→y∈es.map (·.1)) (h4:x∈es.map (·.1)) (h5:∀(l:Nb) (zs:Ng) (H':Hp),H' l=some (.lst (zs.map V.str))→zs.Nodup→zs.Pairwise leS→(∀y,y∈zs↔Conn (row (rsOf es)) x y)→H l=none→Keep [] H H'→Q (.ref l) H'):IspPieceL vs H Q
def spPieceL:Sp:=λvs H Q _=>IspPieceL vs H Q
section
variable{P:Ni}{w:Nk}{K:Na}{mg:Nd}{base:Nm}
def ok_pieceL{f:Nb}{fd:No}(F:Fun K "piece_from" "piece_from" zf9 f fd)(aO:mg "sorted" = none):FnOk P w K mg base CX0 1 f fd ["rounds", "start"] spPieceL :=
 (ok_pieceG false F aO).imp λvs H Q E ⟨d,es,x,e,T,r1,r2,r3,r4⟩=>⟨d,es,x,e,⟨T.dc,T.ro,T.nd⟩,r1,r2,r3,r4⟩
end
structure HF(H:Hp)(u:Nb)(hs:List (Str×Int)):Prop where
 dc:H u=some (.dK (hs.map λe=>((Sum.inr e.1:Key),V.int e.2)))∨∃o,H u=some (.frz o (.dK (hs.map λe=>((Sum.inr e.1:Key),V.int e.2))))
 nd:(hs.map (·.1)).Nodup
def HF.get(h:HF H u hs)(k:Key):DGet H u (kV k) (valV (hs.map λe=>((Sum.inr e.1:Key),V.int e.2)) k):=.inl ⟨_,k,h.dc,rfl,rfl⟩
def HF.keep(h:HF H u hs)(k:Keep [] H H'):HF H' u hs:=⟨h.dc.imp (λe=>k _ _ e (by simp)) λ⟨o,e⟩=>⟨o,k _ _ e (by simp)⟩,h.nd⟩
def tw(hs:List (Str×Int))(h0 o:Int)(y:Str):Bool:=inV (hueV hs y) [V.int h0,V.int o]
def r2(es:List Ent)(hs:List (Str×Int))(h0 o:Int)(z:Str):List Str:=(row (rsOf es) z).filter (tw hs h0 o)
end K21
end
section
namespace L2
open PySem PySem.Spec PyProof.Rows
def pi_listK{X:Cx}{K:Na}{tg l:Expr}{tl:TE}(hK:X.K=K)(hl:PE X l tl):PI X tg l (iList K tl):=hK▸za8 hl
def or_no{t u:TT}{A B:TS}{D:Ends}{σ:St}{H:Hp}(ht:∀k:Bool→Hp→Prop,k false H→t σ H k)(hu:∀k:Bool→Hp→Prop,k false H→u σ H k)(q:B D σ H):tIfS (tOr t u) A B D σ H :=
 ht _ (by
  show if(false=true) then _ else u σ H (λb H1=>if b=true then A D σ H1 else B D σ H1)
  exact iteF (hu _ (iteF q)))
end L2
namespace K21
open PySem L2 Wb
abbrev zh4:Stmt:=inClass sWeb 2
abbrev zc7:Stmt:=top 15
def vltOf:Expr→Expr
 |.DictComp _ e _ _ _=>e
 |e=>e
def valH_is(hs:List (Str×Int))(z:Str):valV (hs.map λe=>((Sum.inr e.1:Key),V.int e.2)) (Sum.inr z)=none∨∃n,valV (hs.map λe=>((Sum.inr e.1:Key),V.int e.2)) (Sum.inr z)=some (.int n):=by
 induction hs with
 |nil=>exact .inl rfl
 |cons a t ih =>
  rw[Ql]
  by_cases h:a.1=z
  ·rw[h,zbw rfl];exact .inr ⟨_,rfl⟩
  ·rw[zbh (λq=>h (Wi q))];exact ih
def conn_two{es fs:List Ent}{hs:List (Str×Int)}{h o:Int}{s:Str}{ws:Ng}(du:ws=(es.map (·.1)).filter (tw hs h o))(aL:∀ z y,y∈row (rsOf es) z→y∈es.map (·.1))(av:s∈ws)(hf:∀z,row (rsOf fs) z=if z∈ws then(row (rsOf es) z).filter λy=>decide (y∈ws) else[])(y:Str):Conn (row (rsOf fs)) s y↔Conn (r2 es hs h o) s y:=by
 constructor
 ·intro c
  induction c with
  |refl=>exact .refl
  | @step z y _ hz ih =>
   rw[hf]at hz
   split at hz
   ·have:=Za.mp hz
    have hy:=of_decide_eq_true this.2
    rw[du]at hy
    exact .step ih (Za.mpr ⟨this.1,(Za.mp hy).2⟩)
   ·cases hz
 ·intro c
  suffices Conn (row (rsOf fs)) s y∧y∈ws from this.1
  induction c with
  |refl=>exact⟨.refl,av⟩
  |@step z y _ hz ih =>
   have:=Za.mp hz
   have hy:y∈ws:=by rw[du];exact Za.mpr ⟨aL z y this.1,this.2⟩
   exact⟨.step ih.1 (by rw[hf,if_pos ih.2];exact Za.mpr ⟨this.1,decide_eq_true hy⟩),hy⟩
inductive zht(C:Nb)(vs:List V)(H:Hp)(Q:VK):Prop
 |mk (x dx d:Nb) (es:List Ent) (e:Ent) (h0:vs=[.ref x,.str e.1]) (h1:WAt H C x dx d es) (h2:e∈es) (h3:∀l,H l=none→Q (.ref l) (upd H l (.lst (e.2.1.map V.str)))):zht C vs H Q
def spRoundOf(C:Nb):Sp:=λvs H Q _=>zht C vs H Q
inductive IspChain(C:Nb)(vs:List V)(H:Hp)(Q:VK):Prop
 |mk (x dx d u:Nb) (es:List Ent) (hs:List (Str×Int)) (s:Str) (h o:Int) (h0:vs=[.ref x,.ref u,.str s,.int o]) (h1:WAt H C x dx d es) (h2:es.length≤40) (md:∀e∈es,e.2.1.length≤100) (h3:∀z y,y∈row (rsOf es) z→y∈es.map (·.1)) (h4:HF H u hs) (h5:(s,h)∈hs) (h6:s∈es.map (·.1)) (h8:o≠h) (h9:0≤o)
  (h7:∀(l:Nb) (zs:Ng) (H':Hp),H' l=some (.lst (zs.map V.str))→zs.Nodup→zs.Pairwise leS→(∀y,y∈zs↔Conn (r2 es hs h o) s y)→H l=none→Keep [] H H'→Q (.ref l) H'):IspChain C vs H Q
def spChain(C:Nb):Sp:=λvs H Q _=>IspChain C vs H Q
abbrev csA:Scope:=scOf (eOf (sAt zc7 3))
def csA_k:csA.kind=.function:=by rfl
def csA_c:∀y∈csA.names,y.2≠.cell:=by decide +kernel
def csA_n:∀y∈csA.names,y.2=.local→csA.names.lookup y.1=some .local:=by decide +kernel
def csA_f:∀y∈csA.names,y.2=.free→(zag zc7).names.lookup y.1=some .cell∨(zag zc7).names.lookup y.1=some .free:=by decide +kernel
def csA_l:csA.names.lookup ("hues" : Str)=some NameKind.free:=by decide +kernel
def csA_m:csA.names.lookup ("two" : Str)=some NameKind.free:=by decide +kernel
def ndA:(["place", "hues", "two"]:List Str).Nodup:=by decide +kernel
abbrev csB:Scope:=scOf (eOf (sAt zc7 4))
def csB_k:csB.kind=.function:=by rfl
def csB_c:∀y∈csB.names,y.2≠.cell:=by decide +kernel
def csB_n:∀y∈csB.names,y.2=.local→csB.names.lookup y.1=some .local:=by decide +kernel
def csB_f:∀y∈csB.names,y.2=.free→(zag zc7).names.lookup y.1=some .cell∨(zag zc7).names.lookup y.1=some .free:=by decide +kernel
def csB_l:csB.names.lookup ("web" : Str)=some NameKind.free:=by decide +kernel
def csB_m:csB.names.lookup ("within" : Str)=some NameKind.free:=by decide +kernel
def ndB:(["place", "web", "within"]:List Str).Nodup:=by decide +kernel
abbrev csD:Scope:=scOf (vltOf (eOf (sAt zc7 4)))
def csD_k:csD.kind=.function:=by rfl
def csD_c:∀y∈csD.names,y.2≠.cell:=by decide +kernel
def csD_n:∀y∈csD.names,y.2=.local→csD.names.lookup y.1=some .local:=by decide +kernel
def csD_f{env:Env}(h:env.scope=zag zc7):∀y∈csD.names,y.2=.free→(relabel csB env).names.lookup y.1=some .cell∨(relabel csB env).names.lookup y.1=some .free:=by
 unfold relabel Env.kindOf
 rw[h]
 decide +kernel
def csD_l:csD.names.lookup ("within" : Str)=some NameKind.free:=by decide +kernel
def ndD:(["beside", "within"]:List Str).Nodup:=by decide +kernel
section
variable{P:Ni}{w:Nk}{K:Na}{mg:Nd}{base:Nm}
def scRoundOf:zap ["self", "place"] ["self", "place"] (zag zh4):=fsk
def ok_roundof(F:Fun K "round_of" "Web.round_of" zh4 f fd)(cW:Cls K C)(nW:zd3 K C "rounds")(aK:mg "list" = none):FnOk P w K mg base CX0 1 f fd ["self", "place"] (spRoundOf C):=by
 refine F.okL scRoundOf (λcdv A outer s H vs Q E hr h=>?_)
 obtain⟨x,dx,d,es,e,rfl,wt,he,k⟩:=h
 have hu:=zbz hr
 refine⟨_,zad (zbp (zcv (zcm hu (pv 1) (pe_fld (pv 0) rfl))) (zah zfj) zaw)
  (zah (zbn (zbe zdj (by rfl) aK Ui (zab (zbo hu (pe_fld (pv 0) rfl) (pv 1)) zaf)))),?_⟩
 have g:=DGet.k (k:=Sum.inr e.1) wt.ta.dc
 rw[zbu wt.ta.nd he]at g
 refine⟨_,rfl,_,rfl,x,C,dx,_,_,rfl,wt.ob,cW,nW,rfl,d,_,rfl,g,_,rfl,zcq rfl ?_⟩
 exact⟨_,rfl,x,C,dx,_,_,rfl,wt.ob,cW,nW,rfl,_,rfl,d,_,rfl,g,e.2.2,_,rfl,.inr (SqT.of (wt.ta.ro e he)),k⟩
def zh1:zap ["web", "hues", "start", "other", "two", "within", "rounds"] ["web", "hues", "start", "other"] (zag zc7):=fsk
def ok_chain{f fp fr ff C:Nb}{fd fdp fdr fdf:No}(F:Fun K "chain" "chain" zc7 f fd)(cW:Cls K C)(nW:zd3 K C "rounds")(mP:Meth K C "places" fp)(bP:Binds K fdp ["self"] [])(GP:FnOk P w K mg base CX0 1 fp fdp ["self"] (spPlaces C))(mR:Meth K C "round_of" fr)(bR:Binds K fdr ["self", "place"] [])(GR:FnOk P w K mg base CX0 1 fr fdr ["self", "place"] (spRoundOf C))(FF:Fun K "piece_from" "piece_from" zf9 ff fdf)(bF:Binds K fdf ["rounds", "start"] [])(mF:mg "piece_from" = some (.ref ff))(GF:FnOk P w K mg base CX0 1 ff fdf ["rounds", "start"] spPieceL) :
  FnOk P w K mg base CX0 2 f fd ["web", "hues", "start", "other"] (spChain C):=by
 refine F.okL zh1 (λcdv A outer s0 H vs Q E hr h=>?_)
 obtain⟨x,dx,d,u,es,hs,s,h0,o,rfl,wt,aS,aI,aL,hh,ce,dP,aV,ho,k⟩:=h
 have hu:=zbz hr
 have au:Room 1 _:=hr.mono (by decide)
 have av  := sizeLine_eq
 refine⟨_,zad (zbp (PW.pt (pw_or (zcv (zcm hu (pv 2) (pv 1))) (zhi (zcv (zcm hu (pv 2) (pe_fld (pv 0) rfl)))))) (zah zfj) zaw)
  (zad (zbp (PW.pt (pw_or (zaq op_eq (pv 3) (zbo hu (pv 1) (pv 2)) (zba _)) (zhi (zaq op_lt (pv 3) zai (zba _))))) (zah zfj) zaw)
  (zad (zen (i:=4) zh1.nd rfl (Or.inr rfl) (zgd (zab (zbo hu (pv 1) (pv 2)) (zab (pv 3) zaf))))
  (zad (zen (i:=5) zh1.nd rfl (Or.inr rfl) (zg8 (M:=["place", "hues", "two"]) (ix:=[none,some 1,some 4]) ⟨csA_k,csA_c,csA_n,csA_f,rfl,ndA,λj i x h1 h2=>by
      match j,h1,h2 with
      |0,_,h2=>cases h2
      |1,h1,h2=>cases h1;cases h2;exact⟨rfl,csA_l⟩
      |2,h1,h2=>cases h1;cases h2;exact⟨rfl,csA_m⟩
      |n+3,h1,_=>cases h1⟩ rfl (za8 (pe_meth0 (pl:=_) (pv 0) cW mP GP au bP .nil zat)) (λC a7 ex s H=>za9 0 ndA)
      (λC a7 ex s H=>zdc (PW.pt (pw_and (zcv (pc_din (by exact hu) (pv 0) (pv 1))) (zgb (zaq (ze4 (K:=K) rfl) (zbo (by exact hu) (pv 1) (pv 0)) (pv 2) rfl))))) (λC a7 ex s H=>pv 0)))
  (zad (ps_dc (i:=6) (M:=["place", "web", "within"]) (ix:=[none,some 0,some 5]) zh1.nd rfl rfl ⟨csB_k,csB_c,csB_n,csB_f,rfl,ndB,fun j i x h1 h2=>by
      match j,h1,h2 with
      |0,_,h2=>cases h2
      |1,h1,h2=>cases h1;cases h2;exact⟨rfl,csB_l⟩
      |2,h1,h2=>cases h1;cases h2;exact⟨rfl,csB_m⟩
      |n+3,h1,_=>cases h1⟩ rfl (za8 (pv 5)) (λC a7 ex s H=>za9 0 ndB)
      (λC a7 ex s H=>zck) (λC a7 ex s H=>pv 0)
      (fun C a7 ex s H=>zg8 (M:=["beside", "within"]) (ix:=[none,some 2]) ⟨csD_k,csD_c,csD_n,csD_f rfl,rfl,ndD,fun j i x h1 h2=>by
       match j,h1,h2 with
       |0,_,h2=>cases h2
       |1,h1,h2=>cases h1;cases h2;exact⟨rfl,csD_l⟩
       |n+2,h1,_=>cases h1⟩ rfl (pi_listK (K:=K) rfl (pe_meth (pl:=_) (pv 1) cW mR GR (by exact au) bR .nil zat (zab (pv 0) zaf))) (λC a7 ex s H=>za9 0 ndD)
       (λC a7 ex s H=>zdc (zaq (ze4 (K:=K) rfl) (pv 0) (pv 1) rfl)) (λC a7 ex s H=>pv 0)) rfl)
  (zah (zbn (zaj GF au rfl mF FF.kp bF .nil zat (zab (pv 6) (zab (pv 2) zaf))))))))),?_⟩
 have ax:=wt.ta.nd
 obtain⟨en,aT,ve⟩:=Qf.mp dP
 have pf:en.1=s:=ve
 have cK:valV (hs.map λe=>((Sum.inr e.1:Key),V.int e.2)) (Sum.inr s)=some (.int h0):=zcf hh.nd ce
 have g1:∀{H':Hp},HF H' u hs→DGet H' u (.str s) (some (.int h0)):=λ{H'} hh'=>by
  have:=hh'.get (Sum.inr s)
  rwa[cK]at this
 have g2:DGet H d (.str s) (some (.ref en.2.2)):=by
  have:=DGet.k (k:=Sum.inr en.1) wt.ta.dc
  rw[zbu ax aT,pf]at this
  exact this
 have dN:tw hs h0 o s=true:=by
  unfold tw hueV
  rw[cK]
  show(_||_)=true
  rw[Uf]
  exact .inl (beq_self_eq_true h0)
 refine or_no (λk hk=>⟨_,rfl,_,rfl,u,_,rfl,g1 hh,_,rfl,hk⟩) (λk hk=>⟨_,rfl,_,rfl,x,C,dx,_,_,rfl,wt.ob,cW,nW,rfl,d,_,rfl,g2,_,rfl,hk⟩) ?_
 dsimp only[tNext]
 refine or_no (λk hk=>⟨_,rfl,_,rfl,_,rfl,u,_,rfl,g1 hh,rfl,_,rfl,?_⟩) (λk hk=>⟨_,rfl,_,_,rfl,rfl,_,rfl,?_⟩) ?_
 ·rw[decide_eq_false (λe=>aV (by injection e))];exact hk
 ·rw[decide_eq_false (by omega)];exact hk
 refine⟨_,rfl,_,rfl,u,_,rfl,g1 hh,_,rfl,(by show 2≤sizeLine;decide),λtp gN=>?_⟩
 have k1:Keep [] H (upd H tp (.tup [.int h0,.int o])):=Keep.new gN
 have bf:(upd H tp (.tup [.int h0,.int o])) tp=some (.tup [.int h0,.int o]):=zac
 generalize upd H tp (.tup [.int h0,.int o])=H1 at k1 bf
 have rZ:∀{H':Hp},Keep [] H H'→WAt H' C x dx d es:=λkk=>wt.keep kk (by simp) (by simp) λ_ _=>by simp
 refine⟨_,rfl,x,dx,_,rfl,(rZ k1).ob,rfl,x,dx,d,es,rfl,rZ k1,λpl cg=>⟨pl,rfl,⟨_,SqL.of zac⟩,?_⟩⟩
 have k2:Keep [] H (upd H1 pl (.lst ((es.map (·.1)).map V.str))):=k1.trans (Keep.new cg)
 have oi:(upd H1 pl (.lst ((es.map (·.1)).map V.str))) pl=some (.lst ((es.map (·.1)).map V.str)):=zac
 have aQ:(upd H1 pl (.lst ((es.map (·.1)).map V.str))) tp=some (.tup [.int h0,.int o]):=by rw[zae (zaa bf cg)];exact bf
 generalize upd H1 pl (.lst ((es.map (·.1)).map V.str))=H2 at k2 oi aQ
 have hh2:HF H2 u hs:=hh.keep k2
 refine ze5 (xs:=(es.map (·.1)).map V.str) (λ τ=>∃x0,τ=[x0,some (.ref u),some (.ref tp)]) (λv=>match v with | .str z=>tw hs h0 o z | _=>false) (SqL.of oi) (by rw[Qa,Qa];omega) ⟨none,rfl⟩ ?_ (λwi hwi=>?_)
 ·rintro v hv τ ⟨x0,rfl⟩ q1 q0 h1 gG
  obtain⟨z,hz,rfl⟩:=Qf.mp hv
  have gz:=hh2.get (Sum.inr z)
  refine⟨_,rfl,_,rfl,u,_,rfl,gz,_,rfl,?_⟩
  rcases valH_is hs z with hn | ⟨n,hn⟩
  ·rw [hn]
   exact iteF (iteF (gG (by show tw hs h0 o z=false;unfold tw hueV;rw[hn];rfl) _ ⟨_,rfl⟩))
  ·rw [hn] at gz ⊢
   refine iteT ⟨_,rfl,_,rfl,u,_,rfl,gz,_,rfl,tp,_,rfl,.inr (SqT.of aQ),rfl,rfl,_,rfl,?_⟩
   have e2:(if false=true then !inV (.int n) [.int h0,.int o] else inV (.int n) [.int h0,.int o])=tw hs h0 o z:=by unfold tw hueV;rw[hn];rfl
   rw[e2]
   cases htw:tw hs h0 o z with
   |false=>exact iteF (gG htw _ ⟨_,rfl⟩)
   |true=>exact iteT ⟨_,rfl,h1 htw _ ⟨_,rfl⟩⟩
 have ew:((es.map (·.1)).map V.str).filter (λv=>match v with | .str z=>tw hs h0 o z | _=>false)=((es.map (·.1)).filter (tw hs h0 o)).map V.str:=Jy
 rw[ew]
 obtain⟨ws,du⟩:∃ws,ws=(es.map (·.1)).filter (tw hs h0 o):=⟨_,rfl⟩
 rw[←du]
 have dL:ws.Nodup:=du▸Yr Ja ax
 have hwe:∀z∈ws,z∈es.map (·.1):=λz hz=>by rw[du]at hz;exact(Za.mp hz).1
 have cY:ws.length≤es.length:=by
  have:=zdf dL hwe
  rwa[Qa]at this
 have lK:s∈ws:=by rw[du];exact Za.mpr ⟨dP,dN⟩
 have k3:Keep [] H (upd H2 wi (.lst (ws.map V.str))):=k2.trans (Keep.new hwi)
 have jN:(upd H2 wi (.lst (ws.map V.str))) wi=some (.lst (ws.map V.str)):=zac
 generalize upd H2 wi (.lst (ws.map V.str))=H3 at k3 jN
 refine⟨_,rfl,wi,rfl,⟨_,SqL.of jN⟩,?_⟩
 refine⟨λi m ys τ H'=>Aj5 (m=ws.length-i) (i≤ws.length) (∃x0,τ=[x0,some (.ref x),some (.ref wi)]) (Keep [] H3 H') (Ex1 λ(fs:List Ent)=>Aj4 (ys=eV fs) (rsOf fs=(ws.take i).map λz=>(z,(row (rsOf es) z).filter λy=>decide (y∈ws))) (∀e∈fs,H' e.2.2=some (.lst (e.2.1.map V.str))) (∀e∈fs,H3 e.2.2=none)),
  ⟨_,rfl,Zg _,⟨none,rfl⟩,λ_ _ e _=>e,[],rfl,rfl,λe he=>(by cases he),λe he=>(by cases he)⟩,?_⟩
 rintro i m ys τ H4 ⟨rfl,hi,⟨x0,rfl⟩,k4,fs,rfl,bK,cM,fj⟩
 have cH:fs.map (·.1)=ws.take i:=by
  rw[←zbi,bK,Ze]
  exact Km _
 have e8:fs.length=i:=by
  have:=congrArg List.length cH
  rw[Qa,Zi]at this;omega
 have i8:=k4 _ _ jN (by simp)
 by_cases ag:i<ws.length
 ·refine .inr ⟨⟨_,_,SqL.of i8,by rw [Qq,Qd ag];rfl⟩,by rw [Qa,e8];omega,?_⟩
  rintro v H4 ⟨rfl,hv⟩
  have fO:=hv _ (SqL.of i8)
  rw[Qq,Qd ag]at fO
  have t6:v=.str ws[i]:=(Qk fO).symm
  subst t6
  have hzw:ws[i]∈ws:=Qv ag
  obtain⟨e,he,rg⟩:=Qf.mp (hwe _ hzw)
  have p9:e.1=ws[i]:=rg
  have w4:=rZ (k3.trans k4)
  have tk:ws.take (i+1)=ws.take i++[ws[i]]:=Qm ag
  have hzf:ws[i]∉fs.map (·.1):=by
   rw[cH]
   have:(ws.take (i+1)).Nodup:=Yr (Uq _ _) dL
   rw[tk,Zb]at this
   exact λz=>this.2.2 _ z _ (Qb.mpr rfl) rfl
  have eS:row (rsOf es) ws[i]=e.2.1:=by rw[←p9];exact zbj ax he
  have kY:=aI e he
  refine⟨_,rfl,_,rfl,x,dx,_,rfl,w4.ob,rfl,_,rfl,x,dx,d,es,e,by rw[p9];rfl,w4,he,λl hl=>⟨l,rfl,⟨_,SqL.of zac⟩,?_⟩⟩
  have k5:Keep [] H4 (upd H4 l (.lst (e.2.1.map V.str))):=Keep.new hl
  have cz:(upd H4 l (.lst (e.2.1.map V.str))) l=some (.lst (e.2.1.map V.str)):=zac
  generalize upd H4 l (.lst (e.2.1.map V.str))=H5 at k5 cz
  have sY:=k5 _ _ i8 (by simp)
  refine ze5 (xs:=e.2.1.map V.str) (λ τ=>∃x0,τ=[x0,some (.ref wi)]) (λv=>match v with | .str z=>decide (z∈ws) | _=>false) (SqL.of cz) (by rw[Qa];omega) ⟨none,rfl⟩ ?_ (λq hq=>?_)
  ·rintro v hv τ ⟨x0,rfl⟩ q1 q0 h1 gG
   obtain⟨z,hz,rfl⟩:=Qf.mp hv
   refine⟨_,rfl,_,rfl,wi,_,rfl,.inl (SqL.of sY),rfl,zce _,_,rfl,?_⟩
   have e2:(if false=true then !inV (.str z) (ws.map V.str) else inV (.str z) (ws.map V.str))=decide (z∈ws):=ze7
   rw[e2]
   cases hb:decide (z∈ws) with
   |false=>exact iteF (gG hb _ ⟨_,rfl⟩)
   |true=>exact iteT ⟨_,rfl,h1 hb _ ⟨_,rfl⟩⟩
  ·have eq:(e.2.1.map V.str).filter (fun v=>match v with | .str z=>decide (z∈ws) | _=>false)=(e.2.1.filter fun z=>decide (z∈ws)).map V.str:=Jy
   rw[eq]
   refine⟨Sum.inr ws[i],rfl,ws.length-(i+1),by omega,rfl,ag,⟨_,rfl⟩,(k4.trans k5).trans (Keep.new hq),fs++[(ws[i],e.2.1.filter λz=>decide (z∈ws),q)],zib (r:=e.2.1.filter λz=>decide (z∈ws)) hzf,?_,λe' aN=>?_,λe' aN=>?_⟩
   ·rw [tk,Qp,← bK,← eS]
    unfold rsOf
    rw[Qp];rfl
   ·rcases Qi.mp aN with z | z
    ·have:=k5 _ _ (cM e' z) (by simp)
     rw[zae (zaa this hq)];exact this
    ·rw[Qb.mp z];exact zac
   ·rcases Qi.mp aN with z | z
    ·exact fj e' z
    ·rw[Qb.mp z];exact zak (k4.trans k5) hq (by simp)
 ·have e:i=ws.length:=by omega
  subst e
  rw[Qx (Qh _)]at bK cH
  refine .inl ⟨⟨_,SqL.of i8,by rw[Qa];exact Qh _⟩,λdd gU=>?_⟩
  have RF:RAt (upd H4 dd (.dK (eV fs))) dd fs:=⟨zac,λe he=>by rw[zae (zaa (cM e he) gU)];exact cM e he,by rw[cH];exact dL⟩
  have kf:Keep [] H (upd H4 dd (.dK (eV fs))):=(k3.trans k4).trans (Keep.new gU)
  generalize upd H4 dd (.dK (eV fs))=H6 at RF kf
  have hfz:∀z,row (rsOf fs) z=if z∈ws then(row (rsOf es) z).filter λy=>decide (y∈ws) else[]:=λz=>by
   by_cases hz:z∈ws
   ·rw [if_pos hz]
    have hmem:(z,(row (rsOf es) z).filter λy=>decide (y∈ws))∈rsOf fs:=by rw[bK];exact Qf.mpr ⟨z,hz,rfl⟩
    exact zdb (p:=(z,(row (rsOf es) z).filter λy=>decide (y∈ws))) (by rw[zbi,cH];exact dL) hmem
   ·rw [if_neg hz]
    exact ze1 (by rw[zbi,cH];exact hz)
  refine⟨_,rfl,_,rfl,dd,fs,s,rfl,RF,by omega,λz y hy=>?_,by rw[cH];exact lK,λl zs H7 qY cE hzs bJ fl k7=>k l zs H7 qY cE hzs (λy=>(bJ y).trans (conn_two du aL lK hfz y)) (zak kf fl (by simp)) (kf.trans k7)⟩
  rw[hfz]at hy
  split at hy
  ·rw[cH];exact of_decide_eq_true (Za.mp hy).2
  ·cases hy
end
end K21
end
section
namespace L2
open PySem PySem.Spec PyProof.Rows
def optIs:Option Key→Value→Bool
 |none,.none=>true
 |none,_=>false
 |some k,v=>zg9 k v
theorem zbm:∀{k:Option Key} {v:Value},optIs k v=true→(k=none∧v=Value.none)∨∃j,k=some j∧zg9 j v=true
 |none,v,h=>by
  cases v<;>first | exact .inl ⟨rfl,rfl⟩ | cases h
 |some j,v,h=>.inr ⟨j,rfl,h⟩
def zdg(h:zg9 j .none=true):False:=by
 rcases za6 h with⟨i,t,_,e⟩ | ⟨x,t,_,e⟩<;>cases e
section
variable{prog:Ni}{w:Nk}
def hash_none(h:Q (reduceHash 0xFCA86420) {s with toks:=s.toks+1}):wpAny (model prog w) A (PySem.pyHash .none) Q E s:=by
 show wpAny _ _ (pyHashByItsType .none) Q E s
 exact PySem.W.pyHash_slot (T := "NoneType") (typeIs_none s) PySem.F.slot_NoneType_hash PySem.F.entry_NoneType_hash (PySem.F.args_NoneType_hash_1 _) (beq_builtin_none _) (.inl rfl) (wpAny_bind (wpAny_pure (wpAny_bind (wpAny_mkInt (wpAny_pure ⟨_,_,rfl,h⟩)))))
def optKind(prog:Ni)(w:Nk):PySem.KeyKind prog w (Option Key) where
 is:=optIs
 hash:=λk=>match k with
  |none=>reduceHash 0xFCA86420
  |some j=>keyH w j
 inj:=λv a b ha hb=>by
  rcases zbm ha with⟨rfl,rfl⟩ | ⟨i,rfl,hi⟩
  ·rcases zbm hb with ⟨rfl,_⟩ | ⟨j,rfl,hj⟩
   ·rfl
   ·exact(zdg hj).elim
  ·rcases zbm hb with ⟨rfl,rfl⟩ | ⟨j,rfl,hj⟩
   ·exact(zdg hi).elim
   ·rw[(zam prog w).inj v i j hi hj]
 byValue:=λk v h=>by
  rcases zbm h with⟨rfl,rfl⟩ | ⟨i,rfl,hi⟩
  ·rfl
  ·exact(zam prog w).byValue i v hi
 pyHash:=λhv h=>by
  rcases zbm hv with⟨rfl,rfl⟩ | ⟨i,rfl,hi⟩
  ·exact hash_none h
  ·exact(zam prog w).pyHash hi h
 eqBool:=λ{A E s a b u v Q} hu hv h=>by
  rcases zbm hu with⟨rfl,rfl⟩ | ⟨i,rfl,hi⟩
  ·rcases zbm hv with ⟨rfl,rfl⟩ | ⟨j,rfl,hj⟩
   ·exact zgu (y:=.non) (x:=.non) rfl rfl rfl rfl _ _ _ _ h
   ·rcases za6 hj with ⟨n,t,rfl,rfl⟩ | ⟨z,t,rfl,rfl⟩
    ·exact zgu (y:=.non) (x:=.int n) rfl ⟨t,rfl⟩ rfl rfl _ _ _ _ h
    ·exact zgu (y:=.non) (x:=.str z) rfl ⟨t,rfl⟩ rfl rfl _ _ _ _ h
  ·rcases zbm hv with ⟨rfl,rfl⟩ | ⟨j,rfl,hj⟩
   ·rcases za6 hi with ⟨n,t,rfl,rfl⟩ | ⟨z,t,rfl,rfl⟩
    ·exact zgu (y:=.int n) (x:=.non) ⟨t,rfl⟩ rfl rfl rfl _ _ _ _ h
    ·exact zgu (y:=.str z) (x:=.non) ⟨t,rfl⟩ rfl rfl rfl _ _ _ _ h
   ·refine (zam prog w).eqBool hi hj ?_
    have e:decide ((some i:Option Key)=some j)=decide (i=j):=by
     by_cases q:i=j
     ·rw[q,decide_eq_true rfl,decide_eq_true rfl]
     ·rw[decide_eq_false q,decide_eq_false λz=>q (Qk z)]
    rwa[e]at h
 «strs»:=λk x t v h=>by
  rcases zbm h with⟨_,e⟩ | ⟨i,rfl,hi⟩
  ·cases e
  ·exact(zam prog w).strs i x t v hi
def find_none(h:KeysOf (zam prog w) es):findBy optIs es none=none:=by
 unfold findBy
 have:(es.find? λe=>optIs none e.key)=none:=by
  rw[Array.find?_eq_none]
  intro e he
  obtain⟨k,hk,_⟩:=h e he
  intro z
  rcases zbm z with⟨_,q⟩ | ⟨j,q,_⟩
  ·have dC:zg9 k e.key=true:=hk
   rw[q]at dC
   exact zdg dC
  ·cases q
 rw[this];rfl
def mapOpt{h:Nm}{a:Nb}{g:Key→Option Value}(m:h.MapOf (zam prog w) a g):h.MapOf (optKind prog w) a (λk=>match k with | none=>none | some j=>g j):=by
 obtain⟨o,es,ep,ho,ex,hd,hk,hf⟩:=m
 refine⟨o,es,ep,ho,ex,hd,λe he=>?_,λk=>?_⟩
 ·obtain ⟨k,h1,h2⟩:=hk e he
  exact⟨some k,h1,h2⟩
 ·cases k with
  |none=>exact find_none hk
  |some j=>exact hf j
end
section
variable{X:Cx}{i o:Expr}{ty td:TE}
inductive RDIN(x y:V)(H:Hp)(R:Bool→Prop):Prop
 |no (a:Nb) (kvs:List (Key×V)) (e:x=.ref a) (e':y=.non) (g:Rd H a (.dK kvs)) (q:R false):RDIN x y H R
 |k (a:Nb) (o:Option V) (e:x=.ref a) (g:DGet H a y o) (q:R o.isSome):RDIN x y H R
def tDInN(ty td:TE):TE:=λ σ H Q=>ty σ H λy H1=>td σ H1 λx H2=>RDIN x y H2 λb=>Q (.bl b) H2
def pc_dinN(hu:X.A.units+1<cLine)(hi:PE X i ty)(ho:PE X o td):PC X .In i o (tDInN ty td):=by
 intro a7 s σ H Q I h
 refine thn (hi a7 s σ H _ I h) λiv s1 ⟨y,H1,I1,ry,q1⟩=>thn (ho a7 s1 σ H1 _ I1 q1) λu s2 ⟨x,H2,I2,rx,z⟩=>?_
 cases z with
 |no a kvs ex ey g q =>
  subst ex ey
  obtain rfl:u=Value.ref a:=rx
  obtain rfl:iv=Value.none:=ry
  obtain⟨z,hd,vs,rel,dd⟩:=zha I2.hok g
  exact wpAny_in_of (knd:=optKind X.prog X.w) (k:=none) rfl hd (mapOpt dd.mapOf) ⟨.bl false,H2,I2.tok _,rfl,q⟩
 |k a ov ex g q =>
  subst ex
  obtain rfl:u=Value.ref a:=rx
  exact d_in hu I2 g ry λs' I'=>⟨.bl _,H2,I',rfl,q⟩
end
end L2
end
section
namespace K21
open PySem L2 Wb
abbrev sExIn:Stmt:=top 16
abbrev zd4:Stmt:=top 46
def ex(zs:Ng)(a b:Int)(hs:List (Str×Int)):List (Str×Int):=hs.map λe=>(e.1,if e.1∈zs then(if e.2=a then b else a) else e.2)
def zed(zs:Ng)(a b:Int)(hs:List (Str×Int)):(ex zs a b hs).map (·.1)=hs.map (·.1):=by
 unfold ex;rw[List.map_map];rfl
def zit(h:∀y,y∈zs↔y∈ys)(a b:Int)(hs:List (Str×Int)):ex zs a b hs=ex ys a b hs:=by
 unfold ex
 refine Yj λe _=>?_
 by_cases he:e.1∈zs
 ·rw[if_pos he,if_pos ((h _).mp he)]
 ·rw[if_neg he,if_neg λz=>he ((h _).mpr z)]
def ex_nil(a b:Int)(hs:List (Str×Int)):ex [] a b hs=hs:=by
 unfold ex
 rw[Yj (g:=id) λe _=>by simp]
 exact Km _
def ex_put(nd:(hs.map (·.1)).Nodup)(he:e∈hs) :
  putK ((ex zs a b hs).map λe=>((Sum.inr e.1:Key),V.int e.2)) (Sum.inr e.1) (.int (if e.2=a then b else a))=(ex (zs++[e.1]) a b hs).map λe=>((Sum.inr e.1:Key),V.int e.2):=by
 unfold putK
 rw[if_pos]
 ·unfold ex
  rw[Ze,Ze,Ze]
  refine Yj λq hq=>?_
  show(if(Sum.inr q.1:Key)=Sum.inr e.1 then((Sum.inr q.1:Key),V.int (if e.2=a then b else a)) else(Sum.inr q.1,V.int (if q.1∈zs then(if q.2=a then b else a) else q.2)))=(Sum.inr q.1,V.int (if q.1∈zs++[e.1] then(if q.2=a then b else a) else q.2))
  by_cases h:q.1=e.1
  ·have hqe:q=e:=by
    obtain⟨i,hi,rfl⟩:=Zp hq
    obtain⟨j,hj,rfl⟩:=Zp he
    have:i=j:=(Yf (h₀:=by rw[Qa];exact hi) (h₁:=by rw[Qa];exact hj) nd).mp (by rw[Zj,Zj];exact h)
    subst this;rfl
   subst hqe
   rw[if_pos rfl,if_pos (Qn _ Qc)]
  ·rw [if_neg fun z=>h (Wi z)]
   by_cases hz:q.1∈zs
   ·rw[if_pos hz,if_pos (Qo _ hz)]
   ·rw[if_neg hz,if_neg λz=>by
     rcases Qi.mp z with y | y
     ·exact hz y
     ·exact h (Qb.mp y)]
 ·rw [Yq]
  unfold ex
  rw[Ze]
  exact⟨_,Qf.mpr ⟨e,he,rfl⟩,by simp⟩
inductive IspExIn(vs:List V)(H:Hp)(Q:VK):Prop
 |mk (u l:Nb) (hs:List (Str×Int)) (zs:Ng) (a b:Int) (h0:vs=[.ref u,.ref l,.int a,.int b]) (h1:HF H u hs) (h2:H l=some (.lst (zs.map V.str))) (h3:∀z∈zs,z∈hs.map (·.1)) (h3':hs.length≤40)
  (h4:∀(t:Nb) (H':Hp),H t=none→HAt H' t (ex zs a b hs)→Keep [] H H'→Q (.ref t) H'):IspExIn vs H Q
def spExIn:Sp:=λvs H Q _=>IspExIn vs H Q
inductive IspUnlike(vs:List V)(H:Hp)(Q:VK):Prop
 |mk (d u:Nb) (es:List Ent) (hs:List (Str×Int)) (h0:vs=[.ref d,.ref u]) (h1:RAt H d es) (h1':∀e∈es,e.2.1.length≤40) (h2:HAt H u hs) (h3:∀h∈hs,h.1∈es.map (·.1)) (h3':hs.length≤40) (h4:∀a∈hs,∀b∈hs,b.1∈row (rsOf es) a.1→a.2≠b.2)
  (h5:∀H':Hp,Keep [] H H'→Q (.bl true) H'):IspUnlike vs H Q
def spUnlike:Sp:=λvs H Q _=>IspUnlike vs H Q
section
variable{P:Ni}{w:Nk}{K:Na}{mg:Nd}{base:Nm}
def scExIn:zap ["hues", "places", "one", "other", "told", "place"] ["hues", "places", "one", "other"] (zag sExIn):=fsk
def ok_exin(F:Fun K "exchanged_in" "exchanged_in" sExIn f fd)(aP:mg "dict" = none):FnOk P w K mg base CX0 1 f fd ["hues", "places", "one", "other"] spExIn:=by
 refine F.okL scExIn (λcdv A outer s H vs Q E hr h=>?_)
 obtain⟨u,l,hs,zs,a,b,rfl,hh,hl,hzh,iF,k⟩:=h
 have hu:=zbz hr
 have av  := sizeLine_eq
 refine⟨_,zad (zau 4 scExIn.nd (zbe zcu (by rfl) aP Wu (zab (pv 0) zaf)))
  (zad (zbq Zr rfl (za8 (pv 1)) (za9 5 scExIn.nd)
   (zah (zcg hu (pv 4) (pv 5) (pe_ifExp (zaq op_eq (zbo hu (pv 0) (pv 5)) (pv 2) (zba _)) (pv 3) (pv 2)) rfl)))
  (zah (zbn (pv 4)))),?_⟩
 refine⟨_,rfl,u,_,rfl,hh.dc,λt ht=>?_⟩
 have k1:Keep [] H (upd H t (.dK (hs.map λe=>((Sum.inr e.1:Key),V.int e.2)))):=Keep.new ht
 have bf:HAt (upd H t (.dK (hs.map λe=>((Sum.inr e.1:Key),V.int e.2)))) t (ex (zs.take 0) a b hs):=⟨by rw[zac,List.take_zero,ex_nil],by rw[zed];exact hh.nd⟩
 generalize upd H t (.dK (hs.map λe=>((Sum.inr e.1:Key),V.int e.2)))=H1 at k1 bf
 refine⟨_,rfl,l,rfl,⟨_,SqL.of (k1 _ _ hl (by simp))⟩,zby (xs:=zs.map V.str) (λi σ H'=>Aj3 (Ex1 λx5=>σ=[some (.ref u),some (.ref l),some (.int a),some (.int b),some (.ref t),x5]) (HAt H' t (ex (zs.take i) a b hs)) (Keep [] H H'))
  ⟨⟨_,rfl⟩,bf,k1⟩ (λi σ H' _ q=>SqL.of (q.3 _ _ hl (by simp))) ?_ ?_⟩
 ·rintro i v σ H2 hv ⟨⟨x5,rfl⟩,aQ,k2⟩
  have hi:i<zs.length:=by
   have:=(Zd.mp hv).1
   rwa[Qa]at this
  have t6:v=.str zs[i]:=by
   rw[Qq,Qd hi]at hv
   exact(Qk hv).symm
  subst t6
  obtain⟨e,he,ez⟩:=Qf.mp (hzh _ (Qv hi))
  have ez':e.1=zs[i]:=ez
  have tk:zs.take (i+1)=zs.take i++[e.1]:=by rw[ez'];exact Qm hi
  have hg:=(hh.keep k2).get (Sum.inr e.1)
  rw[zcf hh.nd he]at hg
  rw[←ez']
  have fin:∀v,v=(if e.2=a then b else a)→Aj3 (Ex1 λx5=>[some (V.ref u),some (.ref l),some (.int a),some (.int b),some (.ref t),some (.str e.1)]=[some (V.ref u),some (.ref l),some (.int a),some (.int b),some (.ref t),x5]) (HAt (upd H2 t (.dK (putK ((ex (zs.take i) a b hs).map λe=>((Sum.inr e.1:Key),V.int e.2)) (Sum.inr e.1) (.int v)))) t (ex (zs.take (i+1)) a b hs)) (Keep [] H (upd H2 t (.dK (putK ((ex (zs.take i) a b hs).map λe=>((Sum.inr e.1:Key),V.int e.2)) (Sum.inr e.1) (.int v))))):=λv hv=>by
   subst hv
   refine⟨⟨_,rfl⟩,⟨by rw[zac,ex_put hh.nd he,tk],by rw[zed];exact hh.nd⟩,λc w' ec _=>?_⟩
   rw[zae (zaa ec ht)];exact k2 c w' ec (by simp)
  have af:((ex (zs.take i) a b hs).map λe=>((Sum.inr e.1:Key),V.int e.2)).length<sizeLine:=by
   unfold ex;rw[List.length_map,List.length_map];omega
  refine⟨_,rfl,_,rfl,u,_,rfl,hg,_,rfl,rfl,_,rfl,?_⟩
  by_cases rh:e.2=a
  ·rw [decide_eq_true (congrArg V.int rh)]
   exact iteT ⟨_,rfl,_,rfl,_,rfl,t,_,rfl,DPut.k (k:=Sum.inr e.1) aQ.dc af,fin b (by rw[if_pos rh])⟩
  ·rw [decide_eq_false (fun q=>rh (by injection q))]
   exact iteF ⟨_,rfl,_,rfl,_,rfl,t,_,rfl,DPut.k (k:=Sum.inr e.1) aQ.dc af,fin a (by rw[if_neg rh])⟩
 ·rintro σ H2 ⟨⟨x5,rfl⟩,aQ,k2⟩
  rw[Qa,Qx (Qh _)]at aQ
  exact⟨_,rfl,k t H2 ht aQ k2⟩
abbrev sExch:Stmt:=top 17
def tw_key(t:tw hs h o z=true):z∈hs.map (·.1):=by
 by_cases hz:z∈hs.map (·.1)
 ·exact hz
 ·unfold tw hueV at t
  rw[zef hz]at t
  cases t
def conn_key(av:s∈hs.map (·.1))(c:Conn (r2 es hs h o) s y):y∈hs.map (·.1):=by
 cases c with
 |refl=>exact av
 |step _ hz=>exact tw_key (Za.mp hz).2
inductive IspExch(C:Nb)(vs:List V)(H:Hp)(Q:VK):Prop
 |mk (x dx d u:Nb) (es:List Ent) (hs:List (Str×Int)) (s:Str) (h o:Int) (h0:vs=[.ref x,.ref u,.str s,.int o]) (h1:WAt H C x dx d es) (h2:es.length≤40) (md:∀e∈es,e.2.1.length≤100) (h3:∀z y,y∈row (rsOf es) z→y∈es.map (·.1)) (h4:HF H u hs) (h4':hs.length≤40) (h5:(s,h)∈hs) (h6:s∈es.map (·.1)) (h8:o≠h) (h9:0≤o)
  (h7:∀(t:Nb) (zs:Ng) (H':Hp),HAt H' t (ex zs h o hs)→(∀y,y∈zs↔Conn (r2 es hs h o) s y)→H t=none→Keep [] H H'→Q (.ref t) H'):IspExch C vs H Q
def spExch(C:Nb):Sp:=λvs H Q _=>IspExch C vs H Q
def scExch:zap ["web", "hues", "start", "other", "places"] ["web", "hues", "start", "other"] (zag sExch):=fsk
def ok_exch(F:Fun K "exchanged" "exchanged" sExch f fd)(FC:Fun K "chain" "chain" zc7 fc fdc)(bC:Binds K fdc ["web", "hues", "start", "other"] [])(mC:mg "chain" = some (.ref fc))(GC:FnOk P w K mg base CX0 2 fc fdc ["web", "hues", "start", "other"] (spChain C))(FI:Fun K "exchanged_in" "exchanged_in" sExIn fi fdi)(bI:Binds K fdi ["hues", "places", "one", "other"] [])(mI:mg "exchanged_in" = some (.ref fi))(GI:FnOk P w K mg base CX0 1 fi fdi ["hues", "places", "one", "other"] spExIn) :
  FnOk P w K mg base CX0 3 f fd ["web", "hues", "start", "other"] (spExch C):=by
 refine F.okL scExch (λcdv A outer s0 H vs Q E hr h=>?_)
 obtain⟨x,dx,d,u,es,hs,s,h0,o,rfl,wt,aS,aI,aL,hh,iF,ce,dP,aV,ho,k⟩:=h
 have hu:=zbz hr
 have au:Room 1 _:=hr.mono (by decide)
 refine⟨_,zad (zau 4 scExch.nd (zaj GC hr rfl mC FC.kp bC .nil zat (zab (pv 0) (zab (pv 1) (zab (pv 2) (zab (pv 3) zaf))))))
  (zah (zbn (zaj GI au rfl mI FI.kp bI .nil zat (zab (pv 1) (zab (pv 4) (zab (zbo hu (pv 1) (pv 2)) (zab (pv 3) zaf))))))),?_⟩
 have hsk:s∈hs.map (·.1):=Qf.mpr ⟨_,ce,rfl⟩
 refine⟨_,rfl,_,rfl,_,rfl,_,rfl,x,dx,d,u,es,hs,s,h0,o,rfl,wt,aS,aI,aL,hh,ce,dP,aV,ho,λl zs H1 cC cE hzs bJ fl k1=>?_⟩
 have hg:=(hh.keep k1).get (Sum.inr s)
 rw[zcf hh.nd ce]at hg
 exact⟨_,rfl,_,rfl,_,rfl,_,rfl,u,_,rfl,hg,_,rfl,u,l,hs,zs,h0,o,rfl,hh.keep k1,cC,λz hz=>conn_key hsk ((bJ z).mp hz),iF,λt H2 ft ht k2=>k t zs H2 ht bJ (zak k1 ft (by simp)) (k1.trans k2)⟩
def ifT:Stmt→Expr
 |.If c _ _ _=>c
 |s=>eOf s
abbrev csU:Scope:=scOf (aOf 0 (ifT (bAt (sAt zd4 0) 0)))
def csU_k:csU.kind=.function:=by rfl
def csU_c:∀y∈csU.names,y.2≠.cell:=by decide +kernel
def csU_n:∀y∈csU.names,y.2=.local→csU.names.lookup y.1=some .local:=by decide +kernel
def csU_f:∀y∈csU.names,y.2=.free→(zag zd4).names.lookup y.1=some .cell∨(zag zd4).names.lookup y.1=some .free:=by decide +kernel
def csU_l:csU.names.lookup (qH:Str)=some NameKind.free:=by decide +kernel
def ndU:([qO,qH]:List Str).Nodup:=by decide +kernel
def scUnlike:zap [qR,qH, "_law_place"] [qR,qH] (zag zd4):=fsk
def ok_unlike(F:Fun K "_law_unlike" "_law_unlike" zd4 f fd):FnOk P w K mg base CX0 1 f fd [qR,qH] spUnlike:=by
 refine F.okL scUnlike (λcdv A outer s0 H vs Q E hr h=>?_)
 obtain⟨d,u,es,hs,rfl,R,aI,hh,hhe,iF,cF,k⟩:=h
 have hu:=zbz hr
 have av  := sizeLine_eq
 refine⟨_,zad (ze2 (zbq Zr rfl (ze3 (pv 1)) (za9 2 scUnlike.nd)
   (zah (zbp (zaq op_in_seq (zbo hu (pv 1) (pv 2)) (zg8 (M:=[qO,qH]) (ix:=[none,some 1]) ⟨csU_k,csU_c,csU_n,csU_f,rfl,ndU,λj i x h1 h2=>by
      match j,h1,h2 with
      |0,_,h2=>cases h2
      |1,h1,h2=>cases h1;cases h2;exact⟨rfl,csU_l⟩
      |n+2,h1,_=>cases h1⟩ rfl (za8 (zbo hu (pv 0) (pv 2))) (λC a7 ex s H=>za9 0 ndU)
      (λC a7 ex s H=>zck) (λC a7 ex s H=>zif (by exact hu) (pv 1) (pv 0) ⟨rfl,rfl,rfl,rfl⟩)) rfl) (zah zfj) zaw))))
  (zah (zbn pe_bl)),?_⟩
 have nfz:∀o' u',H u≠some (.frz o' u'):=λo' u' z=>by rw[hh.dc]at z;cases z
 have ax:=R.nd
 refine⟨_,rfl,u,_,rfl,hh.dc,λo=>zfx (λi σ H'=>Aj3 (Ex1 λx2=>σ=[some (.ref d),some (.ref u),x2]) (H' u=some (.frz o (.dK (hs.map λe=>((Sum.inr e.1:Key),V.int e.2))))) (Keep [u] H H'))
  ⟨⟨_,rfl⟩,zac,Keep.wr (by simp)⟩ (λi σ H' _ q=>q.2) ?_ ?_⟩
 ·rintro i pr σ H1 kr ⟨⟨x2,rfl⟩,jI,k1⟩
  have hi:i<hs.length:=by
   have:=(Zd.mp kr).1
   rwa[Qa]at this
  have g1:pr=((Sum.inr hs[i].1:Key),V.int hs[i].2):=by
   rw[Qq,Qd hi]at kr
   exact(Qk kr).symm
  subst g1
  have lL:hs[i]∈hs:=Qv hi
  generalize hs[i]=sh at lL
  obtain⟨e,he,ee⟩:=Qf.mp (hhe _ lL)
  have ee':e.1=sh.1:=ee
  have hF:HF H1 u hs:=⟨.inr ⟨o,jI⟩,hh.nd⟩
  have gs:=hF.get (Sum.inr sh.1)
  rw[zcf hh.nd lL]at gs
  have ndu:d≠u:=za2 R.dc hh.dc (λz=>by
   have z':(eV es)=hs.map λe=>((Sum.inr e.1:Key),V.int e.2):=by injection z
   have h1:((Sum.inr e.1:Key),V.ref e.2.2)∈eV es:=Qf.mpr ⟨e,he,rfl⟩
   rw[z']at h1
   obtain⟨q,_,hq⟩:=Qf.mp h1
   have h2:=congrArg Prod.snd hq
   cases h2)
  have R1:RAt H1 d es:=R.keep k1 (by simpa using ndu) λe' aN=>by simpa using za2 (R.ro e' aN) hh.dc (by intro z;cases z)
  have dg:DGet H1 d (.str sh.1) (some (.ref e.2.2)):=by
   have:=DGet.k (k:=Sum.inr e.1) R1.dc
   rw[zbu ax he,ee']at this
   exact this
  have kY:=aI e he
  refine⟨_,rfl,_,rfl,u,_,rfl,gs,_,rfl,_,rfl,d,_,rfl,dg,e.2.2,rfl,⟨_,SqL.of (R1.ro e he)⟩,lc_map (xs:=e.2.1.map V.str) (λ τ=>∃x0,τ=[x0,some (.ref u)]) (λx=>match x with | .str z=>hueV hs z | v=>v) (SqL.of (R1.ro e he)) (by rw[Qa];omega) ⟨none,rfl⟩ ?_ (λq hq=>?_)⟩
  ·rintro x hx τ ⟨x0,rfl⟩ kk hk
   obtain⟨z,hz,rfl⟩:=Qf.mp hx
   exact⟨_,rfl,u,rfl,.inl ⟨_,hF.dc⟩,_,rfl,_,hF.get (Sum.inr z),hk _ ⟨_,rfl⟩⟩
  ·have emap:(e.2.1.map V.str).map (fun x=>match x with | .str z=>hueV hs z | v=>v)=e.2.1.map (hueV hs):=by rw [Ze];rfl
   rw[emap]
   refine⟨q,_,rfl,.inl (SqL.of zac),rfl,flat_hues _ _,_,rfl,?_⟩
   have aZ:inV (.int sh.2) (e.2.1.map (hueV hs))=false:=by
    cases hb:inV (.int sh.2) (e.2.1.map (hueV hs)) with
    |false=>rfl
    | true =>
     exfalso
     obtain⟨z,hz,hq⟩:=Qf.mp ((inV_hues hs e.2.1 sh.2).mp hb)
     rcases valH_is hs z with hn | ⟨n,hn⟩
     ·unfold hueV at hq;rw[hn]at hq;cases hq
     ·have c9:z∈hs.map (·.1):=by
       by_cases c9:z∈hs.map (·.1)
       ·exact c9
       ·rw[zef c9]at hn;cases hn
      obtain⟨b,cq,hbz⟩:=Qf.mp c9
      have pB:b.1=z:=hbz
      have hv:=zcf hh.nd cq
      unfold hueV at hq
      rw[←pB,hv]at hq
      have g8:b.2=sh.2:=by injection hq
      exact cF sh lL b cq (by rw[←ee',zbj ax he,pB];exact hz) g8.symm
   have e2:(if false=true then !inV (.int sh.2) (e.2.1.map (hueV hs)) else inV (.int sh.2) (e.2.1.map (hueV hs)))=false:=aZ
   rw[e2]
   exact iteF ⟨⟨_,rfl⟩,by rw[zae (zaa jI hq)];exact jI,k1.trans (Keep.new hq)⟩
 ·rintro σ H1 ⟨⟨x2,rfl⟩,jI,k1⟩
  refine⟨u,o,_,jI,nfz,?_⟩
  exact k _ λc w' ec _=>by
   by_cases hc:c=u
   ·subst hc;rw[zac,←hh.dc];exact ec
   ·rw[zae hc];exact k1 c w' ec (by simpa using hc)
abbrev sDue:Stmt:=top 45
def whB:Stmt→List Stmt
 |.While _ b _ _=>b
 |s=>bOf s
def exE:Stmt→Expr
 |.Expr e _=>e
 |s=>eOf s
abbrev csV:Scope:=scOf (aOf 0 (exE (bAt ((whB (sAt sDue 4)).getD 1 (.Pass ⟨0,0,0,0⟩)) 2)))
def csV_k:csV.kind=.function:=by rfl
def csV_c:∀y∈csV.names,y.2≠.cell:=by decide +kernel
def csV_n:∀y∈csV.names,y.2=.local→csV.names.lookup y.1=some .local:=by decide +kernel
def csV_f:∀y∈csV.names,y.2=.free→(zag sDue).names.lookup y.1=some .cell∨(zag sDue).names.lookup y.1=some .free:=by decide +kernel
def csV_l:csV.names.lookup (qH:Str)=some NameKind.free:=by decide +kernel
def csV_m:csV.names.lookup ("_law_two" : Str)=some NameKind.free:=by decide +kernel
def ndV:(["_law_near",qH, "_law_two"]:List Str).Nodup:=by decide +kernel
def zdx(nd:(hs.map (·.1)).Nodup)(hz:(z,n)∈hs):tw hs h o z=(decide (n=h)||decide (n=o)):=by
 unfold tw hueV
 rw[zcf nd hz]
 show(_||(_||false))=_
 rw[Bool.or_false]
 show((h==n)||(o==n))=_
 by_cases h1:n=h
 ·subst h1;simp
 ·by_cases h2:n=o
  ·subst h2;simp
  ·rw[beq_eq_false_iff_ne.mpr (Qw h1),beq_eq_false_iff_ne.mpr (Qw h2),decide_eq_false h1,decide_eq_false h2]
def two_val(aV:o≠h):valV [((Sum.inl h:Key),V.int o),(Sum.inl o,V.int h)] (Sum.inl n)=if n=h then some (.int o) else if n=o then some (.int h) else none:=by
 by_cases h1:n=h
 ·subst h1;rw[if_pos rfl,zbw rfl]
 ·rw [if_neg h1,zbh fun q=>h1 (Sum.inl.inj q).symm]
  by_cases h2:n=o
  ·subst h2;rw[if_pos rfl,zbw rfl]
  ·rw[if_neg h2,zbh λq=>h2 (Sum.inl.inj q).symm];rfl
def conn_tw(av:tw hs h o s=true)(c:Conn (r2 es hs h o) s y):tw hs h o y=true:=by
 cases c with
 |refl=>exact av
 |step _ hz=>exact(Za.mp hz).2
inductive IspDue(vs:List V)(H:Hp)(Q:VK):Prop
 |mk (d u:Nb) (es:List Ent) (hs:List (Str×Int)) (s:Str) (h o:Int) (h0:vs=[.ref d,.ref u,.str s,.int o]) (h1:RAt H d es) (h2:es.length≤40) (md:∀e∈es,e.2.1.length≤40) (h3:∀z y,y∈row (rsOf es) z→y∈es.map (·.1)) (h4:HF H u hs) (h4':hs.length≤40) (h5:(s,h)∈hs) (h6:s∈es.map (·.1)) (h8:o≠h)
  (h7:∀(t:Nb) (zs:Ng) (H':Hp),HAt H' t (ex zs h o hs)→(∀y,y∈zs↔Conn (r2 es hs h o) s y)→H t=none→Keep [] H H'→Q (.ref t) H'):IspDue vs H Q
def spDue:Sp:=λvs H Q _=>IspDue vs H Q
def scDue:zap [qR,qH, "_law_start",qO, "_law_two", "_law_found", "_law_waiting", "_law_seen", "_law_place"] [qR,qH, "_law_start",qO] (zag sDue):=fsk
def ok_due(F:Fun K "_law_due" "_law_due" sDue f fd)(aP:mg "dict" = none):FnOk P w K mg base CX0 1 f fd [qR,qH, "_law_start",qO] spDue:=by
 refine F.okL scDue (λcdv A outer s0 H vs Q E hr h=>?_)
 obtain⟨d,u,es,hs,s,h0,o,rfl,R,aS,aI,aL,hh,iF,ce,dP,aV,k⟩:=h
 have hu:=zbz hr
 have dv:=Uo hu
 have av  := sizeLine_eq
 refine⟨_,zad (zen (i:=4) scDue.nd rfl (Or.inr rfl) (zge (zcz (zbo hu (pv 1) (pv 2)) (pv 3) (zcz (pv 3) (zbo hu (pv 1) (pv 2)) zgc)) rfl rfl (by decide) (by decide)))
  (zad (zau 5 scDue.nd (zbe zcu (by rfl) aP Wu (zab (pv 1) zaf)))
  (zad (zau 6 scDue.nd (zbd (zab (pv 2) zaf)))
  (zad (zau 7 scDue.nd zfv)
  (zad (zfu Zr (zaq (zep dv) (pv 6) (zbd zaf) (zba _))
   (zad (zau 8 scDue.nd (zd8 Zq PySem.F.slot_list_pop PySem.F.type_list_pop mt_popAt (pv 6) (zab zai zaf)))
   (zah (zbp (zcv (zcm hu (pv 8) (pv 7)))
    (zad (zcg hu (pv 7) (pv 8) pe_bl rfl)
    (zad (zcg hu (pv 5) (pv 8) (zbo hu (pv 4) (zbo hu (pv 1) (pv 8))) rfl)
    (zah (za3 (zd8 Zq PySem.F.slot_list_extend PySem.F.type_list_extend mt_extend (pv 6) (zab (zg8 (M:=["_law_near",qH, "_law_two"]) (ix:=[none,some 1,some 4]) ⟨csV_k,csV_c,csV_n,csV_f,rfl,ndV,λj i x h1 h2=>by
      match j,h1,h2 with
      |0,_,h2=>cases h2
      |1,h1,h2=>cases h1;cases h2;exact⟨rfl,csV_l⟩
      |2,h1,h2=>cases h1;cases h2;exact⟨rfl,csV_m⟩
      |n+3,h1,_=>cases h1⟩ rfl (za8 (zbo hu (pv 0) (pv 8))) (λC a7 ex s H=>za9 0 ndV)
      (λC a7 ex s H=>zdc (zcv (pc_dinN (by exact hu) (zif (by exact hu) (pv 1) (pv 0) ⟨rfl,rfl,rfl,rfl⟩) (pv 2)))) (λC a7 ex s H=>pv 0)) zaf)))))) zaw))))
  (zah (zbn (pv 5))))))),?_⟩
 have cK:valV (hs.map λe=>((Sum.inr e.1:Key),V.int e.2)) (Sum.inr s)=some (.int h0):=zcf hh.nd ce
 have g1:∀{H':Hp},HF H' u hs→DGet H' u (.str s) (some (.int h0)):=λ{H'} hh'=>by
  have:=hh'.get (Sum.inr s)
  rwa[cK]at this
 have dN:tw hs h0 o s=true:=by rw[zdx hh.nd ce,decide_eq_true rfl];rfl
 refine λtp gN=>?_
 have oM:=hh.keep (Keep.new (o:=.dK []) gN)
 refine⟨_,rfl,_,rfl,u,_,rfl,g1 oM,_,rfl,_,rfl,_,rfl,_,rfl,u,_,rfl,g1 oM,zac,[(Sum.inl h0,.int o),(Sum.inl o,.int h0)],rfl,(by show 2≤15;decide),?_⟩
 have em:zcn [] [((Sum.inl h0:Key),V.int o),(Sum.inl o,V.int h0)]=[((Sum.inl h0:Key),V.int o),(Sum.inl o,V.int h0)]:=by
  show putK [((Sum.inl h0:Key),V.int o)] (Sum.inl o) (.int h0)=_
  exact zdp _ (by rw[zbh λq=>aV (Sum.inl.inj q).symm];rfl)
 rw[em]
 have k1:Keep [] H (upd (upd H tp (.dK [])) tp (.dK [((Sum.inl h0:Key),V.int o),(Sum.inl o,V.int h0)])):=by rw[upd_upd];exact Keep.new gN
 have bf:(upd (upd H tp (.dK [])) tp (.dK [((Sum.inl h0:Key),V.int o),(Sum.inl o,V.int h0)])) tp=some (.dK [((Sum.inl h0:Key),V.int o),(Sum.inl o,V.int h0)]):=zac
 generalize upd (upd H tp (.dK [])) tp (.dK [((Sum.inl h0:Key),V.int o),(Sum.inl o,V.int h0)])=H1 at k1 bf
 refine⟨_,rfl,u,_,rfl,(hh.keep k1).dc,λfo e7=>?_⟩
 have k2:Keep [] H (upd H1 fo (.dK (hs.map λe=>((Sum.inr e.1:Key),V.int e.2)))):=k1.trans (Keep.new e7)
 have cR:(upd H1 fo (.dK (hs.map λe=>((Sum.inr e.1:Key),V.int e.2)))) fo=some (.dK (hs.map λe=>((Sum.inr e.1:Key),V.int e.2))):=zac
 have ntf:tp≠fo:=zaa bf e7
 have aQ:(upd H1 fo (.dK (hs.map λe=>((Sum.inr e.1:Key),V.int e.2)))) tp=some (.dK [((Sum.inl h0:Key),V.int o),(Sum.inl o,V.int h0)]):=by rw[zae ntf];exact bf
 have ff:H fo=none:=zak k1 e7 (by simp)
 generalize upd H1 fo (.dK (hs.map λe=>((Sum.inr e.1:Key),V.int e.2)))=H2 at k2 cR aQ
 refine⟨_,rfl,(by show 1≤sizeLine;decide),λwa iZ=>?_⟩
 have fw:H wa=none:=zak k2 iZ (by simp)
 have ntw:tp≠wa:=zaa aQ iZ
 have nfw:fo≠wa:=zaa cR iZ
 refine λse nZ=>?_
 have k3:Keep [] H (upd H2 wa (.lst [.str s])):=k2.trans (Keep.new iZ)
 have vK:H se=none:=zak k3 nZ (by simp)
 have nws:wa≠se:=zaa (o:=_) zac nZ
 have nfs:fo≠se:=zaa (o:=_) (by rw[zae nfw];exact cR) nZ
 have nts:tp≠se:=zaa (o:=_) (by rw[zae ntw];exact aQ) nZ
 have k4:Keep [] H (upd (upd H2 wa (.lst [.str s])) se (.dK [])):=k3.trans (Keep.new nZ)
 have nY:(upd (upd H2 wa (.lst [.str s])) se (.dK [])) se=some (.dK (marks [])):=zac
 have fM:(upd (upd H2 wa (.lst [.str s])) se (.dK [])) wa=some (.lst ([s].map V.str)):=by rw[zae nws];exact zac
 have cQ:HAt (upd (upd H2 wa (.lst [.str s])) se (.dK [])) fo (ex [] h0 o hs):=⟨by rw[zae nfs,zae nfw,ex_nil];exact cR,by rw[zed];exact hh.nd⟩
 have ht4:(upd (upd H2 wa (.lst [.str s])) se (.dK [])) tp=some (.dK [((Sum.inl h0:Key),V.int o),(Sum.inl o,V.int h0)]):=by rw[zae nts,zae ntw];exact aQ
 generalize upd (upd H2 wa (.lst [.str s])) se (.dK [])=H4 at k4 nY fM cQ ht4
 have kc:∀{H':Hp},Keep [fo,wa,se] H4 H'→Keep [] H H':=λ{H'} kk c w' ec _=>kk c w' (k4 c w' ec (by simp)) (by simp;exact⟨zaa ec ff,zaa ec fw,zaa ec vK⟩)
 have tz:∀{H':Hp},Keep [fo,wa,se] H4 H'→H' tp=some (.dK [((Sum.inl h0:Key),V.int o),(Sum.inl o,V.int h0)]):=λkk=>kk _ _ ht4 (by simp;exact⟨ntf,ntw,nts⟩)
 refine⟨λm σ H'=>Aj3 (Ex1 λx8=>σ=[some (.ref d),some (.ref u),some (.str s),some (.int o),some (.ref tp),some (.ref fo),some (.ref wa),some (.ref se),x8]) (Keep [fo,wa,se] H4 H') (Ex2 λ(ks wl:Ng)=>Aj9 (H' se=some (.dK (marks ks))) (H' wa=some (.lst (wl.map V.str))) (HAt H' fo (ex ks h0 o hs)) ks.Nodup (∀z,z∈ks∨z∈wl→z∈es.map (·.1)∧Conn (r2 es hs h0 o) s z) (s∈ks∨s∈wl) (∀z∈ks,∀y∈r2 es hs h0 o z,y∈ks∨y∈wl) (wl.length≤1+40*ks.length) (m=(es.length-ks.length)*41+wl.length)),
  ⟨_,⟨none,rfl⟩,Keep.refl,[],[s],nY,fM,cQ,Zn,λz hz=>?_,.inr Qc,λz hz=>(by cases hz),Qh 1,rfl⟩,?_⟩
 ·rcases hz with q | q
  ·cases q
  ·rw[Qb.mp q];exact⟨dP,.refl⟩
 rintro m σ H5 ⟨⟨x8,rfl⟩,k5,ks,wl,tO,dM,iH,dA,eF,jZ,gC,cY,rfl⟩
 have uv:ks.length≤es.length:=by
  have:=zdf dA (m:=es.map (·.1)) λz hz=>(eF z (.inl hz)).1
  rwa[Qa]at this
 refine⟨_,rfl,(by show 0≤sizeLine;decide),λq hq=>?_⟩
 have k6:Keep [] H5 (upd H5 q (.lst [])):=Keep.new hq
 have ja:(upd H5 q (.lst [])) q=some (.lst []):=zac
 generalize upd H5 q (.lst [])=H6 at k6 ja
 have d0:=k6 _ _ dM (by simp)
 have tN:=k6 _ _ tO (by simp)
 have oT:=iH.keep k6 (by simp)
 have gJ:Keep [fo,wa,se] H4 H6:=k5.trans (k6.sub (by simp))
 refine⟨wa,q,_,rfl,rfl,SqL.of d0,SqL.of ja,_,rfl,?_⟩
 cases wl with
 | nil =>
  refine iteF ?_
  refine⟨_,rfl,k fo ks H6 oT (λy=>?_) ff (kc gJ)⟩
  constructor
  ·exact λh=>(eF y (.inl h)).2
  ·intro c
   induction c with
   |refl=>exact jZ.resolve_right (by simp)
   |step _ hz ih=>exact(gC _ ih _ hz).resolve_right (by simp)
 | cons z t =>
  refine iteT ⟨_,λ σ' H' zz=>zz,?_⟩
  refine⟨_,rfl,.inl ⟨rfl,_,SqL.of d0⟩,wa,_,0,0,.str z,rfl,rfl,d0,by decide,by decide,by rw[Qa];simp[seqIndex?],rfl,?_⟩
  have k7:Keep [fo,wa,se] H4 (upd H6 wa (.lst (t.map V.str))):=gJ.trans (Keep.wr (by simp))
  have jQ:(upd H6 wa (.lst (t.map V.str))) wa=some (.lst (t.map V.str)):=zac
  have ie:(upd H6 wa (.lst (t.map V.str))) se=some (.dK (marks ks)):=by rw[zae (Qw nws)];exact tN
  have kW:HAt (upd H6 wa (.lst (t.map V.str))) fo (ex ks h0 o hs):=oT.keep (xs:=[wa]) (Keep.wr (by simp)) (by simpa using nfw)
  have eer:((z::t).map V.str).eraseIdx 0=t.map V.str:=rfl
  rw[eer]
  generalize upd H6 wa (.lst (t.map V.str))=H7 at k7 jQ ie kW
  have hz:=eF z (.inr Qc)
  have hwl':t.length+1≤1+40*ks.length:=cY
  have rN:=DGet.k (k:=Sum.inr z) ie
  by_cases c9:z∈ks
  ·rw [valM_in c9] at rN
   refine⟨_,rfl,_,rfl,se,_,rfl,rN,_,rfl,zcq rfl ?_⟩
   refine⟨(es.length-ks.length)*41+t.length,by show _<_+(t.length+1);omega,⟨_,rfl⟩,k7,ks,t,ie,jQ,kW,dA,λy hy=>eF y (hy.imp id (Qg _)),?_,λy hy q hq=>?_,by omega,rfl⟩
   ·rcases jZ with q | q
    ·exact .inl q
    ·rcases Qe.mp q with q | q
     ·exact .inl (q▸c9)
     ·exact .inr q
   ·rcases gC y hy q hq with q' | q'
    ·exact .inl q'
    ·rcases Qe.mp q' with q' | q'
     ·exact .inl (q'▸c9)
     ·exact .inr q'
  ·rw [zfm c9] at rN
   refine⟨_,rfl,_,rfl,se,_,rfl,rN,_,rfl,zdv rfl ?_⟩
   have hklt:ks.length<es.length:=by
    have:=zdf (m:=es.map (·.1)) (l:=z::ks) (Qr.mpr ⟨c9,dA⟩) λy hy=>by
     rcases Qe.mp hy with q | q
     ·rw[q];exact hz.1
     ·exact(eF y (.inl q)).1
    rwa[Qa]at this
   refine⟨_,rfl,_,rfl,se,_,rfl,DPut.k (k:=Sum.inr z) ie (by unfold marks;rw[List.length_map];omega),?_⟩
   rw[zic c9]
   have k8:Keep [fo,wa,se] H4 (upd H7 se (.dK (marks (ks++[z])))):=k7.trans (Keep.wr (by simp))
   have nX:(upd H7 se (.dK (marks (ks++[z])))) se=some (.dK (marks (ks++[z]))):=zac
   have ng:(upd H7 se (.dK (marks (ks++[z])))) wa=some (.lst (t.map V.str)):=by rw[zae nws];exact jQ
   have oS:HAt (upd H7 se (.dK (marks (ks++[z])))) fo (ex ks h0 o hs):=kW.keep (xs:=[se]) (Keep.wr (by simp)) (by simpa using nfs)
   generalize upd H7 se (.dK (marks (ks++[z])))=H8 at k8 nX ng oS
   have nF:=conn_tw dN hz.2
   obtain⟨⟨z',n⟩,cE,ezn⟩:=Qf.mp (tw_key nF)
   have vL:z'=z:=ezn
   subst vL
   have hnn:n=h0∨n=o:=by
    have:=nF
    rw[zdx hh.nd cE,Uf]at this
    exact this.imp of_decide_eq_true of_decide_eq_true
   have gz:=(hh.keep (kc k8)).get (Sum.inr z')
   rw[zcf hh.nd cE]at gz
   have g2:DGet H8 tp (.int n) (some (.int (if n=h0 then o else h0))):=by
    have:=DGet.k (k:=Sum.inl n) (tz k8)
    rw[two_val aV]at this
    by_cases q:n=h0
    ·rw[if_pos q]at this ⊢;exact this
    ·rw [if_neg q,if_pos (hnn.resolve_left q)] at this
     rw[if_neg q];exact this
   refine⟨_,rfl,_,rfl,_,rfl,u,_,rfl,gz,tp,_,rfl,g2,_,rfl,_,rfl,fo,_,rfl,DPut.k (k:=Sum.inr z') oS.dc (by unfold ex;rw[List.length_map,List.length_map];omega),?_⟩
   have oR:HAt (upd H8 fo (.dK (putK ((ex ks h0 o hs).map λe=>((Sum.inr e.1:Key),V.int e.2)) (Sum.inr z') (.int (if n=h0 then o else h0))))) fo (ex (ks++[z']) h0 o hs):=⟨by rw[zac];exact congrArg (λx=>some (HO.dK x)) (ex_put (e:=(z',n)) hh.nd cE),by rw[zed];exact hh.nd⟩
   have k9:Keep [fo,wa,se] H4 (upd H8 fo (.dK (putK ((ex ks h0 o hs).map λe=>((Sum.inr e.1:Key),V.int e.2)) (Sum.inr z') (.int (if n=h0 then o else h0))))):=k8.trans (Keep.wr (by simp))
   have nV:(upd H8 fo (.dK (putK ((ex ks h0 o hs).map λe=>((Sum.inr e.1:Key),V.int e.2)) (Sum.inr z') (.int (if n=h0 then o else h0))))) se=some (.dK (marks (ks++[z']))):=by rw[zae (Qw nfs)];exact nX
   have jP:(upd H8 fo (.dK (putK ((ex ks h0 o hs).map λe=>((Sum.inr e.1:Key),V.int e.2)) (Sum.inr z') (.int (if n=h0 then o else h0))))) wa=some (.lst (t.map V.str)):=by rw[zae (Qw nfw)];exact ng
   generalize upd H8 fo (.dK (putK ((ex ks h0 o hs).map λe=>((Sum.inr e.1:Key),V.int e.2)) (Sum.inr z') (.int (if n=h0 then o else h0))))=H9 at oR k9 nV jP
   obtain⟨en,aT,sP⟩:=Qf.mp hz.1
   have iW:en.1=z':=sP
   have R9:=R.keep (kc k9) (by simp) (λ_ _=>by simp)
   have hh9:=hh.keep (kc k9)
   have dg9:DGet H9 d (.str z') (some (.ref en.2.2)):=by
    have:=DGet.k (k:=Sum.inr en.1) R9.dc
    rw[zbu R9.nd aT,iW]at this
    exact this
   have qJ:row (rsOf es) z'=en.2.1:=by rw[←iW];exact zbj R.nd aT
   have kY:=aI en aT
   refine⟨_,rfl,.inl ⟨rfl,_,SqL.of jP⟩,_,rfl,_,rfl,d,_,rfl,dg9,en.2.2,rfl,⟨_,SqL.of (R9.ro en aT)⟩,ze5 (xs:=en.2.1.map V.str) (λ τ=>∃x0,τ=[x0,some (.ref u),some (.ref tp)]) (λv=>match v with | .str y=>tw hs h0 o y | _=>false) (SqL.of (R9.ro en aT)) (by rw[Qa];omega) ⟨none,rfl⟩ ?_ (λq hq=>?_)⟩
   ·rintro v hv τ ⟨x0,rfl⟩ q1 q0 h1 gG
    obtain⟨y,hy,rfl⟩:=Qf.mp hv
    refine⟨_,rfl,u,rfl,.inl ⟨_,hh9.dc⟩,_,rfl,_,hh9.get (Sum.inr y),_,rfl,?_⟩
    rcases valH_is hs y with hn | ⟨n2,hn⟩
    ·rw [hn]
     exact .no tp _ rfl rfl (.inl (tz k9)) ⟨_,rfl,iteF (gG (by show tw hs h0 o y=false;unfold tw hueV;rw[hn];rfl) _ ⟨_,rfl⟩)⟩
    ·rw [hn]
     have qv:(y,n2)∈hs:=by
      by_cases qv:y∈hs.map (·.1)
      ·obtain ⟨b,hb,dD⟩:=Qf.mp qv
       have pG:b.1=y:=dD
       have:=zcf hh.nd hb
       rw[pG,hn]at this
       have e2:n2=b.2:=by injection Qk this
       rw[←pG,e2];exact hb
      ·rw[zef qv]at hn;cases hn
     have jU:=zdx (h:=h0) (o:=o) hh.nd qv
     refine .k tp _ rfl (DGet.k (k:=Sum.inl n2) (tz k9)) ?_
     rw[two_val aV]
     by_cases c1:n2=h0
     ·rw [if_pos c1]
      exact⟨_,rfl,iteT ⟨_,rfl,h1 (by show tw hs h0 o y=true;rw[jU,decide_eq_true c1];rfl) _ ⟨_,rfl⟩⟩⟩
     ·rw [if_neg c1]
      by_cases c2:n2=o
      ·rw [if_pos c2]
       exact⟨_,rfl,iteT ⟨_,rfl,h1 (by show tw hs h0 o y=true;rw[jU,decide_eq_true c2,Bool.or_true]) _ ⟨_,rfl⟩⟩⟩
      ·rw [if_neg c2]
       exact⟨_,rfl,iteF (gG (by show tw hs h0 o y=false;rw[jU,decide_eq_false c1,decide_eq_false c2];rfl) _ ⟨_,rfl⟩)⟩
   ·have eq:(en.2.1.map V.str).filter (fun v=>match v with | .str y=>tw hs h0 o y | _=>false)=(en.2.1.filter (tw hs h0 o)).map V.str:=Jy
    rw[eq]
    have e8:(en.2.1.filter (tw hs h0 o)).length≤40:=Zk (Ud _ _) kY
    have er2:r2 es hs h0 o z'=en.2.1.filter (tw hs h0 o):=by unfold r2;rw[qJ]
    have cu:Keep [] H9 (upd H9 q (.lst ((en.2.1.filter (tw hs h0 o)).map V.str))):=Keep.new hq
    have kl:(upd H9 q (.lst ((en.2.1.filter (tw hs h0 o)).map V.str))) q=some (.lst ((en.2.1.filter (tw hs h0 o)).map V.str)):=zac
    generalize upd H9 q (.lst ((en.2.1.filter (tw hs h0 o)).map V.str))=gH at cu kl
    rw[←er2]at kl e8
    have ni:=cu _ _ jP (by simp)
    refine⟨wa,q,_,_,rfl,rfl,ni,kl,by rw[Qa,Qa];omega,?_⟩
    refine⟨(es.length-(ks++[z']).length)*41+(t++r2 es hs h0 o z').length,?_,⟨_,rfl⟩,(k9.trans (cu.sub (by simp))).trans (Keep.wr (by simp)),ks++[z'],t++r2 es hs h0 o z',by rw[zae (Qw nws)];exact cu _ _ nV (by simp),by rw[zac,Qp],(oR.keep cu (by simp)).keep (xs:=[wa]) (Keep.wr (by simp)) (by simpa using nfw),?_,?_,?_,?_,?_,rfl⟩
    ·rw [Qs,Qs]
     show(es.length-(ks.length+1))*41+_<(es.length-ks.length)*41+(t.length+1)
     omega
    ·rw [Zb]
     exact⟨dA,Qr.mpr ⟨by simp,Zn⟩,λa ha b hb e=>c9 (by rw[←Qb.mp hb,←e];exact ha)⟩
    ·intro y hy
     rcases hy with hy | hy
     ·rcases Qi.mp hy with hy | hy
      ·exact eF y (.inl hy)
      ·rw[Qb.mp hy];exact hz
     ·rcases Qi.mp hy with hy | hy
      ·exact eF y (.inr (Qg _ hy))
      ·exact⟨aL z' y (Za.mp hy).1,.step hz.2 hy⟩
    ·rcases jZ with hy | hy
     ·exact .inl (Qo _ hy)
     ·rcases Qe.mp hy with hy | hy
      ·exact .inl (Qn _ (by rw[hy];exact Qc))
      ·exact .inr (Qo _ hy)
    ·intro y hy y2 sT
     rcases Qi.mp hy with hy | hy
     ·rcases gC y hy y2 sT with hy | hy
      ·exact .inl (Qo _ hy)
      ·rcases Qe.mp hy with hy | hy
       ·exact .inl (Qn _ (by rw[hy];exact Qc))
       ·exact .inr (Qo _ hy)
     ·rw [Qb.mp hy] at sT
      exact .inr (Qn _ sT)
    ·rw [Qs,Qs]
     show _≤1+40*(ks.length+1)
     omega
end
end K21
end
section
namespace L2
open PySem PySem.Spec PyProof.Rows
section
variable{X:Cx}
def op_ne_empty(hu:X.A.units<cLine):OpR X (compareOp .NotEq) (λx y H Q=>Ex3 λa b kvs=>Aj5 (x=.ref a) (y=.ref b) (Rd H a (.dK kvs)) (Rd H b (.dK [])) (Q (.bl (!kvs.isEmpty)) H)):=by
 intro a7 s σ H x y v u Q I rx ry h
 obtain⟨a,b,kvs,rfl,rfl,h1,h2,q⟩:=h
 cases rx;cases ry
 obtain⟨z,lo,vs,ep,rk,ha,hl⟩:=dk_at I h1
 obtain⟨z2,sB,sd,ep2,sj,vE,ak⟩:=dk_at I h2
 cases sj
 refine PySem.W.keq_ne (r:=true) lo sB ha.dictOf vE.dictOf hu (λe=>?_) ⟨.bl (!kvs.isEmpty),H,I,?_,q⟩
 ·cases vs with
  |nil=>exact .nil
  |cons _ _=>cases e
 ·show Value.bool _=Value.bool _
  cases rk with
  |nil=>rfl
  |cons _ _=>rfl
inductive RrDClear(x:V)(vs:List V)(H:Hp)(Q:VK):Prop
 |mk (a:Nb) (kvs:List (Key×V)) (h0:x=.ref a) (h1:vs=[]) (h2:H a=some (.dK kvs)) (h3:Q .non (upd H a (.dK []))):RrDClear x vs H Q
def rDClear:V→List V→Hp→VK→Prop:=λx vs H Q=>RrDClear x vs H Q
def mt_dclear:MtM X "dict.clear" rDClear:=by
 intro a7 s σ H x vs v us Q I rx rv h
 obtain⟨a,kvs,rfl,rfl,e,q⟩:=h
 cases rx
 have nn:=rv.zero
 subst nn
 obtain⟨z,hd,vs,rel,dd⟩:=dk_of I.hok e
 refine call_meetsIn PySem.F.slot_dict_clear dd.typeIs PySem.F.entry_dict_clear (PySem.F.args_dict_clear_1 _) (meets_dict_clear (zam X.prog X.w) a) ⟨vs,dd,by rw[←rel.length];exact z,λh' hV hs=>?_⟩
 have he:∃q,h'.get? a=some q:=let⟨q,_,_,hq,_⟩:=hV;⟨q,hq⟩
 exact⟨.non,_,ziu (t':=s.toks) I (by rw[e];exact True.intro) hs he (dk_new (kvs:=[]) (Zg _) hd .nil hV),rfl,q⟩
def zi6:zci X (.builtin "isinstance") (λxs H Q=>Ex2 λ(a:Nb) (kvs:List (Key×V))=>Aj3 (xs=[.ref a,.ty "dict"]) (H a=some (.dK kvs)) (Q (.bl true) H)):=by
 intro a7 s σ H xs us Q I r h
 obtain⟨a,kvs,rfl,hl,q⟩:=h
 obtain⟨u,w',rfl,e0,e⟩:=vals2 r
 have e':w'=Value.type "dict" := e
 have e0':u=Value.ref a:=e0
 subst e' e0'
 obtain⟨z,hd,vs,rel,dd⟩:=dk_of I.hok hl
 obtain⟨ob,ho,hc⟩:=dd.typeIs (s:=s)
 exact IsiPair.dict_dict ho hc ⟨.bl true,H,I,rfl,q⟩
end
end L2
namespace K21
open PySem L2 Wb
def mem_ex(h:(y,n)∈hs):(y,if y∈zs then(if n=a then b else a) else n)∈ex zs a b hs:=Qf.mpr ⟨(y,n),h,rfl⟩
def tw_out(hy:y∉hs.map (·.1)):tw hs h o y=false:=by
 unfold tw hueV;rw[zef hy];rfl
def tw_ex(nd:(hs.map (·.1)).Nodup)(hz:∀y∈zs,tw hs h o y=true)(aV:o≠h)(y:Str):tw (ex zs h o hs) o h y=tw hs h o y:=by
 by_cases hy:y∈hs.map (·.1)
 ·obtain ⟨⟨y',n⟩,hn,e⟩:=Qf.mp hy
  have e':y'=y:=e
  subst e'
  rw[zdx (by rw[zed];exact nd) (mem_ex (zs:=zs) (a:=h) (b:=o) hn),zdx nd hn]
  by_cases aX:y'∈zs
  ·rw [if_pos aX]
   have:=hz _ aX
   rw[zdx nd hn]at this
   rw[this]
   by_cases eZ:n=h
   ·rw[if_pos eZ,decide_eq_true rfl];rfl
   ·rw[if_neg eZ,decide_eq_true (p:=h=h) rfl,Bool.or_true]
  ·rw[if_neg aX,Bool.or_comm]
 ·rw[tw_out hy,tw_out (by rw[zed];exact hy)]
def r2_ex(nd:(hs.map (·.1)).Nodup)(hz:∀y∈zs,tw hs h o y=true)(aV:o≠h):r2 es (ex zs h o hs) o h=r2 es hs h o:=by
 funext z
 unfold r2
 exact List.filter_congr λy _=>tw_ex nd hz aV y
def ex_ex(nd:(hs.map (·.1)).Nodup)(hz:∀ y∈zs,tw hs h o y=true)(aV:o≠h):ex zs o h (ex zs h o hs)=hs:=by
 unfold ex
 rw[Ze]
 rw[Yj (g:=id) λe he=>?_]
 ·exact Km _
 ·obtain ⟨y,n⟩:=e
  show(y,if y∈zs then(if(if y∈zs then(if n=h then o else h) else n)=o then h else o) else(if y∈zs then(if n=h then o else h) else n))=(y,n)
  by_cases aX:y∈zs
  ·rw [if_pos aX,if_pos aX]
   have:=hz _ aX
   rw[zdx nd he,Uf]at this
   by_cases eZ:n=h
   ·rw[if_pos eZ,if_pos rfl,eZ]
   ·have aZ:n=o:=of_decide_eq_true (this.resolve_left fun q=>eZ (of_decide_eq_true q))
    rw[if_neg eZ,if_neg (Qw aV),aZ]
  ·rw[if_neg aX,if_neg aX]
def ex_unlike(nd:(hs.map (·.1)).Nodup)(aV:o≠h)(sy:∀x y,y∈row (rsOf es) x→x∈row (rsOf es) y)(av:tw hs h o s=true)(hm:∀y,y∈zs↔Conn (r2 es hs h o) s y)(pr:∀a∈hs,∀b∈hs,b.1∈row (rsOf es) a.1→a.2≠b.2):∀a∈ex zs h o hs,∀b∈ex zs h o hs,b.1∈row (rsOf es) a.1→a.2≠b.2:=by
 intro a ha b hb hr
 obtain⟨⟨y,n⟩,hy,rfl⟩:=Qf.mp ha
 obtain⟨⟨z,k⟩,hz,rfl⟩:=Qf.mp hb
 have tZ:z∈row (rsOf es) y:=hr
 have hp:=pr _ hy _ hz tZ
 have cG:n≠k:=hp
 have key:∀{y z:Str} {n k:Int},(y,n)∈hs→(z,k)∈hs→z∈row (rsOf es) y→y∈zs→(k=h∨k=o)→z∈zs:=λ{y z n k} hy hz hr aX hk=>by
  refine(hm z).mpr (.step ((hm y).mp aX) (Za.mpr ⟨hr,?_⟩))
  rw[zdx nd hz,Uf]
  exact hk.imp decide_eq_true decide_eq_true
 have two:∀{y:Str} {n:Int},(y,n)∈hs→y∈zs→n=h∨n=o:=λ{y n} hy aX=>by
  have:=conn_tw av ((hm y).mp aX)
  rw[zdx nd hy,Uf]at this
  exact this.imp of_decide_eq_true of_decide_eq_true
 show(if y∈zs then(if n=h then o else h) else n)≠(if z∈zs then(if k=h then o else h) else k)
 by_cases aX:y∈zs
 ·have t1:=two hy aX
  rw[if_pos aX]
  by_cases eM:z∈zs
  ·have t2:=two hz eM
   rw[if_pos eM]
   rcases t1 with rfl | rfl<;>rcases t2 with rfl | rfl
   ·exact absurd rfl cG
   ·rw[if_pos rfl,if_neg aV];exact aV
   ·rw[if_neg aV,if_pos rfl];exact Qw aV
   ·exact absurd rfl cG
  ·rw [if_neg eM]
   intro q
   refine eM (key hy hz tZ aX ?_)
   split at q
   ·exact .inr q.symm
   ·exact .inl q.symm
 ·rw [if_neg aX]
  by_cases eM:z∈zs
  ·rw [if_pos eM]
   intro q
   refine aX (key hz hy (sy _ _ tZ) eM ?_)
   split at q
   ·exact .inr q
   ·exact .inl q
  ·rw[if_neg eM];exact cG
end K21
end
section
namespace L2
def or_f(I:Hp→Prop)(ht:∀k:Bool→Hp→Prop,(∀H',I H'→k false H')→t σ H k)(hu:∀H',I H'→∀k:Bool→Hp→Prop,(∀H'',I H''→k false H'')→u σ H' k)(q:∀H',I H'→k false H'):tOr t u σ H k :=
 ht _ λH' i=>by
  show if(false=true) then _ else u σ H' k
  exact iteF (hu H' i k q)
def if_no(I:Hp→Prop)(ht:∀k:Bool→Hp→Prop,(∀H',I H'→k false H')→t σ H k)(q:∀H',I H'→B D σ H'):tIfS t A B D σ H :=
 ht _ λH' i=>iteF (q H' i)
end L2
namespace K21
open PySem L2 Wb
abbrev sLaw:Stmt:=top 47
def r2_perm(hp:∀y,(row (rsOf ts) y).Perm (row (rsOf es) y)):Conn (r2 ts hs h o) s y↔Conn (r2 es hs h o) s y :=
 ⟨Conn.mono λx y hy=>Za.mpr ⟨(hp x).mem_iff.mp (Za.mp hy).1,(Za.mp hy).2⟩,Conn.mono λx y hy=>Za.mpr ⟨(hp x).mem_iff.mpr (Za.mp hy).1,(Za.mp hy).2⟩⟩
def HAt.kn(h:HAt H u hs):((hs.map λe=>((Sum.inr e.1:Key),V.int e.2)).map (·.1)).Nodup:=by
 rw[Ze]
 exact Wr.mpr ((Wr.mp h.nd).imp λne e=>ne (Wi e))
def zfw(hs:List (Str×Int)):∀p∈hs.map λe=>((Sum.inr e.1:Key),V.int e.2),zdw p.2=true:=λp hp=>by
 obtain⟨e,_,rfl⟩:=Qf.mp hp
 rfl
def HAt.hf(h:HAt H u hs):HF H u hs:=⟨.inl h.dc,h.nd⟩
inductive IspLaw(K:Na)(vs:List V)(H:Hp)(Q:VK):Prop
 |mk (a:Nb) (ns:List Int) (h0:vs=[.ref a]) (h1:SqL K H a (ns.map V.int)) (h2:ns.length≤63) (h3:∀H',Q (.bl true) H'):IspLaw K vs H Q
def spLaw(K:Na):Sp:=λvs H Q _=>IspLaw K vs H Q
abbrev csL:Scope:=scOf (eOf (bAt (sAt sLaw 4) 2))
def csL_k:csL.kind=.function:=by rfl
def csL_c:∀y∈csL.names,y.2≠.cell:=by decide +kernel
def csL_n:∀y∈csL.names,y.2=.local→csL.names.lookup y.1=some .local:=by decide +kernel
def csL_f:∀y∈csL.names,y.2=.free→(zag sLaw).names.lookup y.1=some .cell∨(zag sLaw).names.lookup y.1=some .free:=by decide +kernel
def csL_l:csL.names.lookup (qH:Str)=some NameKind.free:=by decide +kernel
def csL_m:csL.names.lookup ("_law_start" : Str)=some NameKind.free:=by decide +kernel
def ndL:(["_law_hue",qH, "_law_start"]:List Str).Nodup:=by decide +kernel
section
variable{P:Ni}{w:Nk}{K:Na}{mg:Nd}{base:Nm}
def zek:zap [qS,qR,qP, "_law_web",qH, "_law_sorts", "_law_k", "_law_line", "_law_start", "_law_some",qO, "_law_before", "_law_told"] [qS] (zag sLaw):=fsk
def ok_law(F:Fun K "law" "law" sLaw f fd)(FR:Fun K "_law_rounds" "_law_rounds" zh3 fr fdr)(bR:Binds K fdr [qS] [])(mR:mg "_law_rounds" = some (.ref fr))(GR:FnOk P w K mg base CX0 4 fr fdr [qS] (zhg K))(FP:Fun K "_law_pot" "_law_pot" sPot fp fdp)(bP:Binds K fdp [qS, "_law_k"] [])(mP:mg "_law_pot" = some (.ref fp))(GP:FnOk P w K mg base CX0 1 fp fdp [qS, "_law_k"] (spPot K))(FT:Fun K qD qD zga ft fdt)(bT:Binds K fdt [qP,qM] [])(mT:mg qD=some (.ref ft))(GT:FnOk P w K mg base CX0 1 ft fdt [qP,qM] zeg)(MW:Mk K C fi)(mW:mg "Web" = some (.ref C))(bI:Binds K fdi ["self", "rows"] [])(GI:FnOk P w K mg base CX0 4 fi fdi ["self", "rows"] (spInit C))(FW:Fun K "_law_rows" "_law_rows" sRows fw fdw)(bW:Binds K fdw [qR,qP] [])(mRw:mg "_law_rows" = some (.ref fw))(GW:FnOk P w K mg base CX0 2 fw fdw [qR,qP] spRows)(FH:Fun K "_law_hues" "_law_hues" zg6 fh fdh)(bH:Binds K fdh [qR,qP] [])(mH:mg "_law_hues" = some (.ref fh))(GH:FnOk P w K mg base CX0 2 fh fdh [qR,qP] spHues)(FD:Fun K "_law_due" "_law_due" sDue fdu fdd)(bD:Binds K fdd [qR,qH, "_law_start",qO] [])(mD:mg "_law_due" = some (.ref fdu))(GD:FnOk P w K mg base CX0 1 fdu fdd [qR,qH, "_law_start",qO] spDue)(FU:Fun K "_law_unlike" "_law_unlike" zd4 fun' fdn)(bU:Binds K fdn [qR,qH] [])(mU:mg "_law_unlike" = some (.ref fun'))(GU:FnOk P w K mg base CX0 1 fun' fdn [qR,qH] spUnlike)(FE:Fun K "exchanged" "exchanged" sExch fe fde)(bE:Binds K fde ["web", "hues", "start", "other"] [])(mE:mg "exchanged" = some (.ref fe))(GE:FnOk P w K mg base CX0 3 fe fde ["web", "hues", "start", "other"] (spExch C))(kQ:mg "isinstance" = none)(hint:mg "int" = none)(aP:mg "dict" = none)(bV:mg "range" = none)(af:mg "len" = none)(aO:mg "sorted" = none):FnOk P w K mg base CX0 6 f fd [qS] (spLaw K):=by
 refine F.okL zek (λcdv A outer s0 H vs Q E hr h=>?_)
 obtain⟨a,ns,rfl,ha,df,k⟩:=h
 have hu:=zbz hr
 have dv:=Uo hu
 have au:Room 1 _:=hr.mono (by decide)
 have da:Room 2 _:=hr.mono (by decide)
 have lM:Room 3 _:=hr.mono (by decide)
 have gP:Room 4 _:=hr.mono (by decide)
 have av  := sizeLine_eq
 refine⟨_,zad (zau 1 zek.nd (zaj GR gP rfl mR FR.kp bR .nil zat (zab (pv 0) zaf)))
  (zad (zau 2 zek.nd (zaj GP au rfl mP FP.kp bP .nil zat (zab (pv 0) (zab zai zaf))))
  (zad (zau 3 zek.nd (pe_make MW GI hr rfl mW bI .nil zat (zab (zaj GW da rfl mRw FW.kp bW .nil zat (zab (pv 1) (zab (pv 2) zaf))) zaf)))
  (zad (ps_asg (zaj GH da rfl mH FH.kp bH .nil zat (zab (pv 1) (zab (pv 2) zaf))) (zfc rfl (za4 (pg_name (i:=4) zek.nd rfl (Or.inr rfl)) (za4 (za9 5 zek.nd) zcl))))
  (zad (zbq Zr rfl (zeo rfl bV (zab (zav zfe zai (zbe zgx (by rfl) hint Xh (zab (pe_cmpR (op_ne_empty dv) (pv 4) zfv (zba _)) zaf))) zaf)) (za9 6 zek.nd)
   (zad (zau 7 zek.nd (zaj GP au rfl mP FP.kp bP .nil zat (zab (pv 0) (zab (zav zbv zai (pv 6)) zaf))))
   (zad (zen (i:=8) zek.nd rfl (Or.inr rfl) (zay zao (zal (zch rfl) (by rfl) aO Wo (zab (pv 4) zaf)) (zaj GT au rfl mT FT.kp bT .nil zat (zab (pv 7) (zab (zal zdk (by rfl) af Zv (zab (pv 4) zaf)) zaf))) (λ_ _=>rfl)))
   (zad (ps_lc (i:=9) (M:=["_law_hue",qH, "_law_start"]) (ix:=[none,some 4,some 8]) zek.nd rfl rfl ⟨csL_k,csL_c,csL_n,csL_f,rfl,ndL,λj i x h1 h2=>by
      match j,h1,h2 with
      |0,_,h2=>cases h2
      |1,h1,h2=>cases h1;cases h2;exact⟨rfl,csL_l⟩
      |2,h1,h2=>cases h1;cases h2;exact⟨rfl,csL_m⟩
      |n+3,h1,_=>cases h1⟩ rfl (za8 (pv 5)) (λC a7 ex s H=>za9 0 ndL)
      (λC a7 ex s H=>zdc (zaq op_ne (pv 0) (zbo (by exact hu) (pv 1) (pv 2)) (zba _))) (λC a7 ex s H=>pv 0) rfl)
   (zad (zau 10 zek.nd (zay zao (pv 9) (zaj GT au rfl mT FT.kp bT .nil zat (zab (pv 7) (zab (zal zas (by rfl) af Zv (zab (pv 9) zaf)) zaf))) (λ_ _=>rfl)))
   (zad (zau 11 zek.nd (zbe zcu (by rfl) aP Wu (zab (pv 4) zaf)))
   (zad (zau 12 zek.nd (zaj GE lM rfl mE FE.kp bE .nil zat (zab (pv 3) (zab (pv 4) (zab (pv 8) (zab (pv 10) zaf))))))
   (zad (zbp (PW.pt (pw_or (pt_not (pt_val (zal zi6 (by rfl) kQ PyProof.Rows.boot_isinstance (zab (pv 12) (zab (pe_tyN (T := "dict") rfl aP Wu) zaf))))) (pw_or (zaq (zds dv) (pv 12) (zaj GD au rfl mD FD.kp bD .nil zat (zab (pv 1) (zab (pv 11) (zab (pv 8) (zab (pv 10) zaf))))) (zba _)) (zhi (zaq (zds dv) (pv 4) (pv 11) (zba _)))))) (zah zfj) zaw)
   (zad (zbp (PW.pt (pw_or (pt_not (pt_val (zaj GU au rfl mU FU.kp bU .nil zat (zab (pv 1) (zab (pv 12) zaf))))) (zhi (zaq (zds dv) (zaj GE lM rfl mE FE.kp bE .nil zat (zab (pv 3) (zab (pv 12) (zab (pv 8) (zab (zbo hu (pv 11) (pv 8)) zaf))))) (pv 11) (zba _))))) (zah zfj) zaw)
   (zad (zen (i:=4) zek.nd rfl (Or.inr rfl) (zbe zcu (by rfl) aP Wu (zab (pv 12) zaf)))
   (zad (za3 (pe_bm0 Kv PySem.F.slot_dict_clear PySem.F.type_dict_clear mt_dclear (pv 12)))
   (zah (zbp (zaq (zds dv) (zaj GE lM rfl mE FE.kp bE .nil zat (zab (pv 3) (zab (pv 11) (zab (pv 8) (zab (pv 10) zaf))))) (pv 4) (zba _)) (zah zfj) zaw)))))))))))))
  (zah (zbn pe_bl)))))),?_⟩
 refine⟨_,rfl,a,ns,rfl,ha,by omega,λd es H1 D1 ne hok fd k1=>?_⟩
 refine⟨_,rfl,a,ns,25,rfl,zf4 ha k1,by decide,by omega,λp b m H2 kE aw k2=>?_⟩
 have D2:=D1.k0 k2
 have fp':H p=none:=zak k1 kE (by simp)
 refine⟨_,rfl,_,rfl,p,d,b,m,es,rfl,aw,D2,λl as bz ao b3 m3 H3 RW cx bp aA k3=>?_⟩
 refine λx dx hx hdx az=>?_
 have k4:Keep [] H3 (upd (upd H3 dx (.own x)) x (.ins C dx [])):=λc u ec _=>by
  rw[zae (zaa ec hx),zae (zaa ec hdx)];exact ec
 have eO:(upd (upd H3 dx (.own x)) x (.ins C dx [])) x=some (.ins C dx []):=zac
 generalize upd (upd H3 dx (.own x)) x (.ins C dx [])=H4 at k4 eO
 obtain⟨cs,aa,Ct⟩:=D1.gd
 rw[zbi]at Ct
 have ax:(es.map (·.1)).Nodup:=D1.rn.nd
 have gO:=zb1 bp
 have kY:bz.length=es.length:=by rw[Yp bp,cx.length_eq]
 have aS:=D1.few
 have C1:Cert (bz.map (·.1)) (row (rsOf bz)) cs aa:=cert_turn Ct (by rw[gO];exact cx.map _) (zdm bp cx ax)
 have uf:(bz.map (·.1)).Nodup:=by rw[gO];exact(cx.map _).nodup_iff.mpr ax
 refine⟨x,dx,l,as,bz,cs,aa,rfl,eO,RW.keep k4,by omega,λe he=>?_,C1,λd2 ts aH H5 wt br ht5 k5=>⟨rfl,?_⟩⟩
 ·obtain ⟨e',aN,e1,_⟩:=zex bp he
  rw[e1];exact hok e' (cx.mem_iff.mp aN)
 have df:(ts.map (·.1)).Perm (es.map (·.1)):=by
  rw[zb1 ht5]
  refine(br.map _).trans ?_
  rw[gO];exact cx.map _
 have cF:∀y,(row (rsOf ts) y).Perm (row (rsOf es) y):=λy=>by
  obtain⟨k1,e1⟩:=zdm ht5 br uf y
  obtain⟨k2,e2⟩:=zdm bp cx ax y
  rw[e1,e2]
  exact(zfs _ k1).trans (zfs _ k2)
 have aL:∀z y,y∈row (rsOf es) z→y∈es.map (·.1):=λz y hy=>Ct.inn' hy
 have l8:∀z y,y∈row (rsOf ts) z→y∈ts.map (·.1):=λz y hy=>df.mem_iff.mpr (aL z y ((cF z).mem_iff.mp hy))
 have lI:ts.length≤40:=by
  have:=df.length_eq
  rw[Qa,Qa]at this;omega
 have tu:∀e∈ts,e.2.1.length≤100:=λe he=>by
  have h1:row (rsOf ts) e.1=e.2.1:=zbj wt.ta.nd he
  have h2:=(cF e.1).length_eq
  rw[h1]at h2
  by_cases cD:e.1∈es.map (·.1)
  ·obtain ⟨e',aN,ee⟩:=Qf.mp cD
   have h3:row (rsOf es) e'.1=e'.2.1:=zbj ax aN
   have h4:=D1.row e' aN
   rw[show e'.1=e.1 from ee]at h3
   rw[h3]at h2
   omega
  ·rw [ze1 (by rw [zbi];exact cD)] at h2
   rw[h2];exact Zg _
 have gL:Keep [] H3 H5:=λc u ec _=>k5 c u (k4 c u ec (by simp)) (by simpa using zaa ec hx)
 have D5:=(D2.pot aw k3).k0 gL
 have kD:=aA.keep gL (by simp)
 have kH5:Keep [p] H H5:=((k1.trans k2).sub (by simp)).trans (k3.trans (gL.sub (by simp)))
 refine⟨_,rfl,_,rfl,p,d,b3,m3,es,rfl,kD,D5,λt u so hs jA b6 m6 H6 jV qF gq iF fS uh qX u5 lj h08 eY fu fso k6=>?_⟩
 refine⟨t,_,rfl,SqT.of jV,rfl,_,_,rfl,_,_,rfl,rfl,?_⟩
 have D6:=D5.pot kD k6
 have wt6:=wt.pot kD k6
 have sy:∀x y,y∈row (rsOf es) x→x∈row (rsOf es) y:=λx y hy=>Ct.sy _ _ hy
 have R':∀{H':Hp},Keep [] H6 H'→RAt H' d es:=λkk=>D6.rn.toRAt.keep kk (by simp) λ_ _=>by simp
 have W':∀{H':Hp},Keep [] H6 H'→WAt H' C x dx d2 ts:=λkk=>wt6.keep kk (by simp) (by simp) λ_ _=>by simp
 have fU:∀e∈es,e.2.1.length≤40:=D1.row
 have kH6:Keep [] H H6:=λc w' ec _=>k6 c w' (kH5 c w' ec (by simpa using zaa ec fp')) (by simpa using zaa ec fp')
 refine⟨_,rfl,λq hq=>?_⟩
 have jT:=qF.keep (xs:=[]) (Keep.new (o:=.dK []) hq) (by simp)
 refine⟨u,q,_,rfl,rfl,.inl jT.dc,.inl zac,.inr ⟨_,rfl,_,_,rfl,rfl,.inl ⟨by decide,by decide⟩,_,rfl,by split<;>decide,by split<;>decide,?_⟩⟩
 have k7:Keep [] H6 (upd H6 q (.dK [])):=Keep.new hq
 generalize upd H6 q (.dK [])=H7 at k7 jT
 refine zdh (lo:=0) (λi σ H'=>Ex1 λ(u':Nb)=>Aj4 (Ex7 λx6 x7 x8 x9 jx x11 x12=>σ=[some (.ref a),some (.ref d),some (.ref p),some (.ref x),some (.ref u'),some (.ref so),x6,x7,x8,x9,jx,x11,x12]) (Keep [] H6 H') (H6 u'=none∨u'=u) (Ex1 λ(ai:List (Str×Int))=>Aj5 (HAt H' u' ai) (ai.map (·.1)=hs.map (·.1)) (∀h∈ai,h.1∈es.map (·.1)∧0≤h.2) (ai.length=hs.length) (∀a∈ai,∀b∈ai,b.1∈row (rsOf es) a.1→a.2≠b.2)))
  ⟨u,⟨_,_,_,_,_,_,_,rfl⟩,k7,.inr rfl,hs,jT,rfl,gq,rfl,u5⟩ ?_ (λ σ H' hh=>k _)
 rintro i σ H8 hi ⟨u',⟨y6,y7,y8,y9,y10,y11,y12,rfl⟩,k8,hfu',ai,eR,dX,iE,uq,u4⟩
 have az:ai≠[]:=λz=>by
  rw[z]at uq
  have:hs=[]:=Js uq.symm
  subst this
  exact absurd hi (Nat.not_lt_zero i)
 have hi30:i<30:=Zo hi (by split<;>decide)
 have di:(ai.map (·.1)).Nodup:=eR.nd
 have kK:ai.length≤40:=by omega
 refine⟨_,rfl,_,rfl,_,_,rfl,rfl,a,ns,26+i,by rw[Ka,Int.zero_add];rfl,zf4 ha (kH6.trans k8),by omega,by omega,λln bl ml H9 oF lO k9=>?_⟩
 have hu9:=eR.keep k9 (by simp)
 have ekv:((ai.map λe=>((Sum.inr e.1:Key),V.int e.2)).map λp=>kV p.1)=(ai.map (·.1)).map V.str:=by rw[Ze,Ze];rfl
 refine⟨_,rfl,u',_,ai.map (·.1),rfl,.inl hu9.dc,ekv,λsl ws hsl ap _=>?_⟩
 have cu:Keep [] H9 (upd H9 sl (.lst (ws.map V.str))):=Keep.new hsl
 have j8:(upd H9 sl (.lst (ws.map V.str))) sl=some (.lst (ws.map V.str)):=zac
 generalize upd H9 sl (.lst (ws.map V.str))=gH at cu j8
 have tj:=hu9.keep cu (by simp)
 have hlp:0<ai.length:=Wg.mpr az
 refine⟨_,rfl,_,rfl,u',_,rfl,tj.dc,ln,bl,ml,_,rfl,lO.keep cu (by simp),by rw[Qa];omega,by rw[Qa];omega,λj rQ qq hZ gm gl oo mz=>?_⟩
 have nul:u'≠ln:=zaa eR.dc oF
 have nsl:sl≠ln:=Qw (zaa lO.1 hsl)
 have nU:=mz _ _ j8 nsl
 have sF:Keep [ln] H8 hZ:=((k9.trans cu).sub (by simp)).trans (zbf mz)
 have sJ:Keep [] H8 hZ:=λc w' ec _=>sF c w' ec (by simpa using zaa ec oF)
 obtain⟨jn,rfl⟩:=Zt gm
 rw[Qa]at gl
 have cY:ws.length=ai.length:=by rw[ap.length_eq,Qa]
 have kO:jn<ws.length:=by omega
 obtain⟨⟨s,h⟩,ce,ao⟩:=Qf.mp (ap.mem_iff.mp (Qv kO))
 have vN:s=ws[jn]:=ao
 refine⟨sl,_,_,_,rfl,rfl,SqL.of nU,zar (by rw[Qq,Qd kO,←vN];rfl),?_⟩
 have tf:=eR.keep sJ (by simp)
 have j6:=(k8.trans sJ) _ _ fS (by simp)
 have dP:=(iE _ ce).1
 have oM:0≤h:=(iE _ ce).2
 have g11:DGet hZ u' (.str s) (some (.int h)):=by
  have:=DGet.k (k:=Sum.inr s) tf.dc
  rwa[zcf di ce]at this
 refine⟨_,rfl,so,rfl,⟨_,SqL.of j6⟩,ze5 (xs:=jA.map V.int) (λ τ=>∃x0,τ=[x0,some (.ref u'),some (.str s)]) (λv=>match v with | .int n=>!decide (n=h) | _=>false) (SqL.of j6) (by rw[Qa];omega) ⟨none,rfl⟩ ?_ (λfo e7=>?_)⟩
 ·rintro v hv τ ⟨x0,rfl⟩ q1 q0 h1 gG
  obtain⟨n,hn,rfl⟩:=Qf.mp hv
  refine⟨_,rfl,_,rfl,_,rfl,u',_,rfl,g11,rfl,_,rfl,?_⟩
  by_cases eZ:n=h
  ·rw [decide_eq_true (congrArg V.int eZ)]
   exact iteF (gG (by show(!decide (n=h))=false;rw[decide_eq_true eZ];rfl) _ ⟨_,rfl⟩)
  ·rw [decide_eq_false (fun e=>eZ (by injection e))]
   exact iteT ⟨_,rfl,h1 (by show(!decide (n=h))=true;rw[decide_eq_false eZ];rfl) _ ⟨_,rfl⟩⟩
 have ef:(jA.map V.int).filter (λv=>match v with | .int n=>!decide (n=h) | _=>false)=(jA.filter λn=>!decide (n=h)).map V.int:=Jy
 rw[ef]
 have hms:∀n∈jA.filter λn=>!decide (n=h),n≠h∧0≤n:=λn hn=>by
  have:=Za.mp hn
  exact⟨λe=>(by have h2:=this.2;rw[decide_eq_true e]at h2;cases h2),uh n this.1⟩
 have iz:0<(jA.filter λn=>!decide (n=h)).length:=by
  by_cases hz:(0:Int)=h
  ·exact Yd (Za.mpr ⟨h08,by rw[←hz];decide⟩)
  ·exact Yd (Za.mpr ⟨lj,by rw[decide_eq_false hz];rfl⟩)
 have uj:(jA.filter λn=>!decide (n=h)).length≤7:=Zk (Ud _ _) qX
 generalize jA.filter (λn=>!decide (n=h))=ms at hms iz uj
 have lF:Keep [] H8 (upd hZ fo (.lst (ms.map V.int))):=sJ.trans (Keep.new e7)
 have gv:(upd hZ fo (.lst (ms.map V.int))) fo=some (.lst (ms.map V.int)):=zac
 have om:=oo.keep (xs:=[]) (Keep.new (o:=.lst (ms.map V.int)) e7) (by simp)
 have nfl:fo≠ln:=Qw (zaa oo.1 e7)
 generalize upd hZ fo (.lst (ms.map V.int))=hX at lF gv om
 refine⟨_,rfl,_,rfl,_,rfl,fo,_,rfl,.inl (SqL.of gv),ln,rQ,qq,_,rfl,om,by rw[Qa];omega,by rw[Qa];omega,λj2 b13 m13 iR h20 h21 hp13 my=>?_⟩
 obtain⟨j2,rfl⟩:=Zt h20
 rw[Qa]at h21
 have je:j2<ms.length:=by omega
 have oU:=my _ _ gv nfl
 have jF:Keep [] H8 iR:=λc w' ec _=>my c w' (lF c w' ec (by simp)) (zaa ec oF)
 obtain⟨aV,qV⟩:=hms _ (Qv je)
 refine⟨fo,_,_,_,rfl,rfl,SqL.of oU,zar (by rw[Qq,Qd je];rfl),?_⟩
 generalize ms[j2]=o at aV qV
 have nC:=eR.keep jF (by simp)
 refine⟨_,rfl,u',_,rfl,.inl nC.dc,λbe dD=>?_⟩
 have lE:Keep [] iR (upd iR be (.dK (ai.map λe=>((Sum.inr e.1:Key),V.int e.2)))):=Keep.new dD
 have cT:HAt (upd iR be (.dK (ai.map λe=>((Sum.inr e.1:Key),V.int e.2)))) be ai:=⟨zac,di⟩
 generalize upd iR be (.dK (ai.map λe=>((Sum.inr e.1:Key),V.int e.2)))=H14 at lE cT
 have kq:∀{H':Hp},Keep [] H14 H'→Keep [] H6 H':=λkk=>((k8.trans jF).trans lE).trans kk
 have nz:=nC.keep lE (by simp)
 have aq:s∈ts.map (·.1):=df.mem_iff.mpr dP
 refine⟨_,rfl,_,rfl,_,rfl,_,rfl,x,dx,d2,u',ts,ai,s,h,o,rfl,W' (kq λ_ _ e _=>e),lI,tu,l8,nz.hf,kK,ce,aq,aV,qV,λt1 zs lu ic bJ vJ iV=>?_⟩
 have i6:∀y,y∈zs↔Conn (r2 es ai h o) s y:=λy=>(bJ y).trans (r2_perm cF)
 have dN:tw ai h o s=true:=by rw[zdx di ce,decide_eq_true rfl];rfl
 have htz:∀y∈zs,tw ai h o y=true:=λy hy=>conn_tw dN ((i6 y).mp hy)
 have hsz:s∈zs:=(i6 s).mpr .refl
 have tJ:(s,o)∈ex zs h o ai:=by
  have:=mem_ex (zs:=zs) (a:=h) (b:=o) ce
  rwa[if_pos hsz,if_pos rfl]at this
 have hexl:(ex zs h o ai).length=ai.length:=by unfold ex;rw[List.length_map]
 have pd:∀e∈ex zs h o ai,e.1∈es.map (·.1)∧0≤e.2:=λe he=>by
  obtain⟨e0,h0e,rfl⟩:=Qf.mp he
  refine⟨(iE _ h0e).1,?_⟩
  show 0≤(if e0.1∈zs then(if e0.2=h then o else h) else e0.2)
  split
  ·split
   ·exact qV
   ·exact oM
  ·exact(iE _ h0e).2
 have qE:=ex_unlike (es:=es) di aV sy dN i6 u4
 dsimp only[gName]
 refine if_no (λH'=>Keep [] lu H') (λk hk=>or_f (λH'=>Keep [] lu H') (λk hk=>⟨_,rfl,t1,_,rfl,ic.dc,_,rfl,hk _ λ_ _ e _=>e⟩) (λH' kk k hk=>or_f (λH'=>Keep [] lu H') (λk hk=>⟨_,rfl,_,rfl,_,rfl,_,rfl,_,rfl,d,be,es,ai,s,h,o,rfl,R' (kq (iV.trans kk)),aS,fU,aL,((cT.keep iV (by simp)).keep kk (by simp)).hf,kK,ce,dP,aV,λt2 zs2 H2' aQ dI ft2 lD=>⟨t1,t2,_,rfl,rfl,.inl ((kk.trans lD) _ _ ic.dc (by simp)),.inl (by rw[←zit (λy=>(dI y).trans (i6 y).symm)];exact aQ.dc),ic.kn,zfw _,_,rfl,hk _ (kk.trans lD)⟩⟩) (λH2' gK k hk=>⟨_,rfl,_,rfl,u',be,_,rfl,rfl,.inl ((iV.trans gK) _ _ nz.dc (by simp)),.inl ((iV.trans gK) _ _ cT.dc (by simp)),eR.kn,zfw _,_,rfl,hk _ gK⟩) hk) hk) (λjv mJ=>?_)
 have jW:=ic.keep mJ (by simp)
 have gD:=(cT.keep iV (by simp)).keep mJ (by simp)
 have mx:Keep [] H6 jv:=kq (iV.trans mJ)
 have gbe:∀{H':Hp},Keep [] jv H'→DGet H' be (.str s) (some (.int h)):=λ{H'} kk=>by
  have:=(gD.keep kk (by simp)).hf.get (Sum.inr s)
  rwa[zcf di ce]at this
 dsimp only[tNext]
 refine if_no (λH'=>Keep [] jv H') (λk hk=>or_f (λH'=>Keep [] jv H') (λk hk=>⟨_,rfl,_,rfl,d,t1,es,ex zs h o ai,rfl,R' mx,fU,jW,λe he=>(pd e he).1,by omega,qE,λH' kk=>⟨_,rfl,hk _ kk⟩⟩)
  (λH' kk k hk=>⟨_,rfl,_,rfl,_,rfl,_,rfl,_,rfl,be,_,rfl,gbe kk,x,dx,d2,t1,ts,ex zs h o ai,s,o,h,rfl,W' (mx.trans kk),lI,tu,l8,(jW.keep kk (by simp)).hf,by omega,tJ,aq,Qw aV,oM,λt3 zs3 H3' cL dH ft3 k3'=>⟨_,rfl,t3,be,_,rfl,rfl,.inl cL.dc,.inl ?_,cL.kn,zfw _,_,rfl,hk _ (kk.trans k3')⟩⟩) hk) (λqh qu=>?_)
 ·have e1:ex zs3 o h (ex zs h o ai)=ai:=by
   rw[zit (ys:=zs) λy=>(dH y).trans (by rw[r2_ex di htz aV];exact(bJ y).symm)]
   exact ex_ex di htz aV
  rw[e1]
  exact(kk.trans k3') _ _ gD.dc (by simp)
 have i9:=jW.keep qu (by simp)
 have hbe17:=gD.keep qu (by simp)
 dsimp only[tNext]
 refine⟨_,rfl,t1,_,rfl,.inl i9.dc,λu2 lH=>?_⟩
 have sI:Keep [] qh (upd qh u2 (.dK ((ex zs h o ai).map λe=>((Sum.inr e.1:Key),V.int e.2)))):=Keep.new lH
 have ny:HAt (upd qh u2 (.dK ((ex zs h o ai).map λe=>((Sum.inr e.1:Key),V.int e.2)))) u2 (ex zs h o ai):=⟨zac,i9.nd⟩
 have cX:t1≠u2:=zaa i9.dc lH
 generalize upd qh u2 (.dK ((ex zs h o ai).map λe=>((Sum.inr e.1:Key),V.int e.2)))=H18 at sI ny
 have nK:=i9.keep sI (by simp)
 refine⟨_,rfl,.inr (.inr (.inl ⟨rfl,.inl ⟨_,nK.dc⟩⟩)),t1,_,rfl,rfl,nK.dc,?_⟩
 have nr:HAt (upd H18 t1 (.dK [])) u2 (ex zs h o ai):=ny.keep (xs:=[t1]) (Keep.wr (by simp)) (by simpa using Qw cX)
 have qt:Keep [] H14 (upd H18 t1 (.dK [])):=λc w' ec _=>by
  rw[zae (zaa ec vJ)]
  exact sI c w' (qu c w' (mJ c w' (iV c w' ec (by simp)) (by simp)) (by simp)) (by simp)
 generalize upd H18 t1 (.dK [])=H19 at nr qt
 have pF:=cT.keep qt (by simp)
 refine⟨_,rfl,_,rfl,_,rfl,_,rfl,x,dx,d2,be,ts,ai,s,h,o,rfl,W' (kq qt),lI,tu,l8,pF.hf,kK,ce,aq,aV,qV,λt4 zs4 H20 nI hz4 ft20 k20=>?_⟩
 have np:=nr.keep k20 (by simp)
 refine⟨_,rfl,t4,u2,_,rfl,rfl,.inl nI.dc,.inl (by rw[zit (ys:=zs) λy=>(hz4 y).trans (bJ y).symm];exact np.dc),nI.kn,zfw _,_,rfl,iteF ?_⟩
 exact⟨u2,⟨_,_,_,_,_,_,_,rfl⟩,kq (qt.trans k20),.inl (zak (kq (iV.trans (mJ.trans qu))) lH (by simp)),ex zs h o ai,np,by rw[zed,dX],pd,by omega,qE⟩
end
end K21
end
section
namespace L2
open PySem
section
variable{K:Na}{x qual p1 p2 p3 p4 p5:Str}{st:Stmt}{f:Nb}{fd:No}(F:Fun K x qual st f fd)
include F
theorem Fun.b1(h:∀(kV doc pm:Value) (an:Option Addr) (cdv ct a1:Value),bindArgs (PySem.W.fnOf x qual (zco st) (zb7 st) (zag st) .none kV doc pm an cdv ct) ⟨[a1],[]⟩=pure [(p1,a1)]):Binds K fd [p1] [] :=
 F.binds λkV doc pm an cdv ct us hl=>by
  obtain _ | ⟨a1,_ | ⟨z,t⟩⟩:=us
  ·cases hl
  ·exact h kV doc pm an cdv ct a1
  ·cases hl
theorem Fun.b2(h:∀(kV doc pm:Value) (an:Option Addr) (cdv ct a1 a2:Value),bindArgs (PySem.W.fnOf x qual (zco st) (zb7 st) (zag st) .none kV doc pm an cdv ct) ⟨[a1,a2],[]⟩=pure [(p1,a1),(p2,a2)]):Binds K fd [p1,p2] [] :=
 F.binds λkV doc pm an cdv ct us hl=>by
  obtain _ | ⟨a1,_ | ⟨a2,_ | ⟨z,t⟩⟩⟩:=us
  ·cases hl
  ·cases hl
  ·exact h kV doc pm an cdv ct a1 a2
  ·cases hl
theorem Fun.b3(h:∀(kV doc pm:Value) (an:Option Addr) (cdv ct a1 a2 a3:Value),bindArgs (PySem.W.fnOf x qual (zco st) (zb7 st) (zag st) .none kV doc pm an cdv ct) ⟨[a1,a2,a3],[]⟩=pure [(p1,a1),(p2,a2),(p3,a3)]):Binds K fd [p1,p2,p3] [] :=
 F.binds λkV doc pm an cdv ct us hl=>by
  obtain _ | ⟨a1,_ | ⟨a2,_ | ⟨a3,_ | ⟨z,t⟩⟩⟩⟩:=us
  ·cases hl
  ·cases hl
  ·cases hl
  ·exact h kV doc pm an cdv ct a1 a2 a3
  ·cases hl
theorem Fun.b4(h:∀(kV doc pm:Value) (an:Option Addr) (cdv ct a1 a2 a3 a4:Value),bindArgs (PySem.W.fnOf x qual (zco st) (zb7 st) (zag st) .none kV doc pm an cdv ct) ⟨[a1,a2,a3,a4],[]⟩=pure [(p1,a1),(p2,a2),(p3,a3),(p4,a4)]):Binds K fd [p1,p2,p3,p4] [] :=
 F.binds λkV doc pm an cdv ct us hl=>by
  obtain _ | ⟨a1,_ | ⟨a2,_ | ⟨a3,_ | ⟨a4,_ | ⟨z,t⟩⟩⟩⟩⟩:=us
  ·cases hl
  ·cases hl
  ·cases hl
  ·cases hl
  ·exact h kV doc pm an cdv ct a1 a2 a3 a4
  ·cases hl
theorem Fun.b5(h:∀(kV doc pm:Value) (an:Option Addr) (cdv ct a1 a2 a3 a4 a5:Value),bindArgs (PySem.W.fnOf x qual (zco st) (zb7 st) (zag st) .none kV doc pm an cdv ct) ⟨[a1,a2,a3,a4,a5],[]⟩=pure [(p1,a1),(p2,a2),(p3,a3),(p4,a4),(p5,a5)]):Binds K fd [p1,p2,p3,p4,p5] [] :=
 F.binds λkV doc pm an cdv ct us hl=>by
  obtain _ | ⟨a1,_ | ⟨a2,_ | ⟨a3,_ | ⟨a4,_ | ⟨a5,_ | ⟨z,t⟩⟩⟩⟩⟩⟩:=us
  ·cases hl
  ·cases hl
  ·cases hl
  ·cases hl
  ·cases hl
  ·exact h kV doc pm an cdv ct a1 a2 a3 a4 a5
  ·cases hl
end
end L2
namespace K21
open PySem L2 Wb PyProof.Rows
theorem all_mk{l:PySem.W.OpenLaw}{w:Nk}{K:Na}{h:Nm}{mg:Nd}{fa C fL f0 f1 f2 f3 f4 f5 f6 f7 f8 f9 f10 f11 f12 f13 f14 f15 f16 f17 f18 f19 f20 f21 f22 f23 f24 f25 f26 f27 f28 f29 f30 f31 g0 g1 g2:Nb}(X:K.In h)(G:h.Ns mainGlobals mg)(cJ:mg "law" = some (.ref fa))(af0:PySem.W.nsIn K mainGlobals "steps_behind" = some (some (.ref f0)))(vb:∃fd,Fun K "steps_behind" "steps_behind" sSteps f0 fd)(af1:PySem.W.nsIn K mainGlobals "faces_of" = some (some (.ref f1)))(hf1:∃fd,Fun K "faces_of" "faces_of" zfb f1 fd)(af2:PySem.W.nsIn K mainGlobals "piece_from" = some (some (.ref f2)))(gS:∃fd,Fun K "piece_from" "piece_from" zf9 f2 fd)(af3:PySem.W.nsIn K mainGlobals "pieces_of" = some (some (.ref f3)))(hf3:∃fd,Fun K "pieces_of" "pieces_of" zh5 f3 fd)(af4:PySem.W.nsIn K mainGlobals "chain" = some (some (.ref f4)))(hf4:∃fd,Fun K "chain" "chain" zc7 f4 fd)(af5:PySem.W.nsIn K mainGlobals "is_name" = some (some (.ref f5)))(hf5:∃fd,Fun K "is_name" "is_name" zd5 f5 fd)(af6:PySem.W.nsIn K mainGlobals "refuse_no_names" = some (some (.ref f6)))(hf6:∃fd,Fun K "refuse_no_names" "refuse_no_names" zfr f6 fd)(af7:PySem.W.nsIn K mainGlobals "refuse_twice" = some (some (.ref f7)))(hf7:∃fd,Fun K "refuse_twice" "refuse_twice" zdy f7 fd)(af8:PySem.W.nsIn K mainGlobals "refuse_one_way" = some (some (.ref f8)))(hf8:∃fd,Fun K "refuse_one_way" "refuse_one_way" zh6 f8 fd)(af9:PySem.W.nsIn K mainGlobals "refuse_not_flat" = some (some (.ref f9)))(hf9:∃fd,Fun K "refuse_not_flat" "refuse_not_flat" zg7 f9 fd)(wy:PySem.W.nsIn K mainGlobals "from_least" = some (some (.ref f10)))(va:∃fd,Fun K "from_least" "from_least" sLeast f10 fd)(wx:PySem.W.nsIn K mainGlobals "_law_pot" = some (some (.ref f11)))(v9:∃fd,Fun K "_law_pot" "_law_pot" sPot f11 fd)(ww:PySem.W.nsIn K mainGlobals "_law_draw" = some (some (.ref f12)))(v8:∃fd,Fun K "_law_draw" "_law_draw" zga f12 fd)(wu:PySem.W.nsIn K mainGlobals "_law_names" = some (some (.ref f13)))(v7:∃fd,Fun K "_law_names" "_law_names" zdz f13 fd)(wq:PySem.W.nsIn K mainGlobals "_law_behind" = some (some (.ref f14)))(v6:∃fd,Fun K "_law_behind" "_law_behind" zh7 f14 fd)(wp:PySem.W.nsIn K mainGlobals "_law_face" = some (some (.ref f15)))(v4:∃fd,Fun K "_law_face" "_law_face" sFace f15 fd)(wo:PySem.W.nsIn K mainGlobals "_law_put" = some (some (.ref f16)))(v3:∃fd,Fun K "_law_put" "_law_put" sPut f16 fd)(wn:PySem.W.nsIn K mainGlobals "_law_tie" = some (some (.ref f17)))(v2:∃fd,Fun K "_law_tie" "_law_tie" sTie f17 fd)(wk:PySem.W.nsIn K mainGlobals "_law_step" = some (some (.ref f18)))(uZ:∃fd,Fun K "_law_step" "_law_step" zh2 f18 fd)(wj:PySem.W.nsIn K mainGlobals "_law_more" = some (some (.ref f19)))(uY:∃fd,Fun K "_law_more" "_law_more" sMore f19 fd)(wg:PySem.W.nsIn K mainGlobals "_law_across" = some (some (.ref f20)))(uW:∃fd,Fun K "_law_across" "_law_across" zh8 f20 fd)(wf:PySem.W.nsIn K mainGlobals "_law_fill" = some (some (.ref f21)))(uV:∃fd,Fun K "_law_fill" "_law_fill" sFill f21 fd)(we:PySem.W.nsIn K mainGlobals "_law_away" = some (some (.ref f22)))(uU:∃fd,Fun K "_law_away" "_law_away" sAway f22 fd)(wd:PySem.W.nsIn K mainGlobals "_law_capped" = some (some (.ref f23)))(uT:∃fd,Fun K "_law_capped" "_law_capped" sCap f23 fd)(wc:PySem.W.nsIn K mainGlobals "_law_long" = some (some (.ref f24)))(uS:∃fd,Fun K "_law_long" "_law_long" sLong f24 fd)(wb:PySem.W.nsIn K mainGlobals "_law_rounds" = some (some (.ref f25)))(uR:∃fd,Fun K "_law_rounds" "_law_rounds" zh3 f25 fd)(w8:PySem.W.nsIn K mainGlobals "_law_rows" = some (some (.ref f26)))(uQ:∃fd,Fun K "_law_rows" "_law_rows" sRows f26 fd)(w6:PySem.W.nsIn K mainGlobals "_law_hues" = some (some (.ref f27)))(uP:∃fd,Fun K "_law_hues" "_law_hues" zg6 f27 fd)(vZ:PySem.W.nsIn K mainGlobals "exchanged_in" = some (some (.ref f28)))(uO:∃fd,Fun K "exchanged_in" "exchanged_in" sExIn f28 fd)(vY:PySem.W.nsIn K mainGlobals "exchanged" = some (some (.ref f29)))(uN:∃fd,Fun K "exchanged" "exchanged" sExch f29 fd)(vX:PySem.W.nsIn K mainGlobals "_law_due" = some (some (.ref f30)))(uM:∃fd,Fun K "_law_due" "_law_due" sDue f30 fd)(vW:PySem.W.nsIn K mainGlobals "_law_unlike" = some (some (.ref f31)))(uL:∃fd,Fun K "_law_unlike" "_law_unlike" zd4 f31 fd)(ag0:PySem.W.findIn K (.ref C) "__init__" = some (some (.ref g0)))(ig0:PySem.W.isFn K (.ref g0)=true)(kg0:PySem.W.keepIn K (.ref g0)=true)(hg0:∃fd,Fun K "__init__" "Web.__init__" sInit g0 fd)(ag1:PySem.W.findIn K (.ref C) "places" = some (some (.ref g1)))(ig1:PySem.W.isFn K (.ref g1)=true)(kg1:PySem.W.keepIn K (.ref g1)=true)(hg1:∃fd,Fun K "places" "Web.places" sPlaces g1 fd)(ag2:PySem.W.findIn K (.ref C) "round_of" = some (some (.ref g2)))(ig2:PySem.W.isFn K (.ref g2)=true)(kg2:PySem.W.keepIn K (.ref g2)=true)(hg2:∃fd,Fun K "round_of" "Web.round_of" zh4 g2 fd){odfL anfL:Option Addr}{slfL:Array (Option Value)}{ocfL kVfL dcfL pmfL cdfL ctfL:Value}(afL:PySem.W.nsIn K mainGlobals "law" = some (some (.ref fL)))(lfL:K.lookup fL=some ⟨ocfL,odfL,.func (PySem.W.fnOf "law" "law" (zco sLaw) (zb7 sLaw) (zag sLaw) .none kVfL dcfL pmfL anfL cdfL ctfL),slfL⟩)(cfL:PySem.W.codeIn K cdfL "law" = true)(kfL:PySem.W.keepIn K (.ref fL)=true)(aC:PySem.W.nsIn K mainGlobals "Web" = some (some (.ref C))){tkM:Tok}(aM:PySem.W.nsIn K mainGlobals "MOST_LETTERS" = some (some (.int 8 tkM)))(pg:PySem.W.plainGet K C Str.empty=true)(gU:PySem.W.hasDictIn K C=true)(po:PySem.W.plainOver K C=true)(sa:PySem.W.findIn K (.ref C) "__setattr__" = some (some (.builtin "object.__setattr__")))(mk:PySem.W.makesIn K C=true)(kc:PySem.W.keepIn K (.ref C)=true)(nR:PySem.W.findIn K (.ref C) "rounds" = some none)(z_len:PySem.W.nsIn K mainGlobals "len" = some none)(z_sorted:PySem.W.nsIn K mainGlobals "sorted" = some none)(z_range:PySem.W.nsIn K mainGlobals "range" = some none)(z_min:PySem.W.nsIn K mainGlobals "min" = some none)(z_tuple:PySem.W.nsIn K mainGlobals "tuple" = some none)(z_list:PySem.W.nsIn K mainGlobals "list" = some none)(z_dict:PySem.W.nsIn K mainGlobals "dict" = some none)(z_set:PySem.W.nsIn K mainGlobals "set" = some none)(z_isinstance:PySem.W.nsIn K mainGlobals "isinstance" = some none)(z_str:PySem.W.nsIn K mainGlobals "str" = some none)(z_all:PySem.W.nsIn K mainGlobals "all" = some none)(z_sum:PySem.W.nsIn K mainGlobals "sum" = some none)(z_enumerate:PySem.W.nsIn K mainGlobals "enumerate" = some none)(z_zip:PySem.W.nsIn K mainGlobals "zip" = some none)(z_int:PySem.W.nsIn K mainGlobals "int" = some none)(z_reversed:PySem.W.nsIn K mainGlobals "reversed" = some none) :
  ∃fd:FuncData,(∀(s:Nh) (v:Value),BindsTo s fd ⟨[v],[]⟩ [("_law_script",v)])∧∀base:Heap,K.In base→base.Ns mainGlobals mg→FnOk l.prog w K mg base CX0 6 fa fd ["_law_script"] (spLaw K):=by
 have e:=cJ.symm.trans (Zl X G afL)
 cases e
 obtain⟨_,F0⟩:=vb
 have b0:=F0.b1 (p1 := "rounds") λ_ _ _ _ _ _ _=>rfl
 have m0:=Zl X G af0
 obtain⟨_,F1⟩:=hf1
 have b1:=F1.b1 (p1 := "rounds") λ_ _ _ _ _ _ _=>rfl
 have m1:=Zl X G af1
 obtain⟨_,F2⟩:=gS
 have b2:=F2.b2 (p1 := "rounds") (p2 := "start") λ_ _ _ _ _ _ _ _=>rfl
 have m2:=Zl X G af2
 obtain⟨_,F3⟩:=hf3
 have b3:=F3.b1 (p1 := "rounds") λ_ _ _ _ _ _ _=>rfl
 have m3:=Zl X G af3
 obtain⟨_,F4⟩:=hf4
 have b4:=F4.b4 (p1 := "web") (p2 := "hues") (p3 := "start") (p4 := "other") λ_ _ _ _ _ _ _ _ _ _=>rfl
 have m4:=Zl X G af4
 obtain⟨_,F5⟩:=hf5
 have b5:=F5.b1 (p1 := "thing") λ_ _ _ _ _ _ _=>rfl
 have m5:=Zl X G af5
 obtain⟨_,F6⟩:=hf6
 have b6:=F6.b1 (p1 := "rows") λ_ _ _ _ _ _ _=>rfl
 have m6:=Zl X G af6
 obtain⟨_,F7⟩:=hf7
 have b7:=F7.b1 (p1 := "rows") λ_ _ _ _ _ _ _=>rfl
 have m7:=Zl X G af7
 obtain⟨_,F8⟩:=hf8
 have b8:=F8.b1 (p1 := "rows") λ_ _ _ _ _ _ _=>rfl
 have m8:=Zl X G af8
 obtain⟨_,F9⟩:=hf9
 have b9:=F9.b1 (p1 := "rounds") λ_ _ _ _ _ _ _=>rfl
 have m9:=Zl X G af9
 obtain⟨_,wT⟩:=va
 have ju:=wT.b1 (p1 := "around") λ_ _ _ _ _ _ _=>rfl
 have m10:=Zl X G wy
 obtain⟨_,rX⟩:=v9
 have rQ:=rX.b2 (p1 := "_law_script") (p2 := "_law_k") λ_ _ _ _ _ _ _ _=>rfl
 have qq:=Zl X G wx
 obtain⟨_,i4⟩:=v8
 have jt:=i4.b2 (p1 := "_law_pot_here") (p2 := "_law_many") λ_ _ _ _ _ _ _ _=>rfl
 have iS:=Zl X G ww
 obtain⟨_,wS⟩:=v7
 have b13:=wS.b2 (p1 := "_law_pot_here") (p2 := "_law_many") λ_ _ _ _ _ _ _ _=>rfl
 have m13:=Zl X G wu
 obtain⟨_,wR⟩:=v6
 have b14:=wR.b3 (p1 := "_law_rounds_here") (p2 := "_law_p") (p3 := "_law_q") λ_ _ _ _ _ _ _ _ _=>rfl
 have m14:=Zl X G wq
 obtain⟨_,rW⟩:=v4
 have b15:=rW.b2 (p1 := "_law_rounds_here") (p2 := "_law_step_here") λ_ _ _ _ _ _ _ _=>rfl
 have m15:=Zl X G wp
 obtain⟨_,wQ⟩:=v3
 have b16:=wQ.b4 (p1 := "_law_rounds_here") (p2 := "_law_one") (p3 := "_law_beside") (p4 := "_law_other") λ_ _ _ _ _ _ _ _ _ _=>rfl
 have m16:=Zl X G wo
 obtain⟨_,mj⟩:=v2
 have rP:=mj.b5 (p1 := "_law_rounds_here") (p2 := "_law_one") (p3 := "_law_beside") (p4 := "_law_other") (p5 := "_law_after") λ_ _ _ _ _ _ _ _ _ _ _=>rfl
 have qp:=Zl X G wn
 obtain⟨_,qi⟩:=uZ
 have vV:=qi.b2 (p1 := "_law_rounds_here") (p2 := "_law_pot_here") λ_ _ _ _ _ _ _ _=>rfl
 have sA:=Zl X G wk
 obtain⟨_,wP⟩:=uY
 have b19:=wP.b3 (p1 := "_law_rounds_here") (p2 := "_law_pot_here") (p3 := "_law_name") λ_ _ _ _ _ _ _ _ _=>rfl
 have m19:=Zl X G wj
 obtain⟨_,wO⟩:=uW
 have b20:=wO.b2 (p1 := "_law_rounds_here") (p2 := "_law_pot_here") λ_ _ _ _ _ _ _ _=>rfl
 have m20:=Zl X G wg
 obtain⟨_,wN⟩:=uV
 have b21:=wN.b3 (p1 := "_law_rounds_here") (p2 := "_law_pot_here") (p3 := "_law_name") λ_ _ _ _ _ _ _ _ _=>rfl
 have m21:=Zl X G wf
 obtain⟨_,wM⟩:=uU
 have b22:=wM.b2 (p1 := "_law_rounds_here") (p2 := "_law_pot_here") λ_ _ _ _ _ _ _ _=>rfl
 have m22:=Zl X G we
 obtain⟨_,wL⟩:=uT
 have b23:=wL.b3 (p1 := "_law_names_here") (p2 := "_law_many") (p3 := "_law_layers") λ_ _ _ _ _ _ _ _ _=>rfl
 have m23:=Zl X G wd
 obtain⟨_,wK⟩:=uS
 have b24:=wK.b1 (p1 := "_law_names_here") λ_ _ _ _ _ _ _=>rfl
 have m24:=Zl X G wc
 obtain⟨_,wJ⟩:=uR
 have b25:=wJ.b1 (p1 := "_law_script") λ_ _ _ _ _ _ _=>rfl
 have m25:=Zl X G wb
 obtain⟨_,wI⟩:=uQ
 have b26:=wI.b2 (p1 := "_law_rounds_here") (p2 := "_law_pot_here") λ_ _ _ _ _ _ _ _=>rfl
 have m26:=Zl X G w8
 obtain⟨_,wH⟩:=uP
 have b27:=wH.b2 (p1 := "_law_rounds_here") (p2 := "_law_pot_here") λ_ _ _ _ _ _ _ _=>rfl
 have m27:=Zl X G w6
 obtain⟨_,wG⟩:=uO
 have b28:=wG.b4 (p1 := "hues") (p2 := "places") (p3 := "one") (p4 := "other") λ_ _ _ _ _ _ _ _ _ _=>rfl
 have m28:=Zl X G vZ
 obtain⟨_,wF⟩:=uN
 have b29:=wF.b4 (p1 := "web") (p2 := "hues") (p3 := "start") (p4 := "other") λ_ _ _ _ _ _ _ _ _ _=>rfl
 have m29:=Zl X G vY
 obtain⟨_,wE⟩:=uM
 have b30:=wE.b4 (p1 := "_law_rounds_here") (p2 := "_law_hues_here") (p3 := "_law_start") (p4 := "_law_other") λ_ _ _ _ _ _ _ _ _ _=>rfl
 have m30:=Zl X G vX
 obtain⟨_,wD⟩:=uL
 have b31:=wD.b2 (p1 := "_law_rounds_here") (p2 := "_law_hues_here") λ_ _ _ _ _ _ _ _=>rfl
 have m31:=Zl X G vW
 obtain⟨_,FG0⟩:=hg0
 have bG0:=FG0.b2 (p1 := "self") (p2 := "rows") λ_ _ _ _ _ _ _ _=>rfl
 obtain⟨_,FG1⟩:=hg1
 have bG1:=FG1.b1 (p1 := "self") λ_ _ _ _ _ _ _=>rfl
 obtain⟨_,FG2⟩:=hg2
 have bG2:=FG2.b2 (p1 := "self") (p2 := "place") λ_ _ _ _ _ _ _ _=>rfl
 have FL:=fun_mk (st:=sLaw) lfL cfL kfL
 have cW:Cls K C:=⟨pg,gU,po,sa⟩
 have mC:=Zl X G aC
 have mM:=Zl X G aM
 have y_len:=Zz X G z_len
 have y_sorted:=Zz X G z_sorted
 have y_range:=Zz X G z_range
 have y_min:=Zz X G z_min
 have y_tuple:=Zz X G z_tuple
 have y_list:=Zz X G z_list
 have y_dict:=Zz X G z_dict
 have y_set:=Zz X G z_set
 have y_isinstance:=Zz X G z_isinstance
 have y_str:=Zz X G z_str
 have y_all:=Zz X G z_all
 have y_sum:=Zz X G z_sum
 have y_enumerate:=Zz X G z_enumerate
 have y_zip:=Zz X G z_zip
 have y_int:=Zz X G z_int
 have y_reversed:=Zz X G z_reversed
 refine⟨PySem.W.fnOf "law" "law" (zco sLaw) (zb7 sLaw) (zag sLaw) .none kVfL dcfL pmfL anfL cdfL ctfL,λs v=>.of_eq rfl,λbase _ _=>?_⟩
 have GTake:=ok_draw (P:=l.prog) (w:=w) (mg:=mg) (base:=base) i4
 have GPot:=ok_pot (P:=l.prog) (w:=w) (base:=base) rX y_len y_min y_list y_int
 have GNames:=ok_names (P:=l.prog) (w:=w) (base:=base) wS i4 jt iS GTake y_range y_zip
 have GBehind:=ok_behind (P:=l.prog) (w:=w) (base:=base) wR y_len
 have GFace:=ok_face (P:=l.prog) (w:=w) (base:=base) rW wR b14 m14 GBehind
 have GPut:=ok_put (P:=l.prog) (w:=w) (mg:=mg) (base:=base) wQ
 have GTie:=ok_tie (P:=l.prog) (w:=w) (base:=base) mj wQ b16 m16 GPut
 have GStep:=ok_step (P:=l.prog) (w:=w) (base:=base) qi i4 jt iS GTake y_len
 have GMore:=ok_more (P:=l.prog) (w:=w) (base:=base) wP i4 jt iS GTake mj rP qp GTie y_len y_list
 have GAcross:=ok_across (P:=l.prog) (w:=w) (base:=base) wO i4 jt iS GTake mj rP qp GTie qi vV sA GStep rW b15 m15 GFace y_len
 have GFill:=ok_fill (P:=l.prog) (w:=w) (base:=base) wN mj rP qp GTie qi vV sA GStep rW b15 m15 GFace
 have GAway:=ok_away (P:=l.prog) (w:=w) (base:=base) wM qi vV sA GStep
 have GLong:=ok_long (P:=l.prog) (w:=w) (base:=base) wK mj rP qp GTie y_len y_range
 have GCap:=ok_cap (P:=l.prog) (w:=w) (base:=base) wL y_range y_list y_reversed y_enumerate
 have GRounds:=ok_rounds (P:=l.prog) (w:=w) (base:=base) wJ rX rQ qq GPot wS b13 m13 GNames i4 jt iS GTake wK b24 m24 GLong wL b23 m23 GCap wN b21 m21 GFill wP b19 m19 GMore wM b22 m22 GAway wO b20 m20 GAcross y_len y_min y_range
 have GRows:=ok_rows (P:=l.prog) (w:=w) (base:=base) wI i4 jt iS GTake y_len
 have GHues:=ok_hues (P:=l.prog) (w:=w) (base:=base) wH i4 jt iS GTake y_len y_int
 have GDue:=ok_due (P:=l.prog) (w:=w) (base:=base) wE y_dict
 have GUn:=ok_unlike (P:=l.prog) (w:=w) (mg:=mg) (base:=base) wD
 have GExIn:=ok_exin (P:=l.prog) (w:=w) (base:=base) wG y_dict
 have GPlaces:=ok_places (P:=l.prog) (w:=w) (base:=base) FG1 cW nR y_list
 have GRoundOf:=ok_roundof (P:=l.prog) (w:=w) (base:=base) FG2 cW nR y_list
 have GPieceL:=ok_pieceL (P:=l.prog) (w:=w) (base:=base) F2 y_sorted
 have GChain:=ok_chain (P:=l.prog) (w:=w) (base:=base) F4 cW nR ⟨ag1,ig1,kg1⟩ bG1 GPlaces ⟨ag2,ig2,kg2⟩ bG2 GRoundOf F2 b2 m2 GPieceL
 have GExch:=ok_exch (P:=l.prog) (w:=w) (base:=base) wF F4 b4 m4 GChain wG b28 m28 GExIn
 have GIsName:=ok_isname (P:=l.prog) (w:=w) (base:=base) F5 mM y_isinstance y_str y_len y_all
 have GNo:=ok_nonames (P:=l.prog) (w:=w) (base:=base) F6 F5 b5 m5 GIsName
 have GTw:=ok_twice (P:=l.prog) (w:=w) (base:=base) F7 y_len y_set
 have GOne:=ok_oneway (P:=l.prog) (w:=w) (base:=base) F8 y_dict
 have GLeast:=ok_least (P:=l.prog) (w:=w) (base:=base) wT y_min y_tuple
 have GSteps:=ok_steps (P:=l.prog) (w:=w) (base:=base) F0 y_enumerate
 have GFaces:=ok_faces (P:=l.prog) (w:=w) (base:=base) F1 F0 b0 m0 GSteps y_sorted
 have GPiece:=ok_piece (P:=l.prog) (w:=w) (base:=base) F2 y_sorted
 have GPieces:=ok_pieces (P:=l.prog) (w:=w) (base:=base) F3 F2 b2 m2 GPiece y_sorted
 have GFlat:=ok_flat (P:=l.prog) (w:=w) (base:=base) F9 F1 b1 m1 GFaces F3 b3 m3 GPieces y_len y_sum
 have GInit:=ok_init (P:=l.prog) (w:=w) (base:=base) FG0 cW nR F6 b6 m6 GNo F7 b7 m7 GTw F8 b8 m8 GOne wT ju m10 GLeast F9 b9 m9 GFlat y_sorted
 exact ok_law FL wJ b25 m25 GRounds rX rQ qq GPot i4 jt iS GTake ⟨mk,ag0,ig0,kc⟩ mC bG0 GInit wI b26 m26 GRows wH b27 m27 GHues wE b30 m30 GDue wD b31 m31 GUn wF b29 m29 GExch y_isinstance y_int y_dict y_range y_len y_sorted
def walk{l:PySem.W.OpenLaw}{q:Ni}{loose:Ng}{XP:(Str→Option Value)→Heap→Prop}{d:DefRec}{K:Params→PySem.W.Frag}(hn:l.most=some 63)(pi:d.params.defaults=[])(F:∀ (w:Nk) (mg:Nd) (fa:Nb) (h:Nm),(K w.params).In h→h.Ns mainGlobals mg→mg d.name=some (.ref fa) →
   ∃fd:FuncData,(∀(s:Nh) (u:Value),BindsTo s fd ⟨[u],[]⟩ [("_law_script",u)])∧∀base:Heap,(K w.params).In base→base.Ns mainGlobals mg→FnOk l.prog w (K w.params) mg base CX0 6 fa fd ["_law_script"] (spLaw (K w.params))) :
  PySem.W.WalkO q loose XP (λw h=>(K w.params).In h) l.row.toRowW d [] (λf vs=>PySem.call f vs) :=
 L2.walk_of (n:=63) (k:=6) (x := "_law_script") (CX:=λ_=>CX0) (sp:=λw=>spLaw (K w.params)) hn (by decide) pi ⟨rfl,by decide,by decide⟩ (λ_ _ z=>z) F (λ_ _ a ns hl _ hS=>⟨a,ns,rfl,hS,hl,λ_=>rfl⟩) λ_ _ _ _ _ z=>z
end K21
end
section
set_option Elab.async false
set_option linter.all false
open PySem PySem.W PySem.W.X PyProof.Rows
def PySem.W.Fast.tw16701698853162541210:Unit:=()
def PySem.W.Fast.tw8152340786465778045:Unit:=()
def PySem.W.Fast.tw5176452848114858056:Unit:=()
def PySem.W.Fast.tw9079895972939866142:Unit:=()
def PySem.W.Fast.tw13112116220330749440:Unit:=()
def PySem.W.Fast.tw14541558440239118837:Unit:=()
def PySem.W.Fast.tw1641272806112151393:Unit:=()
def PySem.W.Fast.tw4200967038270250275:Unit:=()
def PySem.W.Fast.tw10237553244466796596:Unit:=()
def PySem.W.Fast.tw17544589809914363810:Unit:=()
def PySem.W.Fast.tw12656854640351786375:Unit:=()
def PySem.W.Fast.tw7243676073449537747:Unit:=()
def PySem.W.Fast.tw4759259657598357967:Unit:=()
def PySem.W.Fast.tw11404855707777688180:Unit:=()
def PySem.W.Fast.tw9936839182259398047:Unit:=()
def PySem.W.Fast.tw964015817691396029:Unit:=()
def PySem.W.Fast.tw3949833673606320807:Unit:=()
def PySem.W.Fast.tw113316168207129762:Unit:=()
set_option maxRecDepth 100000 in
set_option maxHeartbeats 0 in
theorem PySem.Challenge.cw_fivehues_k32_exchanged_holds : PySem.Challenge.rw_fivehues_k32_exchanged.Holds := by
 w_on;o_law;z_head;(case hw=>w_witness2)
 k_fill
 intro w s0 s1 mg mb G y fa o pm cd doc dV kV ho hd hcd hD hmg hg args vals as L hpre hlay hrd hwl hlo
 z_open y L KX ZH ZN ZT
 refine K21.walk (l:=PySem.Challenge.rw_fivehues_k32_exchanged) rfl rfl ?F w s0 s1 mg mb G KX fa o pm cd doc dV kV ho hd hcd hD hmg hg args vals as hpre hlay hrd hwl hlo
 case F =>
  clear KX ZH ZN ZT L y G hmg hg hpre hlay hrd hwl hlo ho hd hcd hD
  intro w mg fa h KX G hmg
  refine' K21.all_mk KX G hmg ?_ ?_ ?_ ?_ ?_ ?_ ?_ ?_ ?_ ?_ ?_ ?_ ?_ ?_ ?_ ?_ ?_ ?_ ?_ ?_ ?_ ?_ ?_ ?_ ?_ ?_ ?_ ?_ ?_ ?_ ?_ ?_ ?_ ?_ ?_ ?_ ?_ ?_ ?_ ?_ ?_ ?_ ?_ ?_ ?_ ?_ ?_ ?_ ?_ ?_ ?_ ?_ ?_ ?_ ?_ ?_ ?_ ?_ ?_ ?_ ?_ ?_ ?_ ?_ ?_ ?_ ?_ ?_ ?_ ?_ ?_ ?_ ?_ ?_ ?_ ?_ ?_ ?_ ?_ ?_ ?aC ?_ ?_ ?_ ?_ ?_ ?_ ?_ ?_ ?_ ?_ ?_ ?_ ?_ ?_ ?_ ?_ ?_ ?_ ?_ ?_ ?_ ?_ ?_ ?_
  (case aC=>k_is)
  all_goals(try first | k_is | exact⟨_,L2.fun_mk (by k_is) (by k_is) (by k_is)⟩)
end
