import PyProof.Rows.All
import KE.KDictOf
import KE.KDictSum
import KE.KEqDict
import KE.KSortTup
import KE.KTryMore
import KE.RegKIsAll
import KE.RegKTryMore
import Lean
import OpenK.AllK
import PyProof.EqAt
import PyProof.EqKinds
import PyProof.NsDelKeeps
import PyProof.Rows.StrMadeLen
import PyProof.SliceStr2
import PyProof.StrLaws
import PyProof.TupleCall
import Wide.All
import Wide.FinOn
import PySem.Challenge.RW_fivehues_k71_trees_of_layers
set_option Elab.async false
set_option linter.all false
set_option maxRecDepth 100000
set_option maxHeartbeats 4000000
abbrev Qa:=@List.length_map
abbrev Qb:=@List.mem_singleton
abbrev Qc:=@List.getElem?_eq_getElem
abbrev Qd:=@List.mem_append
abbrev Qe:=@List.mem_cons_self
abbrev Qf:=@Nat.le_refl
abbrev Qg:=@PySem.Heap.get?_push_of_some
abbrev Qh:=@List.mem_cons
abbrev Qi:=@List.mem_cons_of_mem
abbrev Qj:=@List.mem_map
abbrev Qk:=@List.map_cons
abbrev Ql:=@List.take_succ_eq_append_getElem
abbrev Qm:=@List.getElem_mem
abbrev Qn:=@List.mem_append_right
abbrev Qo:=@List.mem_append_left
abbrev Qp:=@List.length_append
abbrev Qq:=@List.size_toArray
abbrev Qr:=@Option.some.inj
abbrev Qs:=@PySem.Heap.lt_size
abbrev Qt:=@List.map_append
abbrev Qu:=@List.getElem?_map
abbrev Qv:=@List.getD_eq_getElem?_getD
abbrev Qw:=@List.append_assoc
abbrev Qx:=@List.take_of_length_le
abbrev Qy:=@List.nodup_cons
abbrev Qz:=@List.nodup_append
abbrev Za:=@Bool.false_ne_true
abbrev Zb:=@PySem.Heap.get?_push_size
abbrev Zc:=@PySem.F.plainAttrs_list
abbrev Zd:=@List.length_cons
abbrev Ze:=@List.getElem?_eq_some_iff
abbrev Zf:=@PySem.PassesOwn.never
abbrev Zg:=@List.length_take
abbrev Zh:=@Ne.symm
abbrev Zi:=@Nat.ne_of_lt
abbrev Zj:=@Nat.le_trans
abbrev Zk:=@PySem.W.mg_of
abbrev Zl:=@Int.eq_ofNat_of_zero_le
abbrev Zm:=@List.map_map
abbrev Zn:=@Nat.zero_le
abbrev Zo:=@List.getElem_of_mem
abbrev Zp:=@Nat.lt_of_lt_of_le
abbrev Zq:=@List.nodup_nil
abbrev Zr:=@PySem.boot_len
abbrev Zs:=@List.getElem_map
abbrev Zt:=@PySem.F.type_list_append
abbrev Zu:=@PySem.F.slot_list_append
abbrev Zv:=@List.Perm.append_left
abbrev Zw:=@PySem.W.mg_none_of
abbrev Zx:=@List.append_nil
abbrev Zy:=@List.sum_cons
abbrev Zz:=@PySem.Paired.length
abbrev Ya:=@List.mem_range
abbrev Yb:=@Array.perm_iff_toList_perm
abbrev Yc:=@Nat.lt_irrefl
abbrev Yd:=@Array.toList_append
abbrev Yf:=@List.cons_append
abbrev Yh:=@List.mem_flatten
abbrev Yi:=@List.filter_cons_of_pos
abbrev Yj:=@List.filter_cons_of_neg
abbrev Yl:=@List.mem_of_getElem?
abbrev Ym:=@Nat.lt_succ_self
abbrev Yn:=@List.any_eq_true
abbrev Yo:=@List.map_congr_left
abbrev Yp:=@List.take_append_drop
abbrev Yq:=@Nat.ne_of_gt
abbrev Yr:=@List.length_range
abbrev Ys:=@List.mem_of_mem_take
abbrev Yu:=@Bool.eq_iff_iff
abbrev Yv:=@List.getElem_inj
abbrev Yw:=@List.perm_append_comm
abbrev Yx:=@List.pairwise_singleton
abbrev Yy:=@Nat.lt_trans
abbrev Yz:=@List.find?_cons_of_pos
abbrev Wa:=@List.find?_cons_of_neg
abbrev Wc:=@PySem.Around.under_plainId
abbrev Wd:=@PySem.mem_of_lookup
abbrev We:=@Array.length_toList
abbrev Wf:=@PySem.F.called_set
abbrev Wg:=@Nat.le_add_right
abbrev Wh:=@List.append_of_mem
abbrev Wi:=@PyProof.Rows.boot_sorted
abbrev Wj:=@List.mem_of_mem_drop
abbrev Wk:=@List.lt_irrefl
abbrev Wl:=@Array.getD_eq_getD_getElem?
abbrev Wm:=@List.lookup_cons
abbrev Wn:=@PySem.F.slot_dict_keyiterator_next
abbrev Wo:=@Nat.mod_lt
abbrev Wp:=@List.Nodup.sublist
abbrev Wq:=@List.getElem?_eq_none
abbrev Wr:=@Array.getElem?_toList
abbrev Ws:=@List.mem_filter
abbrev Wu:=@List.length_set
abbrev Wv:=@List.length_nil
abbrev Ww:=@Sum.inr.inj
abbrev Wx:=@Nat.le_of_lt
abbrev Wy:=@List.pairwise_map
abbrev Wz:=@PySem.Heap.size_push
abbrev Ua:=@List.map_take
abbrev Ub:=@List.idxOf_lt_length_iff
abbrev Uc:=@List.length_drop
abbrev Ud:=@PyProof.Rows.boot_isinstance
abbrev Ue:=@List.nil_append
abbrev Uf:=@Nat.lt_of_succ_lt
abbrev Ug:=@List.getElem_take
abbrev Uh:=@Int.toNat_natCast
abbrev Ui:=@PySem.Heap.get?_update_other
abbrev Uj:=@Prod.mk.inj
abbrev Uk:=@List.getElem?_append_right
abbrev Ul:=@PyProof.Rows.KeyOrd.kle_trans
abbrev Um:=@List.all_eq_true
abbrev Uo:=@List.pairwise_iff_getElem
abbrev Uq:=@List.length_pos_iff
abbrev Ur:=@List.map_drop
abbrev Us:=@PySem.F.slot_tuple_iterator_next
abbrev Ut:=@List.find?_cons
abbrev Uu:=@List.ne_nil_of_mem
abbrev Uv:=@List.getElem_range
abbrev Uw:=@List.filter_append
abbrev Ux:=@Int.emod_lt_of_pos
abbrev Uy:=@PySem.F.type_list_index
abbrev Uz:=@PySem.F.slot_list_index
abbrev Ja:=@Nat.le_succ
abbrev Jb:=@PyProof.Rows.boot_dict
abbrev Jc:=@Nat.lt_succ_of_lt
abbrev Jd:=@List.reverse_perm
abbrev Je:=@Bool.not_eq_true'
abbrev Jf:=@Array.toList_push
abbrev Jg:=@PyProof.Rows.boot_min
abbrev Jh:=@Bool.and_eq_true
abbrev Ji:=@List.perm_cons_erase
abbrev Jj:=@List.getElem_toArray
abbrev Jk:=@Array.toList_reverse
abbrev Jl:=@List.foldl_cons
abbrev Jm:=@PyProof.Rows.KeyOrd.kle_refl
abbrev Jn:=@Int.emod_nonneg
abbrev Jo:=@List.perm_iff_count
abbrev Jp:=@List.getElem_set_ne
abbrev Jq:=@List.flatten_append
abbrev Jr:=@List.filter_sublist
abbrev Js:=@PyProof.Rows.callWith_type1
abbrev Jt:=@PySem.W.callWith_K
abbrev Ju:=@Prod.ext
abbrev Jv:=@List.perm_ext_iff_of_nodup
abbrev Jw:=@List.getElem_idxOf
abbrev Jx:=@Bool.false_eq_true
abbrev Jy:=@PyProof.Rows.KeyOrd.kle_of_klt
abbrev Jz:=@List.extract_eq_take_drop
abbrev Ka:=@List.drop_eq_getElem_cons
abbrev Kb:=@Decidable.byContradiction
abbrev Kc:=@Array.getElem?_eq_getElem
abbrev Ke:=@Nat.le_succ_of_le
abbrev Kf:=@List.take_sublist
abbrev Kg:=@List.reverse_cons
abbrev Kh:=@List.flatten_cons
abbrev Ki:=@List.count_append
abbrev Kj:=@PySem.Heap.SameBut.update
abbrev Kk:=@PySem.F.type_list_insert
abbrev Kl:=@PySem.F.slot_list_insert
abbrev Km:=@List.any_cons
abbrev Kn:=@PySem.W.KasT.kasWp_bind
abbrev Ko:=@PySem.Obj.data_mapFields
abbrev Kp:=@List.nodup_range
abbrev Kq:=@Array.toList_map
abbrev Kr:=@Array.toList_inj
abbrev Ks:=@List.map_nil
abbrev Kt:=@List.length_pos_of_mem
abbrev Ku:=@Int.zero_add
abbrev Kv:=@List.range_succ
abbrev Kw:=@List.idxOf_cons
abbrev Kx:=@List.filter_nil
abbrev Ky:=@List.count_cons
abbrev Kz:=@PySem.F.slot_dict_get
abbrev Xa:=@List.singleton_append
abbrev Xb:=@List.mem_of_mem_erase
abbrev Xc:=@List.length_singleton
abbrev Xd:=@List.length_replicate
abbrev Xe:=@PySem.F.slot_list_getattribute
abbrev Na:=PySem.W.Frag
abbrev Nb:=PySem.Value→PySem.Shared→Prop
abbrev Nc:=PySem.Addr
abbrev Nd:=List (PySem.Addr×PySem.Obj)
abbrev Nf:=PySem.Str→Option PySem.Value
abbrev Ng:=List PySem.Str
abbrev Nh:=PySem.Shared
abbrev Ni:=List PySem.Value
abbrev Nj:=PySem.Program
abbrev Nk:=PySem.World
abbrev Nl:=List PySem.Addr
abbrev Nm:=PySem.Heap
abbrev Nn:=PySem.Around
abbrev No:=PySem.Str→List PySem.Str
abbrev Np:=List PySem.Expr
abbrev Nq:=PySem.Str→Option PySem.Str
abbrev Nr:=List (Option Nat)
abbrev Nt:=PySem.FuncData
abbrev Nu:=List (PySem.Str×PySem.Str)
abbrev Nv:=PySem.Result→PySem.Shared→Prop
abbrev Nw:=PySem.Str→PySem.Str
section
set_option Elab.async false
inductive Ex1{T0:Sort _}(P:T0→Prop):Prop
 |mk (x0:T0) (h:P x0):Ex1 P
inductive Ex2{T0:Sort _}{T1:Sort _}(P:T0→T1→Prop):Prop
 |mk (x0:T0) (x1:T1) (h:P x0 x1):Ex2 P
inductive Ex3{T0:Sort _}{T1:Sort _}{T2:Sort _}(P:T0→T1→T2→Prop):Prop
 |mk (x0:T0) (x1:T1) (x2:T2) (h:P x0 x1 x2):Ex3 P
inductive Ex4{T0:Sort _}{T1:Sort _}{T2:Sort _}{T3:Sort _}(P:T0→T1→T2→T3→Prop):Prop
 |mk (x0:T0) (x1:T1) (x2:T2) (x3:T3) (h:P x0 x1 x2 x3):Ex4 P
inductive Ex5{T0:Sort _}{T1:Sort _}{T2:Sort _}{T3:Sort _}{T4:Sort _}(P:T0→T1→T2→T3→T4→Prop):Prop
 |mk (x0:T0) (x1:T1) (x2:T2) (x3:T3) (x4:T4) (h:P x0 x1 x2 x3 x4):Ex5 P
inductive Ex6{T0:Sort _}{T1:Sort _}{T2:Sort _}{T3:Sort _}{T4:Sort _}{T5:Sort _}(P:T0→T1→T2→T3→T4→T5→Prop):Prop
 |mk (x0:T0) (x1:T1) (x2:T2) (x3:T3) (x4:T4) (x5:T5) (h:P x0 x1 x2 x3 x4 x5):Ex6 P
inductive Ex7{T0:Sort _}{T1:Sort _}{T2:Sort _}{T3:Sort _}{T4:Sort _}{T5:Sort _}{T6:Sort _}(P:T0→T1→T2→T3→T4→T5→T6→Prop):Prop
 |mk (x0:T0) (x1:T1) (x2:T2) (x3:T3) (x4:T4) (x5:T5) (x6:T6) (h:P x0 x1 x2 x3 x4 x5 x6):Ex7 P
structure Aj2(p0 p1:Prop):Prop where
 h0:p0
 h1:p1
structure Aj3(p0 p1 p2:Prop):Prop where
 h0:p0
 h1:p1
 h2:p2
structure Aj4(p0 p1 p2 p3:Prop):Prop where
 h0:p0
 h1:p1
 h2:p2
 h3:p3
structure Aj5(p0 p1 p2 p3 p4:Prop):Prop where
 h0:p0
 h1:p1
 h2:p2
 h3:p3
 h4:p4
structure Aj6(p0 p1 p2 p3 p4 p5:Prop):Prop where
 h0:p0
 h1:p1
 h2:p2
 h3:p3
 h4:p4
 h5:p5
structure Aj7(p0 p1 p2 p3 p4 p5 p6:Prop):Prop where
 h0:p0
 h1:p1
 h2:p2
 h3:p3
 h4:p4
 h5:p5
 h6:p6
structure Aj8(p0 p1 p2 p3 p4 p5 p6 p7:Prop):Prop where
 h0:p0
 h1:p1
 h2:p2
 h3:p3
 h4:p4
 h5:p5
 h6:p6
 h7:p7
structure Aj9(p0 p1 p2 p3 p4 p5 p6 p7 p8:Prop):Prop where
 h0:p0
 h1:p1
 h2:p2
 h3:p3
 h4:p4
 h5:p5
 h6:p6
 h7:p7
 h8:p8
def zar1{a b:Nat}(h:a<b):b-(a+1)<b-a:=Nat.sub_lt_sub_left h (Ym a)
def zar3{a b:Nat}(h:a≤b)(k:¬a<b):a=b:=Nat.le_antisymm h (Nat.le_of_not_lt k)
def zar4{a b:Nat}(h:a≤b):a+1≤b+1:=Nat.succ_le_succ h
def zar6{a b c:Nat}(e:a=b)(h:c<b):c<a:=e▸h
def zar7{a b c:Nat}(e:a=b)(h:c<a):c<b:=e▸h
def zar8{a b:Nat}(h:(a:Int)<(b:Int)):a<b:=Int.ofNat_lt.mp h
def zar9{a b:Nat}(h:a<b):(a:Int)<(b:Int):=Int.ofNat_lt.mpr h
def zar10{a b:Nat}(h:a<b)(k:b≤a):False:=Yc _ (Zp h k)
def zdn{a b c:Nat}(h:a≤b)(e:a=c):c≤b:=e▸h
def zar16{a b:Nat}(h:a≤b):a≤b+1:=Ke h
end
section
set_option Elab.async false
set_option linter.all false
set_option maxRecDepth 100000
namespace L2
open PySem PySem.Spec PyProof.Rows
abbrev Key:=Sum Int Str
def keyIs:Key→Value→Bool
 |.inl k,v=>Value.isInt k v
 |.inr x,v=>Value.isStrOf x v
def keyH(w:Nk):Key→Int
 |.inl k=>hashInt k
 |.inr x=>hashStr w x
theorem za2:∀{k:Key} {v:Value},keyIs k v=true→(∃i t,k=Sum.inl i∧v=Value.int i t)∨(∃x t,k=Sum.inr x∧v=Value.str x t)
 |.inl i,v,h=>by
  obtain⟨t,e⟩:=Value.isInt_shape (k:=i) (v:=v) h
  exact .inl ⟨i,t,rfl,e⟩
 |.inr x,v,h=>by
  obtain⟨t,e⟩:=Value.isStrOf_shape (x:=x) (v:=v) h
  exact .inr ⟨x,t,rfl,e⟩
def keyIs_int(i:Int)(t:Tok):keyIs (.inl i) (.int i t)=true:=by simp[keyIs,Value.isInt]
def keyIs_str(x:Str)(t:Tok):keyIs (.inr x) (.str x t)=true:=by simp[keyIs,Value.isStrOf]
def key_ll(a b:Int):decide ((Sum.inl a:Key)=Sum.inl b)=(a==b):=by
 by_cases e:a=b
 ·subst e;simp
 ·have h:¬ (Sum.inl a:Key)=Sum.inl b:=fun q=>e (Sum.inl.inj q)
  rw[decide_eq_false h]
  exact(beq_eq_false_iff_ne.mpr e).symm
def key_rr(a b:Str):decide ((Sum.inr a:Key)=Sum.inr b)=decide (a=b):=by
 by_cases e:a=b
 ·subst e;simp
 ·have h:¬ (Sum.inr a:Key)=Sum.inr b:=fun q=>e (Ww q)
  rw[decide_eq_false h,decide_eq_false e]
def key_lr(a:Int)(b:Str):decide ((Sum.inl a:Key)=Sum.inr b)=false:=decide_eq_false (λq=>nomatch q)
def key_rl(a:Str)(b:Int):decide ((Sum.inr a:Key)=Sum.inl b)=false:=decide_eq_false (λq=>nomatch q)
def zan(prog:Nj)(w:Nk):PySem.KeyKind prog w Key where
 is:=keyIs
 hash:=keyH w
 inj:=λv a b ha hb=>by
  rcases za2 ha with⟨i,t,rfl,rfl⟩ | ⟨x,t,rfl,rfl⟩
  ·rcases za2 hb with ⟨j,u,rfl,e⟩ | ⟨y,u,rfl,e⟩
   ·injection e with e1 _;rw[e1]
   ·exact nomatch e
  ·rcases za2 hb with ⟨j,u,rfl,e⟩ | ⟨y,u,rfl,e⟩
   ·exact nomatch e
   ·injection e with e1 _;rw[e1]
 byValue:=λk v h=>by
  rcases za2 h with⟨i,t,rfl,rfl⟩ | ⟨x,t,rfl,rfl⟩<;>rfl
 pyHash:=λhv h=>by
  rcases za2 hv with⟨i,t,rfl,rfl⟩ | ⟨x,t,rfl,rfl⟩
  ·exact wpAny_pyHash_int h
  ·exact wpAny_pyHash_str h
 eqBool:=λhu hv h=>by
  rcases za2 hu with⟨i,t,rfl,rfl⟩ | ⟨x,t,rfl,rfl⟩
  ·rcases za2 hv with ⟨j,u,rfl,rfl⟩ | ⟨y,u,rfl,rfl⟩
   ·rw[key_ll]at h;exact wpAny_eqBool_int h
   ·rw[key_lr]at h;exact SeqAt.EqAt.int_str i t y u _ _ _ _ h
  ·rcases za2 hv with ⟨j,u,rfl,rfl⟩ | ⟨y,u,rfl,rfl⟩
   ·rw[key_rl]at h;exact SeqAt.EqAt.str_int x t j u _ _ _ _ h
   ·rw[key_rr]at h;exact wpAny_eqBool_str h
 «strs»:=λk x t v h=>by
  rcases za2 h with⟨i,u,rfl,e⟩ | ⟨y,u,rfl,e⟩
  ·exact nomatch e
  ·injection e with e1 _
   subst e1
   cases v<;>rfl
def mixKind_int(prog:Nj)(w:Nk)(i:Int)(t:Tok):(zan prog w).is (.inl i) (.int i t)=true:=keyIs_int i t
def zft(prog:Nj)(w:Nk)(x:Str)(t:Tok):(zan prog w).is (.inr x) (.str x t)=true:=keyIs_str x t
end L2
namespace L2
open PySem PySem.Spec PyProof.Rows
inductive V where
 |non | bl (b:Bool) | int (i:Int) | str (x:Str) | byt (b:Array UInt8) | flt (b:UInt64) | ref (a:Nc) | ty (n:String)
 deriving DecidableEq
def RelV:V→Value→Prop
 |.non,u=>u=Value.none
 |.bl b,u=>u=Value.bool b
 |.int i,u=>∃t,u=Value.int i t
 |.str x,u=>∃t,u=Value.str x t
 |.byt b,u=>∃t,u=Value.bytes b t
 |.flt b,u=>∃t,u=Value.float b t
 |.ref a,u=>u=Value.ref a
 |.ty n,u=>u=Value.type n
abbrev Vals:List V→List Value→Prop:=Paired RelV
def Vals.length{xs:List V}{us:Ni}(r:Vals xs us):xs.length=us.length:=Zz r
theorem Vals.get:∀{xs:List V} {us:Ni} {i:Nat} {x:V},Vals xs us→xs[i]?=some x→∃u,us[i]?=some u∧RelV x u
 |_,_,_,_,.nil,e=>by simp at e
 |_,_,0,_,.cons r _,e=>by simp at e;subst e;exact⟨_,rfl,r⟩
 |_,_,i+1,x,.cons _ t,e=>by
  obtain⟨u,h1,h2⟩:=Vals.get (i:=i) (x:=x) t (by simpa using e)
  exact⟨u,by simpa using h1,h2⟩
theorem Vals.set(r:RelV x u):∀{xs:List V} {us:Ni} (i:Nat),Vals xs us→Vals (xs.set i x) (us.set i u)
 |_,_,_,.nil=>.nil
 |_,_,0,.cons _ t=>.cons r t
 |_,_,i+1,.cons q t=>.cons q (Vals.set r i t)
theorem Vals.append:∀{xs ys:List V} {us ws:Ni},Vals xs us→Vals ys ws→Vals (xs++ys) (us++ws)
 |_,_,_,_,.nil,s=>s
 |_,_,_,_,.cons r t,s=>.cons r (Vals.append t s)
theorem Vals.take:∀{xs:List V} {us:Ni} (n:Nat),Vals xs us→Vals (xs.take n) (us.take n)
 |_,_,0,_=>.nil
 |_,_,_+1,.nil=>.nil
 |_,_,n+1,.cons r t=>.cons r (Vals.take n t)
theorem Vals.drop:∀{xs:List V} {us:Ni} (n:Nat),Vals xs us→Vals (xs.drop n) (us.drop n)
 |_,_,0,r=>r
 |_,_,_+1,.nil=>.nil
 |_,_,n+1,.cons _ t=>Vals.drop n t
def RelO:Option V→Option Value→Prop
 |some v,some u=>RelV v u
 |none,none=>True
 |_,_=>False
def KV{κ:Type}:List (κ×V)→List (κ×Value)→Prop:=Paired λ(p:κ×V) (q:κ×Value)=>p.1=q.1∧RelV p.2 q.2
def kV:Key→V
 |.inl i=>.int i
 |.inr x=>.str x
inductive HO where
 /-- a list -/
 |lst (xs:List V)
 /-- a tuple (never changes) -/
 |tup (xs:List V)
 /-- a dict whose keys are ints and texts;one whose keys are tuples of ints and texts (the empty one is both) -/
 |dK (kvs:List (Key×V)) | dT (kvs:List (List Key×V))
 /-- a set of ints: a6 members,a6 size -/
 |set (S:Int→Bool) (n:Nat)
 /-- an instance of the class at C,a6 dict at dx,a6 attributes -/
 |ins (C dx:Nc) (fs:List (Str×V))
 /-- the dict of the instance at x -/
 |own (x:Nc)
 /-- the dict of an exception -/
 |xd (fs:List (Str×V))
 /-- a bound method,f of x -/
 |met (f x:Nc)
 /-- a range object lo,lo+1,.. below hi -/
 |rng (lo hi:Int)
 /-- a thing that is known to the object (the script;a dict while a loop walks it): read,never written while it is so -/
 |frz (o:Obj) (u:HO)
 /-- a code object's table -/
 |tbl (ps:Array Value)
 /-- any other thing,by what is true of a6 one object (a def of one's own: SetO a S n:=HO.ext λh=>..) -/
 |ext (φ:Heap→Prop)
abbrev Hp:=Addr→Option HO
def upd(H:Hp)(a:Nc)(o:HO):Hp:=λb=>if b=a then some o else H b
def zac{H:Hp}{a:Nc}{o:HO}:upd H a o a=some o:=by unfold upd;rw[if_pos rfl]
def zad{H:Hp}{a b:Nc}{o:HO}(h:b≠a):upd H a o b=H b:=by unfold upd;rw[if_neg h]
def upd_upd:upd (upd H a o) a u=upd H a u:=by
 funext b;unfold upd;split<;>rfl
def za8{H:Hp}{a b:Nc}{o u:HO}(h:H a=some o)(h':H b=some u)(d:o≠u):a≠b:=by
 intro e;subst e;rw[h]at h';exact d (Qr h')
def zab{H:Hp}{a b:Nc}{o:HO}(h:H a=some o)(h':H b=none):a≠b:=by
 intro e;subst e;rw[h]at h';cases h'
section
variable(P:Nj)(w:Nk)
def zbg(H:Hp)(h:Nm)(a:Nc):HO→Prop
 |.lst xs=>xs.length≤sizeLine∧∃(a6:Ni) (n:Nat),Vals xs a6∧h.get? a=some {cls:=.type "list",data:=.seq a6.toArray n}
 |.tup xs=>xs.length≤sizeLine∧∃a6:List Value,Vals xs a6∧IsTup h a a6.toArray
 |.dK kvs=>kvs.length≤sizeLine∧(a==sysModules)=false∧∃vs,KV kvs vs∧h.DictOf (zan P w) a vs
 | .dT kvs=>kvs.length≤sizeLine∧(a == sysModules)=false∧∃ xs:List (List Key×Addr×Value),
   Paired (λ(p:List Key×V) (q:List Key×Addr×Value)=>p.1=q.1∧H q.2.1=some (.tup (p.1.map kV))∧RelV p.2 q.2.2) kvs xs ∧
   ∃o es ep,h.get? a=some o∧o.ExactDict∧o.data=.dict es ep∧es.toList=xs.map (entryOfKey (tupleKind (zan P w)))∧(xs.map (·.1)).Nodup
 |.set S n=>h.SetOf (intKind P w) a S n
 | .ins C dx fs=>H dx=some (.own a)∧fs.length≤1000∧dx≠a∧h.get? a=some (PySem.W.instObj C dx) ∧
   ∃mA,h.Ns1 dx mA∧(∀f,RelO (fs.lookup f) (mA f))∧PySem.Within mA (fs.map (·.1))
 |.own _=>∃o,h.get? a=some o
 |.xd fs=>∃mA,h.Ns1 a mA∧∀f,RelO (fs.lookup f) (mA f)
 |.rng lo hi=>∃t u v,h.get? a=some {cls:=.type "range",data:=.fields #[.int lo t,.int hi u,.int 1 v]}
 |.frz o u=>h.get? a=some o∧zbg H h a u
 |.tbl ps=>h.get? a=some {cls:=.none,data:=.fields ps}
 |.met f x=>h.get? a=some (PySem.W.methodObj (.ref f) (.ref x))
 |.ext φ=>φ h∧(∃o,h.get? a=some o)∧∀h1 h2:Heap,φ h1→(∀o,h1.get? a=some o→h2.get? a=some o)→φ h2
def HOk(H:Hp)(h:Nm):Prop:=∀a o,H a=some o→zbg P w H h a o
end
section
variable{P:Nj}{w:Nk}{H H':Hp}{h h':Nm}{a:Nc}{o:HO}
def zbg.lt(x:zbg P w H h a o):a<h.objs.size:=by
 cases o with
 |lst xs=>obtain⟨_,_,_,_,e⟩:=x;exact Qs e
 |tup xs=>obtain⟨_,_,_,p⟩:=x;exact p.lt
 |dK kvs=>obtain⟨_,_,_,_,o,_,_,e,_⟩:=x;exact Qs e
 |dT kvs=>obtain⟨_,_,_,_,o,_,_,e,_⟩:=x;exact Qs e
 |set S n=>obtain⟨o,_,_,_,e,_⟩:=x;exact Qs e
 |ins C dx fs=>obtain⟨_,_,_,e,_⟩:=x;exact Qs e
 |own y=>obtain⟨_,e⟩:=x;exact Qs e
 |xd fs=>obtain⟨_,⟨_,_,_,e,_⟩,_⟩:=x;exact Qs e
 |rng lo hi=>obtain⟨_,_,_,e⟩:=x;exact Qs e
 |frz ob u=>obtain⟨e,_⟩:=x;exact Qs e
 |tbl ps=>exact Qs (show h.get? a=some _ from x)
 |met f y=>exact Qs (show h.get? a=some _ from x)
 |ext φ=>obtain⟨_,⟨_,e⟩,_⟩:=x;exact Qs e
theorem Paired.mapP{α β:Type}{F G:α→β→Prop}:∀{l₁:List α} {l₂:List β},Paired F l₁ l₂→(∀a b,F a b→G a b)→Paired G l₁ l₂
 |_,_,.nil,_=>.nil
 |_,_,.cons r t,f=>.cons (f _ _ r) (Paired.mapP t f)
def Paired.imp'{α β:Type}{F G:α→β→Prop}(f:∀a b,F a b→G a b){l₁:List α}{l₂:List β}(r:Paired F l₁ l₂):Paired G l₁ l₂:=Paired.mapP r f
def zbg.stay(x:zbg P w H h a o)(k:∀b u,(b=a∨H b=some (.own a))→h.get? b=some u→h'.get? b=some u)(ho:∀b,H b=some (.own a)→H' b=some (.own a))(ht:∀b xs,H b=some (.tup xs)→H' b=some (.tup xs)):zbg P w H' h' a o:=by
 induction o with
 |lst xs=>obtain⟨z,a6,n,r,e⟩:=x;exact⟨z,a6,n,r,k _ _ (.inl rfl) e⟩
 |tup xs=>obtain⟨z,a6,r,ob,e,c⟩:=x;exact⟨z,a6,r,ob,k _ _ (.inl rfl) e,c⟩
 |dK kvs=>obtain⟨z,y,vs,r,ob,es,ep,e,c⟩:=x;exact⟨z,y,vs,r,ob,es,ep,k _ _ (.inl rfl) e,c⟩
 |dT kvs =>
  obtain⟨z,y,xs,r,ob,es,ep,e,c⟩:=x
  exact⟨z,y,xs,Paired.mapP r λp q z=>⟨z.1,ht _ _ z.2.1,z.2.2⟩,ob,es,ep,k _ _ (.inl rfl) e,c⟩
 |set S n=>obtain⟨ob,es,ep,t,e,c⟩:=x;exact⟨ob,es,ep,t,k _ _ (.inl rfl) e,c⟩
 |ins C dx fs =>
  obtain⟨d,z,ne,e,mA,⟨od,es,ep,e2,c⟩,r⟩:=x
  exact⟨ho _ d,z,ne,k _ _ (.inl rfl) e,mA,⟨od,es,ep,k _ _ (.inr d) e2,c⟩,r⟩
 |own y=>obtain⟨ob,e⟩:=x;exact⟨ob,k _ _ (.inl rfl) e⟩
 |xd fs=>obtain⟨mA,⟨od,es,ep,e,c⟩,r⟩:=x;exact⟨mA,⟨od,es,ep,k _ _ (.inl rfl) e,c⟩,r⟩
 |rng lo hi=>obtain⟨t,u,v,e⟩:=x;exact⟨t,u,v,k _ _ (.inl rfl) e⟩
 |frz ob u ih=>obtain⟨e,q⟩:=x;exact⟨k _ _ (.inl rfl) e,ih q⟩
 |tbl ps =>
  have e:h.get? a=some {cls:=.none,data:=.fields ps}:=x
  show h'.get? a=some {cls:=.none,data:=.fields ps}
  exact k a _ (.inl rfl) e
 |met f y =>
  have e:h.get? a=some (PySem.W.methodObj (.ref f) (.ref y)):=x
  show h'.get? a=some (PySem.W.methodObj (.ref f) (.ref y))
  exact k a _ (.inl rfl) e
 |ext φ=>obtain⟨p,⟨o,e⟩,st⟩:=x;exact⟨st _ _ p λo q=>k _ _ (.inl rfl) q,⟨o,k _ _ (.inl rfl) e⟩,st⟩
def HOk.lt(x:HOk P w H h)(e:H a=some o):a<h.objs.size:=(x a o e).lt
def HOk.fresh(x:HOk P w H h)(e:h.objs.size≤a):H a=none:=by
 cases q:H a with
 |none=>rfl
 |some u=>exact absurd (Zp (x.lt q) e) (Yc _)
def HOk.kept(x:HOk P w H h)(k:∀b u,h.get? b=some u→h'.get? b=some u):HOk P w H h':=λa o e =>
 (x a o e).stay (λb u _ q=>k b u q) (λ_ q=>q) λ_ _ q=>q
def HOk.laid(x:HOk P w H h)(k:∀b u,h.get? b=some u→h'.get? b=some u)(hp:h.objs.size≤a)(new:zbg P w (upd H a o) h' a o):HOk P w (upd H a o) h':=λb u e=>by
 have hn:=x.fresh hp
 by_cases hb:b=a
 ·subst hb;rw[zac]at e;cases e;exact new
 ·rw [zad hb] at e
  exact(x b u e).stay (λc v _ q=>k c v q) (λc q=>by rw[zad (zab q hn)];exact q) λc xs q=>by rw[zad (zab q hn)];exact q
end
def Rd(H:Hp)(a:Nc)(u:HO):Prop:=H a=some u∨∃o,H a=some (.frz o u)
def Rd.ok{P:Nj}{w:Nk}{H:Hp}{h:Nm}{a:Nc}{u:HO}(r:Rd H a u)(x:HOk P w H h):zbg P w H h a u:=by
 rcases r with r | ⟨o,r⟩
 ·exact x a u r
 ·obtain ⟨_,q⟩:=x a _ r
  exact q
def Mut:Option HO→Prop
 |some (.lst _)=>True
 |some (.dK _)=>True
 |some (.dT _)=>True
 |some (.set _ _)=>True
 |some (.ins _ _ _)=>True
 |some (.ext _)=>True
 |_=>False
section
variable{P:Nj}{w:Nk}{H:Hp}{h h':Nm}{x e:Nc}{o':HO}
def HOk.write(ok:HOk P w H h)(mu:Mut (H x))(he:e=x∨H e=some (.own x))(k:∀ b u,b≠e→h.get? b=some u→h'.get? b=some u)(jU:∃ u,h'.get? e=some u)(new:zbg P w (upd H x o') h' x o'):HOk P w (upd H x o') h':=λb u q=>by
 have nown:∀c y,H c=some (.own y)→c≠x:=λc y r z=>by subst z;rw[r]at mu;exact mu
 have ntup:∀c xs,H c=some (.tup xs)→c≠x:=λc xs r z=>by subst z;rw[r]at mu;exact mu
 by_cases hb:b=x
 ·subst hb;rw[zac]at q;cases q;exact new
 ·rw [zad hb] at q
  by_cases jj:b=e
  ·have q':H b=some (.own x):=by
    rcases he with z | z
    ·exact absurd (jj.trans z) hb
    ·rw[jj];exact z
   rw[q]at q';cases q'
   obtain⟨v,hv⟩:=jU
   exact⟨v,by rw[jj];exact hv⟩
  ·refine (ok b u q).stay (fun c v hc r=>k c v ?_ r) (fun c r=>by rw [zad (nown c b r)];exact r) fun c xs r=>by rw [zad (ntup c xs r)];exact r
   rcases hc with rfl | hc
   ·exact jj
   ·rintro rfl
    rcases he with z | z
    ·exact nown c b hc z
    ·rw[hc]at z;cases z;exact hb rfl
end
structure Un(fs ex:Nl)(H H':Hp)(h h':Nm):Prop where
 keep:∀b o,h.get? b=some o→H b=none→b∉fs→b∉ex→h'.get? b=some o
 slot:∀b o,h.get? b=some o→H b=none→b∈fs→b∉ex→∃sl,h'.get? b=some {o with slots:=sl}
 free:∀b o,h.get? b=some o→H b=none→b∉ex→H' b=none
 there:∀b o,h.get? b=some o→b∉ex→∃o',h'.get? b=some o'
 tups:∀b xs,H b=some (.tup xs)→H' b=some (.tup xs)
 frzs:∀b o u,H b=some (.frz o u)→H' b=some (.frz o u)
 tbls:∀b ps,H b=some (.tbl ps)→∃more,H' b=some (.tbl (ps++more))
section
variable{fs fs' ex ex':Nl}{H H1 H2:Hp}{h h1 h2 h':Nm}{a x e:Nc}{o:HO}
def Un.any(u:Un fs ex H H1 h h1){b:Nc}{ob:Obj}(q:h.get? b=some ob)(n:H b=none)(hx:b∉ex):∃sl,h1.get? b=some {ob with slots:=sl}:=by
 by_cases hb:b∈fs
 ·exact u.slot b ob q n hb hx
 ·exact⟨ob.slots,u.keep b ob q n hb hx⟩
def Un.kept(k:∀b u,h.get? b=some u→h'.get? b=some u):Un fs ex H H h h' :=
 ⟨λb ob q _ _ _=>k b ob q,λb ob q _ _ _=>⟨ob.slots,k b ob q⟩,λ_ _ _ n _=>n,λb ob q _=>⟨ob,k b ob q⟩,λ_ _ q=>q,λ_ _ _ q=>q,λ_ ps q=>⟨#[],by rw[q];simp⟩⟩
def Un.refl:Un fs ex H H h h:=Un.kept λ_ _ q=>q
theorem Un.laid(k:∀b u,h.get? b=some u→h'.get? b=some u)(hp:h.objs.size≤a)(hn:H a=none):Un fs ex H (upd H a o) h h' where
 keep:=λb u q _ _ _=>k b u q
 slot:=λb u q _ _ _=>⟨u.slots,k b u q⟩
 free:=λb u q n _=>by rw[zad (Zi (Zp (Qs q) hp))];exact n
 there:=λb u q _=>⟨u,k b u q⟩
 tups:=λb xs q=>by rw[zad (zab q hn)];exact q
 frzs:=λb u xs q=>by rw[zad (zab q hn)];exact q
 tbls:=λb ps q=>⟨#[],by rw[zad (zab q hn),q];simp⟩
def Un.write(mu:Mut (H x))(he:e=x∨H e=some (.own x))(k:∀b u,b≠e→h.get? b=some u→h'.get? b=some u)(jU:∃u,h'.get? e=some u):Un fs ex H (upd H x o) h h':=by
 have hx:∀b,H b=none→b≠x:=λb n z=>by subst z;rw[n]at mu;exact mu
 have hb:∀b,H b=none→b≠e:=λb n z=>by
  subst z
  rcases he with r | r
  ·exact hx b n r
  ·rw[n]at r;cases r
 have hm:∀b u,H b=some u→¬Mut (some u)→b≠x:=λb u q nm z=>by subst z;rw[q]at mu;exact nm mu
 refine⟨λb u q n _ _=>k b u (hb b n) q,λb u q n _ _=>⟨u.slots,k b u (hb b n) q⟩,λb u q n _=>by rw[zad (hx b n)];exact n,λb u q _=>?_,
  λb xs q=>by rw[zad (hm b _ q λz=>z)];exact q,λb u xs q=>by rw[zad (hm b _ q λz=>z)];exact q,λb ps q=>⟨#[],by rw[zad (hm b _ q λz=>z),q];simp⟩⟩
 by_cases jj:b=e
 ·subst jj;exact jU
 ·exact⟨u,k b u jj q⟩
end
def trk(h:Nm)(H:Hp):List Addr:=(List.range h.objs.size).filter λa=>(H a).isSome
def hidT(h:Nm)(H:Hp):Heap:=PySem.W.hideAll h (trk h H)
def hidT_size(h:Nm)(H:Hp):(hidT h H).objs.size=h.objs.size:=PySem.W.hideAll_size _ _
def hidT_get{h:Nm}{H:Hp}{b:Nc}{o:Obj}(e:h.get? b=some o)(n:H b=none):(hidT h H).get? b=some o :=
 PySem.W.hideAll_get _ e λhm=>by
  have q:(H b).isSome=true:=(Ws.mp hm).2
  rw[n]at q;simp at q
def of_hidT{h:Nm}{H:Hp}{b:Nc}{o:Obj}(e:(hidT h H).get? b=some o):h.get? b=some o∧H b=none:=by
 have e':h.get? b=some o:=PySem.W.of_hideAll (trk h H) e
 refine⟨e',?_⟩
 cases q:H b with
 |none=>rfl
 |some x =>
  have hm:b∈trk h H:=Ws.mpr ⟨Ya.mpr (Qs e'),by simp[q]⟩
  have z:(hidT h H).get? b=none:=PySem.W.hideAll_none (trk h H) hm
  rw[z]at e;cases e
end L2
namespace L2
open PySem PySem.Spec PyProof.Rows
structure Mod(K:Na)(mg:Nf)(base:Nm):Prop where
 kin:K.In base
 glob:base.Ns mainGlobals mg
 blt:∃mb,base.Ns builtinsNs mb∧∀x:Str,x ≠ "__name__" → mb x=bootBuiltins x
 nolimit:base.NoLimit
structure Cx where
 prog:Program
 w:World
 K:PySem.W.Frag
 mg:Str→Option Value
 base:Heap
 A:Around
 N:List Str
 s₀:Shared
 H₀:Hp
 env:Env
 outer:List Env
 stack:List Env
 ex:List Addr
 fn:Str→Bool
 calm:Bool
 pn:List (Addr×Obj)
 xe:Value→Shared→Prop
def frs(l:List Env):List Addr:=l.filterMap (·.frame)
abbrev Cx.fs(X:Cx):List Addr:=frs X.outer
def Vis(sc:Scope)(x:Str):Prop:=sc.names.lookup x=some .local∨sc.names.lookup x=some .cell∨sc.names.lookup x=some .free
def Loc(sc:Scope)(x:Str):Prop:=sc.names.lookup x=some .local∨sc.names.lookup x=some .cell
def Look(env:Env)(h:Nm)(m:Nf)(x:Str)(u:Value):Prop :=
 (env.kindOf x=some .local∧m x=some u)∨((env.kindOf x=some .cell∨env.kindOf x=some .free)∧∃c,env.cells.lookup x=some c∧h.IsCell c (some u))
structure Cx.Ok(X:Cx):Prop where
 mod:Mod X.K X.mg X.base
 kind:X.env.scope.kind=.function
 glob:X.env.globals=mainGlobals
 blt:X.env.builtins=builtinsNs
 above:X.s₀.heap.objs.size≤X.env.locals
 inj:∀x y c,X.env.cells.lookup x=some c→X.env.cells.lookup y=some c→x=y
 has:∀x,(X.env.kindOf x=some .cell∨X.env.kindOf x=some .free)→∃c,X.env.cells.lookup x=some c
 cab:∀x c,X.fn x=true→X.env.cells.lookup x=some c→X.s₀.heap.objs.size≤c
 hd:X.calm=true→X.A.handled=none
 frames:X.A.frames=some X.stack
 stk:X.stack=X.outer∨(X.stack=X.env::X.outer∧X.env.frame=some X.env.locals)
 exf:∀b∈X.ex,b≠X.env.locals∧∀x c,X.env.cells.lookup x=some c→c≠b
 bs:∀b o,X.base.get? b=some o→X.s₀.heap.get? b=some o∧X.H₀ b=none
 bsz:X.base.objs.size≤X.s₀.heap.objs.size
 noex:∀b o,X.base.get? b=some o→b∉X.ex
 exfs:∀b∈X.ex,b∉X.fs
 funs:X.s₀.heap.FunFrames X.base X.outer
 frf:∀b∈X.fs,X.H₀ b=none
structure Inv(X:Cx)(a5:Nd)(σ:List (Option V))(H:Hp)(s:Nh):Prop where
 ok:X.Ok
 os:s.os=X.s₀.os
 bare:AllBare s.gens
 base:Un X.fs X.ex X.H₀ H X.s₀.heap s.heap
 loc:∃m,s.heap.Ns X.env.locals m∧∀(i:Nat) (x:Str) (v:V),X.N[i]?=some x→σ[i]?=some (some v)→Vis X.env.scope x→∃u,RelV v u∧Look X.env s.heap m x u
 cell:∀x c,X.env.cells.lookup x=some c→∃v,s.heap.IsCell c v
 free:H X.env.locals=none
 freeC:∀x c,X.env.cells.lookup x=some c→H c=none
 pin:∀p∈X.pn++a5,s.heap.get? p.1=some p.2∧H p.1=none∧p.1≠X.env.locals∧p.1∉X.fs∧∀v,p.2.data≠.cell v
 hok:HOk X.prog X.w H s.heap
 len:σ.length=X.N.length
section
variable{X:Cx}{a5:Nd}{σ:List (Option V)}{H H':Hp}{s:Nh}{h':Nm}
def Cx.Ok.nofr(ok:X.Ok)(e:X.base.get? b=some o):b∉X.fs:=λhb=>by
 have:=(ok.funs.mem hb).1
 rw[e]at this;cases this
def Inv.bs(I:Inv X a5 σ H s):∀b o,X.base.get? b=some o→s.heap.get? b=some o∧H b=none:=λb o e =>
 ⟨I.base.keep b o (I.ok.bs b o e).1 (I.ok.bs b o e).2 (I.ok.nofr e) (I.ok.noex b o e),I.base.free b o (I.ok.bs b o e).1 (I.ok.bs b o e).2 (I.ok.noex b o e)⟩
def Inv.bk(I:Inv X a5 σ H s):∀b o,X.base.get? b=some o→s.heap.get? b=some o:=λb o e=>(I.bs b o e).1
def Inv.mod(I:Inv X a5 σ H s):Mod X.K X.mg X.base:=I.ok.mod
def Inv.kIn(I:Inv X a5 σ H s):X.K.In s.heap:=I.ok.mod.kin.keeps I.bk
def Inv.lt(I:Inv X a5 σ H s):X.env.locals<s.heap.objs.size:=let⟨_,hn,_⟩:=I.loc;hn.lt
def Inv.sz(I:Inv X a5 σ H s):X.s₀.heap.objs.size≤s.heap.objs.size:=Zj I.ok.above (Wx I.lt)
def Inv.nofs(I:Inv X a5 σ H s)(h:s.heap.objs.size≤a):a∉X.fs:=λhb=>by
 obtain⟨_,o,ho,_⟩:=I.ok.funs.mem hb
 exact absurd (Zp (Qs ho) (Zj I.sz h)) (Yc _)
def Inv.cne(I:Inv X a5 σ H s):∀x c,X.env.cells.lookup x=some c→c≠X.env.locals:=λx c e z=>by
 obtain⟨v,o,ho,hd⟩:=I.cell x c e
 obtain⟨m,⟨o',es,ep,am,fO,_⟩,_⟩:=I.loc
 rw[z,am]at ho;cases ho;rw[fO]at hd;cases hd
def Inv.funs(I:Inv X a5 σ H s):s.heap.FunFrames X.base X.outer:=by
 have all:∀(l:List Env),(∀b∈frs l,b∈X.fs)→X.s₀.heap.FunFrames X.base l→s.heap.FunFrames X.base l:=by
  intro l
  induction l with
  |nil=>intro _ _;trivial
  |cons env r ih =>
   intro hs hl
   obtain⟨hk,⟨L,o,hf,hn,ho,hd⟩,hr⟩:=hl
   have hL:L∈X.fs:=hs L (by unfold frs;rw[List.filterMap_cons,hf];exact List.mem_cons_self)
   obtain⟨sl,e⟩:=I.base.slot L o ho (I.ok.frf L hL) hL λz=>I.ok.exfs L z hL
   exact⟨hk,⟨L,_,hf,hn,e,hd⟩,ih (λb hb=>hs b (by unfold frs;rw[List.filterMap_cons,hf];exact List.mem_cons_of_mem _ hb)) hr⟩
 exact all X.outer (λ_ hb=>hb) I.ok.funs
def Inv.stack(I:Inv X a5 σ H s):s.heap.FunFrames X.base X.stack:=by
 rcases I.ok.stk with e | ⟨e,hf⟩
 ·rw[e];exact I.funs
 ·rw [e]
  obtain⟨m,hn,_⟩:=I.loc
  refine .cons (by rw[I.ok.kind];decide) hf hn ?_ I.funs
  exact Heap.get?_none_of_le (Zj I.ok.bsz I.ok.above)
def Inv.stkSub(I:Inv X a5 σ H s):∀b∈frs X.stack,b∈X.env.locals::X.fs:=λb hb=>by
 rcases I.ok.stk with e | ⟨e,hf⟩
 ·rw[e]at hb;exact Qi _ hb
 ·rw [e] at hb
  unfold frs at hb
  rw[List.filterMap_cons,hf]at hb
  exact hb
def Inv.stkFree(I:Inv X a5 σ H s):∀b∈frs X.stack,H b=none:=λb hb=>by
 rcases Qh.mp (I.stkSub b hb) with e | hb
 ·rw[e];exact I.free
 ·obtain ⟨_,o,ho,_⟩:=I.ok.funs.mem hb
  exact I.base.free b o ho (I.ok.frf b hb) λz=>I.ok.exfs b z hb
def Inv.step{g':Array GenState}{t':Nat}{d':Drawn}{ch:Nl}(I:Inv X a5 σ H s)(fP:∀b∈ch,(b∈X.ex∨X.s₀.heap.objs.size≤b)∧b≠X.env.locals∧(∀x c,X.env.cells.lookup x=some c→c≠b)∧∀p∈X.pn++a5,p.1≠b)(keep:∀b o,b≠X.env.locals→b∉X.fs→b∉ch→s.heap.get? b=some o→H b=none→h'.get? b=some o)(slot:∀b o,b≠X.env.locals→b∈X.fs→b∉ch→s.heap.get? b=some o→H b=none→∃sl,h'.get? b=some {o with slots:=sl})(free:∀b o,b∉ch→s.heap.get? b=some o→H b=none→H' b=none)(there:∀b o,b∉ch→s.heap.get? b=some o→∃o',h'.get? b=some o')(tups:∀b xs,H b=some (.tup xs)→H' b=some (.tup xs))(frzs:∀b o u,H b=some (.frz o u)→H' b=some (.frz o u))(tbls:∀b ps,H b=some (.tbl ps)→∃more,H' b=some (.tbl (ps++more)))(ns:∀m,s.heap.Ns X.env.locals m→h'.Ns X.env.locals m)(hok:HOk X.prog X.w H' h')(hg:AllBare g') :
  Inv X a5 σ H' {s with heap:=h',gens:=g',drawn:=d',toks:=t'}:=by
 have neL:∀b o,X.s₀.heap.get? b=some o→b≠X.env.locals:=λb o e=>Zi (Zp (Qs e) I.ok.above)
 have neC:∀b o,X.s₀.heap.get? b=some o→b∉X.ex→b∉ch:=λb o e hx hb=>by
  rcases(fP b hb).1 with z | z
  ·exact hx z
  ·exact absurd (Zp (Qs e) z) (Yc _)
 have cellK:∀x c,X.env.cells.lookup x=some c→∀v,s.heap.IsCell c v→h'.IsCell c v:=λx c e v ⟨o,ho,hd⟩=>by
  have nch:c∉ch:=λz=>(fP c z).2.2.1 x c e rfl
  by_cases hc:c∈X.fs
  ·obtain ⟨sl,q⟩:=slot c o (I.cne x c e) hc nch ho (I.freeC x c e)
   exact⟨_,q,hd⟩
  ·exact⟨o,keep c o (I.cne x c e) hc nch ho (I.freeC x c e),hd⟩
 refine⟨I.ok,I.os,hg,⟨λb o e n hb hx=>?_,λb o e n hb hx=>?_,λb o e n hx=>?_,λb o e hx=>?_,λb xs e=>tups b xs (I.base.tups b xs e),λb o xs e=>frzs b o xs (I.base.frzs b o xs e),λb ps e=>?_⟩,?_,λx c e=>?_,?_,λx c e=>?_,λp hp=>?_,hok,I.len⟩
 ·exact keep b o (neL b o e) hb (neC b o e hx) (I.base.keep b o e n hb hx) (I.base.free b o e n hx)
 ·obtain ⟨sl,e1⟩:=I.base.slot b o e n hb hx
  obtain⟨jA,e2⟩:=slot b _ (neL b o e) hb (neC b o e hx) e1 (I.base.free b o e n hx)
  exact⟨jA,e2⟩
 ·obtain ⟨o',e1⟩:=I.base.there b o e hx
  exact free b o' (neC b o e hx) e1 (I.base.free b o e n hx)
 ·obtain ⟨o',e1⟩:=I.base.there b o e hx
  exact there b o' (neC b o e hx) e1
 ·obtain ⟨m1,e1⟩:=I.base.tbls b ps e
  obtain⟨m2,e2⟩:=tbls b _ e1
  exact⟨m1++m2,by rw[e2,Array.append_assoc]⟩
 ·obtain ⟨m,hn,hl⟩:=I.loc
  refine⟨m,ns m hn,λi x v e1 e2 e3=>?_⟩
  obtain⟨u,r,l⟩:=hl i x v e1 e2 e3
  refine⟨u,r,?_⟩
  rcases l with l | ⟨k,c,e,z⟩
  ·exact .inl l
  ·exact .inr ⟨k,c,e,cellK x c e _ z⟩
 ·obtain ⟨v,z⟩:=I.cell x c e
  exact⟨v,cellK x c e v z⟩
 ·obtain ⟨m,⟨o,_,_,ho,_⟩,_⟩:=I.loc
  exact free _ o (λz=>(fP _ z).2.1 rfl) ho I.free
 ·obtain ⟨v,o,ho,hd⟩:=I.cell x c e
  exact free c o (λz=>(fP c z).2.2.1 x c e rfl) ho (I.freeC x c e)
 ·obtain ⟨e,n,ne,nf,d⟩:=I.pin p hp
  have nch:p.1∉ch:=λz=>(fP p.1 z).2.2.2 p hp rfl
  exact⟨keep p.1 p.2 ne nf nch e n,free p.1 p.2 nch e n,ne,nf,d⟩
def Inv.un{t':Nat}(I:Inv X a5 σ H s)(u:Un X.fs [] H H' s.heap h')(hok:HOk X.prog X.w H' h'):Inv X a5 σ H' {s with heap:=h',toks:=t'}:=by
 obtain⟨m,⟨o,es,ep,ho,r⟩,_⟩:=id I.loc
 obtain⟨sl,hL⟩:=u.any ho I.free (by simp)
 exact I.step (g':=s.gens) (d':=s.drawn) (ch:=[]) (λ_ z=>nomatch z) (λb o _ hb _ e n=>u.keep b o e n hb (by simp)) (λb o _ hb _ e n=>u.slot b o e n hb (by simp)) (λb o _ e n=>u.free b o e n (by simp)) (λb o _ e=>u.there b o e (by simp)) u.tups u.frzs u.tbls (λm' hm=>by
  obtain⟨o',fh,ep',am,r'⟩:=hm
  rw[ho]at am;cases am
  exact⟨_,fh,ep',hL,r'⟩) hok I.bare
def Inv.call{g':Array GenState}{t':Nat}{d':Drawn}{ch:Nl}(I:Inv X a5 σ H s)(u:Un (frs X.stack) ch H H' s.heap h')(hok:HOk X.prog X.w H' h')(hg:AllBare g')(fP:∀b∈ch,(b∈X.ex∨X.s₀.heap.objs.size≤b)∧b≠X.env.locals∧(∀x c,X.env.cells.lookup x=some c→c≠b)∧∀p∈X.pn++a5,p.1≠b) :
  Inv X a5 σ H' {s with heap:=h',gens:=g',drawn:=d',toks:=t'}:=by
 obtain⟨m,⟨o,es,ep,ho,r⟩,_⟩:=id I.loc
 obtain⟨sl,hL⟩:=u.any ho I.free λz=>(fP _ z).2.1 rfl
 exact I.step (ch:=ch) fP (λb o hL hb hc e n=>u.keep b o e n (λz=>(Qh.mp (I.stkSub b z)).elim hL hb) hc) (λb o _ _ hc e n=>u.any e n hc) (λb o hc e n=>u.free b o e n hc) (λb o hc e=>u.there b o e hc) u.tups u.frzs u.tbls (λm' hm=>by
  obtain⟨o',fh,ep',am,r'⟩:=hm
  rw[ho]at am;cases am
  exact⟨_,fh,ep',hL,r'⟩) hok hg
def Inv.turned{t':Nat}{it:Nc}(I:Inv X a5 σ H s)(k:∀b o,b≠it→s.heap.get? b=some o→h'.get? b=some o)(hn:H it=none)(hL:it≠X.env.locals)(h1:it∈X.ex∨X.s₀.heap.objs.size≤it)(h2:∀x c,X.env.cells.lookup x=some c→c≠it)(h3:∀p∈X.pn++a5,p.1≠it):Inv X a5 σ H {s with heap:=h',toks:=t'}:=by
 have nit:∀b u,H b=some u→b≠it:=λb u e z=>by rw[z,hn]at e;cases e
 refine I.step (g':=s.gens) (d':=s.drawn) (ch:=[it]) (λb hb=>?_) (λb o _ _ hc e _=>k b o (λz=>hc (by simp[z])) e) (λb o _ _ hc e _=>⟨o.slots,k b o (λz=>hc (by simp[z])) e⟩) (λ_ _ _ _ n=>n)
  (λb o hc e=>⟨o,k b o (λz=>hc (by simp[z])) e⟩) (λ_ _ e=>e) (λ_ _ _ e=>e) (λb ps e=>⟨#[],by rw[e];simp⟩) (λm hm=>?_) (λb u e=>?_) I.bare
 ·have e:b=it:=by simpa using hb
  subst e
  exact⟨h1,hL,h2,h3⟩
 ·obtain ⟨o,es,ep,ho,r⟩:=hm
  exact⟨o,es,ep,k _ o (Zh hL) ho,r⟩
 ·refine (I.hok b u e).stay (fun c v hc q=>k c v ?_ q) (fun _ q=>q) fun _ _ q=>q
  rcases hc with z | z
  ·rw[z];exact nit b u e
  ·exact nit c _ z
def Inv.tok(I:Inv X a5 σ H s)(t:Nat):Inv X a5 σ H {s with toks:=t}:=I.un (h':=s.heap) (t':=t) Un.refl I.hok
def Inv.kept{t':Nat}(I:Inv X a5 σ H s)(k:∀b u,s.heap.get? b=some u→h'.get? b=some u):Inv X a5 σ H {s with heap:=h',toks:=t'}:=I.un (Un.kept k) (I.hok.kept k)
def Inv.laid(I:Inv X a5 σ H s)(k:∀b u,s.heap.get? b=some u→h'.get? b=some u)(hp:s.heap.objs.size≤a)(new:zbg X.prog X.w (upd H a o) h' a o) :
  Inv X a5 σ (upd H a o) {s with heap:=h',toks:=t'}:=I.un (Un.laid k hp (I.hok.fresh hp)) (I.hok.laid k hp new)
def Inv.write(I:Inv X a5 σ H s)(mu:Mut (H x))(he:e=x∨H e=some (.own x))(k:∀b u,b≠e→s.heap.get? b=some u→h'.get? b=some u)(jU:∃u,h'.get? e=some u)(new:zbg X.prog X.w (upd H x o) h' x o):Inv X a5 σ (upd H x o) {s with heap:=h',toks:=t'}:=I.un (Un.write mu he k jU) (I.hok.write mu he k jU new)
def Inv.pins_of(I:Inv X a5 σ H s)(h:∀p∈pins',s.heap.get? p.1=some p.2∧H p.1=none∧p.1≠X.env.locals∧p.1∉X.fs∧∀v,p.2.data≠.cell v):Inv X pins' σ H s :=
 ⟨I.ok,I.os,I.bare,I.base,I.loc,I.cell,I.free,I.freeC,λp hp=>(Qd.mp hp).elim (λz=>I.pin p (Qo _ z)) (h p),I.hok,I.len⟩
def zhg{N:Ng}(hN:N.Nodup){i j:Nat}{x:Str}(a:N[i]?=some x)(b:N[j]?=some x):i=j:=by
 obtain⟨h1,e1⟩:=Ze.mp a
 obtain⟨h2,e2⟩:=Ze.mp b
 exact(Yv hN).mp (e1.trans e2.symm)
def zfd{M:Model}{A:Nn}{E:Nb}{i:Nat}{x:Str}{v:V}{u:Value}{Q:Unit→Shared→Prop}(I:Inv X a5 σ H s)(hN:X.N.Nodup)(hi:X.N[i]?=some x)(hx:Loc X.env.scope x)(r:RelV v u)(h:∀s',Inv X a5 (σ.set i (some v)) H s'→(∃a,Heap.SameBut a s.heap s'.heap∧(a=X.env.locals∨X.env.cells.lookup x=some a))→Q () s')(hf:X.fn x=true∨X.env.scope.names.lookup x=some .local:=by first | exact .inl rfl | exact .inr rfl | assumption):wpAny M A (storeName X.env x u) Q E s:=by
 obtain⟨m,hn,hl⟩:=id I.loc
 have jh:(X.env.scope.kind==.class||(X.env.scope.kind==.module&&X.env.locals != X.env.globals))=false:=by rw[I.ok.kind];rfl
 have hiσ:i<σ.length:=by rw[I.len];exact(Ze.mp hi).1
 have cne:=I.cne
 have tracked:∀{a:Nc} {h':Nm},(∃o,s.heap.get? a=some o∧H a=none)→Heap.SameBut a s.heap h'→HOk X.prog X.w H h':=λ{a h'} ha hs b ob e=>by
  obtain⟨_,_,aU⟩:=ha
  refine(I.hok b ob e).stay (λc w' hc q=>(hs.2 c ?_).trans q) (λ_ q=>q) λ_ _ q=>q
  rintro rfl
  rcases hc with rfl | hc
  ·rw[aU]at e;cases e
  ·rw[aU]at hc;cases hc
 rcases hx with hk | hk
 ·refine wpAny_storeName_local hk hn (fun h' qa hs=>?_) jh
  obtain⟨oL,_,_,hoL,_⟩:=id hn
  refine h _ ⟨I.ok,I.os,I.bare,⟨λb o e n hb hx=>?_,λb o e n hb hx=>?_,I.base.free,λb o e hx=>?_,I.base.tups,I.base.frzs,I.base.tbls⟩,⟨_,qa,λj y v' e1 e2 e3=>?_⟩,λy c e=>?_,I.free,I.freeC,λp hp=>?_,tracked ⟨oL,hoL,I.free⟩ hs,by simpa using I.len⟩ ⟨_,hs,.inl rfl⟩
  ·exact(hs.2 b (Zi (Zp (Qs e) I.ok.above))).trans (I.base.keep b o e n hb hx)
  ·obtain ⟨sl,e1⟩:=I.base.slot b o e n hb hx
   exact⟨sl,(hs.2 b (Zi (Zp (Qs e) I.ok.above))).trans e1⟩
  ·obtain ⟨o',e1⟩:=I.base.there b o e hx
   exact⟨o',(hs.2 b (Zi (Zp (Qs e) I.ok.above))).trans e1⟩
  ·by_cases hj:j=i
   ·subst hj
    rw[hi]at e1;cases e1
    rw[List.getElem?_set_self hiσ]at e2
    cases e2
    exact⟨u,r,.inl ⟨hk,by simp⟩⟩
   ·rw [List.getElem?_set_ne (Zh hj)] at e2
    obtain⟨u',r',q⟩:=hl j y v' e1 e2 e3
    refine⟨u',r',?_⟩
    rcases q with⟨k,e⟩ | ⟨k,c,e,z⟩
    ·refine .inl ⟨k,?_⟩
     have:y≠x:=λe=>hj (zhg hN e1 (e▸hi))
     simp[this,e]
    ·exact .inr ⟨k,c,e,z.sameBut hs (cne y c e)⟩
  ·obtain ⟨w',z⟩:=I.cell y c e
   exact⟨w',z.sameBut hs (cne y c e)⟩
  ·obtain ⟨e,n,ne,nf,d⟩:=I.pin p hp
   exact⟨(hs.2 p.1 ne).trans e,n,ne,nf,d⟩
 ·have qB:X.fn x=true:=by
   rcases hf with z | z
   ·exact z
   ·rw[z]at hk;cases hk
  obtain⟨c,hc⟩:=I.ok.has x (.inl hk)
  obtain⟨w',z⟩:=I.cell x c hc
  refine wpAny_storeName_cell I.ok.kind hk hc z (λh' bG hs=>?_)
  obtain⟨oc,hoc,pX⟩:=id z
  refine h {s with heap:=h'} ⟨I.ok,I.os,I.bare,⟨λb o e n hb hx=>?_,λb o e n hb hx=>?_,I.base.free,λb o e hx=>?_,I.base.tups,I.base.frzs,I.base.tbls⟩,⟨m,hn.sameBut hs (Zh (cne x c hc)),λj y v' e1 e2 e3=>?_⟩,λy c' e=>?_,I.free,I.freeC,λp hp=>?_,tracked ⟨oc,hoc,I.freeC x c hc⟩ hs,by simpa using I.len⟩ ⟨c,hs,.inr hc⟩
  ·exact(hs.2 b (Zi (Zp (Qs e) (I.ok.cab x c qB hc)))).trans (I.base.keep b o e n hb hx)
  ·obtain ⟨sl,e1⟩:=I.base.slot b o e n hb hx
   exact⟨sl,(hs.2 b (Zi (Zp (Qs e) (I.ok.cab x c qB hc)))).trans e1⟩
  ·obtain ⟨o',e1⟩:=I.base.there b o e hx
   exact⟨o',(hs.2 b (Zi (Zp (Qs e) (I.ok.cab x c qB hc)))).trans e1⟩
  ·by_cases hj:j=i
   ·subst hj
    rw[hi]at e1;cases e1
    rw[List.getElem?_set_self hiσ]at e2
    cases e2
    exact⟨u,r,.inr ⟨.inl hk,c,hc,bG⟩⟩
   ·rw [List.getElem?_set_ne (Zh hj)] at e2
    obtain⟨u',r',q⟩:=hl j y v' e1 e2 e3
    refine⟨u',r',?_⟩
    rcases q with q | ⟨k,c',e,z'⟩
    ·exact .inl q
    ·refine .inr ⟨k,c',e,z'.sameBut hs ?_⟩
     rintro rfl
     exact hj (zhg hN e1 (I.ok.inj _ _ _ e hc▸hi))
  ·by_cases eV:c'=c
   ·subst eV;exact⟨_,bG⟩
   ·obtain ⟨w2,z2⟩:=I.cell y c' e
    exact⟨w2,z2.sameBut hs eV⟩
  ·obtain ⟨e,n,ne,nf,d⟩:=I.pin p hp
   refine⟨(hs.2 p.1 ?_).trans e,n,ne,nf,d⟩
   intro q
   rw[q,hoc]at e
   have q':oc=p.2:=Qr e
   exact d w' (by rw[←q'];exact pX)
def zgw(I:Inv X a5 σ H s)(hN:X.N.Nodup)(hi:X.N[i]?=some x)(hx:Loc X.env.scope x)(r:RelV v u)(h:∀s',Inv X a5 (σ.set i (some v)) H s'→Q () s')(hf:X.fn x=true∨X.env.scope.names.lookup x=some .local:=by first | exact .inl rfl | exact .inr rfl | assumption):wpAny M A (storeName X.env x u) Q E s :=
 zfd I hN hi hx r (λs' I' _=>h s' I') hf
def Inv.call'(I:Inv X a5 σ H s)(ho:s'.os=s.os)(u:Un (frs X.stack) ch H H' s.heap s'.heap)(hok:HOk X.prog X.w H' s'.heap)(hg:AllBare s'.gens)(fP:∀b∈ch,(b∈X.ex∨X.s₀.heap.objs.size≤b)∧b≠X.env.locals∧(∀x c,X.env.cells.lookup x=some c→c≠b)∧∀p∈X.pn++a5,p.1≠b):Inv X a5 σ H' s':=by
 obtain⟨h',g',d',t',o'⟩:=s'
 have e:o'=s.os:=ho
 subst e
 exact I.call (g':=g') (t':=t') (d':=d') u hok hg fP
end
abbrev XK:=Value→Option Addr→Hp→Prop
abbrev St:=List (Option V)
abbrev VK:=V→Hp→Prop
abbrev TE:=St→Hp→VK→Prop
abbrev TT:=St→Hp→(Bool→Hp→Prop)→Prop
abbrev TA:=St→Hp→(List V→Hp→Prop)→Prop
structure Ends where
 nx:St→Hp→Prop
 rt:VK
 bk:St→Hp→Prop:=λ_ _=>False
 ct:St→Hp→Prop:=λ_ _=>False
abbrev TS:=Ends→St→Hp→Prop
inductive EP(X:Cx)(a5:Nd)(σ:St)(Q:VK)(u:Value)(s':Nh):Prop
 |mk (v:V) (H':Hp) (i:Inv X a5 σ H' s') (r:RelV v u) (q:Q v H'):EP X a5 σ Q u s'
inductive TP(X:Cx)(a5:Nd)(σ:St)(Q:Bool→Hp→Prop)(b:Bool)(s':Nh):Prop
 |mk (H':Hp) (i:Inv X a5 σ H' s') (q:Q b H'):TP X a5 σ Q b s'
inductive AP(X:Cx)(a5:Nd)(σ:St)(Q:List V→Hp→Prop)(us:Ni)(s':Nh):Prop
 |mk (vs:List V) (H':Hp) (i:Inv X a5 σ H' s') (r:Vals vs us) (q:Q vs H'):AP X a5 σ Q us s'
def SP(X:Cx)(a5:Nd)(D:Ends)(f:Flow)(s':Nh):Prop :=
 match f with
 |.next=>Ex2 λ σ' H'=>Aj2 (Inv X a5 σ' H' s') (D.nx σ' H')
 |.brk=>Ex2 λ σ' H'=>Aj2 (Inv X a5 σ' H' s') (D.bk σ' H')
 |.cont=>Ex2 λ σ' H'=>Aj2 (Inv X a5 σ' H' s') (D.ct σ' H')
 |.ret u=>Ex3 λv σ' H'=>Aj3 (Inv X a5 σ' H' s') (RelV v u) (D.rt v H')
def PE(X:Cx)(e:Expr)(t:TE):Prop :=
 ∀(a5:Nd) (s:Nh) (σ:St) (H:Hp) (Q:VK),Inv X a5 σ H s→t σ H Q→wpAny (model X.prog X.w) X.A (eval e X.env) (EP X a5 σ Q) X.xe s
def PT(X:Cx)(e:Expr)(t:TT):Prop :=
 ∀(a5:Nd) (s:Nh) (σ:St) (H:Hp) (Q:Bool→Hp→Prop),Inv X a5 σ H s→t σ H Q→wpAny (model X.prog X.w) X.A (isTrue e X.env (eval e X.env)) (TP X a5 σ Q) X.xe s
def PW(X:Cx)(e:Expr)(t:TT):Prop :=
 ∀(whole:Sem Value) (a5:Nd) (s:Nh) (σ:St) (H:Hp) (Q:Bool→Hp→Prop),Inv X a5 σ H s→t σ H Q→wpAny (model X.prog X.w) X.A (isTrue e X.env whole) (TP X a5 σ Q) X.xe s
def PW.pt(h:PW X e t):PT X e t:=h _
def PA(X:Cx)(es:Np)(t:TA):Prop :=
 ∀(pos:Pos) (a5:Nd) (s:Nh) (σ:St) (H:Hp) (Q:List V→Hp→Prop),Inv X a5 σ H s→t σ H Q→wpAny (model X.prog X.w) X.A (spliced (backTo pos (starEach es X.env))) (AP X a5 σ Q) X.xe s
def PS(X:Cx)(st:Stmt)(t:TS):Prop :=
 ∀(a5:Nd) (s:Nh) (σ:St) (H:Hp) (D:Ends),Inv X a5 σ H s→t D σ H→wpAny (model X.prog X.w) X.A (exec st X.env) (SP X a5 D) X.xe s
def PSs(X:Cx)(st:List Stmt)(t:TS):Prop :=
 ∀(a5:Nd) (s:Nh) (σ:St) (H:Hp) (D:Ends),Inv X a5 σ H s→t D σ H→wpAny (model X.prog X.w) X.A (execs st X.env) (SP X a5 D) X.xe s
def thn{α:Type}{t:Sem α}{Q Q':α→Shared→Prop}{M:Model}{A:Nn}{E:Nb}{s:Nh}(h:wpAny M A t Q E s)(hQ:∀a s,Q a s→Q' a s):wpAny M A t Q' E s:=wpAny_mono h hQ λ_ _ x=>x
end L2
namespace L2
open PySem PySem.Spec PyProof.Rows
section
variable{X:Cx}
def bin{a b:Expr}{ta tb:TE}(ha:PE X a ta)(hb:PE X b tb){a5:Nd}{s:Nh}{σ:St}{H:Hp}{R:V→V→Hp→Prop}(I:Inv X a5 σ H s)(h:ta σ H λx H1=>tb σ H1 λy H2=>R x y H2){α:Type}{Q:α→Shared→Prop}{f:Value→Value→Sem α}(hf:∀v u s2 x y H2,Inv X a5 σ H2 s2→RelV x v→RelV y u→R x y H2→wpAny (model X.prog X.w) X.A (f v u) Q X.xe s2) :
  wpAny (model X.prog X.w) X.A (eval a X.env) (λv s₁=>wpAny (model X.prog X.w) X.A (eval b X.env) (λu s₂=>wpAny (model X.prog X.w) X.A (f v u) Q X.xe s₂) X.xe s₁) X.xe s:=by
 refine thn (ha a5 s σ H _ I h) λv s1 ⟨x,H1,I1,r1,q1⟩=>?_
 refine thn (hb a5 s1 σ H1 _ I1 q1) λu s2 ⟨y,H2,I2,r2,q2⟩=>?_
 exact hf v u s2 x y H2 I2 r1 r2 q2
inductive RVar(o:Option (Option V))(H:Hp)(Q:VK):Prop
 |mk (v:V) (e:o=some (some v)) (q:Q v H):RVar o H Q
def tVar(i:Nat):TE:=λ σ H Q=>RVar σ[i]? H Q
def tC(v:V):TE:=λ_ H Q=>Q v H
def pe_var(hN:X.N[i]?=some x)(hv:Vis X.env.scope x)(hd:(x==("__debug__" : Str))=false:=by decide)(aF:(x==("__classdict__" : Str))=false:=by decide):PE X (.Name x pos) (tVar i):=by
 intro a5 s σ H Q I h
 obtain⟨v,e,h⟩:=h
 obtain⟨m,hn,hl⟩:=I.loc
 obtain⟨u,r,l⟩:=hl i x v hN e hv
 have fin:EP X a5 σ Q u s:=⟨v,H,I,r,h⟩
 rcases l with⟨hk,hm⟩ | ⟨hk,c,hc,gX⟩
 ·exact wpAny_Name (wpAny_loadName_local I.ok.kind hk hn hm fin) hd
 ·rcases hk with hk | hk
  ·exact wpAny_Name (wpAny_loadName_cell I.ok.kind hk hc gX fin) hd
  ·exact wpAny_Name (wpAny_loadName_free I.ok.kind hk hc gX fin aF) hd
def zai{i j pos}:PE X (.Constant (.int i) j pos) (tC (.int i)):=λ_ _ _ H _ I h=>wpAny_Constant_int ⟨.int i,H,I.tok _,⟨_,rfl⟩,h⟩
def zhd{b j pos}:PE X (.Constant (.bool b) j pos) (tC (.bl b)):=λ_ _ _ H _ I h=>Constant_bool ⟨.bl b,H,I,rfl,h⟩
def pe_non{j pos}:PE X (.Constant .none j pos) (tC .non):=λ_ _ _ H _ I h=>Constant_none ⟨.non,H,I,rfl,h⟩
def zc0{x j pos}:PE X (.Constant (.str x) j pos) (tC (.str x)):=λ_ _ _ H _ I h=>Calls.Constant_str ⟨.str x,H,I.tok _,⟨_,rfl⟩,h⟩
def Gl(X:Cx)(x:Str):Prop:=X.env.kindOf x=some .globalImplicit
def zef(I:Inv X a5 σ H s)(hg:Gl X x)(hm:X.mg x=some u)(h:Q u s)(hd:(x==("__debug__" : Str))=false:=by decide):wpAny (model X.prog X.w) X.A (eval (.Name x pos) X.env) Q E s :=
 Calls.Name_function_global I.ok.kind hg (Calls.loadGlobal_global (by rw[I.ok.glob];exact I.mod.glob.keeps I.bk) hm h) hd
def ld_blt(I:Inv X a5 σ H s)(hg:Gl X x)(hm:X.mg x=none)(hv:bootBuiltins x=some u)(h:Q u s)(hn:x ≠ "__name__" := by decide)(hd:(x==("__debug__" : Str))=false:=by decide):wpAny (model X.prog X.w) X.A (eval (.Name x pos) X.env) Q E s:=by
 obtain⟨mb,h1,h2⟩:=I.mod.blt
 exact Calls.Name_function_global I.ok.kind hg (Calls.loadGlobal_builtin (by rw[I.ok.glob];exact I.mod.glob.keeps I.bk) hm (by rw[I.ok.blt];exact h1.keeps I.bk) ((h2 x hn).trans hv) h) hd
def pe_glob(hg:Gl X x)(hm:X.mg x=some u)(r:RelV v u)(hd:(x==("__debug__" : Str))=false:=by decide):PE X (.Name x pos) (tC v) :=
 λ_ _ _ H _ I h=>zef I hg hm ⟨v,H,I,r,h⟩ hd
variable{a b:Expr}{ta tb:TE}{pos:Pos}
def PC(X:Cx)(op:CmpOp)(a b:Expr)(t:TE):Prop :=
 ∀(a5:Nd) (s:Nh) (σ:St) (H:Hp) (Q:VK),Inv X a5 σ H s→t σ H Q →
  wpAny (model X.prog X.w) X.A (eval a X.env) (λv s₁=>wpAny (model X.prog X.w) X.A (eval b X.env) (λu s₂=>wpAny (model X.prog X.w) X.A (compareOp op v u) (EP X a5 σ Q) X.xe s₂) X.xe s₁) X.xe s
inductive RB(x:V)(H:Hp)(Q:Bool→Hp→Prop):Prop
 |mk (c:Bool) (e:x=.bl c) (q:Q c H):RB x H Q
def tB(t:TE):TT:=λ σ H Q=>t σ H λx H1=>RB x H1 Q
def zet{op:CmpOp}{t:TE}(h:PC X op a b t)(h1:behindInMarks op b=false:=by first | exact nobehind _ (by decide) (by decide) | rfl):PT X (.Compare a [op] [b] pos) (tB t):=by
 intro a5 s σ H Q I hw
 refine wpAny_isTrue_Compare1 (thn (h a5 s σ H _ I hw) λv s1 h1=>thn h1 λu s2 h2=>thn h2 λc s3 ⟨x,H1,I1,r1,q1⟩=>?_) h1
 obtain⟨d,rfl,q⟩:=q1
 cases r1
 exact wpAny_truthy_bool ⟨H1,I1,q⟩
def pt_val{e:Expr}{t:TE}(h:PE X e t)(he:∀whole,isTrue e X.env whole=(do let v ←whole;standAt e.pos;holding [v] (truthy v)):=by intro _;rfl):PT X e (tB t):=by
 intro a5 s σ H Q I hw
 refine isTrue_plain (thn (h a5 s σ H _ I hw) λv s1 ⟨x,H1,I1,r1,q1⟩=>?_) (he _)
 obtain⟨d,rfl,q⟩:=q1
 cases r1
 exact wpAny_truthy_bool ⟨H1,I1,q⟩
variable{tA mq:TT}{rest:Np}
def tAnd(t u:TT):TT:=λ σ H Q=>t σ H λc H1=>if c=true then u σ H1 Q else Q false H1
def tOr(t u:TT):TT:=λ σ H Q=>t σ H λc H1=>if c=true then Q true H1 else u σ H1 Q
def tNot(t:TT):TT:=λ σ H Q=>t σ H λc H1=>Q (!c) H1
def zg6(ha:PT X a tA):PW X (.BoolOp .And [a] pos) tA:=by
 intro wh a5 s σ H Q I h
 refine isTrue_and (thn (ha a5 s σ H Q I h) λc s1 e=>?_)
 cases c with
 |true=>exact isTrue_and_nil e
 |false=>exact e
def pw_or1(ha:PT X a tA):PW X (.BoolOp .Or [a] pos) tA:=by
 intro wh a5 s σ H Q I h
 refine isTrue_or (thn (ha a5 s σ H Q I h) λc s1 e=>?_)
 cases c with
 |false=>exact isTrue_or_nil e
 |true=>exact e
def pw_and(ha:PT X a tA)(hb:PW X (.BoolOp .And (b::rest) pos) mq):PW X (.BoolOp .And (a::b::rest) pos) (tAnd tA mq):=by
 intro wh a5 s σ H Q I h
 refine isTrue_and (thn (ha a5 s σ H _ I h) λc s1 ⟨H1,I1,q1⟩=>?_)
 cases c with
 |true=>exact hb wh a5 s1 σ H1 Q I1 q1
 |false=>exact⟨H1,I1,q1⟩
def pw_or(ha:PT X a tA)(hb:PW X (.BoolOp .Or (b::rest) pos) mq):PW X (.BoolOp .Or (a::b::rest) pos) (tOr tA mq):=by
 intro wh a5 s σ H Q I h
 refine isTrue_or (thn (ha a5 s σ H _ I h) λc s1 ⟨H1,I1,q1⟩=>?_)
 cases c with
 |true=>exact⟨H1,I1,q1⟩
 |false=>exact hb wh a5 s1 σ H1 Q I1 q1
def pt_not(ha:PT X a tA):PT X (.UnaryOp .Not a pos) (tNot tA):=by
 intro a5 s σ H Q I h
 exact isTrue_not (wpAny_mono (ha a5 s σ H (λc H1=>Q (!c) H1) I h) (λc s2 z=>by obtain⟨a,b,d⟩:=z;exact⟨a,b,d⟩) λ_ _ e=>e)
def tAndV(ta tb:TE):TE:=λ σ H Q=>ta σ H λx H1=>RB x H1 λc H1=>if c=true then tb σ H1 Q else Q (.bl false) H1
def pe_one{op}(h:PE X a t):PE X (.BoolOp op [a] pos) t:=λa5 s σ H Q I hw=>BoolOp_one (h a5 s σ H Q I hw)
def pe_and(ha:PE X a ta)(hb:PE X (.BoolOp .And (b::rest) pos) tb):PE X (.BoolOp .And (a::b::rest) pos) (tAndV ta tb):=by
 intro a5 s σ H Q I h
 refine BoolOp_and (thn (ha a5 s σ H _ I h) λv s1 ⟨x,H1,I1,r1,q1⟩=>?_)
 obtain⟨c,rfl,q1⟩:=q1
 cases r1
 refine wpAny_truthy_bool ?_
 cases c with
 |true=>exact hb a5 s1 σ H1 Q I1 q1
 |false=>exact⟨.bl false,H1,I1,rfl,q1⟩
def tIf(t:TT)(ta tb:TE):TE:=λ σ H Q=>t σ H λc H1=>if c=true then ta σ H1 Q else tb σ H1 Q
def pe_ifExp{c:Expr}(hc:PT X c tA)(ha:PE X a ta)(hb:PE X b tb):PE X (.IfExp c a b pos) (tIf tA ta tb):=by
 intro a5 s σ H Q I h
 refine wpAny_IfExp (thn (hc a5 s σ H _ I h) λd s1 ⟨H1,I1,q1⟩=>?_)
 cases d with
 |true=>exact ha a5 s1 σ H1 Q I1 q1
 |false=>exact hb a5 s1 σ H1 Q I1 q1
end
end L2
namespace L2
open PySem PySem.Spec PyProof.Rows
def SqL(K:Na)(H:Hp)(a:Nc)(xs:List V):Prop :=
 Rd H a (.lst xs) ∨
  ∃(o:Obj) (a6:Array Value) (n:Nat),K.lookup a=some o∧o.cls=.type "list" ∧ o.dict=none∧o.data=.seq a6 n∧a6.size≤sizeLine∧Vals xs a6.toList
def SqT(K:Na)(H:Hp)(a:Nc)(xs:List V):Prop :=
 Rd H a (.tup xs) ∨
  ∃(o:Obj) (a6:Array Value) (n:Nat),K.lookup a=some o∧o.cls=.type "tuple" ∧ o.data=.seq a6 n∧a6.size≤sizeLine∧Vals xs a6.toList
def absV:Value→Option V
 |.none=>some .non
 |.bool b=>some (.bl b)
 |.int i _=>some (.int i)
 |.str x _=>some (.str x)
 |.bytes b _=>some (.byt b)
 |.float b _=>some (.flt b)
 |.ref a=>some (.ref a)
 |.type n=>some (.ty n)
 |_=>none
def RelV.abs(r:RelV x u):absV u=some x:=by
 cases x with
 |non=>cases r;rfl
 |bl _=>cases r;rfl
 |int _=>obtain⟨t,rfl⟩:=r;rfl
 |str _=>obtain⟨t,rfl⟩:=r;rfl
 |byt _=>obtain⟨t,rfl⟩:=r;rfl
 |flt _=>obtain⟨t,rfl⟩:=r;rfl
 |ref _=>cases r;rfl
 |ty _=>cases r;rfl
def RelV.inj{x y:V}{u:Value}(r:RelV x u)(q:RelV y u):x=y:=Qr (r.abs.symm.trans q.abs)
theorem Vals.inj:∀{xs ys:List V} {us:Ni},Vals xs us→Vals ys us→xs=ys
 |_,_,_,.nil,.nil=>rfl
 |_,_,_,.cons r t,.cons r' t'=>by rw[r.inj r',Vals.inj t t']
section
variable{X:Cx}{a5:Nd}{σ:St}{H:Hp}{s:Nh}{a:Nc}{xs ys:List V}
def SqL.of{K:Na}(h:H a=some (.lst xs)):SqL K H a xs:=.inl (.inl h)
def SqT.of{K:Na}(h:H a=some (.tup xs)):SqT K H a xs:=.inl (.inl h)
def Inv.list(I:Inv X a5 σ H s)(h:SqL X.K H a xs):∃a6:List Value,Vals xs a6∧PlainL s.heap a a6.toArray∧xs.length≤sizeLine:=by
 rcases h with h | ⟨o,a6,n,hk,hc,hd,hs,hz,r⟩
 ·obtain ⟨z,a6,n,r,e⟩:=h.ok I.hok
  exact⟨a6,r,⟨_,n,e,rfl,rfl,rfl⟩,z⟩
 ·refine ⟨a6.toList,r,⟨o,n,I.kIn a o hk,hc,hd,by simpa using hs⟩,?_⟩
  have e:=r.length
  simp only[We]at e
  lia
def Inv.tuple(I:Inv X a5 σ H s)(h:SqT X.K H a xs):∃a6:List Value,Vals xs a6∧IsTup s.heap a a6.toArray∧xs.length≤sizeLine:=by
 rcases h with h | ⟨o,a6,n,hk,hc,hs,hz,r⟩
 ·obtain ⟨z,a6,r,p⟩:=h.ok I.hok
  exact⟨a6,r,p,z⟩
 ·refine ⟨a6.toList,r,⟨o,I.kIn a o hk,hc,n,by simpa using hs⟩,?_⟩
  have e:=r.length
  simp only[We]at e
  lia
def Inv.list_inj(I:Inv X a5 σ H s)(h:SqL X.K H a xs)(h':SqL X.K H a ys):xs=ys:=by
 obtain⟨a6,r,⟨o,n,e,_,_,d⟩,_⟩:=I.list h
 obtain⟨its',r',⟨o',n',e',_,_,d'⟩,_⟩:=I.list h'
 rw[e]at e';cases e'
 rw[d]at d'
 injection d' with d1 _
 have:a6=its':=by simpa using congrArg Array.toList d1
 subst this
 exact r.inj r'
def Inv.tuple_inj(I:Inv X a5 σ H s)(h:SqT X.K H a xs)(h':SqT X.K H a ys):xs=ys:=by
 obtain⟨a6,r,⟨o,e,_,n,d⟩,_⟩:=I.tuple h
 obtain⟨its',r',⟨o',e',_,n',d'⟩,_⟩:=I.tuple h'
 rw[e]at e';cases e'
 rw[d]at d'
 injection d' with d1 _
 have:a6=its':=by simpa using congrArg Array.toList d1
 subst this
 exact r.inj r'
end
abbrev Cx.wish(X:Cx)(E:Nb):Cx:={X with xe:=E}
abbrev Cx.nox(X:Cx):Cx:=X.wish λ_ _=>False
def Cx.Ok.wish{X:Cx}(ok:X.Ok)(E:Nb):(X.wish E).Ok :=
 ⟨ok.mod,ok.kind,ok.glob,ok.blt,ok.above,ok.inj,ok.has,ok.cab,ok.hd,ok.frames,ok.stk,ok.exf,ok.bs,ok.bsz,ok.noex,ok.exfs,ok.funs,ok.frf⟩
def Cx.Ok.unwish{X:Cx}{E:Nb}(ok:(X.wish E).Ok):X.Ok :=
 ⟨ok.mod,ok.kind,ok.glob,ok.blt,ok.above,ok.inj,ok.has,ok.cab,ok.hd,ok.frames,ok.stk,ok.exf,ok.bs,ok.bsz,ok.noex,ok.exfs,ok.funs,ok.frf⟩
section
variable{X:Cx}{a5:Nd}{σ:St}{H:Hp}{s:Nh}{E:Nb}
def Inv.wish(I:Inv X a5 σ H s)(E:Nb):Inv (X.wish E) a5 σ H s:=⟨I.ok.wish E,I.os,I.bare,I.base,I.loc,I.cell,I.free,I.freeC,I.pin,I.hok,I.len⟩
def Inv.unwish(I:Inv (X.wish E) a5 σ H s):Inv X a5 σ H s:=⟨I.ok.unwish,I.os,I.bare,I.base,I.loc,I.cell,I.free,I.freeC,I.pin,I.hok,I.len⟩
def SP.unwish(h:SP (X.wish E) a5 D f s'):SP X a5 D f s':=by
 cases f with
 |next=>obtain⟨σ',H',I,q⟩:=h;exact⟨σ',H',I.unwish,q⟩
 |brk=>obtain⟨σ',H',I,q⟩:=h;exact⟨σ',H',I.unwish,q⟩
 |cont=>obtain⟨σ',H',I,q⟩:=h;exact⟨σ',H',I.unwish,q⟩
 |ret u=>obtain⟨v,σ',H',I,r,q⟩:=h;exact⟨v,σ',H',I.unwish,r,q⟩
def PSs.nox{st:List Stmt}{t:TS}(h:PSs X.nox st t):PSs X st t:=λa5 s σ H D I hw =>
 wpAny_mono (h a5 s σ H D (I.wish _) hw) (λ_ _ q=>q.unwish) λ_ _ z=>False.elim z
end
section
variable{X:Cx}{st:Stmt}{rest:List Stmt}{t u:TS}{e:Expr}{te:TE}{pos:Pos}
def tNext:TS:=λD σ H=>D.nx σ H
def tSeq(t u:TS):TS:=λD σ H=>t {D with nx:=u D} σ H
def za1:PSs X [] tNext:=λ_ _ σ H _ I h=>wpAny_execs_nil ⟨σ,H,I,h⟩
def zae(h1:PS X st t)(h2:PSs X rest u):PSs X (st::rest) (tSeq t u):=by
 intro a5 s σ H D I h
 refine wpAny_execs_cons (thn (h1 a5 s σ H {D with nx:=u D} I h) λf s1 q=>?_)
 cases f with
 |next =>
  obtain⟨σ',H',I',q⟩:=q
  exact h2 a5 s1 σ' H' D I' q
 |ret v=>exact q
 |brk=>exact q
 |cont=>exact q
def zah(h1:PS X st t):PSs X [st] t:=by
 intro a5 s σ H D I h
 refine wpAny_execs_cons (thn (h1 a5 s σ H D I h) λf s1 q=>?_)
 cases f with
 |next=>exact wpAny_execs_nil q
 |ret v=>exact q
 |brk=>exact q
 |cont=>exact q
def Inv.quiet{a5:Nd}{σ:St}{H:Hp}{s:Nh}(I:Inv X a5 σ H s):interactive X.env=false:=by simp[interactive,I.ok.kind]
def tDrop(te:TE):TS:=λD σ H=>te σ H λ_ H1=>D.nx σ H1
def zax(he:PE X e te)(hs:swapsWith e none pos.line X.env=pure false:=by rfl):PS X (.Expr e pos) (tDrop te):=by
 intro a5 s σ H D I h
 exact wpAny_Expr_any (thn (he a5 s σ H _ I h) λv s1 ⟨x,H1,I1,r1,q1⟩=>⟨σ,H1,I1,q1⟩) I.quiet hs
def tRet(te:TE):TS:=λD σ H=>te σ H D.rt
def zbb(he:PE X e te):PS X (.Return (some e) pos) (tRet te):=by
 intro a5 s σ H D I h
 exact wpAny_Return_some (thn (he a5 s σ H _ I h) λv s1 ⟨x,H1,I1,r1,q1⟩=>⟨x,σ,H1,I1,r1,q1⟩)
def tRetN:TS:=λD _ H=>D.rt .non H
def ps_retN:PS X (.Return none pos) tRetN:=λ_ _ σ H _ I h=>wpAny_Return_none ⟨.non,σ,H,I,rfl,h⟩
def tIfS(c:TT)(t u:TS):TS:=λD σ H=>c σ H λb H1=>if b=true then t D σ H1 else u D σ H1
def zb2{c:Expr}{a b:List Stmt}{tc:TT}(hc:PT X c tc)(ha:PSs X a t)(hb:PSs X b u):PS X (.If c a b pos) (tIfS tc t u):=by
 intro a5 s σ H D I h
 refine wpAny_If (thn (hc a5 s σ H _ I h) λd s1 ⟨H1,I1,q1⟩=>?_)
 cases d with
 |true=>exact ha a5 s1 σ H1 D I1 q1
 |false=>exact hb a5 s1 σ H1 D I1 q1
end
abbrev TG:=V→St→Hp→(St→Hp→Prop)→Prop
abbrev TGs:=List V→St→Hp→(St→Hp→Prop)→Prop
def PG(X:Cx)(target:Expr)(t:TG):Prop :=
 ∀(a5:Nd) (s:Nh) (σ:St) (H:Hp) (v:V) (u:Value) (Q:St→Hp→Prop),Inv X a5 σ H s→RelV v u→t v σ H Q →
  wpAny (model X.prog X.w) X.A (assign target X.env u) (λ_ s'=>Ex2 λ σ' H'=>Aj2 (Inv X a5 σ' H' s') (Q σ' H')) X.xe s
def PGs(X:Cx)(ts:Np)(t:TGs):Prop :=
 ∀(a5:Nd) (s:Nh) (σ:St) (H:Hp) (vs:List V) (us:Ni) (Q:St→Hp→Prop),Inv X a5 σ H s→Vals vs us→t vs σ H Q →
  wpAny (model X.prog X.w) X.A (assignInOrder ((assignEach ts X.env).map (·.2)) us) (λ_ s'=>Ex2 λ σ' H'=>Aj2 (Inv X a5 σ' H' s') (Q σ' H')) X.xe s
abbrev TSet:=V→V→V→Hp→(Hp→Prop)→Prop
def PSet(X:Cx)(t:TSet):Prop :=
 ∀(a5:Nd) (s:Nh) (σ:St) (H:Hp) (o i v:V) (ov iv u:Value) (Q:Hp→Prop),Inv X a5 σ H s→RelV o ov→RelV i iv→RelV v u→t o i v H Q →
  wpAny (model X.prog X.w) X.A (setItem ov iv u) (λ_ s'=>∃H',Inv X a5 σ H' s'∧Q H') X.xe s
section
variable{X:Cx}{pos:Pos}
def gName(i:Nat):TG:=λv σ H Q=>Q (σ.set i (some v)) H
def zhb(hN:X.N.Nodup)(hi:X.N[i]?=some x)(hx:Loc X.env.scope x)(hf:X.fn x=true∨X.env.scope.names.lookup x=some .local:=by first | exact .inl rfl | exact .inr rfl | assumption):PG X (.Name x pos) (gName i):=by
 intro a5 s σ H v u Q I r h
 exact wpAny_assign_Name (zgw I hN hi hx r (λs' I'=>⟨_,H,I',h⟩) hf)
def gNil:TGs:=λvs σ H Q=>vs=[]∧Q σ H
inductive RGC(vs:List V)(R:V→List V→Prop):Prop
 |mk (v:V) (r:List V) (e:vs=v::r) (q:R v r):RGC vs R
def gCons(t:TG)(u:TGs):TGs:=λvs σ H Q=>RGC vs λv r=>t v σ H λ σ' H'=>u r σ' H' Q
def zdj:PGs X [] gNil:=by
 intro a5 s σ H vs us Q I r h
 obtain⟨e,h⟩:=h
 subst e
 cases r
 exact assignInOrder_nil ⟨σ,H,I,h⟩
def zbe{e:Expr}{es:Np}{t:TG}{u:TGs}(h1:PG X e t)(h2:PGs X es u)(hs:(assignEach (e::es) X.env).map (·.2)=assign e X.env::(assignEach es X.env).map (·.2):=by rfl):PGs X (e::es) (gCons t u):=by
 intro a5 s σ H vs us Q I r h
 obtain⟨v,vr,e1,h⟩:=h
 subst e1
 cases r with
 |cons r rr =>
  rw[hs]
  refine assignInOrder_cons (thn (h1 a5 s σ H _ _ _ I r h) λ_ s1 ⟨σ1,H1,I1,q1⟩=>?_)
  exact h2 a5 s1 σ1 H1 _ _ Q I1 rr q1
inductive RGT(K:Na)(n:Nat)(v:V)(H:Hp)(R:List V→Prop):Prop
 |mk (a:Nc) (xs:List V) (e:v=.ref a) (s:SqT K H a xs) (l:xs.length=n) (q:R xs):RGT K n v H R
def gTup(K:Na)(n:Nat)(t:TGs):TG:=λv σ H Q=>RGT K n v H λxs=>t xs σ H Q
def pg_tup(hc:X.calm=true)(h:PGs X es t)(hn:(assignEach es X.env).length=n:=by rfl)(ak:(assignEach es X.env).findIdx? (·.1)=none:=by rfl):PG X (.Tuple es k pos) (gTup X.K n t):=by
 intro a5 s σ H v u Q I r hw
 obtain⟨a,xs,e1,hq,hl,hw⟩:=hw
 subst e1
 cases r
 obtain⟨a6,rv,ht,hz⟩:=I.tuple hq
 refine assign_Tuple_tuple (I.ok.hd hc) ht (by simp[hn,←hl,rv.length]) ak λh' hx=>?_
 have I1:Inv X a5 σ H {s with heap:=h'}:=I.kept (t':=s.toks) λb o e=>hx b o (Zi (Qs e)) e
 exact h a5 _ σ H xs _ Q I1 (by simpa using rv) hw
def gSub(to ti:TE)(t:TSet):TG:=λv σ H Q=>to σ H λo H1=>ti σ H1 λi H2=>t o i v H2 λH3=>Q σ H3
def pg_sub{o i:Expr}{to ti:TE}{t:TSet}(ho:PE X o to)(hi:PE X i ti)(hs:PSet X t)(ha:∀ v,assign (.Subscript o i pos) X.env v=(do
   let ov ←holding [v] (eval o X.env)
   let iv ←holding [v,ov] (eval i X.env)
   standAt pos
   holding [v,ov,iv] (setItem ov iv v)
   release [v,ov,iv] []):=by intro _;rfl):PG X (.Subscript o i pos) (gSub to ti t):=by
 intro a5 s σ H v u Q I r h
 rw[ha]
 refine wpAny_bind (wpAny_holding (thn (ho a5 s σ H _ I h) λov s1 ⟨x,H1,I1,r1,q1⟩=>?_))
 refine wpAny_bind (wpAny_holding (thn (hi a5 s1 σ H1 _ I1 q1) λiv s2 ⟨y,H2,I2,r2,q2⟩=>?_))
 refine wpAny_bind (wpAny_standAt (wpAny_bind (wpAny_holding (thn (hs a5 s2 σ H2 x y v ov iv u _ I2 r1 r2 r q2) λ_ s3 ⟨H3,I3,q3⟩=>?_))))
 exact wpAny_release ⟨σ,H3,I3,q3⟩
def tAsg(te:TE)(g:TG):TS:=λD σ H=>te σ H λx H1=>g x σ H1 D.nx
def ps_asg{tg e:Expr}{te:TE}{g:TG}(he:PE X e te)(hg:PG X tg g)(hs:swapsWithSole [tg] e pos.line X.env=pure false:=by rfl)(hw:swappedStores [tg] e X.env=pure none:=by rfl)(h1:(assignEach [tg] X.env).map (·.2)=[assign tg X.env]:=by rfl):PS X (.Assign [tg] e pos) (tAsg te g):=by
 intro a5 s σ H D I h
 refine wpAny_Assign_stores (thn (he a5 s σ H _ I h) λv s1 ⟨x,H1,I1,r1,q1⟩=>?_) hs hw
 rw[h1]
 exact thn (hg a5 s1 σ H1 x v _ I1 r1 q1) λ_ s2 q=>q
def zeu{i:Nat}{x:Str}{e:Expr}{te:TE}{aS:Pos}(hN:X.N.Nodup)(hi:X.N[i]?=some x)(hx:Loc X.env.scope x)(he:PE X e te)(hs:swapsWith e (some (.Name x aS)) pos.line X.env=pure false:=by rfl)(hf:X.fn x=true∨X.env.scope.names.lookup x=some .local:=by first | exact .inl rfl | exact .inr rfl | assumption) :
  PS X (.Assign [.Name x aS] e pos) (tAsg te (gName i)):=by
 intro a5 s σ H D I h
 refine wpAny_Assign_Name (thn (he a5 s σ H _ I h) λv s1 ⟨y,H1,I1,r1,q1⟩=>?_) hs
 exact zgw I1 hN hi hx r1 (λs2 I2=>⟨_,H1,I2,q1⟩) hf
end
section
variable{X:Cx}{pos:Pos}
def tWhile(c:TT)(tb:TS):TS:=λD σ H=>∃W:Nat→St→Hp→Prop,(∃m,W m σ H)∧∀m σ H,W m σ H →
 c σ H λb H1=>if b=true then ∃N:St→Hp→Prop,(∀σ' H',N σ' H'→∃m',m'<m∧W m' σ' H')∧tb {D with nx:=N,ct:=N,bk:=D.nx} σ H1 else D.nx σ H1
def zc7(hp:PassesOwn (model X.prog X.w) X.A X.env X.xe)(hc:PT X c tc)(hb:PSs X body tb):PS X (.While c body [] pos) (tWhile tc tb):=by
 intro a5 s σ H D I h
 obtain⟨W,⟨m0,w0⟩,turn⟩:=h
 refine wpAny_While (codeAny_whileLoop (λn s'=>∃σ' H',Inv X a5 σ' H' s'∧W n σ' H') ?_ m0 ⟨σ,H,I,w0⟩)
 rintro n s1 ⟨σ1,H1,I1,w1⟩
 refine wpAny_passesOwn hp (thn (hc a5 s1 σ1 H1 _ I1 (turn n σ1 H1 w1)) λb s2 ⟨H2,I2,q2⟩=>?_)
 cases b with
 | true =>
  obtain⟨N,hN,q2⟩:=q2
  rw[if_pos rfl]
  refine wpAny_passesOwn hp (thn (hb a5 s2 σ1 H2 _ I2 q2) λf s3 q3=>?_)
  cases f with
  |next =>
   obtain⟨σ3,H3,I3,n3⟩:=q3
   obtain⟨m',hm,w3⟩:=hN σ3 H3 n3
   exact⟨m',hm,σ3,H3,I3,w3⟩
  |cont =>
   obtain⟨σ3,H3,I3,n3⟩:=q3
   obtain⟨m',hm,w3⟩:=hN σ3 H3 n3
   exact⟨m',hm,σ3,H3,I3,w3⟩
  |brk=>exact q3
  |ret v=>exact q3
 |false =>
  rw[if_neg Za]
  exact wpAny_execs_nil ⟨σ1,H2,I2,q2⟩
end
structure It where
 go:Nat→Hp→Prop
 yld:Nat→Hp→V→Hp→Prop
 stop:Nat→Hp→Prop
def FpOk(X:Cx)(a5:Nd)(H:Hp)(b:Nc):Prop :=
 H b=none∧b≠X.env.locals∧b∉X.fs∧(b∈X.ex∨X.s₀.heap.objs.size≤b)∧(∀x c,X.env.cells.lookup x=some c→c≠b)∧∀p∈X.pn++a5,p.1≠b
def Inv.fpOk{X:Cx}{a5:Nd}{σ:St}{H H':Hp}{s:Nh}{b:Nc}(I:Inv X a5 σ H s)(hb:s.heap.objs.size≤b)(hn:H' b=none):FpOk X a5 H' b:=by
 refine⟨hn,Yq (Zp I.lt hb),I.nofs hb,.inr (Zj I.sz hb),λx c e z=>?_,λp hp z=>?_⟩
 ·obtain ⟨v,q⟩:=I.cell x c e
  exact absurd (Zp q.lt (by rw[z];exact hb)) (Yc _)
 ·exact absurd (Zp (Qs (I.pin p hp).1) (by rw[z];exact hb)) (Yc _)
structure Turn(P:Nj)(w:Nk)(K:Na)(tg:Expr)(J:It)(fp:Nl)(it:Nc)(tn:Nat→Heap→Prop):Prop where
 mem:it∈fp
 obj:∀i h,tn i h→∀b∈fp,∃o,h.get? b=some o∧∀v,o.data≠.cell v
 keep:∀i h h',tn i h→(∀b∈fp,∀o,h.get? b=some o→h'.get? b=some o)→tn i h'
 item:∀(X:Cx),X.prog=P→X.w=w→X.K=K→X.calm=true→∀(i:Nat) (a5:Nd) (s:Nh) (σ:St) (H:Hp) (E:Nb),Inv X a5 σ H s→(∀b∈fp,FpOk X a5 H b)→tn i s.heap→J.go i H →
  wpAny (model P w) X.A (pyNext (.ref it)) (λr s1=>∃u,r=some u ∧
   wpAny (model P w) X.A (letOwnedTupleGo tg (.ref it) u) (λ_ s2=>∃x H',Inv X a5 σ H' s2∧RelV x u∧J.yld i H x H'∧tn (i+1) s2.heap∧∀b∈fp,H' b=none) E s1) E s
 done:∀(X:Cx),X.prog=P→X.w=w→X.K=K→X.calm=true→∀(i:Nat) (a5:Nd) (s:Nh) (σ:St) (H:Hp) (E:Nb),Inv X a5 σ H s→(∀b∈fp,FpOk X a5 H b)→tn i s.heap→J.stop i H →
  wpAny (model P w) X.A (pyNext (.ref it)) (λr s1=>r=none∧Inv X a5 σ H s1) E s
 self:∀(A:Nn) (i:Nat) (s:Nh) (Q:Nb) (E:Nb),tn i s.heap→Q (.ref it) s→wpAny (model P w) A (pyIter (.ref it)) Q E s
abbrev TI:=St→Hp→(It→Hp→Prop)→Prop
inductive PIE(X:Cx)(a5:Nd)(σ:St)(tg:Expr)(R:It→Hp→Prop)(itv:Value)(s2:Nh):Prop
 |mk (it:Nc) (fp:Nl) (tn:Nat→Heap→Prop) (J:It) (H':Hp) (h0:itv=.ref it) (h1:Inv X a5 σ H' s2) (h2:Turn X.prog X.w X.K tg J fp it tn) (h3:tn 0 s2.heap) (h4:(∀b∈fp,FpOk X a5 H' b)) (h5:R J H'):PIE X a5 σ tg R itv s2
def PI(X:Cx)(tg iter:Expr)(wi:TI):Prop :=
 ∀(a5:Nd) (s:Nh) (σ:St) (H:Hp) (R:It→Hp→Prop),Inv X a5 σ H s→wi σ H R →
  wpAny (model X.prog X.w) X.A (eval iter X.env) (λv s1=>wpAny (model X.prog X.w) X.A (pyIter v) (PIE X a5 σ tg R) X.xe s1) X.xe s
def go_of(ho:s.heap.get? it=some o)(hc:o.cls=.type n)(hd:o.data=.fields vs)(hn:["enumerate", "zip", "dict_itemiterator", "dict_reverseitemiterator", "odict_iterator", "itertools.zip_longest", "itertools.pairwise"].contains n=false)(hQ:Q () s):wpAny M A (letOwnedTupleGo tg (.ref it) u) Q E s:=by
 unfold letOwnedTupleGo
 cases tg <;> first
  |exact wpAny_pure hQ
  | (cases u <;> first
    |exact wpAny_pure hQ
    | (refine wpAny_bind (wpAny_load ho ?_)
       rw[hc,hd]
       show wpAny M A (if(["enumerate", "zip", "dict_itemiterator", "dict_reverseitemiterator", "odict_iterator", "itertools.zip_longest", "itertools.pairwise"].contains n&&vs[0]?==some (rawInt _))=true then _ else _) Q E s
       rw[if_neg (by intro h;rw[hn,Bool.false_and]at h;cases h)]
       exact wpAny_pure hQ))
def Itl(K:Na)(a:Nc):It :=
 ⟨λi H=>∃xs x,SqL K H a xs∧xs[i]?=some x,λi H x H'=>H'=H∧∀xs,SqL K H a xs→xs[i]?=some x,λi H=>∃xs,SqL K H a xs∧xs.length≤i⟩
def Itt(K:Na)(a:Nc):It :=
 ⟨λi H=>∃xs x,SqT K H a xs∧xs[i]?=some x,λi H x H'=>H'=H∧∀xs,SqT K H a xs→xs[i]?=some x,λi H=>∃xs,SqT K H a xs∧xs.length≤i⟩
def Itr(lo:Int)(n:Nat):It:=⟨λi _=>i<n,λi H x H'=>H'=H∧x=.int (lo+i),λi _=>n≤i⟩
theorem turn_list{P:Nj}{w:Nk}{K:Na}{tg:Expr}(a it:Nc):Turn P w K tg (Itl K a) [it] it (λi h=>h.IsListIter it a i) where
 mem:=by simp
 obj:=λi h st b hb=>by
  have e:b=it:=by simpa using hb
  subst e
  obtain⟨o,e,c,d⟩:=st
  exact⟨o,e,λv z=>by rw[d]at z;cases z⟩
 keep:=λi h h' st k=>st.at λo e=>k it (by simp) o e
 item:=by
  intro X hP hw hK hc i a5 s σ H E I hf st hg
  subst hP hw hK
  obtain⟨xs,x,hq,hx⟩:=hg
  obtain⟨a6,rv,p,hz⟩:=I.list hq
  obtain⟨u,hu,ru⟩:=rv.get hx
  obtain⟨f0,f1,f2,f3,f4,f5⟩:=hf it (by simp)
  refine wpAny_pyNext_list_item st p.isList (x:=u) (by simpa using hu) λh' a8 sb=>?_
  have I1:Inv X a5 σ H {s with heap:=h'}:=I.turned (t':=s.toks) (λb o hb e=>(sb.2 b hb).trans e) f0 f1 f3 f4 f5
  obtain⟨o,e,c,d⟩:=id a8
  exact⟨u,rfl,go_of (s:={s with heap:=h'}) e c d (by decide) ⟨x,H,I1,ru,⟨rfl,λys hy=>by rw[I.list_inj hy hq];exact hx⟩,a8,λb hb=>(hf b hb).1⟩⟩
 done:=by
  intro X hP hw hK hc i a5 s σ H E I hf st hg
  subst hP hw hK
  obtain⟨xs,hq,hx⟩:=hg
  obtain⟨a6,rv,p,hz⟩:=I.list hq
  obtain⟨f0,f1,f2,f3,f4,f5⟩:=hf it (by simp)
  have hl:=rv.length
  exact wpAny_pyNext_list_end (I.ok.hd hc) st p.isList (by simp;exact zdn ‹_› ‹_›) λh' eb=>⟨rfl,I.turned (t':=s.toks) (λb o hb e=>eb b o hb e) f0 f1 f3 f4 f5⟩
 self:=λ_ _ _ _ _ st h=>wpAny_pyIter_listiter st h
theorem turn_tuple{P:Nj}{w:Nk}{K:Na}{tg:Expr}(a it:Nc):Turn P w K tg (Itt K a) [it] it (λi h=>h.IsTupleIter it a i) where
 mem:=by simp
 obj:=λi h st b hb=>by
  have e:b=it:=by simpa using hb
  subst e
  obtain⟨o,e,c,d⟩:=st
  exact⟨o,e,λv z=>by rw[d]at z;cases z⟩
 keep:=λi h h' st k=>st.at λo e=>k it (by simp) o e
 item:=by
  intro X hP hw hK hc i a5 s σ H E I hf st hg
  subst hP hw hK
  obtain⟨xs,x,hq,hx⟩:=hg
  obtain⟨a6,rv,p,hz⟩:=I.tuple hq
  obtain⟨u,hu,ru⟩:=rv.get hx
  obtain⟨f0,f1,f2,f3,f4,f5⟩:=hf it (by simp)
  refine wpAny_pyNext_tuple_item st (show s.heap.IsTuple a a6.toArray from p) (x:=u) (by simpa using hu) λh' a8 sb=>?_
  have I1:Inv X a5 σ H {s with heap:=h'}:=I.turned (t':=s.toks) (λb o hb e=>(sb.2 b hb).trans e) f0 f1 f3 f4 f5
  obtain⟨o,e,c,d⟩:=id a8
  exact⟨u,rfl,go_of (s:={s with heap:=h'}) e c d (by decide) ⟨x,H,I1,ru,⟨rfl,λys hy=>by rw[I.tuple_inj hy hq];exact hx⟩,a8,λb hb=>(hf b hb).1⟩⟩
 done:=by
  intro X hP hw hK hc i a5 s σ H E I hf st hg
  subst hP hw hK
  obtain⟨xs,hq,hx⟩:=hg
  obtain⟨a6,rv,p,hz⟩:=I.tuple hq
  obtain⟨f0,f1,f2,f3,f4,f5⟩:=hf it (by simp)
  have hl:=rv.length
  exact wpAny_pyNext_tuple_end (I.ok.hd hc) st (show s.heap.IsTuple a a6.toArray from p) (by simp;exact zdn ‹_› ‹_›) λh' eb=>⟨rfl,I.turned (t':=s.toks) (λb o hb e=>eb b o hb e) f0 f1 f3 f4 f5⟩
 self:=λ_ _ _ _ _ st h=>wpAny_pyIter_tupleiter st h
theorem turn_range{P:Nj}{w:Nk}{K:Na}{tg:Expr}(it:Nc)(lo:Int)(n:Nat):Turn P w K tg (Itr lo n) [it] it (λi h=>IsRangeIter h it (lo+(i:Nat)*1) ((n:Int)-(i:Nat)) 1) where
 mem:=by simp
 obj:=λi h st b hb=>by
  have e:b=it:=by simpa using hb
  subst e
  exact⟨_,st,λv z=>by
   have z':Data.fields _=Data.cell v:=z
   cases z'⟩
 keep:=λi h h' st k=>k it (by simp) _ st
 item:=by
  intro X hP hw hK hc i a5 s σ H E I hf st hg
  subst hP hw hK
  obtain⟨f0,f1,f2,f3,f4,f5⟩:=hf it (by simp)
  have W:=Walks.range (prog:=X.prog) (w:=X.w) (I.ok.hd hc) it lo 1 n
  refine W.item i s _ _ hg st λv h' tk hv a8 kk=>?_
  obtain⟨t,rfl⟩:=hv
  have I1:Inv X a5 σ H {s with heap:=h',toks:=tk}:=I.turned (λb o hb e=>kk b o (by simpa using hb) e) f0 f1 f3 f4 f5
  refine⟨_,rfl,go_of (s:={s with heap:=h',toks:=tk}) (n := "range_iterator") a8 rfl rfl (by decide) ⟨.int (lo+i),H,I1,⟨t,?_⟩,⟨rfl,rfl⟩,a8,λb hb=>(hf b hb).1⟩⟩
  rw[Int.mul_one]
 done:=by
  intro X hP hw hK hc i a5 s σ H E I hf st hg
  subst hP hw hK
  obtain⟨f0,f1,f2,f3,f4,f5⟩:=hf it (by simp)
  exact wpAny_pyNext_range_end (I.ok.hd hc) st (by have:n≤i:=hg;lia) λh' eb=>⟨rfl,I.turned (t':=s.toks) (λb o hb e=>eb b o hb e) f0 f1 f3 f4 f5⟩
 self:=λ_ _ _ _ _ st h=>wpAny_pyIter_rangeiter st h
end L2
namespace L2
open PySem PySem.Spec PyProof.Rows
section
variable{X:Cx}{tg:Expr}
inductive RI1(x:V)(S R:Addr→Prop):Prop
 |mk (a:Nc) (e:x=.ref a) (s:S a) (q:R a):RI1 x S R
def iList(K:Na)(tl:TE):TI:=λ σ H R=>tl σ H λx H1=>RI1 x (λa=>∃xs,SqL K H1 a xs) λa=>R (Itl K a) H1
def iTup(K:Na)(tl:TE):TI:=λ σ H R=>tl σ H λx H1=>RI1 x (λa=>∃xs,SqT K H1 a xs) λa=>R (Itt K a) H1
def zay{l:Expr}{tl:TE}(hl:PE X l tl):PI X tg l (iList X.K tl):=by
 intro a5 s σ H R I h
 refine thn (hl a5 s σ H _ I h) λv s1 ⟨x,H1,I1,r1,q1⟩=>?_
 obtain⟨a,e,⟨xs,hq⟩,q⟩:=q1
 subst e
 cases r1
 obtain⟨a6,rv,p,hz⟩:=I1.list hq
 refine wpAny_pyIter_list p.isList ?_
 refine⟨s1.heap.objs.size,[s1.heap.objs.size],_,_,H1,rfl,I1.kept (t':=s1.toks) λb o e=>Qg _ e,turn_list a _,⟨_,Zb _ rfl,rfl,rfl⟩,λb hb=>?_,q⟩
 have e:b=s1.heap.objs.size:=by simpa using hb
 subst e
 exact I1.fpOk (Qf _) (I1.hok.fresh (Qf _))
def pi_tup{l:Expr}{tl:TE}(hl:PE X l tl):PI X tg l (iTup X.K tl):=by
 intro a5 s σ H R I h
 refine thn (hl a5 s σ H _ I h) λv s1 ⟨x,H1,I1,r1,q1⟩=>?_
 obtain⟨a,e,⟨xs,hq⟩,q⟩:=q1
 subst e
 cases r1
 obtain⟨a6,rv,p,hz⟩:=I1.tuple hq
 refine wpAny_pyIter_tuple (show s1.heap.IsTuple a a6.toArray from p) ?_
 refine⟨s1.heap.objs.size,[s1.heap.objs.size],_,_,H1,rfl,I1.kept (t':=s1.toks) λb o e=>Qg _ e,turn_tuple a _,⟨_,Zb _ rfl,rfl,rfl⟩,λb hb=>?_,q⟩
 have e:b=s1.heap.objs.size:=by simpa using hb
 subst e
 exact I1.fpOk (Qf _) (I1.hok.fresh (Qf _))
def range_it{a5:Nd}{σ:St}{H:Hp}{s:Nh}{R:It→Hp→Prop}{E:Nb}{lo hi:Int}{t u v:Tok}{tk:Nat}(I:Inv X a5 σ H s)(h1:-(2 ^ 62)≤lo)(h2:lo<2 ^ 62)(h3:-(2 ^ 62)≤hi)(h4:hi<2 ^ 62)(q:R (Itr lo (hi-lo).toNat) H):wpAny (model X.prog X.w) X.A (pyIter (.ref s.heap.objs.size)) (PIE X a5 σ tg R) E {s with heap:=s.heap.push {cls:=.type "range",data:=.fields #[.int lo t,.int hi u,.int 1 v]},toks:=tk}:=by
 refine wpAny_pyIter_range (IsRange.new ..) (small_one h1 h2 h3 h4) ?_
 have I1:Inv X a5 σ H {s with heap:=s.heap.push {cls:=.type "range",data:=.fields #[.int lo t,.int hi u,.int 1 v]},toks:=tk}:=I.kept λb o e=>Qg _ e
 refine⟨(s.heap.push {cls:=.type "range",data:=.fields #[.int lo t,.int hi u,.int 1 v]}).objs.size,[(s.heap.push {cls:=.type "range",data:=.fields #[.int lo t,.int hi u,.int 1 v]}).objs.size],_,_,H,rfl,
  I1.kept (t':=tk) λb o e=>Qg _ e,turn_range _ lo (hi-lo).toNat,?_,λb hb=>?_,q⟩
 ·have e1:lo+((0:Nat):Int)*1=lo:=by simp
  have e2:(((hi-lo).toNat:Nat):Int)-((0:Nat):Int)=Builtin.Range.rangeSize lo hi 1:=by rw[rangeSize_one];split<;>lia
  show IsRangeIter _ _ (lo+((0:Nat):Int)*1) ((((hi-lo).toNat:Nat):Int)-((0:Nat):Int)) 1
  rw[e1,e2]
  exact Zb _ rfl
 ·have e:b=(s.heap.push { cls:=.type "range",data:=.fields #[.int lo t,.int hi u,.int 1 v] }).objs.size:=by simpa using hb
  subst e
  exact I1.fpOk (Qf _) (I1.hok.fresh (Qf _))
inductive RR1(vs:List V)(R:Int→Prop):Prop
 |mk (j:Int) (e:vs=[.int j]) (l:-(2 ^ 62)≤j) (u:j<2 ^ 62) (q:R j):RR1 vs R
def iRng1(ta:TA):TI:=λ σ H R=>ta σ H λvs H1=>RR1 vs λj=>R (Itr 0 j.toNat) H1
def zcg{a:Expr}{ta:TA}{p pos:Pos}(hg:Gl X "range")(hm:X.mg "range" = none)(ha:PA X [a] ta)(hs:starEach [a] X.env=[(false,eval a X.env)]:=by rfl):PI X tg (.Call (.Name "range" p) [a] [] pos) (iRng1 ta):=by
 intro a5 s σ H R I h
 refine Call_ (ld_blt I hg hm boot_range (Js (thn (ha pos a5 s σ H _ I h) λus s1 ⟨vs,H1,I1,r1,q1⟩=>?_) hs rfl))
 obtain⟨j,e,q1,q2,q⟩:=q1
 subst e
 cases r1 with
 |cons r rr =>
  cases rr
  obtain⟨t,rfl⟩:=r
  exact call_range_1 (range_it I1 (by lia) (by lia) q1 q2 (by simpa using q))
def tFor(wi:TI)(g:TG)(tb:TS):TS:=λD σ H=>wi σ H λJ H1=>∃W:Nat→Nat→St→Hp→Prop,(∃m,W 0 m σ H1)∧∀i m σ H,W i m σ H →
 (J.stop i H∧D.nx σ H)∨(J.go i H∧∃N:St→Hp→Prop,(∀σ' H',N σ' H'→∃m',m'<m∧W (i+1) m' σ' H')∧∀x H',J.yld i H x H'→g x σ H' λ σ2 H2=>tb {D with nx:=N,ct:=N,bk:=D.nx} σ2 H2)
def zcb(fp:Nl)(h:Nm):List (Addr×Obj):=fp.filterMap λb=>(h.get? b).map λo=>(b,o)
def zbl(hb:b∈fp)(e:h.get? b=some o):(b,o)∈zcb fp h:=List.mem_filterMap.mpr ⟨b,hb,by rw[e];rfl⟩
def zfn(hp:p∈zcb fp h):p.1∈fp∧h.get? p.1=some p.2:=by
 obtain⟨b,hb,e⟩:=List.mem_filterMap.mp hp
 cases q:h.get? b with
 |none=>rw[q]at e;cases e
 |some o =>
  rw[q]at e
  have e':(b,o)=p:=Qr e
  subst e'
  exact⟨hb,q⟩
def Inv.pinned(I:Inv X a5 σ H s)(hf:∀b∈fp,FpOk X a5 H b)(ho:∀b∈fp,∃o,s.heap.get? b=some o∧∀v,o.data≠.cell v):Inv X (a5++zcb fp s.heap) σ H s :=
 I.pins_of λp hp=>(Qd.mp hp).elim (λz=>I.pin p (Qn _ z)) λz=>by
  obtain⟨hb,e⟩:=zfn z
  obtain⟨f0,f1,f2,_⟩:=hf p.1 hb
  obtain⟨o,e',d⟩:=ho p.1 hb
  rw[e]at e';cases e'
  exact⟨e,f0,f1,f2,d⟩
def Inv.unpinned(I:Inv X (a5++pl) σ H s):Inv X a5 σ H s:=I.pins_of λp hp=>I.pin p (Qn _ (Qo _ hp))
def zbd(hp:PassesOwn (model X.prog X.w) X.A X.env X.xe)(hc:X.calm=true)(hi:PI X tg iter wi)(hg:PG X tg g)(hb:PSs X body tb)(hs:∀x,foldedSetIterable iter X.env x=pure x:=by intro _;rfl):PS X (.For tg iter body [] pos) (tFor wi g tb):=by
 intro a5 s σ H D I h
 refine wpAny_For (thn (hi a5 s σ H _ I h) λv s1 h1=>thn h1 λitv s2 h2=>?_) hs
 obtain⟨it,fp,tn,J,H2,e,I2,T,bh,f2,W,⟨m0,w0⟩,turn⟩:=h2
 subst e
 have stat:∀{H':Hp},(∀b∈fp,H' b=none)→∀b∈fp,FpOk X a5 H' b:=λhn b hb=>⟨hn b hb,(f2 b hb).2⟩
 refine codeAny_forLoop_any (λn s'=>Ex3 λi σ' H'=>Aj4 (Inv X a5 σ' H' s') (tn i s'.heap) (∀b∈fp,H' b=none) (W i n σ' H')) ?_ m0 ⟨0,σ,H2,I2,bh,λb hb=>(f2 b hb).1,w0⟩
 rintro n s3 ⟨i,σ3,H3,I3,aj,fr3,w3⟩
 rcases turn i n σ3 H3 w3 with⟨stop,qn⟩ | ⟨go,N,hN,step⟩
 ·refine wpAny_passesOwn hp (thn (T.done X rfl rfl rfl hc i a5 s3 σ3 H3 X.xe I3 (stat fr3) aj stop) fun r s4 ⟨hr,I4⟩=>?_)
  subst hr
  exact wpAny_execs_nil ⟨σ3,H3,I4,qn⟩
 ·refine wpAny_passesOwn hp (thn (T.item X rfl rfl rfl hc i a5 s3 σ3 H3 X.xe I3 (stat fr3) aj go) fun r s4 ⟨u,hr,h4⟩=>?_)
  subst hr
  refine wpAny_passesOwn hp (thn h4 λ_ s5 ⟨x,H5,I5,r5,y5,ka,fr5⟩=>?_)
  have jx:=I5.pinned (stat fr5) (T.obj _ _ ka)
  refine wpAny_passesOwn hp (thn (hg _ s5 σ3 H5 x u _ jx r5 (step x H5 y5)) λ_ s6 ⟨σ6,H6,I6,q6⟩=>?_)
  refine wpAny_passesOwn hp (thn (hb _ s6 σ6 H6 _ I6 q6) λf s7 q7=>?_)
  have again:∀{σ7:St} {H7:Hp},Inv X (a5++zcb fp s5.heap) σ7 H7 s7→N σ7 H7→∃m,m<n∧Ex3 λi σ' H'=>Aj4 (Inv X a5 σ' H' s7) (tn i s7.heap) (∀b∈fp,H' b=none) (W i m σ' H'):=λ{σ7 H7} I7 n7=>by
   obtain⟨m',hm,w7⟩:=hN σ7 H7 n7
   refine⟨m',hm,i+1,σ7,H7,I7.unpinned,T.keep _ _ _ ka λb hb o e=>(I7.pin (b,o) (Qn _ (Qn _ (zbl hb e)))).1,λb hb=>?_,w7⟩
   obtain⟨o,e,d⟩:=T.obj _ _ ka b hb
   exact(I7.pin (b,o) (Qn _ (Qn _ (zbl hb e)))).2.1
  cases f with
  |next=>obtain⟨σ7,H7,I7,n7⟩:=q7;exact again I7 n7
  |cont=>obtain⟨σ7,H7,I7,n7⟩:=q7;exact again I7 n7
  |brk=>obtain⟨σ7,H7,I7,q7⟩:=q7;exact⟨σ7,H7,I7.unpinned,q7⟩
  |ret v=>obtain⟨x7,σ7,H7,I7,r7,q7⟩:=q7;exact⟨x7,σ7,H7,I7.unpinned,r7,q7⟩
end
def zbn{K:Na}{a:Nc}{xs:List V}{g:TG}{tb:TS}{D:Ends}{σ:St}{H:Hp}(Pv:Nat→St→Hp→Prop)(h0:Pv 0 σ H)(hl:∀i σ H,i≤xs.length→Pv i σ H→SqL K H a xs)(hs:∀i x σ H,xs[i]?=some x→Pv i σ H→g x σ H λ σ2 H2=>tb {D with nx:=Pv (i+1),ct:=Pv (i+1),bk:=D.nx} σ2 H2)(hd:∀σ H,Pv xs.length σ H→D.nx σ H) :
  ∃W:Nat→Nat→St→Hp→Prop,(∃m,W 0 m σ H)∧∀i m σ H,W i m σ H →
   ((Itl K a).stop i H∧D.nx σ H)∨((Itl K a).go i H∧∃N:St→Hp→Prop,(∀σ' H',N σ' H'→∃m',m'<m∧W (i+1) m' σ' H')∧∀x H',(Itl K a).yld i H x H'→g x σ H' λ σ2 H2=>tb {D with nx:=N,ct:=N,bk:=D.nx} σ2 H2):=by
 refine⟨λi m σ H=>m=xs.length-i∧i≤xs.length∧Pv i σ H,⟨xs.length,by simp,Zn _,h0⟩,?_⟩
 rintro i m σ H ⟨rfl,hi,p⟩
 have q:=hl i σ H hi p
 by_cases aa:i<xs.length
 ·refine .inr ⟨⟨xs,xs[i],q,by simp [aa]⟩,Pv (i+1),fun σ' H' p'=>⟨xs.length - (i+1),by exact zar1 ‹_›,rfl,aa,p'⟩,fun x H' y=>?_⟩
  obtain⟨e,y⟩:=y
  subst e
  exact hs i x σ _ (y xs q) p
 ·have e:i=xs.length:=by exact zar3 ‹_› ‹_›
  subst e
  exact .inl ⟨⟨xs,q,Qf _⟩,hd σ H p⟩
def for_tup{K:Na}{a:Nc}{xs:List V}{g:TG}{tb:TS}{D:Ends}{σ:St}{H:Hp}(Pv:Nat→St→Hp→Prop)(h0:Pv 0 σ H)(hl:∀i σ H,i≤xs.length→Pv i σ H→SqT K H a xs)(hs:∀i x σ H,xs[i]?=some x→Pv i σ H→g x σ H λ σ2 H2=>tb {D with nx:=Pv (i+1),ct:=Pv (i+1),bk:=D.nx} σ2 H2)(hd:∀σ H,Pv xs.length σ H→D.nx σ H) :
  ∃W:Nat→Nat→St→Hp→Prop,(∃m,W 0 m σ H)∧∀i m σ H,W i m σ H →
   ((Itt K a).stop i H∧D.nx σ H)∨((Itt K a).go i H∧∃N:St→Hp→Prop,(∀σ' H',N σ' H'→∃m',m'<m∧W (i+1) m' σ' H')∧∀x H',(Itt K a).yld i H x H'→g x σ H' λ σ2 H2=>tb {D with nx:=N,ct:=N,bk:=D.nx} σ2 H2):=by
 refine⟨λi m σ H=>m=xs.length-i∧i≤xs.length∧Pv i σ H,⟨xs.length,by simp,Zn _,h0⟩,?_⟩
 rintro i m σ H ⟨rfl,hi,p⟩
 have q:=hl i σ H hi p
 by_cases aa:i<xs.length
 ·refine .inr ⟨⟨xs,xs[i],q,by simp [aa]⟩,Pv (i+1),fun σ' H' p'=>⟨xs.length - (i+1),by exact zar1 ‹_›,rfl,aa,p'⟩,fun x H' y=>?_⟩
  obtain⟨e,y⟩:=y
  subst e
  exact hs i x σ _ (y xs q) p
 ·have e:i=xs.length:=by exact zar3 ‹_› ‹_›
  subst e
  exact .inl ⟨⟨xs,q,Qf _⟩,hd σ H p⟩
def zcl{lo:Int}{n:Nat}{g:TG}{tb:TS}{D:Ends}{σ:St}{H:Hp}(Pv:Nat→St→Hp→Prop)(h0:Pv 0 σ H)(hs:∀i σ H,i<n→Pv i σ H→g (.int (lo+i)) σ H λ σ2 H2=>tb {D with nx:=Pv (i+1),ct:=Pv (i+1),bk:=D.nx} σ2 H2)(hd:∀σ H,Pv n σ H→D.nx σ H) :
  ∃W:Nat→Nat→St→Hp→Prop,(∃m,W 0 m σ H)∧∀i m σ H,W i m σ H →
   ((Itr lo n).stop i H∧D.nx σ H)∨((Itr lo n).go i H∧∃N:St→Hp→Prop,(∀σ' H',N σ' H'→∃m',m'<m∧W (i+1) m' σ' H')∧∀x H',(Itr lo n).yld i H x H'→g x σ H' λ σ2 H2=>tb {D with nx:=N,ct:=N,bk:=D.nx} σ2 H2):=by
 refine⟨λi m σ H=>m=n-i∧i≤n∧Pv i σ H,⟨n,by simp,Zn _,h0⟩,?_⟩
 rintro i m σ H ⟨rfl,hi,p⟩
 by_cases aa:i<n
 ·refine .inr ⟨aa,Pv (i+1),fun σ' H' p'=>⟨n - (i+1),by exact zar1 ‹_›,rfl,aa,p'⟩,fun x H' y=>?_⟩
  obtain⟨e,y⟩:=y
  subst e y
  exact hs i σ _ aa p
 ·have e:i=n:=by exact zar3 ‹_› ‹_›
  subst e
  exact .inl ⟨Qf _,hd σ H p⟩
end L2
namespace L2
open PySem PySem.Spec PyProof.Rows
abbrev R2:=V→V→Hp→VK→Prop
def OpR(X:Cx)(f:Value→Value→Sem Value)(r:R2):Prop :=
 ∀(a5:Nd) (s:Nh) (σ:St) (H:Hp) (x y:V) (v u:Value) (Q:VK),Inv X a5 σ H s→RelV x v→RelV y u→r x y H Q →
  wpAny (model X.prog X.w) X.A (f v u) (EP X a5 σ Q) X.xe s
def UnR(X:Cx)(f:Value→Sem Value)(r:V→Hp→VK→Prop):Prop :=
 ∀(a5:Nd) (s:Nh) (σ:St) (H:Hp) (x:V) (v:Value) (Q:VK),Inv X a5 σ H s→RelV x v→r x H Q →
  wpAny (model X.prog X.w) X.A (f v) (EP X a5 σ Q) X.xe s
def zbz(X:Cx)(f:Value)(r:List V→Hp→VK→Prop):Prop :=
 ∀(a5:Nd) (s:Nh) (σ:St) (H:Hp) (xs:List V) (us:Ni) (Q:VK),Inv X a5 σ H s→Vals xs us→r xs H Q →
  wpAny (model X.prog X.w) X.A (call f us) (EP X a5 σ Q) X.xe s
def TruR(X:Cx)(r:V→Hp→(Bool→Hp→Prop)→Prop):Prop :=
 ∀(a5:Nd) (s:Nh) (σ:St) (H:Hp) (x:V) (v:Value) (Q:Bool→Hp→Prop),Inv X a5 σ H s→RelV x v→r x H Q →
  wpAny (model X.prog X.w) X.A (truthy v) (TP X a5 σ Q) X.xe s
def tOp(r:R2)(ta tb:TE):TE:=λ σ H Q=>ta σ H λx H1=>tb σ H1 λy H2=>r x y H2 Q
def tUn(r:V→Hp→VK→Prop)(ta:TE):TE:=λ σ H Q=>ta σ H λx H1=>r x H1 Q
inductive RrI(C:Int→Int→Prop)(g:Int→Int→V)(x:V)(y:V)(H:Hp)(Q:VK):Prop
 |mk (i:_) (j:_) (h0:x=.int i) (h1:y=.int j) (h2:C i j) (h3:Q (g i j) H):RrI C g x y H Q
def rI(C:Int→Int→Prop)(g:Int→Int→V):R2:=λx y H Q=>RrI C g x y H Q
inductive RrI0(g:Int→Int→V)(x:V)(y:V)(H:Hp)(Q:VK):Prop
 |mk (i:_) (j:_) (h0:x=.int i) (h1:y=.int j) (h2:Q (g i j) H):RrI0 g x y H Q
def rI0(g:Int→Int→V):R2:=λx y H Q=>RrI0 g x y H Q
def rU(g:Int→V):V→Hp→VK→Prop:=λx H Q=>∃i,x=.int i∧Q (g i) H
section
variable{X:Cx}{a b c:Expr}{ta tb tc:TE}{pos:Pos}
def binT(ha:PE X a ta)(hb:PE X b tb){a5:Nd}{s:Nh}{σ:St}{H:Hp}{R:V→V→Hp→Prop}(I:Inv X a5 σ H s)(h:ta σ H λx H1=>tb σ H1 λy H2=>R x y H2){Q:Nb}{f:Value→Value→Sem Value}(hf:∀v u s2 x y H2,Inv X a5 σ H2 s2→RelV x v→RelV y u→R x y H2→wpAny (model X.prog X.w) X.A (f v u) Q X.xe s2) :
  wpAny (model X.prog X.w) X.A (eval a X.env) (λv s₁=>wpAny (model X.prog X.w) X.A (eval b X.env) (λu s₂=>wpAny (model X.prog X.w) X.A (f v u) Q X.xe s₂) X.xe s₁) X.xe s:=by
 refine thn (ha a5 s σ H _ I h) λv s1 ⟨x,H1,I1,r1,q1⟩=>?_
 refine thn (hb a5 s1 σ H1 _ I1 q1) λu s2 ⟨y,H2,I2,r2,q2⟩=>?_
 exact hf v u s2 x y H2 I2 r1 r2 q2
def zaq{op:Operator}{r:R2}(ho:OpR X (binaryOp op) r)(ha:PE X a ta)(hb:PE X b tb):PE X (.BinOp a op b pos) (tOp r ta tb):=by
 intro a5 s σ H Q I h
 exact wpAny_BinOp (binT ha hb I h λv u s2 x y H2 I2 rx ry q=>ho a5 s2 σ H2 x y v u Q I2 rx ry q)
def pe_un(ho:UnR X (unaryOp op) r)(ha:PE X a ta):PE X (.UnaryOp op a pos) (tUn r ta):=by
 intro a5 s σ H Q I h
 exact UnaryOp_ (thn (ha a5 s σ H _ I h) λv s1 ⟨x,H1,I1,r1,q1⟩=>ho a5 s1 σ H1 x v Q I1 r1 q1)
def opI{f:Value→Value→Sem Value}{C:Int→Int→Prop}{g:Int→Int→Int}(rule:∀(i j:Int) (t u:Tok) (s:Nh) (Q:Nb) (E:Nb),C i j→Q (.int (g i j) s.toks) {s with toks:=s.toks+1}→wpAny (model X.prog X.w) X.A (f (.int i t) (.int j u)) Q E s) :
  OpR X f (rI C λi j=>.int (g i j)):=by
 intro a5 s σ H x y v u Q I rx ry h
 obtain⟨i,j,rfl,rfl,hc,q⟩:=h
 obtain⟨t,rfl⟩:=rx
 obtain⟨t',rfl⟩:=ry
 exact rule i j t t' s _ _ hc ⟨.int (g i j),H,I.tok _,⟨_,rfl⟩,q⟩
def opI0{f:Value→Value→Sem Value}{g:Int→Int→Int}(rule:∀(i j:Int) (t u:Tok) (s:Nh) (Q:Nb) (E:Nb),Q (.int (g i j) s.toks) {s with toks:=s.toks+1}→wpAny (model X.prog X.w) X.A (f (.int i t) (.int j u)) Q E s) :
  OpR X f (rI0 λi j=>.int (g i j)):=by
 intro a5 s σ H x y v u Q I rx ry h
 obtain⟨i,j,rfl,rfl,q⟩:=h
 obtain⟨t,rfl⟩:=rx
 obtain⟨t',rfl⟩:=ry
 exact rule i j t t' s _ _ ⟨.int (g i j),H,I.tok _,⟨_,rfl⟩,q⟩
def opB0{f:Value→Value→Sem Value}{g:Int→Int→Bool}(rule:∀(i j:Int) (t u:Tok) (s:Nh) (Q:Nb) (E:Nb),Q (.bool (g i j)) s→wpAny (model X.prog X.w) X.A (f (.int i t) (.int j u)) Q E s) :
  OpR X f (rI0 λi j=>.bl (g i j)):=by
 intro a5 s σ H x y v u Q I rx ry h
 obtain⟨i,j,rfl,rfl,q⟩:=h
 obtain⟨t,rfl⟩:=rx
 obtain⟨t',rfl⟩:=ry
 exact rule i j t t' s _ _ ⟨.bl (g i j),H,I,rfl,q⟩
def CDiv(i j:Int):Prop:=0<j∧j<1073741824
def CPow(i j:Int):Prop:=0≤j∧j≤1000000∧i.natAbs<2 ^ 64
def CMul(i j:Int):Prop:=(-(2 ^ 64)<i∧i<2 ^ 64)∨(-(2 ^ 64)<j∧j<2 ^ 64)
def CMul.ok{i j:Int}(h:CMul i j):IntMulOk i j:=by
 rcases h with⟨h1,h2⟩ | ⟨h1,h2⟩
 ·exact .of_left (intBits_le_64 h1 h2)
 ·exact .of_right (intBits_le_64 h1 h2)
def zbk:OpR X (binaryOp .Add) (rI0 λi j=>.int (i+j)):=opI0 λ_ _ _ _ _ _ _ q=>add_int q
def op_sub:OpR X (binaryOp .Sub) (rI0 λi j=>.int (i-j)):=opI0 λ_ _ _ _ _ _ _ q=>sub_int q
def zfk:OpR X (binaryOp .Mult) (rI CMul λi j=>.int (i*j)):=opI λ_ _ _ _ _ _ _ hc q=>mul_int q hc.ok
def zfl:OpR X (binaryOp .FloorDiv) (rI CDiv λi j=>.int (i/j)):=opI λi j _ _ _ _ _ hc q=>by
 have h1:(0:Int)<j:=hc.1
 have h2:j<1073741824:=hc.2
 exact floordiv_int (by lia) (by rw[Int.fdiv_eq_ediv_of_nonneg i (by lia)];exact q) (.inl (PyProof.noPylong_small (by lia)))
def zcc:OpR X (binaryOp .Mod) (rI (λ_ j=>0<j) λi j=>.int (i%j)):=opI λi j _ _ _ _ _ hc q=>by
 have h1:(0:Int)<j:=hc
 exact mod_int' (by lia) (by rw[Int.fmod_eq_emod_of_nonneg i (by lia)];exact q)
def op_pow:OpR X (binaryOp .Pow) (rI CPow λi j=>.int (i ^ j.toNat)):=opI λ_ _ _ _ _ _ _ hc q=>pow_int_small hc.1 hc.2.1 hc.2.2 q
def unI{f:Value→Sem Value}{g:Int→Int}(rule:∀(i:Int) (t:Tok) (s:Nh) (Q:Nb) (E:Nb),Q (.int (g i) s.toks) {s with toks:=s.toks+1}→wpAny (model X.prog X.w) X.A (f (.int i t)) Q E s) :
  UnR X f (rU λi=>.int (g i)):=by
 intro a5 s σ H x v Q I rx h
 obtain⟨i,rfl,q⟩:=h
 obtain⟨t,rfl⟩:=rx
 exact rule i t s _ _ ⟨.int (g i),H,I.tok _,⟨_,rfl⟩,q⟩
def un_neg:UnR X (unaryOp .USub) (rU λi=>.int (-i)):=unI λ_ _ _ _ _ q=>neg_int q
end
def scal:V→V→Bool
 |.non,.non=>true | .non,.int _=>true | .int _,.non=>true | .non,.bl _=>true | .bl _,.non=>true | .non,.str _=>true | .str _,.non=>true
 |.int _,.int _=>true | .bl _,.bl _=>true | .str _,.str _=>true | .byt _,.byt _=>true
 |.int _,.str _=>true | .str _,.int _=>true | .bl _,.str _=>true | .str _,.bl _=>true
 |_,_=>false
def rEq:R2:=λx y H Q=>scal x y=true∧Q (.bl (decide (x=y))) H
def rNe:R2:=λx y H Q=>scal x y=true∧Q (.bl (!decide (x=y))) H
def dec_int:decide (V.int i=V.int j)=(i==j):=by
 rw[Yu]
 simp
def dec_bl:decide (V.bl i=V.bl j)=(i==j):=by
 rw[Yu]
 simp
def dec_str:decide (V.str i=V.str j)=(i==j):=by
 rw[Yu]
 simp
def dec_byt:decide (V.byt i=V.byt j)=(i.toList==j.toList):=by
 rw[Yu]
 cases i
 cases j
 simp
section
variable{X:Cx}{a b c:Expr}{ta tb tc:TE}{pos:Pos}
def zaz(I:Inv X a5 σ H s)(q:Q (.bl k) H)(e:k=k'):EP X a5 σ Q (.bool k') s:=by
 subst e
 exact⟨.bl k,H,I,rfl,q⟩
def op_eq:OpR X (compareOp .Eq) rEq:=by
 intro a5 s σ H x y v u Q I rx ry h
 obtain⟨hs,q⟩:=h
 cases x with
 |non =>
  cases rx
  cases y with
  |non=>cases ry;exact PySem.EqNone.eq_none_none (zaz I q (by simp))
  |bl j=>cases ry;exact PySem.EqNone.eq_none_bool (zaz I q (by simp))
  |int j=>obtain⟨t',rfl⟩:=ry;exact PySem.EqNone.eq_none_int (zaz I q (by simp))
  |str j=>obtain⟨t',rfl⟩:=ry;exact PySem.EqNone.eq_none_str (zaz I q (by simp))
  |_=>exact absurd (show false=true from hs) Za
 |bl i =>
  cases rx
  cases y with
  |non=>cases ry;exact PySem.EqNone.eq_bool_none (zaz I q (by simp))
  |bl j=>cases ry;exact eq_bool (zaz I q dec_bl)
  |str j=>obtain⟨t',rfl⟩:=ry;exact PySem.EqMixed.eq_bool_str (zaz I q (by simp))
  |_=>exact absurd (show false=true from hs) Za
 |int i =>
  obtain⟨t,rfl⟩:=rx
  cases y with
  |non=>cases ry;exact PySem.EqNone.eq_int_none (zaz I q (by simp))
  |int j=>obtain⟨t',rfl⟩:=ry;exact eq_int (zaz I q dec_int)
  |str j=>obtain⟨t',rfl⟩:=ry;exact PySem.EqMixed.eq_int_str (zaz I q (by simp))
  |_=>exact absurd (show false=true from hs) Za
 |str i =>
  obtain⟨t,rfl⟩:=rx
  cases y with
  |non=>cases ry;exact PySem.EqNone.eq_str_none (zaz I q (by simp))
  |bl j=>cases ry;exact PySem.EqMixed.eq_str_bool (zaz I q (by simp))
  |int j=>obtain⟨t',rfl⟩:=ry;exact PySem.EqMixed.eq_str_int (zaz I q (by simp))
  |str j=>obtain⟨t',rfl⟩:=ry;exact eq_str (zaz I q dec_str)
  |_=>exact absurd (show false=true from hs) Za
 |byt i =>
  obtain⟨t,rfl⟩:=rx
  cases y with
  |byt j=>obtain⟨t',rfl⟩:=ry;exact PySem.W.eq_bytes (zaz I q dec_byt)
  |_=>exact absurd (show false=true from hs) Za
 |_=>cases y<;>exact absurd (show false=true from hs) Za
def op_ne:OpR X (compareOp .NotEq) rNe:=by
 intro a5 s σ H x y v u Q I rx ry h
 obtain⟨hs,q⟩:=h
 cases x with
 |non =>
  cases rx
  cases y with
  |non=>cases ry;exact PySem.EqNone.ne_none_none (zaz I q (by simp))
  |bl j=>cases ry;exact PySem.EqNone.ne_none_bool (zaz I q (by simp))
  |int j=>obtain⟨t',rfl⟩:=ry;exact PySem.EqNone.ne_none_int (zaz I q (by simp))
  |str j=>obtain⟨t',rfl⟩:=ry;exact PySem.EqNone.ne_none_str (zaz I q (by simp))
  |_=>exact absurd (show false=true from hs) Za
 |bl i =>
  cases rx
  cases y with
  |non=>cases ry;exact PySem.EqNone.ne_bool_none (zaz I q (by simp))
  |bl j=>cases ry;exact ne_bool (zaz I q (congrArg not dec_bl))
  |str j=>obtain⟨t',rfl⟩:=ry;exact PySem.EqMixed.ne_bool_str (zaz I q (by simp))
  |_=>exact absurd (show false=true from hs) Za
 |int i =>
  obtain⟨t,rfl⟩:=rx
  cases y with
  |non=>cases ry;exact PySem.EqNone.ne_int_none (zaz I q (by simp))
  |int j=>obtain⟨t',rfl⟩:=ry;exact ne_int (zaz I q (congrArg not dec_int))
  |str j=>obtain⟨t',rfl⟩:=ry;exact PySem.EqMixed.ne_int_str (zaz I q (by simp))
  |_=>exact absurd (show false=true from hs) Za
 |str i =>
  obtain⟨t,rfl⟩:=rx
  cases y with
  |non=>cases ry;exact PySem.EqNone.ne_str_none (zaz I q (by simp))
  |bl j=>cases ry;exact PySem.EqMixed.ne_str_bool (zaz I q (by simp))
  |int j=>obtain⟨t',rfl⟩:=ry;exact PySem.EqMixed.ne_str_int (zaz I q (by simp))
  |str j=>obtain⟨t',rfl⟩:=ry;exact ne_str (zaz I q (congrArg not dec_str))
  |_=>exact absurd (show false=true from hs) Za
 |byt i =>
  obtain⟨t,rfl⟩:=rx
  cases y with
  |byt j=>obtain⟨t',rfl⟩:=ry;exact PySem.W.ne_bytes (zaz I q (congrArg not dec_byt))
  |_=>exact absurd (show false=true from hs) Za
 |_=>cases y<;>exact absurd (show false=true from hs) Za
def op_lt:OpR X (compareOp .Lt) (rI0 λi j=>.bl (decide (i<j))):=opB0 λ_ _ _ _ _ _ _ q=>lt_int q
def op_le:OpR X (compareOp .LtE) (rI0 λi j=>.bl (decide (i≤j))):=opB0 λ_ _ _ _ _ _ _ q=>le_int q
def op_gt:OpR X (compareOp .Gt) (rI0 λi j=>.bl (decide (j<i))):=opB0 λ_ _ _ _ _ _ _ q=>gt_int q
def zbp(b:Expr)(h:op≠.In:=by decide)(h2:op≠.NotIn:=by decide):behindInMarks op b=false:=by
 have e1:(op==CmpOp.In)=false:=by cases op<;>first | rfl | exact absurd rfl h
 have e2:(op==CmpOp.NotIn)=false:=by cases op<;>first | rfl | exact absurd rfl h2
 cases b<;>simp[behindInMarks,e1,e2]
def tTest(t:TE):TT:=λ σ H Q=>t σ H λx H'=>RB x H' Q
def zaw(ho:OpR X (compareOp op) r)(ha:PE X a ta)(hb:PE X b tb)(hm:behindInMarks op b=false):PT X (.Compare a [op] [b] pos) (tTest (tOp r ta tb)):=by
 intro a5 s σ H Q I h
 refine wpAny_isTrue_Compare1 (thn (ha a5 s σ H _ I h) λv s1 ⟨x,H1,I1,r1,q1⟩=>thn (hb a5 s1 σ H1 _ I1 q1) λu s2 ⟨y,H2,I2,r2,q2⟩ =>
  thn (ho a5 s2 σ H2 x y v u _ I2 r1 r2 q2) λc s3 ⟨z,H3,I3,r3,k,e,q3⟩=>?_) hm
 subst e
 cases r3
 exact wpAny_truthy_bool ⟨H3,I3,q3⟩
def tChain(r r':R2)(ta tb tc:TE):TE:=λ σ H Q=>ta σ H λx H1=>tb σ H1 λy H2=>r x y H2 λz H3=>RB z H3 λk H3 =>
 (if k=true then tc σ H3 λw' H4=>r' y w' H4 Q else Q (.bl false) H3)
def pe_chain(ho:OpR X (compareOp op) r)(am:OpR X (compareOp op') r')(ha:PE X a ta)(hb:PE X b tb)(hc:PE X c tc)(hm:lastMarks [op,op'] [b,c]=false:=by with_unfolding_all rfl):PE X (.Compare a [op,op'] [b,c] pos) (tChain r r' ta tb tc):=by
 intro a5 s σ H Q I h
 refine Compare_chain (thn (ha a5 s σ H _ I h) λv s1 ⟨x,H1,I1,r1,q1⟩=>chain_link (thn (hb a5 s1 σ H1 _ I1 q1) λu s2 ⟨y,H2,I2,r2,q2⟩ =>
  thn (ho a5 s2 σ H2 x y v u _ I2 r1 r2 q2) λd s3 ⟨z,H3,I3,r3,k,e,q3⟩=>?_)) hm
 subst e
 cases r3
 refine wpAny_truthy_bool ?_
 cases k with
 |false=>exact ite_ff ⟨.bl false,H3,I3,rfl,q3⟩
 |true=>exact ite_tt (chain_last (thn (hc a5 s3 σ H3 _ I3 q3) λw' s4 ⟨z',H4,I4,r4,q4⟩=>am a5 s4 σ H4 y z' u w' Q I4 r2 r4 q4))
def TruV(K:Na)(x:V)(H:Hp)(k:Bool):Prop :=
 match x with
 |.non=>k=false
 |.bl b=>k=b
 |.int i=>k=(i != 0)
 |.str y=>y.length≤sizeLine∧k=((y.length:Int) != 0)
 |.byt y=>y.size≤sizeLine∧k=((y.size:Int) != 0)
 |.ref p=>(∃xs,SqL K H p xs∧k=!xs.isEmpty)∨(∃xs,SqT K H p xs∧k=!xs.isEmpty)∨∃kvs,H p=some (.dK kvs)∧k=!kvs.isEmpty
 |_=>False
def isEmpty_kv{κ:Type}{kvs:List (κ×V)}{vs:List (κ×Value)}(r:KV kvs vs):(!vs.isEmpty)=!kvs.isEmpty:=by
 cases r<;>rfl
def zgi{xs:List V}{a6:Ni}(r:Vals xs a6):(!a6.toArray.isEmpty)=!xs.isEmpty:=by
 cases r<;>simp
def zdy:(sizeLine:Nat)<2 ^ 63:=by rw[sizeLine_eq];decide
inductive RTr(K:Na)(x:V)(H:Hp)(Q:Bool→Hp→Prop):Prop
 |mk (k:Bool) (t:TruV K x H k) (q:Q k H):RTr K x H Q
def tru_ok:TruR X (λx H Q=>RTr X.K x H Q):=by
 intro a5 s σ H x v Q I rx h
 obtain⟨k,e,q⟩:=h
 have hl:=zdy
 have hs:sizeLine=16777216:=sizeLine_eq
 cases x with
 |non =>
  cases rx
  have e':k=false:=e
  subst e'
  exact truthy_none ⟨H,I,q⟩
 |bl b =>
  cases rx
  have e':k=b:=e
  subst e'
  exact wpAny_truthy_bool ⟨H,I,q⟩
 |int i =>
  obtain⟨t,rfl⟩:=rx
  have e':k=(i != 0):=e
  subst e'
  exact PySem.P.truthy_int ⟨H,I,q⟩
 |str y =>
  obtain⟨t,rfl⟩:=rx
  obtain⟨hy,e'⟩:y.length≤sizeLine∧k=((y.length:Int) != 0):=e
  subst e'
  exact PySem.P.truthy_str (by lia) ⟨H,I.tok _,q⟩
 |byt y =>
  obtain⟨t,rfl⟩:=rx
  obtain⟨hy,e'⟩:y.size≤sizeLine∧k=((y.size:Int) != 0):=e
  subst e'
  exact PySem.W.truthy_bytes (by lia) ⟨H,I.tok _,q⟩
 | ref p =>
  cases rx
  have e':(∃xs,SqL X.K H p xs∧k=!xs.isEmpty)∨(∃xs,SqT X.K H p xs∧k=!xs.isEmpty)∨∃kvs,H p=some (.dK kvs)∧k=!kvs.isEmpty:=e
  rcases e' with⟨xs,hx,e'⟩ | ⟨xs,hx,e'⟩ | ⟨kvs,hx,e'⟩
  ·subst e'
   obtain⟨a6,r,pl,hz⟩:=I.list hx
   have a9:=r.length
   exact wpAny_truthy_list pl.isList (by simp only[Qq];lia) ⟨H,I.tok _,by rw[zgi r];exact q⟩
  ·subst e'
   obtain⟨a6,r,pl,hz⟩:=I.tuple hx
   have a9:=r.length
   exact truthy_tuple pl (by simp only[Qq];lia) ⟨H,I.tok _,by rw[zgi r];exact q⟩
  ·subst e'
   obtain⟨hz,hS,vs,r,m⟩:kvs.length≤sizeLine∧(p==sysModules)=false∧∃vs,KV kvs vs∧s.heap.DictOf (zan X.prog X.w) p vs:=I.hok p _ hx
   have a9:kvs.length=vs.length:=Zz r
   exact wpAny_truthy_dict hS m (by lia) ⟨H,I.tok _,by rw[isEmpty_kv r];exact q⟩
 |_=>exact(show False from e).elim
def zdx(ha:PE X a ta)(he:∀whole,isTrue a X.env whole=(do let v ←whole;standAt a.pos;holding [v] (truthy v))) :
  PT X a (λ σ H Q=>ta σ H λx H'=>RTr X.K x H' Q):=by
 intro a5 s σ H Q I h
 exact isTrue_plain (thn (ha a5 s σ H _ I h) λv s1 ⟨x,H1,I1,r1,q1⟩=>tru_ok a5 s1 σ H1 x v Q I1 r1 q1) (he _)
def zee:OpR X (binaryOp .Add) (λx y H Q=>Ex2 λi j=>Aj4 (x=.str i) (y=.str j) (i.length+j.length≤sizeLine) (Q (.str (i++j)) H)):=by
 intro a5 s σ H x y v u Q I rx ry h
 obtain⟨i,j,rfl,rfl,hz,q⟩:=h
 obtain⟨t,rfl⟩:=rx
 obtain⟨t',rfl⟩:=ry
 exact add_str (λt' tk=>⟨.str (i++j),H,I.tok _,⟨_,rfl⟩,q⟩) hz
def vals1(r:Vals [x] us):∃u,us=[u]∧RelV x u:=by
 cases r with
 |cons r1 r2=>cases r2;exact⟨_,rfl,r1⟩
def vals2(r:Vals [x,y] us):∃u w',us=[u,w']∧RelV x u∧RelV y w':=by
 cases r with
 |cons r1 r2 =>
  cases r2 with
  |cons r3 r4=>cases r4;exact⟨_,_,rfl,r1,r3⟩
def call_max2(hc:X.calm=true):zbz X (.builtin "max") (λxs H Q=>Ex2 λi j=>Aj2 (xs=[.int i,.int j]) (Q (.int (if j>i then j else i)) H)):=by
 intro a5 s σ H xs us Q I r h
 obtain⟨i,j,rfl,q⟩:=h
 obtain⟨u,w',rfl,⟨t,rfl⟩,⟨t',rfl⟩⟩:=vals2 r
 refine max_two_ints (I.ok.hd hc) λh' tk k=>⟨_,H,I.kept k,?_,q⟩
 by_cases hj:j>i
 ·rw[if_pos hj,if_pos hj];exact⟨_,rfl⟩
 ·rw[if_neg hj,if_neg hj];exact⟨_,rfl⟩
def call_min2(hc:X.calm=true):zbz X (.builtin "min") (λxs H Q=>Ex2 λi j=>Aj2 (xs=[.int i,.int j]) (Q (.int (if j<i then j else i)) H)):=by
 intro a5 s σ H xs us Q I r h
 obtain⟨i,j,rfl,q⟩:=h
 obtain⟨u,w',rfl,⟨t,rfl⟩,⟨t',rfl⟩⟩:=vals2 r
 refine min_two_ints (I.ok.hd hc) λh' tk k=>⟨_,H,I.kept k,?_,q⟩
 by_cases hj:j<i
 ·rw[if_pos hj,if_pos hj];exact⟨_,rfl⟩
 ·rw[if_neg hj,if_neg hj];exact⟨_,rfl⟩
end
end L2
namespace L2
open PySem PySem.Spec PyProof.Rows
structure ObjM(h:Nm)(x dx C:Nc)(mA:Nf):Prop where
 obj:h.get? x=some (PySem.W.instObj C dx)
 ns:h.Ns1 dx mA
 ne:dx≠x
def lookIn_ns{h:Nm}{mA:Nf}(n:h.Ns1 dx mA):∃od,h.get? dx=some od∧∀name,PySem.W.lookIn name od=some (mA name):=by
 obtain⟨o,es,ep,ho,hd,hk,_,hm⟩:=n
 refine⟨o,ho,λname=>?_⟩
 have e:=hm name
 unfold nsFind findBy at e
 rw[←Array.find?_toList]at e
 unfold PySem.W.lookIn
 rw[hd]
 dsimp only
 split
 ·rename_i y q
  rw[q]at e
  exact congrArg some e
 ·rename_i q
  rw[q]at e
  have a:es.toList.any (·.refKey)=false:=by
   rw[List.any_eq_false]
   intro y hy
   obtain⟨z,t,iS⟩:=hk y (Array.mem_toList_iff.mp hy)
   simp[DictEntry.refKey,iS]
  have a':¬es.toList.any (·.refKey)=true:=by rw[a];exact Za
  rw[if_neg a']
  exact congrArg some e
def ObjM.look(I:ObjM h x dx C mA):∃od,PySem.W.InstAt h x (PySem.W.instObj C dx) C (some od)∧∀name,PySem.W.lookIn name od=some (mA name) :=
 let⟨od,ho,hl⟩:=lookIn_ns I.ns
 ⟨od,⟨I.obj,rfl,rfl,ho⟩,hl⟩
section
variable{prog:Nj}{w:Nk}{A:Nn}{E:Nb}{s:Nh}{K:Na}{x dx C f:Nc}{mA:Nf}{name:Str}{v:Value}
def get_map(X:K.In s.heap)(I:ObjM s.heap x dx C mA)(hg:PySem.W.plainGet K C name=true)(hh:PySem.W.hasDictIn K C=true)(ha:PySem.W.findIn K (.ref C) name=some none)(hv:mA name=some v)(jJ:PySem.W.handedIn v=true)(h:Q v {s with toks:=s.toks+1}) :
  wpAny (model prog w) A (getAttr (.ref x) name expr) Q E s:=by
 obtain⟨od,J,hl⟩:=I.look
 exact PySem.W.get_value X J (PySem.W.plainGet_of hg).1 (PySem.W.findObj_own hh ha rfl (by rw[hl,hv])) jJ h
def get_meth(X:K.In s.heap)(I:ObjM s.heap x dx C mA)(hg:PySem.W.plainGet K C name=true)(hf:PySem.W.findIn K (.ref C) name=some (some (.ref f)))(ht:PySem.W.isFn K (.ref f)=true)(hv:mA name=none)(h:Q (.ref f,[.ref x]) s) :
  wpAny (model prog w) A (getMethod (.ref x) name pl) Q E s:=by
 obtain⟨od,J,hl⟩:=I.look
 exact PySem.W.method_fn X J (PySem.W.plainGet_of hg).1 (PySem.W.plainGet_of hg).2 hf (beq_iff_eq.mp ht) (by show(PySem.W.lookIn name od).map (·.isSome)=some false;rw[hl,hv];rfl) h
def set_map(X:K.In s.heap)(I:ObjM s.heap x dx C mA)(hs:PySem.W.findIn K (.ref C) "__setattr__" = some (some (.builtin "object.__setattr__")))(hp:PySem.W.plainOver K C=true)(ht:PySem.W.takerIn K C name=some none)(hh:PySem.W.hasDictIn K C=true)(hw:PySem.Within mA ns)(hsz:ns.length≤sizeLine)(h:∀h',ObjM h' x dx C (λy=>if y=name then some v else mA y)→Heap.SameBut dx s.heap h'→Q () {s with heap:=h',toks:=s.toks+2}) :
  wpAny (model prog w) A (setAttr (.ref x) name v) Q E s:=by
 obtain⟨od,J,hl⟩:=I.look
 refine PySem.W.set_plain X J hs (PySem.W.osa_open (s:={s with toks:=s.toks+1}) (r:=none) X J hp ht λb=>?_)
 obtain⟨cd,hc,fO⟩:=PySem.W.any_some hh
 have hx:s.heap.get? x=some ⟨.ref C,some dx,.plain,#[]⟩:=I.obj
 refine wpAny_bind (wpAny_pure (wpAny_bind (wpAny_bind (wpAny_loadPart hx (wpAny_bind (PySem.W.Looks.here (s:={s with toks:=s.toks+1}) (PySem.W.looks_clsIn X hc) ?_))))))
 rw[fO]
 refine wpAny_pure (a:=some dx) (wpAny_bind (wpAny_pure (wpAny_bind ?_)))
 refine wpAny_nsSet1 (s:={s with toks:=s.toks+1}) I.ns λh' bK cZ=>?_
 obtain⟨oD,esD,epD,hoD,hdD,gz⟩:=bK.count (PySem.Within.cons name v hw)
 refine wpAny_bind (wpAny_lookBehind hoD (by rw[hdD];exact pastItsLine_dict (Zj gz (by rw[Zd];exact zar4 ‹_›))) ?_)
 exact wpAny_pure (h _ ⟨(cZ.2 _ (Zh I.ne)).trans I.obj,bK,I.ne⟩ cZ)
def make_map(X:K.In s.heap)(hm:PySem.W.makesIn K C=true)(hi:PySem.W.findIn K (.ref C) "__init__" = some (some (.ref f)))(hf:PySem.W.typeIn K (.ref f)=some (.type "function"))(h:codeAny (model prog w) (A.under (.builtin "type.__call__" ⟨.ref C::vs,kw⟩)) (.call (.ref f) ⟨.ref (s.heap.objs.size+1)::vs,kw⟩) (PySem.W.InitBack (s.heap.objs.size+1) R)
   {s with heap:=(s.heap.push PySem.W.emptyDict).push (PySem.W.instObj C s.heap.objs.size)}) :
  codeAny (model prog w) A (.call (.ref C) ⟨vs,kw⟩) R s:=by
 obtain⟨hh,g,d,t,os⟩:=s
 exact PySem.W.make_core (PySem.W.makes_of X hm) (PySem.W.looks_findIn X hi) (λself=>PySem.W.bind_fn X self hf) (.inl rfl) h
end
def putF(f:Str)(v:V):List (Str×V)→List (Str×V)
 |[]=>[(f,v)]
 |(g,x)::r=>if g=f then(g,v)::r else(g,x)::putF f v r
theorem zfu(f g:Str)(v:V):∀fs:List (Str×V),(putF f v fs).lookup g=if g=f then some v else fs.lookup g
 | []=>by
  show List.lookup g [(f,v)]=_
  by_cases h:g=f
  ·have hb:(g == f)=true:=beq_iff_eq.mpr h
   simp only[List.lookup,hb,if_pos h]
  ·have hb:(g == f)=false:=beq_eq_false_iff_ne.mpr h
   simp only[List.lookup,hb,if_neg h]
 | (k,x)::r=>by
  have ih:=zfu f g v r
  rw[show putF f v ((k,x)::r)=(if k=f then(k,v)::r else(k,x)::putF f v r) from rfl]
  by_cases hk:k=f
  ·rw [if_pos hk]
   by_cases h:g=k
   ·have hb:(g == k)=true:=beq_iff_eq.mpr h
    simp only[List.lookup,hb,if_pos (h.trans hk)]
   ·have hb:(g == k)=false:=beq_eq_false_iff_ne.mpr h
    simp only[List.lookup,hb,if_neg (λe:g=f=>h (e.trans hk.symm))]
  ·rw [if_neg hk]
   by_cases h:g=k
   ·have hb:(g == k)=true:=beq_iff_eq.mpr h
    simp only[List.lookup,hb,if_neg (λe:g=f=>hk (h.symm.trans e))]
   ·have hb:(g == k)=false:=beq_eq_false_iff_ne.mpr h
    simp only[List.lookup,hb]
    exact ih
theorem zfw(f:Str)(v:V):∀fs:List (Str×V),f∈(putF f v fs).map (·.1)∧∀g,g∈fs.map (·.1)→g∈(putF f v fs).map (·.1)
 |[]=>⟨by simp[putF],λg h=>by simp at h⟩
 | (k,x)::r=>by
  obtain⟨i1,i2⟩:=zfw f v r
  rw[show putF f v ((k,x)::r)=(if k=f then(k,v)::r else(k,x)::putF f v r) from rfl]
  by_cases hk:k=f
  ·rw [if_pos hk]
   subst hk
   exact⟨by simp,λg h=>by simpa using h⟩
  ·rw [if_neg hk]
   refine⟨?_,λg h=>?_⟩
   ·rw [Qk]
    exact Qi _ i1
   ·rw [Qk] at h ⊢
    rcases Qh.mp h with e | e
    ·exact Qh.mpr (.inl e)
    ·exact Qi _ (i2 g e)
theorem zfv(f:Str)(v:V):∀fs:List (Str×V),(putF f v fs).length≤fs.length+1
 |[]=>by simp[putF]
 |(k,x)::r=>by
  have ih:=zfv f v r
  rw[show putF f v ((k,x)::r)=(if k=f then(k,v)::r else(k,x)::putF f v r) from rfl]
  by_cases hk:k=f
  ·rw[if_pos hk,Zd,Zd];exact Wg _ _
  ·rw[if_neg hk,Zd,Zd];exact zar4 ‹_›
def RelO.some_of(r:RelO (some v) o):∃u,o=some u∧RelV v u:=by
 cases o with
 |none=>exact(show False from r).elim
 |some u=>exact⟨u,rfl,r⟩
def RelO.none_of(r:RelO none o):o=none:=by
 cases o with
 |none=>rfl
 |some u=>exact(show False from r).elim
def handed_of(r:RelV v u):PySem.W.handedIn u=true:=by
 cases v with
 |non=>cases(show u=Value.none from r);rfl
 |bl b=>cases(show u=Value.bool b from r);rfl
 |int i=>obtain⟨t,e⟩:=(show ∃t,u=Value.int i t from r);cases e;rfl
 |str x=>obtain⟨t,e⟩:=(show ∃t,u=Value.str x t from r);cases e;rfl
 |byt b=>obtain⟨t,e⟩:=(show ∃t,u=Value.bytes b t from r);cases e;rfl
 |flt b=>obtain⟨t,e⟩:=(show ∃t,u=Value.float b t from r);cases e;rfl
 |ref a=>cases(show u=Value.ref a from r);rfl
 |ty n=>cases(show u=Value.type n from r);rfl
section
variable{P:Nj}{w:Nk}{H H':Hp}{h h':Nm}{a C dx:Nc}{fs fs':List (Str×V)}
def ins_get(hok:HOk P w H h)(e:H a=some (.ins C dx fs)):∃mA,ObjM h a dx C mA∧(∀f,RelO (fs.lookup f) (mA f))∧PySem.Within mA (fs.map (·.1))∧fs.length≤1000∧H dx=some (.own a):=by
 obtain⟨d,z,ne,ob,mA,n,r,q⟩:=(show zbg P w H h a (.ins C dx fs) from hok a _ e)
 exact⟨mA,⟨ob,n,ne⟩,r,q,z,d⟩
end
structure Cls(K:Na)(C:Nc):Prop where
 pg:PySem.W.plainGet K C Str.empty=true
 hd:PySem.W.hasDictIn K C=true
 po:PySem.W.plainOver K C=true
 sa:PySem.W.findIn K (.ref C) "__setattr__" = some (some (.builtin "object.__setattr__"))
def Cls.get{K:Na}{C:Nc}(c:Cls K C)(f:Str):PySem.W.plainGet K C f=true:=c.pg
def zdc(K:Na)(C:Nc)(f:Str):Prop:=PySem.W.findIn K (.ref C) f=some none
def zdc.taker{K:Na}{C:Nc}{f:Str}(n:zdc K C f):PySem.W.takerIn K C f=some none:=by
 unfold PySem.W.takerIn
 rw[show PySem.W.findIn K (.ref C) f=some none from n]
 rfl
structure Meth(K:Na)(C:Nc)(m:Str)(f:Nc):Prop where
 at_:PySem.W.findIn K (.ref C) m=some (some (.ref f))
 fn:PySem.W.isFn K (.ref f)=true
 kp:PySem.W.keepIn K (.ref f)=true
section
variable{X:Cx}{a5:Nd}{σ:St}{H:Hp}{s:Nh}{a C dx:Nc}{fs:List (Str×V)}{f:Str}{v:V}{A:Nn}{E:Nb}
def getattr_ok(I:Inv X a5 σ H s)(e:H a=some (.ins C dx fs))(c:Cls X.K C)(n:zdc X.K C f)(l:fs.lookup f=some v)(h:∀u s',Inv X a5 σ H s'→RelV v u→Q u s'):wpAny (model X.prog X.w) A (getAttr (.ref a) f b) Q E s:=by
 obtain⟨mA,O,r,_,_,_⟩:=ins_get I.hok e
 obtain⟨u,hu,ru⟩:=RelO.some_of (v:=v) (o:=mA f) (by rw[←l];exact r f)
 exact get_map I.kIn O (c.get f) c.hd n hu (handed_of ru) (h u _ (I.tok _) ru)
def zgj(I:Inv X a5 σ H s)(e:H a=some (.ins C dx fs))(c:Cls X.K C)(k:Meth X.K C m g)(l:fs.lookup m=none)(h:Q (.ref g,[.ref a]) s):wpAny (model X.prog X.w) A (getMethod (.ref a) m pl) Q E s:=by
 obtain⟨mA,O,r,_,_,_⟩:=ins_get I.hok e
 have hn:mA m=none:=RelO.none_of (by rw[←l];exact r m)
 exact get_meth I.kIn O (c.get m) k.at_ k.fn hn h
def setattr_ok(I:Inv X a5 σ H s)(e:H a=some (.ins C dx fs))(c:Cls X.K C)(n:zdc X.K C f)(hl:fs.length<1000)(ry:RelV y u)(h:∀s',Inv X a5 σ (upd H a (.ins C dx (putF f y fs))) s'→Q () s'):wpAny (model X.prog X.w) A (setAttr (.ref a) f u) Q E s:=by
 obtain⟨mA,O,r,wi,_,ho⟩:=ins_get I.hok e
 have hz:(fs.map (·.1)).length≤sizeLine:=by rw[Qa,sizeLine_eq];lia
 refine set_map I.kIn O c.sa c.po n.taker c.hd wi hz λh' O' sb=>h _ ?_
 have hd:∃o,h'.get? dx=some o:=let⟨o,_,_,e',_⟩:=O'.ns;⟨o,e'⟩
 refine I.write (x:=a) (e:=dx) (by rw[e];exact True.intro) (.inr ho) (λb q hb z=>(sb.2 b hb).trans z) hd ?_
 refine⟨by rw[zad O.ne];exact ho,?_,O.ne,O'.obj,_,O'.ns,λg=>?_,λg hg=>?_⟩
 ·have:=zfv f y fs;exact Zj ‹_› ‹_›
 ·show RelO ((putF f y fs).lookup g) (if g=f then some u else mA g)
  rw[zfu]
  by_cases q:g=f
  ·rw[if_pos q,if_pos q];exact ry
  ·rw[if_neg q,if_neg q];exact r g
 ·by_cases q:g=f
  ·rw[q];exact(zfw f y fs).1
  ·refine (zfw f y fs).2 g (wi g fun z=>hg ?_)
   show(if g=f then some u else mA g)=none
   rw[if_neg q];exact z
def Inv.made(I:Inv X a5 σ H s):Inv X a5 σ (upd (upd H s.heap.objs.size (.own (s.heap.objs.size+1))) (s.heap.objs.size+1) (.ins C s.heap.objs.size []))
  {s with heap:=(s.heap.push PySem.W.emptyDict).push (PySem.W.instObj C s.heap.objs.size)}:=by
 have e1:(s.heap.push PySem.W.emptyDict).get? s.heap.objs.size=some PySem.W.emptyDict:=Zb s.heap rfl
 have e2:((s.heap.push PySem.W.emptyDict).push (PySem.W.instObj C s.heap.objs.size)).get? (s.heap.objs.size+1)=some (PySem.W.instObj C s.heap.objs.size):=by
  have:=Zb (s.heap.push PySem.W.emptyDict) (o:=PySem.W.instObj C s.heap.objs.size) rfl
  rwa[Wz]at this
 have e3:(s.heap.push PySem.W.emptyDict).Ns s.heap.objs.size (λ_=>none):=⟨PySem.W.emptyDict,#[],_,e1,rfl,(λe he=>absurd he (by simp)),λ_=>rfl⟩
 have I1:=I.laid (a:=s.heap.objs.size) (o:=.own (s.heap.objs.size+1)) (h':=s.heap.push PySem.W.emptyDict) (t':=s.toks) (λb u q=>Qg _ q) (Qf _) ⟨_,e1⟩
 refine I1.laid (a:=s.heap.objs.size+1) (o:=.ins C s.heap.objs.size []) (t':=s.toks) (λb u q=>Qg _ q) (Nat.le_of_eq (Wz _ _)) ?_
 have ne:s.heap.objs.size≠s.heap.objs.size+1:=Zi (Ym _)
 refine⟨by rw[zad ne,zac],Zn _,ne,e2,λ_=>none,(Heap.Ns1.of_empty e3).at λo q=>Qg _ q,λ_=>True.intro,λy hy=>absurd rfl hy⟩
def attr_of(hb:attributeBase e f env (eval e env)=eval e env)(h:wpAny (model prog w) A (eval e env) (λo s₁=>wpAny (model prog w) A (getAttr o f true) Q E s₁) E s):wpAny (model prog w) A (eval (.Attribute e f pos) env) Q E s :=
 Attribute_any_ h (by rw[arm_eval_Attribute,hb])
end
inductive RFld(K:Na)(f:Str)(x:V)(H:Hp)(Q:VK):Prop
 |mk (a C dx:Nc) (fs:List (Str×V)) (v:V) (e:x=.ref a) (h:H a=some (.ins C dx fs)) (c:Cls K C) (n:zdc K C f) (l:fs.lookup f=some v) (q:Q v H):RFld K f x H Q
def tFld(K:Na)(ta:TE)(f:Str):TE:=λ σ H Q=>ta σ H λx H1=>RFld K f x H1 Q
inductive RFs(K:Na)(f:Str)(x y:V)(H:Hp)(N:Hp→Prop):Prop
 |mk (a C dx:Nc) (fs:List (Str×V)) (e:x=.ref a) (h:H a=some (.ins C dx fs)) (c:Cls K C) (n:zdc K C f) (l:fs.length<1000) (q:N (upd H a (.ins C dx (putF f y fs)))):RFs K f x y H N
def sFld(K:Na)(ta tv:TE)(f:Str):TS:=λD σ H=>tv σ H λy H1=>ta σ H1 λx H2=>RFs K f x y H2 (D.nx σ)
section
variable{X:Cx}{o e value:Expr}{f:Str}{pos aS tpos:Pos}{ta tv:TE}
def pe_fld(he:PE X e ta)(hb:attributeBase e f X.env (eval e X.env)=eval e X.env):PE X (.Attribute e f pos) (tFld X.K ta f):=by
 intro a5 s σ H Q I h
 refine attr_of hb (thn (he a5 s σ H _ I h) λu s1 ⟨x,H1,I1,rx,a,C,dx,fs,v,ex,ea,c,n,l,q⟩=>?_)
 subst ex
 obtain rfl:u=Value.ref a:=rx
 exact getattr_ok I1 ea c n l λu' s2 I2 ru=>⟨v,H1,I2,ru,q⟩
def ps_fld(ha:PE X o ta)(hv:PE X value tv)(hs:swapsWith value (some (.Attribute o f aS)) pos.line X.env=pure false):PS X (.Assign [.Attribute o f aS] value pos) (sFld X.K ta tv f):=by
 intro a5 s σ H D I h
 refine plainObj_wpAny_Assign_Attribute (thn (hv a5 s σ H _ I h) λu s1 ⟨y,H1,I1,ry,q⟩=>thn (ha a5 s1 σ H1 _ I1 q) λov s2 ⟨x,H2,I2,rx,a,C,dx,fs,ex,ea,c,n,l,q2⟩=>?_) hs
 subst ex
 obtain rfl:ov=Value.ref a:=rx
 exact setattr_ok I2 ea c n l ry λs3 I3=>⟨σ,_,I3,q2⟩
def methcall_of(he:PE X e te)(I:Inv X a5 σ H s)(h:te σ H fun x H1=>∃ a C dx fs g,x=.ref a∧H1 a=some (.ins C dx fs)∧Cls X.K C∧Meth X.K C m g∧fs.lookup m=none ∧
   ∀s1,Inv X a5 σ H1 s1→wpAny (model X.prog X.w) X.A (callWith pos (.ref g) [.ref a] (backTo pos (starEach args X.env)) (backToKw pos (keywordEach [] X.env))) Q X.xe s1)(ht:eval (.Call (.Attribute e m apos) args [] pos) X.env=(do
   let ov ←eval e X.env
   standAt apos.atName
   let(f,first) ←holding [ov] (getMethod ov m pl)
   callWith pos f first (backTo pos (starEach args X.env)) (backToKw pos (keywordEach [] X.env)))) :
  wpAny (model X.prog X.w) X.A (eval (.Call (.Attribute e m apos) args [] pos) X.env) Q X.xe s:=by
 refine PySem.W.methodCall_KW (pl:=pl) (thn (he a5 s σ H _ I h) λu s1 ⟨x,H1,I1,rx,a,C,dx,fs,g,ex,ea,c,k,l,q⟩=>?_) ht
 subst ex
 obtain rfl:u=Value.ref a:=rx
 exact zgj I1 ea c k l (q s1 I1)
end
section
variable{X:Cx}{a5:Nd}{σ:St}{H:Hp}{s:Nh}{A:Nn}{E:Nb}{Q:Nb}{c:Value}{b:Bool}
end
end L2
namespace L2
open PySem PySem.Spec PyProof.Rows
structure Room(k:Nat)(A:Nn):Prop where
 hd:A.handled=none
 dp:A.depth+3*k+5<recursionLimit
 un:A.units+16*k+200<cLine
def Room.mono(r:Room k A)(h:j≤k):Room j A:=⟨r.hd,by have:=r.dp;lia,by have:=r.un;lia⟩
def Room.deeper{k:Nat}{A:Nn}(r:Room (k+1) A)(env:Env):Room k (A.deeper env) :=
 ⟨r.hd,by have:=r.dp;show A.depth+1+3*k+5<_;lia,by have:=r.un;show A.units+3+16*k+200<_;lia⟩
def make_depth{A:Nn}:(A.under (.builtin "type.__call__" ⟨.ref C::us,kw⟩)).depth=A.depth+1:=by
 first | rfl | simp[Around.under,Code.weight,Code.isCreation,Code.isGuard,Code.isCaller,Code.frames,Code.isFrame,guardIds]
def make_units{A:Nn}:(A.under (.builtin "type.__call__" ⟨.ref C::us,kw⟩)).units=A.units+1:=by
 first | rfl | simp[Around.under,Code.cUnits,Code.frames,Code.isFrame]
def Room.make(r:Room (k+1) A)(C:Nc)(us:Ni)(kw:List (Str×Value)):Room k (A.under (.builtin "type.__call__" ⟨.ref C::us,kw⟩)) :=
 ⟨r.hd,by have:=r.dp;rw[make_depth];lia,by have:=r.un;rw[make_units];lia⟩
def Room.depth{k:Nat}{A:Nn}(r:Room k A):A.depth<recursionLimit:=by have:=r.dp;lia
def Room.units(r:Room k A):A.units+64<cLine:=by have:=r.un;lia
def tNil:TA:=λ_ H Q=>Q [] H
def tCons(ta:TE)(tr:TA):TA:=λ σ H Q=>ta σ H λx H1=>tr σ H1 λxs H2=>Q (x::xs) H2
section
variable{X:Cx}{e:Expr}{es:Np}{te:TE}{t:TA}{pos:Pos}
def zaf:PA X [] tNil:=λ_ _ _ _ H Q I h=>Calls.spliced_nil ⟨[],H,I,.nil,h⟩
def zaa(ha:PE X e te)(hr:PA X es t)(hs:starEach (e::es) X.env=(false,eval e X.env)::starEach es X.env:=by rfl):PA X (e::es) (tCons te t):=by
 intro pos a5 s σ H Q I h
 rw[hs]
 show wpAny _ _ (spliced ((false,eval e X.env)::backTo pos (starEach es X.env))) _ _ s
 refine Calls.spliced_cons (thn (ha a5 s σ H _ I h) λu s1 ⟨x,H1,I1,r1,q1⟩=>?_)
 exact thn (hr pos a5 s1 σ H1 _ I1 q1) λus s2 ⟨xs,H2,I2,r2,q2⟩=>⟨x::xs,H2,I2,.cons r1 r2,q2⟩
def tTup(t:TA):TE:=λ σ H Q=>t σ H λxs H1=>xs.length≤sizeLine∧∀p,H1 p=none→Q (.ref p) (upd H1 p (.tup xs))
def tLst(t:TA):TE:=λ σ H Q=>t σ H λxs H1=>xs.length≤sizeLine∧∀p,H1 p=none→Q (.ref p) (upd H1 p (.lst xs))
def zfh{x1}(h:PA X es t):PE X (.Tuple es x1 pos) (tTup t):=by
 intro a5 s σ H Q I hq
 refine wpAny_Tuple_spliced (thn (h pos a5 s σ H _ I hq) λus s1 ⟨xs,H1,I1,r,z,q⟩=>⟨by rw[←r.length];exact z,?_⟩)
 have hf:H1 s1.heap.objs.size=none:=I1.hok.fresh (Qf _)
 refine⟨.ref s1.heap.objs.size,upd H1 s1.heap.objs.size (.tup xs),I1.laid (t':=s1.toks) (λb u e=>Qg _ e) (Qf _) ?_,rfl,q _ hf⟩
 exact⟨z,us,r,⟨_,Zb _ rfl,rfl,_,rfl⟩⟩
def za4(h:PA X es t):PE X (.List es pos) (tLst t):=by
 intro a5 s σ H Q I hq
 refine wpAny_List_spliced (thn (h pos a5 s σ H _ I hq) λus s1 ⟨xs,H1,I1,r,z,q⟩=>⟨by rw[←r.length];exact z,?_⟩)
 have hf:H1 s1.heap.objs.size=none:=I1.hok.fresh (Qf _)
 refine⟨.ref s1.heap.objs.size,upd H1 s1.heap.objs.size (.lst xs),I1.laid (t':=s1.toks) (λb u e=>Qg _ e) (Qf _) ?_,rfl,q _ hf⟩
 exact⟨z,us,0,r,Zb _ rfl⟩
end
abbrev Sp:=List V→Hp→VK→XK→Prop
abbrev CXT:=List Env→Hp→Shared→XK→Value→Shared→Prop
structure Env0(P:Nj)(w:Nk)(K:Na)(mg:Nf)(base:Nm)(A:Nn)(outer:List Env)(s:Nh)(H:Hp):Prop where
 frames:A.frames=some outer
 mod:Mod K mg base
 bs:∀b o,base.get? b=some o→s.heap.get? b=some o∧H b=none
 bsz:base.objs.size≤s.heap.objs.size
 funs:s.heap.FunFrames base outer
 frf:∀b∈frs outer,H b=none
 hok:HOk P w H s.heap
 bare:AllBare s.gens
inductive CE(outer:List Env)(P:Nj)(w:Nk)(H:Hp)(s:Nh)(Q:VK)(u:Value)(s':Nh):Prop
 |mk (v:_) (H':_) (h0:s'.os=s.os) (h1:AllBare s'.gens) (h2:Un (frs outer) [] H H' s.heap s'.heap) (h3:HOk P w H' s'.heap) (h4:RelV v u) (h5:Q v H'):CE outer P w H s Q u s'
def CR(CX:CXT)(outer:List Env)(P:Nj)(w:Nk)(H:Hp)(s:Nh)(Q:VK)(E:XK)(r:Result)(s':Nh):Prop :=
 match r with
 |.ok (.ret u)=>CE outer P w H s Q u s'
 |.ok _=>False
 |.error e=>CX outer H s E e s'
structure FnOk(P:Nj)(w:Nk)(K:Na)(mg:Nf)(base:Nm)(CX:CXT)(k:Nat)(f:Nc)(fd:Nt)(ps:Ng)(sp:Sp):Prop where
 len:∀vs H Q E,sp vs H Q E→vs.length=ps.length
 run:∀(A:Nn) (outer:List Env) (s:Nh) (H:Hp) (args:Args) (us:Ni) (vs:List V) (Q:VK) (E:XK),Room k A→Env0 P w K mg base A outer s H→BindsTo s fd args (ps.zip us)→Vals vs us→sp vs H Q E →
  codeAny (model P w) A (.call (.ref f) args) (CR CX outer P w H s Q E) s
def FnOk.imp{P:Nj}{w:Nk}{K:Na}{mg:Nf}{base:Nm}{CX:CXT}{k:Nat}{f:Nc}{fd:Nt}{ps:Ng}{sp sp':Sp}(F:FnOk P w K mg base CX k f fd ps sp)(h:∀vs H Q E,sp' vs H Q E→sp vs H Q E):FnOk P w K mg base CX k f fd ps sp' :=
 ⟨λvs H Q E q=>F.len vs H Q E (h _ _ _ _ q),λA outer s H args us vs Q E hr he hb hv hs=>F.run A outer s H args us vs Q E hr he hb hv (h _ _ _ _ hs)⟩
def Env0.make{P:Nj}{w:Nk}{K:Na}{mg:Nf}{base:Nm}{A:Nn}{outer:List Env}{s:Nh}{H:Hp}(e:Env0 P w K mg base A outer s H)(C:Nc)(us:Ni)(kw:List (Str×Value)) :
  Env0 P w K mg base (A.under (.builtin "type.__call__" ⟨.ref C::us,kw⟩)) outer s H:=⟨by first | exact e.frames | (simpa[Around.under,Code.envs,Code.isFrame,pushEnvs] using e.frames),e.mod,e.bs,e.bsz,e.funs,e.frf,e.hok,e.bare⟩
section
variable{X:Cx}{a5:Nd}{σ:St}{H:Hp}{s s':Nh}
def Inv.env0(I:Inv X a5 σ H s):Env0 X.prog X.w X.K X.mg X.base X.A X.stack s H :=
 ⟨I.ok.frames,I.ok.mod,I.bs,Zj I.ok.bsz I.sz,I.stack,I.stkFree,I.hok,I.bare⟩
def Inv.after(I:Inv X a5 σ H s)(h:CE X.stack X.prog X.w H s Q u s'):EP X a5 σ Q u s':=by
 obtain⟨v,H',os,bare,un,hok,r,q⟩:=h
 obtain⟨hh,g,d,t,oj⟩:=s'
 obtain rfl:oj=s.os:=os
 exact⟨v,H',I.call (h':=hh) (g':=g) (d':=d) (t':=t) (ch:=[]) un hok bare (λb z=>absurd z (by simp)),r,q⟩
end
def tCall(sp:Sp)(dvs:List V)(E:XK)(t:TA):TE:=λ σ H Q=>t σ H λvs H1=>sp (vs++dvs) H1 Q E
inductive RMe(C:Nc)(m:Str)(x:V)(H:Hp)(R:Prop):Prop
 |mk (a dx:Nc) (fs:List (Str×V)) (e:x=.ref a) (h:H a=some (.ins C dx fs)) (l:fs.lookup m=none) (q:R):RMe C m x H R
def tMeth(C:Nc)(m:Str)(sp:Sp)(dvs:List V)(E:XK)(ta:TE)(t:TA):TE:=λ σ H Q=>ta σ H λx H1=>RMe C m x H1 <|
 t σ H1 λvs H2=>sp (x::(vs++dvs)) H2 Q E
def tMake(C:Nc)(sp:Sp)(dvs:List V)(E:XK)(t:TA):TE:=λ σ H Q=>t σ H λvs H1=>∀x dx,H1 x=none→H1 dx=none→dx≠x →
 sp (.ref x::(vs++dvs)) (upd (upd H1 dx (.own x)) x (.ins C dx [])) (λv H2=>v=.non∧Q (.ref x) H2) E
def Binds(K:Na)(fd:Nt)(ps:Ng)(ds:Ni):Prop :=
 ∀(s:Nh) (us:Ni),K.In s.heap→(us++ds).length=ps.length→BindsTo s fd ⟨us,[]⟩ (ps.zip (us++ds))
def Binds.all{K:Na}{fd:Nt}{ps:Ng}(h:∀us:List Value,us.length=ps.length→bindArgs fd ⟨us,[]⟩=pure (ps.zip us)):Binds K fd ps []:=λs us _ hl=>by
 rw[Zx]at hl ⊢
 exact .of_eq (h us hl)
def zgn(CX:CXT)(X:Cx)(E:XK):Prop:=∀(a5:Nd) (σ:St) (H:Hp) (s:Nh) (e:Value) (s':Nh),Inv X a5 σ H s→CX X.stack H s E e s'→X.xe e s'
section
variable{X:Cx}{CX:CXT}{k:Nat}{f C:Nc}{fd:Nt}{ps:Ng}{sp:Sp}{dvs:List V}{ds:Ni}{E:XK}{x m:Str}{p pos apos:Pos}{e o:Expr}{es:Np}{ta:TE}{t:TA}
def run_fn(F:FnOk X.prog X.w X.K X.mg X.base CX k f fd ps sp)(hr:Room k X.A)(hb:Binds X.K fd ps ds)(hd:Vals dvs ds)(hx:zgn CX X E)(I:Inv X a5 σ H s)(r:Vals vs us)(h:sp (vs++dvs) H Q E):wpAny (model X.prog X.w) X.A (call (.ref f) us) (EP X a5 σ Q) X.xe s:=by
 have r2:Vals (vs++dvs) (us++ds):=r.append hd
 have hl:(us++ds).length=ps.length:=by rw[←r2.length];exact F.len _ _ _ _ h
 refine wpAny_call (codeAny_mono (F.run X.A X.stack s H ⟨us,[]⟩ (us++ds) (vs++dvs) Q E hr I.env0 (hb s us I.kIn hl) r2 h) λr s' hq=>?_)
 cases r with
 |error e=>exact hx a5 σ H s e s' I hq
 |ok fl =>
  cases fl with
  |ret u=>exact I.after hq
  |next=>exact False.elim hq
  |brk=>exact False.elim hq
  |cont=>exact False.elim hq
def zak(F:FnOk X.prog X.w X.K X.mg X.base CX k f fd ps sp)(hr:Room k X.A)(hg:Gl X x)(hm:X.mg x=some (.ref f))(hk:PySem.W.keepIn X.K (.ref f)=true)(hb:Binds X.K fd ps ds)(hd:Vals dvs ds)(hx:zgn CX X E)(ha:PA X (e::es) t)(cK:(x==("__debug__" : Str))=false:=by decide)(he:starEach (e::es) X.env=(false,eval e X.env)::starEach es X.env:=by rfl)(bn:(backTo pos (starEach es X.env)).any (·.1)=false:=by rfl) :
  PE X (.Call (.Name x p) (e::es) [] pos) (tCall sp dvs E t):=by
 intro a5 s σ H Q I h
 refine wpAny_Call_Name_kw (zef I hg hm ?_ cK)
 refine Jt (h₀:=X.base) I.ok.mod.kin hk (thn (ha pos a5 s σ H _ I h) λus s1 ⟨vs,H1,I1,r,q⟩=>⟨I1.kIn,?_⟩) he bn
 exact run_fn F hr hb hd hx I1 r q
def pe_meth(he:PE X o ta)(c:Cls X.K C)(hm:Meth X.K C m f)(F:FnOk X.prog X.w X.K X.mg X.base CX k f fd ps sp)(hr:Room k X.A)(hb:Binds X.K fd ps ds)(hd:Vals dvs ds)(hx:zgn CX X E)(ha:PA X (e::es) t)(ak:starEach (e::es) X.env=(false,eval e X.env)::starEach es X.env:=by rfl)(bn:(backTo pos (starEach es X.env)).any (·.1)=false:=by rfl)(ht:eval (.Call (.Attribute o m apos) (e::es) [] pos) X.env=(do
   let ov ←eval o X.env
   standAt apos.atName
   let(f,first) ←holding [ov] (getMethod ov m pl)
   callWith pos f first (backTo pos (starEach (e::es) X.env)) (backToKw pos (keywordEach [] X.env))):=by rfl) :
  PE X (.Call (.Attribute o m apos) (e::es) [] pos) (tMeth C m sp dvs E ta t):=by
 intro a5 s σ H Q I h
 refine PySem.W.methodCall_KW (pl:=pl) (thn (he a5 s σ H _ I h) λu s1 ⟨x,H1,I1,rx,a,dx,fs,ex,ea,l,q⟩=>?_) ht
 subst ex
 obtain rfl:u=Value.ref a:=rx
 refine zgj I1 ea c hm l ?_
 refine Jt (first:=[.ref a]) (h₀:=X.base) I.ok.mod.kin hm.kp (thn (ha pos a5 s1 σ H1 _ I1 q) λus s2 ⟨vs,H2,I2,r,q2⟩=>⟨I2.kIn,?_⟩) ak bn
 exact run_fn (us:=.ref a::us) (vs:=.ref a::vs) F hr hb hd hx I2 (.cons rfl r) q2
structure Mk(K:Na)(C f:Nc):Prop where
 makes:PySem.W.makesIn K C=true
 init:PySem.W.findIn K (.ref C) "__init__" = some (some (.ref f))
 fn:PySem.W.isFn K (.ref f)=true
 kp:PySem.W.keepIn K (.ref C)=true
def run_make(M:Mk X.K C f)(F:FnOk X.prog X.w X.K X.mg X.base CX k f fd ps sp)(hr:Room (k+1) X.A)(hb:Binds X.K fd ps ds)(hd:Vals dvs ds)(hx:zgn CX X E)(I:Inv X a5 σ H s)(r:Vals vs us)(h:∀x dx,H x=none→H dx=none→dx≠x→sp (.ref x::(vs++dvs)) (upd (upd H dx (.own x)) x (.ins C dx [])) (λv H2=>v=.non∧Q (.ref x) H2) E) :
  wpAny (model X.prog X.w) X.A (call (.ref C) us) (EP X a5 σ Q) X.xe s:=by
 have hq:=h (s.heap.objs.size+1) s.heap.objs.size (I.hok.fresh (Ja _)) (I.hok.fresh (Qf _)) (Zi (Ym _))
 have I2:=Inv.made (C:=C) I
 have r2:Vals (V.ref (s.heap.objs.size+1)::(vs++dvs)) (Value.ref (s.heap.objs.size+1)::(us++ds)):=.cons rfl (r.append hd)
 have hl:(Value.ref (s.heap.objs.size+1)::us++ds).length=ps.length:=by
  have e:=r2.length
  rw[F.len _ _ _ _ hq]at e
  exact e.symm
 refine wpAny_call (make_map (f:=f) I.kIn M.makes M.init (beq_iff_eq.mp M.fn) (codeAny_mono (F.run _ X.stack _ _ ⟨Value.ref (s.heap.objs.size+1)::us,[]⟩ (Value.ref (s.heap.objs.size+1)::(us++ds)) _ _ E (hr.make C us [])
  (I2.env0.make C us []) (hb _ (Value.ref (s.heap.objs.size+1)::us) I2.kIn hl) r2 hq) λr s' gk=>?_))
 cases r with
 |error e=>exact hx a5 σ _ _ e s' I2 gk
 | ok fl =>
  cases fl with
  |ret u =>
   obtain⟨v,H',I3,rv,ev,q3⟩:=I2.after gk
   subst ev
   exact⟨rv,⟨V.ref (s.heap.objs.size+1),H',I3,rfl,q3⟩⟩
  |next=>exact False.elim gk
  |brk=>exact False.elim gk
  |cont=>exact False.elim gk
def pe_make(M:Mk X.K C f)(F:FnOk X.prog X.w X.K X.mg X.base CX k f fd ps sp)(hr:Room (k+1) X.A)(hg:Gl X x)(hm:X.mg x=some (.ref C))(hb:Binds X.K fd ps ds)(hd:Vals dvs ds)(hx:zgn CX X E)(ha:PA X (e::es) t)(cK:(x==("__debug__" : Str))=false:=by decide)(he:starEach (e::es) X.env=(false,eval e X.env)::starEach es X.env:=by rfl)(bn:(backTo pos (starEach es X.env)).any (·.1)=false:=by rfl) :
  PE X (.Call (.Name x p) (e::es) [] pos) (tMake C sp dvs E t):=by
 intro a5 s σ H Q I h
 refine wpAny_Call_Name_kw (zef I hg hm ?_ cK)
 refine Jt (h₀:=X.base) I.ok.mod.kin M.kp (thn (ha pos a5 s σ H _ I h) λus s1 ⟨vs,H1,I1,r,q⟩=>⟨I1.kIn,?_⟩) he bn
 exact run_make M F hr hb hd hx I1 r q
end
section
variable{X:Cx}{CX:CXT}{k:Nat}{f C:Nc}{fd:Nt}{ps ks:Ng}{sp:Sp}{E:XK}{x m:Str}{p pos apos kpos:Pos}{e o:Expr}{es:Np}{kws:List Keyword}{te ta:TE}{t tk:TA}{nm:Option Str}
variable{g:List Value→List Value→List Value}{gV:List V→List V→List V}
end
structure zao(N P:Ng)(sc:Scope):Prop where
 kind:sc.kind=.function
 co:sc.isCoroutine=false
 gen:sc.isGenerator=false
 nd:N.Nodup
 pre:N.take P.length=P
 par:∀x∈P,sc.names.lookup x=some .local∨sc.names.lookup x=some .cell
 nofree:∀y∈sc.names,y.2≠.free
theorem bindL_out{kindOf:Str→Option NameKind}{x:Str}:∀{binds:List (Str×Value)} {m:Nf},(∀v,(x,v)∉binds)→bindL kindOf binds m x=m x
 |[],_,_=>rfl
 | (n,v)::r,m,h=>by
  unfold bindL
  rw[bindL_out λw hw=>h w (Qi _ hw)]
  split
  ·have:x≠n:=by rintro rfl;exact h v Qe
   simp[this]
  ·rfl
theorem bindC_out{kindOf:Str→Option NameKind}{x:Str}:∀{binds:List (Str×Value)} {m:Nf},(∀v,(x,v)∉binds)→bindC kindOf binds m x=m x
 |[],_,_=>rfl
 | (n,v)::r,m,h=>by
  unfold bindC
  rw[bindC_out λw hw=>h w (Qi _ hw)]
  split
  ·rfl
  ·have:x≠n:=by rintro rfl;exact h v Qe
   simp[this]
theorem bindL_get{kindOf:Str→Option NameKind}{x:Str}{v:Value}:∀{P:Ng} {vs:Ni} {i:Nat} {m:Nf},P.Nodup→P[i]?=some x→vs[i]?=some v→kindOf x=some .local →
  bindL kindOf (P.zip vs) m x=some v
 |[],_,_,_,_,h,_,_=>by simp at h
 |_::_,[],_,_,_,_,h,_=>by simp at h
 |p::P,w::vs,0,m,nd,h1,h2,hk=>by
  simp at h1 h2;subst h1;subst h2
  show bindL kindOf ((p,w)::P.zip vs) m p=_
  unfold bindL
  rw[bindL_out λv hv=>(Qy.mp nd).1 (List.of_mem_zip hv).1,if_pos hk]
  simp
 |p::P,w::vs,i+1,m,nd,h1,h2,hk=>by
  show bindL kindOf ((p,w)::P.zip vs) m x=_
  unfold bindL
  exact bindL_get (i:=i) (Qy.mp nd).2 (by simpa using h1) (by simpa using h2) hk
theorem bindC_get{kindOf:Str→Option NameKind}{x:Str}{v:Value}:∀{P:Ng} {vs:Ni} {i:Nat} {m:Nf},P.Nodup→P[i]?=some x→vs[i]?=some v→kindOf x≠some .local →
  bindC kindOf (P.zip vs) m x=some v
 |[],_,_,_,_,h,_,_=>by simp at h
 |_::_,[],_,_,_,_,h,_=>by simp at h
 |p::P,w::vs,0,m,nd,h1,h2,hk=>by
  simp at h1 h2;subst h1;subst h2
  show bindC kindOf ((p,w)::P.zip vs) m p=_
  unfold bindC
  rw[bindC_out λv hv=>(Qy.mp nd).1 (List.of_mem_zip hv).1,if_neg hk]
  simp
 |p::P,w::vs,i+1,m,nd,h1,h2,hk=>by
  show bindC kindOf ((p,w)::P.zip vs) m x=_
  unfold bindC
  exact bindC_get (i:=i) (Qy.mp nd).2 (by simpa using h1) (by simpa using h2) hk
def start(N:Ng)(vs:List V):St:=vs.map some++List.replicate (N.length-vs.length) none
def cxOf(CX:CXT)(P:Nj)(w:Nk)(K:Na)(mg:Nf)(base:Nm)(N:Ng)(qual:Str)(scope:Scope)(f:Nc)(cd:Value)(A:Nn)(outer:List Env)(s:Nh)(H:Hp)(E:XK):Cx where
 prog:=P
 w:=w
 K:=K
 mg:=mg
 base:=base
 A:=A.deeper (envOfC qual scope s.heap.objs.size f cd)
 N:=N
 s₀:=s
 H₀:=H
 env:=envOfC qual scope s.heap.objs.size f cd
 outer:=outer
 stack:=envOfC qual scope s.heap.objs.size f cd::outer
 ex:=[]
 calm:=true
 fn:=λ_=>true
 pn:=[]
 xe:=λe s'=>wpAny (model P w) (A.deeper (envOfC qual scope s.heap.objs.size f cd)) (leaving (envOfC qual scope s.heap.objs.size f cd) e) (λ_ ke=>CX outer H s E e ke) (λe' ke=>CX outer H s E e' ke) s'
def cell_has{sc:Scope}{n:Nat}{x:Str}(h:sc.names.lookup x=some .cell):∃c,(cellsFrom n sc.names []).lookup x=some c:=by
 have q:=PySem.W.cellsFrom_some sc.names n [] (.inl h)
 exact Option.isSome_iff_exists.mp q
def inv_start{CX:CXT}{P:Nj}{w:Nk}{K:Na}{mg:Nf}{base:Nm}{N ps:Ng}{qual:Str}{scope:Scope}{f:Nc}{cd:Value}{A:Nn}{outer:List Env}{s s1:Nh}{H:Hp}{E:XK}{us:Ni}{vs:List V}(S:zao N ps scope)(hd:A.handled=none)(e0:Env0 P w K mg base A outer s H)(hl:vs.length=ps.length)(r:Vals vs us)(x:InCallC s s.heap.objs.size (bindL (envOfC qual scope s.heap.objs.size f cd).kindOf (ps.zip us) λ_=>none) (cellsFrom (s.heap.objs.size+1) scope.names []) (bindC (envOfC qual scope s.heap.objs.size f cd).kindOf (ps.zip us) λ_=>none) s1) :
  Inv (cxOf CX P w K mg base N qual scope f cd A outer s H E) [] (start N vs) H s1:=by
 have bn:ps.length≤N.length:=by have:=congrArg List.length S.pre;rw[Zg]at this;lia
 obtain⟨h1,tk,rfl,hk⟩:=x.done
 have noA:∀b:Addr,b∉(cxOf CX P w K mg base N qual scope f cd A outer s H E).ex:=λb z=>absurd (show b∈([]:List Addr) from z) (by simp)
 refine⟨⟨e0.mod,S.kind,rfl,rfl,Qf _,λy z c h1 h2=>?_,λy hy=>?_,λy c _ h=>?_,λ_=>hd,Around.frames_deeper e0.frames,.inr ⟨rfl,rfl⟩,λb z=>absurd z (noA b),e0.bs,e0.bsz,λb _ _=>noA b,λb z=>absurd z (noA b),e0.funs,e0.frf⟩,
  rfl,e0.bare,Un.kept hk,⟨_,x.toInCall.ns,λi y v h1 h2 h3=>?_⟩,λy c h=>⟨_,x.cell y c h⟩,e0.hok.fresh (Qf _),λy c h=>?_,λp hp=>absurd (show p∈([]:List (Addr×Obj)) from hp) (by simp),e0.hok.kept hk,?_⟩
 ·exact name_of_addr x.apart (Wd h1) (Wd h2)
 ·have hy:scope.names.lookup y=some .cell∨scope.names.lookup y=some .free:=hy
  rcases hy with hy | hy
  ·exact cell_has hy
  ·exact absurd rfl (S.nofree _ (Wd hy))
 ·exact Wx (x.above y c (Wd h))
 ·have hi:i < vs.length:=by
   unfold start at h2
   by_cases hi:i<vs.length
   ·exact hi
   ·rw [Uk (by simpa using hi)] at h2
    rw[List.getElem?_replicate]at h2
    split at h2<;>cases h2
  have ha:vs[i]?=some v:=by
   unfold start at h2
   rw[List.getElem?_append_left (by simpa using hi),Qu]at h2
   cases e:vs[i]? with
   |none=>rw[e]at h2;cases h2
   |some a=>rw[e]at h2;cases h2;rfl
  obtain⟨u,hu,rv⟩:=r.get ha
  have hp:ps[i]?=some y:=by
   rw[←S.pre,List.getElem?_take_of_lt (by exact zar7 ‹_› ‹_›)];exact h1
  have ndP:ps.Nodup:=by rw[←S.pre];exact S.nd.sublist (Kf _ _)
  refine⟨u,rv,?_⟩
  rcases S.par y (Yl hp) with k | k
  ·exact .inl ⟨k,bindL_get ndP hp hu k⟩
  ·obtain ⟨c,e⟩:=cell_has (n:=s.heap.objs.size+1) k
   refine .inr ⟨.inl k,c,e,?_⟩
   have q:=x.cell y c e
   rw[bindC_get ndP hp hu (by show scope.names.lookup y≠_;rw[k];decide)]at q
   exact q
 ·exact e0.hok.fresh (Wx (x.above y c (Wd h)))
 ·unfold start
  show _=N.length
  rw[Qp,Qa,Xd]
  lia
def fn_of{CX:CXT}{P:Nj}{w:Nk}{K:Na}{mg:Nf}{base:Nm}{k:Nat}{f:Nc}{name qual:Str}{params:Arguments}{body:List Stmt}{scope:Scope}{dV kV doc pm cdv ct oc:Value}{an od:Option Addr}{osl:Array (Option Value)}{N ps:Ng}{sp:Sp}(lk:K.lookup f=some ⟨oc,od,.func (PySem.W.fnOf name qual params body scope dV kV doc pm an cdv ct),osl⟩)(aF:PySem.W.codeIn K cdv qual=true)(S:zao N ps scope)(len:∀vs H Q E,sp vs H Q E→vs.length=ps.length)(aV:∀ (A:Nn) (outer:List Env) (s:Nh) (H:Hp) (vs:List V) (Q:VK) (E:XK),Room k (A.deeper (envOfC qual scope s.heap.objs.size f cdv))→sp vs H Q E →
   ∃t,PSs (cxOf CX P w K mg base N qual scope f cdv A outer s H E) body t∧t {nx:=λ_ H'=>Q .non H',rt:=Q} (start N vs) H) :
  FnOk P w K mg base CX (k+1) f (PySem.W.fnOf name qual params body scope dV kV doc pm an cdv ct) ps sp:=by
 refine⟨len,λA outer s H args us vs Q E hr e0 hb r aW=>?_⟩
 have hl:=len _ _ _ _ aW
 have KX:K.In s.heap:=e0.mod.kin.keeps λb o e=>(e0.bs b o e).1
 have lim:s.heap.NoLimit:=e0.mod.nolimit.keeps λb o e=>(e0.bs b o e).1
 have cR:∀y∈ps.zip us,scope.names.lookup y.1=some .local∨(scope.names.lookup y.1=some .cell∧((cellsFrom (s.heap.objs.size+1) scope.names []).lookup y.1).isSome=true):=λ⟨n,v⟩ hy=>by
  rcases S.par n (List.of_mem_zip hy).1 with q | q
  ·exact .inl q
  ·exact .inr ⟨q,PySem.W.cellsFrom_some _ _ _ (.inl q)⟩
 refine codeAny_call_function hr.depth (KX _ _ lk) rfl S.co S.gen rfl (PySem.W.codeRec_of KX aF) (hb _ _ _ _ ?_)
 refine wpAny_newFunctionEnv_cells S.kind cR λenv he s1 x=>?_
 subst he
 refine⟨lim.keeps x.toInCall.keep,codeAny_func ?_⟩
 obtain⟨t,ht,hq⟩:=aV A outer s H vs Q E (hr.deeper _) aW
 have I:Inv (cxOf CX P w K mg base N qual scope f cdv A outer s H E) [] (start N vs) H s1:=inv_start S hr.hd e0 hl r x
 refine wpAny_mono (ht [] s1 (start N vs) H _ I hq) (λfl s' hs=>?_) λe s' hs=>hs
 have fin:∀{σ':St} {H':Hp} {v:V} {u:Value},Inv (cxOf CX P w K mg base N qual scope f cdv A outer s H E) [] σ' H' s'→RelV v u→Q v H'→CE outer P w H s Q u s' :=
  λ{σ' H' v u} J rv q=>⟨v,H',J.os,J.bare,J.base,J.hok,rv,q⟩
 cases fl with
 |ret u =>
  obtain⟨v,σ',H',J,rv,q⟩:=hs
  exact fin J rv q
 |next =>
  obtain⟨σ',H',J,q⟩:=hs
  exact fin (v:=V.non) (u:=Value.none) J rfl q
 |brk =>
  obtain⟨_,_,_,q⟩:=hs
  exact False.elim q
 |cont =>
  obtain⟨_,_,_,q⟩:=hs
  exact False.elim q
end L2
namespace L2
open PySem PySem.Spec PyProof.Rows
section
variable{X:Cx}{x:Str}{p pos:Pos}{e:Expr}{es:Np}{t:TA}{id T:String}{r:List V→Hp→VK→Prop}
def tCB(r:List V→Hp→VK→Prop)(t:TA):TE:=λ σ H Q=>t σ H λvs H1=>r vs H1 Q
def zaj(hc:zbz X (.builtin id) r)(hg:Gl X x)(hm:X.mg x=none)(hv:bootBuiltins x=some (.builtin id))(ha:PA X (e::es) t)(hn:x ≠ "__name__" := by decide)(cK:(x==("__debug__" : Str))=false:=by decide)(he:starEach (e::es) X.env=(false,eval e X.env)::starEach es X.env:=by rfl)(bn:(backTo pos (starEach es X.env)).any (·.1)=false:=by rfl):PE X (.Call (.Name x p) (e::es) [] pos) (tCB r t):=by
 intro a5 s σ H Q I h
 refine wpAny_Call_Name_kw (ld_blt I hg hm hv ?_ hn cK)
 exact PyProof.Rows.callWith_builtin1 (thn (ha pos a5 s σ H _ I h) λus s1 ⟨vs,H1,I1,r1,q1⟩=>hc a5 s1 σ H1 vs us Q I1 r1 q1) he bn
def zb4(hc:zbz X (.type T) r)(hg:Gl X x)(hm:X.mg x=none)(hv:bootBuiltins x=some (.type T))(ha:PA X (e::es) t)(hn:x ≠ "__name__" := by decide)(cK:(x==("__debug__" : Str))=false:=by decide)(he:starEach (e::es) X.env=(false,eval e X.env)::starEach es X.env:=by rfl)(bn:(backTo pos (starEach es X.env)).any (·.1)=false:=by rfl):PE X (.Call (.Name x p) (e::es) [] pos) (tCB r t):=by
 intro a5 s σ H Q I h
 refine wpAny_Call_Name_kw (ld_blt I hg hm hv ?_ hn cK)
 exact Js (thn (ha pos a5 s σ H _ I h) λus s1 ⟨vs,H1,I1,r1,q1⟩=>hc a5 s1 σ H1 vs us Q I1 r1 q1) he bn
end
end L2
namespace L2
open PySem PySem.Spec PyProof.Rows
section
variable{κ:Type}[DecidableEq κ]
def valV(kvs:List (κ×V))(k:κ):Option V:=(kvs.find? λkv=>decide (kv.1=k)).map (·.2)
def putK(kvs:List (κ×V))(k:κ)(v:V):List (κ×V) :=
 if(kvs.any λkv=>decide (kv.1=k))=true then kvs.map (λkv=>if kv.1=k then(kv.1,v) else kv) else kvs++[(k,v)]
def zb8{p:κ×V}{r:List (κ×V)}{k:κ}(e:p.1=k):valV (p::r) k=some p.2:=by simp[valV,Ut,e]
def zbh{p:κ×V}{r:List (κ×V)}{k:κ}(e:¬p.1=k):valV (p::r) k=valV r k:=by simp[valV,Ut,e]
theorem zgt(k:κ):∀kvs:List (κ×V),(kvs.any λkv=>decide (kv.1=k))=(valV kvs k).isSome
 |[]=>rfl
 |p::r=>by
  rw[Km]
  by_cases e:p.1=k
  ·simp only[zb8 e,decide_eq_true e,Bool.true_or,Option.isSome_some]
  ·rw[zbh e,decide_eq_false e,Bool.false_or];exact zgt k r
def zdm(kvs:List (κ×V))(k:κ)(v:V):(putK kvs k v).length≤kvs.length+1:=by
 unfold putK
 split
 ·rw[Qa];exact Wg _ _
 ·rw[Qp,Zd,Wv];exact Qf _
def zdw{kvs:List (κ×V)}{k:κ}(v:V)(h:valV kvs k=none):putK kvs k v=kvs++[(k,v)]:=by
 unfold putK
 rw[zgt,h]
 exact if_neg (by decide)
def RelO.isSome_eq(r:RelO o u):o.isSome=u.isSome:=by
 cases o with
 |none=>cases u with
  |none=>rfl
  |some _=>exact(show False from r).elim
 |some _=>cases u with
  |none=>exact(show False from r).elim
  |some _=>rfl
def RelO.getD(r:RelO o u)(rd:RelV d d'):RelV (o.getD d) (u.getD d'):=by
 cases o with
 |none=>cases u with
  |none=>exact rd
  |some _=>exact(show False from r).elim
 |some _=>cases u with
  |none=>exact(show False from r).elim
  |some _=>exact r
def KV.val{kvs:List (κ×V)}{vs:List (κ×Value)}(r:KV kvs vs)(k:κ):RelO (valV kvs k) (valueAt vs k):=by
 unfold KV at r
 induction r with
 |nil=>exact True.intro
 | @cons p q ps qs h t ih =>
  obtain⟨h1,h2⟩:=h
  by_cases e:p.1=k
  ·have e':q.1=k:=h1.symm.trans e
   have b:valueAt (q::qs) k=some q.2:=by simp[valueAt,Ut,e']
   rw[zb8 e,b];exact h2
  ·have e':¬ q.1=k:=fun z=>e (h1.trans z)
   have b:valueAt (q::qs) k=valueAt qs k:=by simp[valueAt,Ut,e']
   rw[zbh e,b];exact ih
def KV.any(r:KV kvs vs)(k:κ):(kvs.any λkv=>decide (kv.1=k))=vs.any λkv=>decide (kv.1=k):=by
 unfold KV at r
 induction r with
 |nil=>rfl
 |cons h t ih=>rw[Km,Km,ih,h.1]
def KV.repl(r:KV kvs vs)(k:κ)(ry:RelV y u) :
  KV (kvs.map λkv=>if kv.1=k then(kv.1,y) else kv) (vs.map λkv=>if kv.1=k then(kv.1,u) else kv):=by
 unfold KV at r ⊢
 induction r with
 |nil=>exact .nil
 |@cons p q ps qs h t ih =>
  rw[Qk,Qk]
  refine .cons ?_ ih
  obtain⟨h1,h2⟩:=h
  by_cases e:p.1=k
  ·rw[if_pos e,if_pos (h1.symm.trans e)];exact⟨h1,ry⟩
  ·rw[if_neg e,if_neg (λz=>e (h1.trans z))];exact⟨h1,h2⟩
def KV.put(r:KV kvs vs)(k:κ)(ry:RelV y u):KV (putK kvs k y) (stored vs k u):=by
 unfold putK stored
 rw[r.any k]
 by_cases e:(vs.any λkv=>decide (kv.1=k))=true
 ·rw[if_pos e,if_pos e];exact r.repl k ry
 ·rw[if_neg e,if_neg e];exact Paired.snoc r ⟨rfl,ry⟩
def KV.length{kvs:List (κ×V)}{vs:List (κ×Value)}(r:KV kvs vs):kvs.length=vs.length:=Zz r
end
def kV_is(r:RelV (kV k) u):(zan P w).is k u=true:=by
 cases k with
 |inl i=>obtain⟨t,e⟩:=(show ∃t,u=Value.int i t from r);subst e;exact mixKind_int P w i t
 |inr x=>obtain⟨t,e⟩:=(show ∃t,u=Value.str x t from r);subst e;exact zft P w x t
theorem items_are:∀{ks:List Key} {us:Ni},Vals (ks.map kV) us→ItemsAre (zan P w) ks us
 |[],_,r=>by rw[Ks]at r;cases r;exact .nil
 |k::ks,_,r=>by
  rw[Qk]at r
  cases r with
  |cons h t=>exact .cons (kV_is h) (items_are t)
abbrev KT(H:Hp):List (List Key×V)→List (List Key×Addr×Value)→Prop:=Paired λp q=>p.1=q.1∧H q.2.1=some (.tup (p.1.map kV))∧RelV p.2 q.2.2
def KT.val{H:Hp}{kvs:List (List Key×V)}{xs:List (List Key×Addr×Value)}(r:KT H kvs xs)(k:List Key):RelO (valV kvs k) ((atKey xs k).map (·.2)):=by
 induction r with
 |nil=>exact True.intro
 | @cons p q ps qs h t ih =>
  obtain⟨h1,_,h2⟩:=h
  by_cases e:p.1=k
  ·have e':q.1=k:=h1.symm.trans e
   have b:atKey (q::qs) k=some q.2:=by simp[atKey,Ut,e']
   rw[zb8 e,b];exact h2
  ·have e':¬ q.1=k:=fun z=>e (h1.trans z)
   have b:atKey (q::qs) k=atKey qs k:=by simp[atKey,Ut,e']
   rw[zbh e,b];exact ih
def KT.repl(r:KT H kvs xs)(k:List Key)(ry:RelV y u) :
  KT H (kvs.map λkv=>if kv.1=k then(kv.1,y) else kv) (xs.map (putAt k u)):=by
 induction r with
 |nil=>exact .nil
 |@cons p q ps qs h t ih =>
  rw[Qk,Qk]
  refine .cons ?_ ih
  obtain⟨h1,h2,h3⟩:=h
  unfold putAt
  by_cases e:p.1=k
  ·rw[if_pos e,if_pos (h1.symm.trans e)];exact⟨h1,h2,ry⟩
  ·rw[if_neg e,if_neg (λz=>e (h1.trans z))];exact⟨h1,h2,h3⟩
def KT.put(r:KT H kvs xs)(k:List Key)(hb:H b=some (.tup (k.map kV)))(ry:RelV y u) :
  KT H (putK kvs k y) (storedH xs k b u):=by
 have e:(kvs.any λkv=>decide (kv.1=k))=(atKey xs k).isSome:=by
  rw[zgt,(r.val k).isSome_eq,Option.isSome_map]
 unfold putK storedH
 rw[e]
 by_cases q:(atKey xs k).isSome=true
 ·rw[if_pos q,if_pos q];exact r.repl k ry
 ·rw[if_neg q,if_neg q];exact Paired.snoc r ⟨rfl,hb,ry⟩
def KT.keeps(r:KT H kvs xs)(ht:∀b ys,H b=some (.tup ys)→H' b=some (.tup ys)):KT H' kvs xs :=
 Paired.mapP r λ_ _ z=>⟨z.1,ht _ _ z.2.1,z.2.2⟩
section
variable{P:Nj}{w:Nk}{H:Hp}{h:Nm}{a:Nc}
def rd_of(ok:HOk P w H h)(e:Rd H a u):zbg P w H h a u:=e.ok ok
def dk_rd(ok:HOk P w H h)(e:Rd H a (.dK kvs)):kvs.length≤sizeLine∧(a==sysModules)=false∧∃vs,KV kvs vs∧h.DictOf (zan P w) a vs :=
 show zbg P w H h a (.dK kvs) from rd_of ok e
def dk_of(ok:HOk P w H h)(e:H a=some (.dK kvs)):kvs.length≤sizeLine∧(a==sysModules)=false∧∃vs,KV kvs vs∧h.DictOf (zan P w) a vs:=dk_rd ok (.inl e)
def key_of(ok:HOk P w H h)(e:H a=some (.tup (ks.map kV))):(tupleKind (zan P w)).is h ks a:=by
 obtain⟨_,a6,r,o,h1,h2,n,h3⟩:=(show zbg P w H h a (.tup (ks.map kV)) from ok a _ e)
 exact⟨o,a6.toArray,n,h1,h2,h3,by simpa using items_are r⟩
def dt_rd(ok:HOk P w H h)(e:Rd H a (.dT kvs)):kvs.length≤sizeLine∧(a == sysModules)=false ∧
  ∃xs,KT H kvs xs∧h.DictOfH (tupleKind (zan P w)) a xs:=by
 obtain⟨z,y,xs,r,o,es,ep,h1,h2,h3,h4,h5⟩:=(show zbg P w H h a (.dT kvs) from rd_of ok e)
 refine⟨z,y,xs,r,o,es,ep,h1,h2,h3,h4,λx hx=>?_,h5⟩
 have all:∀{l:List (List Key×V)} {m:List (List Key×Addr×Value)},KT H l m→∀x∈m,(tupleKind (zan P w)).is h x.1 x.2.1:=by
  intro l m q
  induction q with
  |nil=>intro x hx;exact nomatch hx
  | @cons p q ps qs hq t ih =>
   intro x hx
   rcases Qh.mp hx with e | hx
   ·subst e
    exact key_of ok (by rw[←hq.1];exact hq.2.1)
   ·exact ih x hx
 exact all r x hx
def dt_of(ok:HOk P w H h)(e:H a=some (.dT kvs)):kvs.length≤sizeLine∧(a==sysModules)=false ∧
  ∃xs,KT H kvs xs∧h.DictOfH (tupleKind (zan P w)) a xs:=dt_rd ok (.inl e)
end
def DGet(H:Hp)(a:Nc)(y:V)(r:Option V):Prop :=
 (∃kvs k,Rd H a (.dK kvs)∧y=kV k∧r=valV kvs k)∨∃kvs k b,Rd H a (.dT kvs)∧y=.ref b∧H b=some (.tup (k.map kV))∧r=valV kvs k
def DPut(H:Hp)(a:Nc)(y v:V)(H':Hp):Prop :=
 (∃kvs k,H a=some (.dK kvs)∧y=kV k∧kvs.length<sizeLine∧H'=upd H a (.dK (putK kvs k v))) ∨
 ∃kvs k b,H a=some (.dT kvs)∧y=.ref b∧H b=some (.tup (k.map kV))∧kvs.length<sizeLine∧H'=upd H a (.dT (putK kvs k v))
def DGet.k{H:Hp}{a:Nc}{kvs:List (Key×V)}{k:Key}(e:H a=some (.dK kvs)):DGet H a (kV k) (valV kvs k):=.inl ⟨kvs,k,.inl e,rfl,rfl⟩
def DGet.t{H:Hp}{a b:Nc}{kvs:List (List Key×V)}{k:List Key}(e:H a=some (.dT kvs))(eb:H b=some (.tup (k.map kV))):DGet H a (.ref b) (valV kvs k):=.inr ⟨kvs,k,b,.inl e,rfl,eb,rfl⟩
def DPut.k{H:Hp}{a:Nc}{kvs:List (Key×V)}{k:Key}{v:V}(e:H a=some (.dK kvs))(hl:kvs.length<sizeLine):DPut H a (kV k) v (upd H a (.dK (putK kvs k v))):=.inl ⟨kvs,k,e,rfl,hl,rfl⟩
def DPut.t{H:Hp}{a b:Nc}{kvs:List (List Key×V)}{k:List Key}{v:V}(e:H a=some (.dT kvs))(eb:H b=some (.tup (k.map kV)))(hl:kvs.length<sizeLine) :
  DPut H a (.ref b) v (upd H a (.dT (putK kvs k v))):=.inr ⟨kvs,k,b,e,rfl,eb,hl,rfl⟩
section
variable{X:Cx}{a5:Nd}{σ:St}{H:Hp}{s:Nh}{a:Nc}{y v:V}{u r:Value}{o:Option V}{A:Nn}{E:Nb}
def Inv.big(I:Inv X a5 σ H s):sysModules<s.heap.objs.size:=by
 have h:mainGlobals<s.heap.objs.size:=(I.mod.glob.keeps I.bk).lt
 exact Yy (by decide) h
def d_getItem(hu:A.units+1<cLine)(I:Inv X a5 σ H s)(g:DGet H a y (some v))(ry:RelV y u)(h:∀w' s',Inv X a5 σ H s'→RelV v w'→Q w' s') :
  wpAny (model X.prog X.w) A (getItem (.ref a) u) Q E s:=by
 rcases g with⟨kvs,k,e,ey,l⟩ | ⟨kvs,k,b,e,ey,eb,l⟩
 ·subst ey
  obtain⟨z,hd,vs,rel,dd⟩:=dk_rd I.hok e
  obtain⟨w',hw,cV⟩:=RelO.some_of (v:=v) (o:=valueAt vs k) (by rw[l];exact rel.val k)
  exact wpAny_getItem_of (kV_is ry) dd.mapOf hw (h w' _ (I.tok _) cV)
 ·subst ey
  cases(show u=Value.ref b from ry)
  obtain⟨z,hd,xs,rel,dd⟩:=dt_rd I.hok e
  obtain⟨w',hw,cV⟩:=RelO.some_of (v:=v) (o:=(atKey xs k).map (·.2)) (by rw[l];exact rel.val k)
  obtain⟨p,hp,aD⟩:=Option.map_eq_some_iff.mp hw
  refine wpAny_getItem_heap (tupleKind_room_in1 hu) (key_of I.hok eb) dd hp ?_
  rw[aD]
  exact h w' _ (I.tok _) cV
def d_notIn(hu:A.units+1<cLine)(I:Inv X a5 σ H s)(g:DGet H a y o)(ry:RelV y u)(h:∀s',Inv X a5 σ H s'→Q (.bool (!o.isSome)) s') :
  wpAny (model X.prog X.w) A (compareOp .NotIn u (.ref a)) Q E s:=by
 rcases g with⟨kvs,k,e,ey,l⟩ | ⟨kvs,k,b,e,ey,eb,l⟩
 ·subst ey
  obtain⟨z,hd,vs,rel,dd⟩:=dk_rd I.hok e
  refine wpAny_notIn_of (kV_is ry) hd dd.mapOf ?_
  rw[←(rel.val k).isSome_eq,←l]
  exact h _ (I.tok _)
 ·subst ey
  cases(show u=Value.ref b from ry)
  obtain⟨z,hd,xs,rel,dd⟩:=dt_rd I.hok e
  refine wpAny_notIn_heap (tupleKind_room_in1 hu) (key_of I.hok eb) hd dd ?_
  have q:=(rel.val k).isSome_eq
  rw[Option.isSome_map]at q
  rw[←q,←l]
  exact h _ (I.tok _)
def zhl(I:Inv X a5 σ H s)(mu:Mut (H a))(hs:Heap.SameBut a s.heap h')(he:∃q,h'.get? a=some q)(new:zbg X.prog X.w (upd H a ob) h' a ob) :
  Inv X a5 σ (upd H a ob) {s with heap:=h',toks:=t'} :=
 I.write (x:=a) (e:=a) mu (.inl rfl) (λb q hb z=>(hs.2 b hb).trans z) he new
def dk_new(z:kvs.length≤sizeLine)(hd:(a==sysModules)=false)(rel:KV kvs vs)(dd:h'.DictOf (zan P w) a vs) :
  zbg P w H' h' a (.dK kvs):=⟨z,hd,vs,rel,dd⟩
def d_setItem(hu:A.units+1<cLine)(I:Inv X a5 σ H s)(g:DPut H a y v H')(ry:RelV y u)(rv:RelV v r)(h:∀s',Inv X a5 σ H' s'→Q () s') :
  wpAny (model X.prog X.w) A (setItem (.ref a) u r) Q E s:=by
 rcases g with⟨kvs,k,e,ey,l,eH⟩ | ⟨kvs,k,b,e,ey,eb,l,eH⟩
 ·subst ey eH
  obtain⟨z,hd,vs,rel,dd⟩:=dk_of I.hok e
  have hz:vs.length≤sizeLine:=by rw[←rel.length];exact z
  have hl:(putK kvs k v).length≤sizeLine:=by have:=zdm kvs k v;exact Zj ‹_› ‹_›
  refine wpAny_setItem_pairs (hsz:=hz) (kV_is ry) dd λh' fU hs=>h _ ?_
  have he:∃q,h'.get? a=some q:=let⟨q,_,_,hq,_⟩:=fU;⟨q,hq⟩
  exact zhl I (by rw[e];exact True.intro) hs he (dk_new hl hd (rel.put k rv) fU)
 ·subst ey eH
  cases(show u=Value.ref b from ry)
  obtain⟨z,hd,xs,rel,dd⟩:=dt_of I.hok e
  have hz:xs.length≤sizeLine:=by rw[←Zz rel];exact z
  have hl:(putK kvs k v).length≤sizeLine:=by have:=zdm kvs k v;exact Zj ‹_› ‹_›
  refine wpAny_setItem_heap (hsz:=hz) (tupleKind_room_in1 hu) (key_of I.hok eb) dd λh' fU hs=>h _ ?_
  obtain⟨q,es,ep,hq,h2,h3,h4,_,h5⟩:=fU
  refine zhl I (by rw[e];exact True.intro) hs ⟨q,hq⟩ ⟨hl,hd,_,(rel.put k eb rv).keeps λc ys ec=>?_,q,es,ep,hq,h2,h3,h4,h5⟩
  rw[zad (za8 ec e (λz=>nomatch z))]
  exact ec
end
section
variable{X:Cx}{a5:Nd}{σ:St}{H:Hp}{s:Nh}{a:Nc}{kvs:List (Key×V)}{k:Key}{u:Value}{A:Nn}{E:Nb}
end
def NoSl(i:Expr):Prop:=∀ov iv,subscripted i false ov iv=operate [ov,iv] (getItem ov iv)
def subD_of{prog:Nj}{w:Nk}{A:Nn}{E:Nb}{s:Nh}{env:Env}{value slice:Expr}{pos:Pos}{T id:String}{Q:Nb}(hl:typeLookup (.type T) "__getitem__" = pure (some (.builtin id)))(hs:NoSl slice)(h:wpAny (model prog w) A (eval value env) (λo s₁=>wpAny (model prog w) A (eval slice env) (λi s₂=>s₂.TypeIs o T∧wpAny (model prog w) A (getItem o i) Q E s₂) E s₁) E s) :
  wpAny (model prog w) A (eval (.Subscript value slice pos) env) Q E s:=by
 refine Subscript_ (wpAny_mono h (λo s₁ h₁=>wpAny_mono h₁ (λi s₂ h₂=>?_) λ_ _ x=>x) λ_ _ x=>x)
 obtain⟨hT,h₂⟩:=h₂
 unfold subscriptTail
 refine wpAny_bind ?_
 rw[getitemInPython_of_ne hT.not_modules]
 refine wpAny_bind (wpAny_specialOf hT hl ?_)
 have fin:wpAny (model prog w) A (subscripted slice false o i) (λr s₃=>wpAny (model prog w) A (letTemporaryGo value o r >>= λ_=>pure r) Q E s₃) E s₂:=by
  rw[hs o i]
  exact wpAny_operating (wpAny_mono h₂ (λr s₃ h₃=>wpAny_bind (wpAny_letTemporaryGo (wpAny_pure h₃))) λ_ _ x=>x)
 first
  |exact wpAny_pure (wpAny_bind fin)
  |exact wpAny_bind (wpAny_pure (wpAny_bind fin))
  |exact wpAny_bind fin
def dict_typeIs(I:Inv X a5 σ H s)(g:DGet H a y o):s.TypeIs (.ref a) "dict" := by
 rcases g with⟨kvs,k,e,_,_⟩ | ⟨kvs,k,b,e,_,_,_⟩
 ·obtain ⟨_,_,vs,_,dd⟩:=dk_rd I.hok e
  exact dd.typeIs
 ·obtain ⟨_,_,xs,_,dd⟩:=dt_rd I.hok e
  exact dd.typeIs
inductive RDG(x y:V)(H:Hp)(Q:VK):Prop
 |mk (a:Nc) (v:V) (e:x=.ref a) (g:DGet H a y (some v)) (q:Q v H):RDG x y H Q
inductive RDI(x y:V)(H:Hp)(R:Option V→Prop):Prop
 |mk (a:Nc) (o:Option V) (e:x=.ref a) (g:DGet H a y o) (q:R o):RDI x y H R
inductive RDP(x y v:V)(H:Hp)(N:Hp→Prop):Prop
 |mk (a:Nc) (H4:Hp) (e:x=.ref a) (p:DPut H a y v H4) (q:N H4):RDP x y v H N
def tDGet(td ty:TE):TE:=λ σ H Q=>td σ H λx H1=>ty σ H1 λy H2=>RDG x y H2 Q
def tDNotIn(ty td:TE):TE:=λ σ H Q=>ty σ H λy H1=>td σ H1 λx H2=>RDI x y H2 λo=>Q (.bl (!o.isSome)) H2
def sDPut(td ty tv:TE):TS:=λD σ H=>tv σ H λv H1=>td σ H1 λx H2=>ty σ H2 λy H3=>RDP x y v H3 (D.nx σ)
section
variable{X:Cx}{o i e value:Expr}{pos aS tpos:Pos}{td ty tv:TE}
def pe_dget(hu:X.A.units+1<cLine)(ho:PE X o td)(hi:PE X i ty)(hs:NoSl i):PE X (.Subscript o i pos) (tDGet td ty):=by
 intro a5 s σ H Q I h
 refine subD_of PySem.F.slot_dict_getitem.lookup hs (thn (ho a5 s σ H _ I h) λu s1 ⟨x,H1,I1,rx,q1⟩=>thn (hi a5 s1 σ H1 _ I1 q1) λiv s2 ⟨y,H2,I2,ry,a,v,ex,g,q2⟩=>?_)
 subst ex
 obtain rfl:u=Value.ref a:=rx
 exact⟨dict_typeIs I2 g,d_getItem hu I2 g ry λw' s3 I3 cV=>⟨v,H2,I3,cV,q2⟩⟩
def zbv(hu:X.A.units+1<cLine)(hi:PE X i ty)(ho:PE X o td):PC X .NotIn i o (tDNotIn ty td):=by
 intro a5 s σ H Q I h
 refine thn (hi a5 s σ H _ I h) λiv s1 ⟨y,H1,I1,ry,q1⟩=>thn (ho a5 s1 σ H1 _ I1 q1) λu s2 ⟨x,H2,I2,rx,a,ov,ex,g,q2⟩=>?_
 subst ex
 obtain rfl:u=Value.ref a:=rx
 exact d_notIn hu I2 g ry λs3 I3=>⟨.bl (!ov.isSome),H2,I3,rfl,q2⟩
def zed(hu:X.A.units+1<cLine)(ho:PE X o td)(hi:PE X i ty)(hv:PE X value tv)(hs:swapsWith value (some (.Subscript o i aS)) pos.line X.env=pure false) :
  PS X (.Assign [.Subscript o i aS] value pos) (sDPut td ty tv):=by
 intro a5 s σ H D I h
 refine wpAny_Assign_Subscript (thn (hv a5 s σ H _ I h) λr s1 ⟨v,H1,I1,rv,q1⟩=>thn (ho a5 s1 σ H1 _ I1 q1) λu s2 ⟨x,H2,I2,rx,q2⟩=>thn (hi a5 s2 σ H2 _ I2 q2) λiv s3 ⟨y,H3,I3,ry,a,H4,ex,g,q3⟩=>?_) hs
 subst ex
 obtain rfl:u=Value.ref a:=rx
 exact d_setItem hu I3 g ry rv λs4 I4=>⟨σ,H4,I4,q3⟩
end
def dk_empty(h:Nm)(hb:sysModules<h.objs.size):zbg P w H (h.push {cls:=.type "dict",data:=.dict #[]}) h.objs.size (.dK []) :=
 ⟨Zn _,beq_eq_false_iff_ne.mpr (Zh (Zi hb)),[],.nil,Heap.DictOf.new h⟩
def dt_empty(h:Nm)(hb:sysModules<h.objs.size):zbg P w H (h.push {cls:=.type "dict",data:=.dict #[]}) h.objs.size (.dT []) :=
 ⟨Zn _,beq_eq_false_iff_ne.mpr (Zh (Zi hb)),[],.nil,_,#[],0,Zb _ rfl,⟨rfl,rfl,rfl⟩,rfl,rfl,Zq⟩
def tDNewK:TE:=λ_ H Q=>∀p,H p=none→Q (.ref p) (upd H p (.dK []))
def tDNewT:TE:=λ_ H Q=>∀p,H p=none→Q (.ref p) (upd H p (.dT []))
section
variable{X:Cx}{pos:Pos}
def pe_dnewK:PE X (.Dict [] [] pos) tDNewK:=λa5 s σ H Q I h =>
 wpAny_Dict_empty ⟨.ref s.heap.objs.size,_,I.laid (a:=s.heap.objs.size) (o:=.dK []) (t':=s.toks) (λ_ _ q=>Qg _ q) (Qf _) (dk_empty s.heap I.big),rfl,h _ (I.hok.fresh (Qf _))⟩
def pe_dnewT:PE X (.Dict [] [] pos) tDNewT:=λa5 s σ H Q I h =>
 wpAny_Dict_empty ⟨.ref s.heap.objs.size,_,I.laid (a:=s.heap.objs.size) (o:=.dT []) (t':=s.toks) (λ_ _ q=>Qg _ q) (Qf _) (dt_empty s.heap I.big),rfl,h _ (I.hok.fresh (Qf _))⟩
end
def tPairs:List (TE×TE)→St→Hp→(List (V×V)→Hp→Prop)→Prop
 |[],_,H,Q=>Q [] H
 |(tk,tv)::r,σ,H,Q=>tk σ H λx H1=>tv σ H1 λy H2=>tPairs r σ H2 λps H3=>Q ((x,y)::ps) H3
abbrev VV:List (V×V)→List (Value×Value)→Prop:=Paired λp q=>RelV p.1 q.1∧RelV p.2 q.2
def PPs(X:Cx)(pos:Pos)(keys:List (Option Expr))(values:Np)(trs:List (TE×TE)):Prop :=
 ∀(a5:Nd) (s:Nh) (σ:St) (H:Hp) (Q:List (V×V)→Hp→Prop),Inv X a5 σ H s→tPairs trs σ H Q →
  wpAny (model X.prog X.w) X.A (evalPairs (pairTrees keys values X.env pos)) (λvs s'=>∃ps H',Inv X a5 σ H' s'∧VV ps vs∧Q ps H') X.xe s
def pps_nil:PPs X pos [] [] []:=λa5 s σ H Q I h=>pairTrees_nil_walk ⟨[],H,I,.nil,h⟩
def zg9(hk:PE X k tk)(hv:PE X v tv)(hr:PPs X pos ks vs trs) :
  PPs X pos (some k::ks) (v::vs) ((tk,tv)::trs):=λa5 s σ H Q I h =>
 pairTrees_cons_walk (thn (hk a5 s σ H _ I h) λu s1 ⟨x,H1,I1,rx,q1⟩=>thn (hv a5 s1 σ H1 _ I1 q1) λw2 s2 ⟨y,H2,I2,ry,q2⟩ =>
  thn (hr a5 s2 σ H2 _ I2 q2) λws s3 ⟨ps,H3,I3,rel,q3⟩=>⟨(x,y)::ps,H3,I3,.cons ⟨rx,ry⟩ rel,q3⟩)
def zev(kvs more:List (Key×V)):List (Key×V):=more.foldl (λae kv=>putK ae kv.1 kv.2) kvs
def KV.merge:∀{more:List (Key×V)} {rs:List (Key×Value)} {kvs:List (Key×V)} {vs:List (Key×Value)},KV more rs→KV kvs vs→KV (zev kvs more) (merged vs rs):=by
 intro more rs kvs vs r
 unfold KV at r
 induction r generalizing kvs vs with
 |nil=>intro q;exact q
 | @cons p q ps qs h t ih =>
  intro r0
  have e:KV (putK kvs p.1 p.2) (stored vs q.1 q.2):=by
   have:=r0.put p.1 h.2
   rw[←h.1];exact this
  exact ih e
theorem zdz:∀(more kvs:List (Key×V)),(zev kvs more).length≤kvs.length+more.length
 |[],kvs=>by show kvs.length≤kvs.length+0;exact Qf _
 |p::r,kvs=>by
  have h1:=zdz r (putK kvs p.1 p.2)
  have h2:=zdm kvs p.1 p.2
  show(zev (putK kvs p.1 p.2) r).length≤_
  rw[Zd];lia
theorem zgm:∀{kvs:List (Key×V)} {ws:List (Value×Value)},VV (kvs.map λkv=>(kV kv.1,kv.2)) ws→∃rs,Carries (zan P w) ws rs∧KV kvs rs
 |[],_,r=>by rw[Ks]at r;cases r;exact⟨[],True.intro,.nil⟩
 | p::kvs,_,r=>by
  rw[Qk]at r
  cases r with
  |@cons a b as bs h t =>
   obtain⟨rs,c,q⟩:=zgm (P:=P) (w:=w) t
   obtain⟨b1,b2⟩:=b
   exact⟨(p.1,b2)::rs,⟨kV_is h.1,rfl,c⟩,.cons ⟨rfl,h.2⟩ q⟩
def tDisp(trs:List (TE×TE)):TE:=λ σ H Q=>∀p,H p=none→tPairs trs σ (upd H p (.dK [])) λps H2=>H2 p=some (.dK [])∧∃kvs:List (Key×V),ps=kvs.map (λkv=>(kV kv.1,kv.2))∧kvs.length≤15∧Q (.ref p) (upd H2 p (.dK (zev [] kvs)))
def pe_disp(h:PPs X pos keys values trs)(cj:keys.all (·.isSome)=true)(hl:keys.length=values.length)(h0:keys≠[])(h15:keys.length≤15):PE X (.Dict keys values pos) (tDisp trs):=by
 intro a5 s σ H Q I q
 have hn:=I.hok.fresh (Qf s.heap.objs.size)
 have I1:=I.laid (a:=s.heap.objs.size) (o:=.dK []) (h':=s.heap.push {cls:=.type "dict",data:=.dict #[]}) (t':=s.toks) (λ_ _ q=>Qg _ q) (Qf _) (dk_empty s.heap I.big)
 refine wpAny_Dict_walk (knd:=zan X.prog X.w) cj hl h0 h15 (thn (h a5 _ σ _ _ I1 (q _ hn)) λws s2 ⟨ps,H2,I2,rel,e,kvs,ep,lk,q2⟩=>?_)
 subst ep
 obtain⟨rs,c,rk⟩:=zgm (P:=X.prog) (w:=X.w) rel
 obtain⟨z,hd,vs0,r0,dd⟩:=dk_of I2.hok e
 cases r0
 refine⟨rs,c,dd,λh' fU hs=>⟨.ref s.heap.objs.size,_,?_,rfl,q2⟩⟩
 have hz:(zev [] kvs).length≤sizeLine:=by
  have h1:=zdz kvs []
  rw[Wv]at h1
  rw[sizeLine_eq];lia
 have he:∃q,h'.get? s.heap.objs.size=some q:=let⟨q,_,_,hq,_⟩:=fU;⟨q,hq⟩
 exact zhl I2 (by rw[e];exact True.intro) hs he (dk_new hz hd (rk.merge .nil) fU)
structure M2(X:Cx)(o:Expr)(m:Str)(apos:Pos)(e f:Expr)(cpos:Pos):Prop where
 base:attributeBase o m X.env (eval o X.env)=eval o X.env
 few:((backTo cpos (starEach [e,f] X.env)).all (λx=>!x.1)&&(backToKw cpos (keywordEach [] X.env)).all (λx=>x.1.isSome)
  && decide (([e,f]:List Expr).length+([]:List Keyword).length+(if([]:List Keyword).isEmpty then 0 else 1)<30))=true
 line:(apos.endLine==cpos.line)=true
 trees:backTo cpos (starEach [e,f] X.env)=[(false,eval e X.env),(false,eval f X.env)]
def IsD(H:Hp)(a:Nc):Prop:=(∃kvs,Rd H a (.dK kvs))∨∃kvs,Rd H a (.dT kvs)
def isD_at(I:Inv X a5 σ H s)(d:IsD H a) :
  s.TypeIs (.ref a) "dict" ∧ (∀b,Value.ref a=.ref b→∃ob,s.heap.get? b=some ob∧ob.dict=none)∧(a==sysModules)=false:=by
 rcases d with⟨kvs,e⟩ | ⟨kvs,e⟩
 ·obtain ⟨_,hd,vs,_,dd⟩:=dk_rd I.hok e
  refine⟨dd.typeIs,λb q=>?_,hd⟩
  cases q
  obtain⟨ob,_,_,h1,h2,_⟩:=dd
  exact⟨ob,h1,h2.2.1⟩
 ·obtain ⟨_,hd,xs,_,dd⟩:=dt_rd I.hok e
  refine⟨dd.typeIs,λb q=>?_,hd⟩
  cases q
  obtain⟨ob,_,_,h1,h2,_⟩:=dd
  exact⟨ob,h1,h2.2.1⟩
section
variable{X:Cx}{a5:Nd}{σ:St}{H:Hp}{s:Nh}{a:Nc}{y d:V}{u r:Value}{o:Option V}{A:Nn}{E:Nb}
def d_get2(hu:A.units+1<cLine)(I:Inv X a5 σ H s)(g:DGet H a y o)(ry:RelV y u)(rd:RelV d r)(h:∀w' s',Inv X a5 σ H s'→RelV (o.getD d) w'→Q w' s') :
  wpAny (model X.prog X.w) A (call (.builtin "dict.get") [.ref a,u,r]) Q E s:=by
 rcases g with⟨kvs,k,e,ey,l⟩ | ⟨kvs,k,b,e,ey,eb,l⟩
 ·subst ey
  obtain⟨z,hd,vs,rel,dd⟩:=dk_rd I.hok e
  refine call_meetsIn Kz dd.typeIs PySem.F.entry_dict_get (PySem.F.args_dict_get_3 _ _ _) (meets_dict_get_default (zan X.prog X.w) a (kV_is ry) hd r) ⟨_,dd.mapOf,h _ _ (I.tok _) ?_⟩
  rw[l]
  exact(rel.val k).getD rd
 ·subst ey
  cases(show u=Value.ref b from ry)
  obtain⟨z,hd,xs,rel,dd⟩:=dt_rd I.hok e
  refine call_meetsIn Kz dd.typeIs PySem.F.entry_dict_get (PySem.F.args_dict_get_3 _ _ _) (meetsH_dict_get_default (tupleKind (zan X.prog X.w)) a b hd r) ⟨tupleKind_room_in1 hu,k,xs,key_of I.hok eb,dd,h _ _ (I.tok _) ?_⟩
  rw[l]
  exact(rel.val k).getD rd
end
def tDGet2(td ty tx:TE):TE:=λ σ H Q=>td σ H λx H1=>∃a,x=.ref a∧IsD H1 a∧ty σ H1 λy H2=>tx σ H2 λz H3=>∃o,DGet H3 a y o∧Q (o.getD z) H3
section
variable{X:Cx}{o e f:Expr}{apos cpos:Pos}{td ty tx:TE}
def pe_dget2(hu:X.A.units+1<cLine)(ho:PE X o td)(he:PE X e ty)(hf:PE X f tx)(m:M2 X o "get" apos e f cpos):PE X (.Call (.Attribute o "get" apos) [e,f] [] cpos) (tDGet2 td ty tx):=by
 intro a5 s σ H Q I h
 refine wpAny_Call_method m.base m.few m.line PySem.F.plainAttrs_dict Kz PySem.F.type_dict_get (thn (ho a5 s σ H _ I h) λu s1 ⟨x,H1,I1,rx,a,ex,d,q1⟩=>?_)
 subst ex
 obtain rfl:u=Value.ref a:=rx
 obtain⟨t1,t2,_⟩:=isD_at I1 d
 refine⟨t1,t2,?_⟩
 rw[m.trees]
 refine Calls.callWith_builtin rfl (Calls.evalArgs_plain (Calls.spliced_cons (thn (he a5 s1 σ H1 _ I1 q1) λiv s2 ⟨y,H2,I2,ry,q2⟩ =>
  Calls.spliced_cons (thn (hf a5 s2 σ H2 _ I2 q2) λfv s3 ⟨z,H3,I3,rz,ov,g,q3⟩=>Calls.spliced_nil ?_))))
 exact d_get2 hu I3 g ry rz λw' s4 I4 cV=>⟨_,H3,I4,cV,q3⟩
end
section
variable{X:Cx}{a5:Nd}{σ:St}{H:Hp}{s:Nh}{a:Nc}{kvs:List (Key×V)}{A:Nn}{E:Nb}
end
section
variable{X:Cx}{a5:Nd}{σ:St}{H:Hp}{s:Nh}{a:Nc}{y:V}{u:Value}{A:Nn}{E:Nb}
end
end L2
namespace HT
open PySem PyProof.Rows
section
open PySem.SeqAt
open PySem.AutoSeq1 (wpAny_loadPart')
open PySem.MeetsSeq PySem.MeetsSeq2 PySem.MeetsSeq3
end
section
variable{prog:Nj}{w:Nk}{A:Nn}{E:Nb}{s:Nh}
def sIx(n d:Nat):Option Int→Nat
 |none=>d
 |some v=>if v<0 then(v+(n:Int)).toNat else min v.toNat n
def sIx_nat(n d k:Nat):sIx n d (some (k:Int))=min k n:=by
 show(if(k:Int)<0 then((k:Int)+(n:Int)).toNat else min (k:Int).toNat n)=min k n
 rw[if_neg (by lia),Uh]
end
end HT
namespace L2
open PySem PySem.Spec PyProof.Rows
abbrev TO:=St→Hp→(Option Int→Hp→Prop)→Prop
def PO(X:Cx)(e:Option Expr)(t:TO):Prop :=
 ∀(a5:Nd) (s:Nh) (σ:St) (H:Hp) (Q:Option Int→Hp→Prop),Inv X a5 σ H s→t σ H Q →
  wpAny (model X.prog X.w) X.A (evalPart e X.env) (λu s'=>∃o H',Inv X a5 σ H' s'∧IsPart u o∧Q o H') X.xe s
def tNoPart:TO:=λ_ H Q=>Q none H
inductive RPt(x:V)(R:Int→Prop):Prop
 |mk (i:Int) (e:x=.int i) (q:R i):RPt x R
def tPart(t:TE):TO:=λ σ H Q=>t σ H λx H1=>RPt x λi=>Q (some i) H1
section
variable{X:Cx}{e:Expr}{te:TE}{lo hi:Option Expr}{tl th:TO}{pos p2:Pos}
def zbx:PO X none tNoPart:=by
 intro a5 s σ H Q I h
 rw[evalPart_none]
 exact wpAny_pure ⟨none,H,I,.none,h⟩
def zb3(h:PE X e te):PO X (some e) (tPart te):=by
 intro a5 s σ H Q I hw
 rw[evalPart_some]
 refine thn (h a5 s σ H _ I hw) λu s1 ⟨x,H1,I1,r1,q1⟩=>?_
 obtain⟨i,rfl,q⟩:=q1
 obtain⟨t,rfl⟩:=r1
 exact⟨some i,H1,I1,.int i t,q⟩
def SlR(X:Cx)(r:V→Option Int→Option Int→Hp→VK→Prop):Prop :=
 ∀(a5:Nd) (s:Nh) (σ:St) (H:Hp) (x:V) (v vl vu:Value) (lo hi:Option Int) (sl:Nc) (Q:VK),Inv X a5 σ H s→RelV x v→s.heap.IsSliceOf sl vl vu .none→IsPart vl lo→IsPart vu hi→r x lo hi H Q →
  ∃T id,typeLookup (.type T) "__getitem__" = pure (some (.builtin id))∧s.TypeIs v T∧wpAny (model X.prog X.w) X.A (getItem v (.ref sl)) (EP X a5 σ Q) X.xe s
def tSl(r:V→Option Int→Option Int→Hp→VK→Prop)(te:TE)(tl th:TO):TE:=λ σ H Q=>te σ H λx H1=>tl σ H1 λl H2=>th σ H2 λu H3=>r x l u H3 Q
def zbt(hr:SlR X r)(he:PE X e te)(hl:PO X lo tl)(hu:PO X hi th):PE X (.Subscript e (.Slice lo hi none p2) pos) (tSl r te tl th):=by
 intro a5 s σ H Q I h
 refine Subscript_ (thn (he a5 s σ H _ I h) λv s1 ⟨x,H1,I1,r1,q1⟩=>?_)
 refine wpAny_Slice (thn (hl a5 s1 σ H1 _ I1 q1) λvl s2 ⟨l,H2,I2,pl,q2⟩=>thn (hu a5 s2 σ H2 _ I2 q2) λvu s3 ⟨u,H3,I3,pu,q3⟩=>?_)
 rw[evalPart_none]
 refine wpAny_pure ?_
 have I4:Inv X a5 σ H3 {s3 with heap:=s3.heap.push {cls:=.type "slice",data:=.fields #[vl,vu,.none]}}:=I3.kept (t':=s3.toks) λb ob q=>Qg _ q
 obtain⟨T,id,hT,ht,hg⟩:=hr a5 {s3 with heap:=s3.heap.push {cls:=.type "slice",data:=.fields #[vl,vu,.none]}} σ H3 x v vl vu l u s3.heap.objs.size Q I4 r1 (Heap.IsSliceOf.new ..) pl pu q3
 show wpAny (model X.prog X.w) X.A (subscriptTail e (.Slice lo hi none p2) v (.ref s3.heap.objs.size)) (EP X a5 σ Q) X.xe {s3 with heap:=s3.heap.push {cls:=.type "slice",data:=.fields #[vl,vu,.none]}}
 exact tail_any (ops:=[.ref s3.heap.objs.size,v]) ht hT hg (by with_unfolding_all rfl)
def cutV(xs:List V)(lo hi:Option Int):List V:=(xs.drop (HT.sIx xs.length 0 lo)).take (HT.sIx xs.length xs.length hi-HT.sIx xs.length 0 lo)
def zb5(xs:List V)(lo hi:Option Int):(cutV xs lo hi).length≤xs.length:=by
 unfold cutV
 rw[Zg,Uc]
 lia
end
end L2
namespace L2
open PySem PySem.Spec PyProof.Rows
def ixN(n:Nat)(i:Int):Option Nat:=if 0≤i then(if i<n then some i.toNat else none) else if -(n:Int)≤i then some (i+n).toNat else none
def atI{α:Type}(xs:List α)(i:Int):Option α:=(ixN xs.length i).bind λj=>xs[j]?
def ixN_seq(h:ixN n i=some j):seqIndex? i n=some j∧j<n∧-(n:Int)≤i∧i<n:=by
 unfold ixN at h
 by_cases h0:0≤i
 ·rw [if_pos h0] at h
  by_cases h1:i<n
  ·rw [if_pos h1] at h
   have e:i.toNat=j:=Qr h
   exact⟨by rw[seqIndex_of h0 h1,e],by lia,by lia,h1⟩
  ·rw[if_neg h1]at h;cases h
 ·rw [if_neg h0] at h
  by_cases h1:-(n:Int)≤i
  ·rw [if_pos h1] at h
   have e:(i+n).toNat=j:=Qr h
   exact⟨by rw[seqIndex_neg (by lia) h1,e],by lia,h1,by lia⟩
  ·rw[if_neg h1]at h;cases h
def atI_get{α:Type}{xs:List α}{i:Int}{v:α}(h:atI xs i=some v):∃j,seqIndex? i xs.length=some j∧xs[j]?=some v∧j<xs.length∧-(xs.length:Int)≤i∧i<xs.length:=by
 unfold atI at h
 cases e:ixN xs.length i with
 |none=>rw[e]at h;cases h
 |some j =>
  rw[e]at h
  obtain⟨h1,h2,h3,h4⟩:=ixN_seq e
  exact⟨j,h1,h,h2,h3,h4⟩
def zau{α:Type}{xs:List α}{j:Nat}{v:α}(h:xs[j]?=some v):atI xs (j:Int)=some v:=by
 have hj:j<xs.length:=(Ze.mp h).1
 have e:ixN xs.length (j:Int)=some j:=by
  unfold ixN
  rw[if_pos (by lia),if_pos (by exact zar9 ‹_›)];simp
 unfold atI;rw[e];exact h
def PlainIx(b:Expr):Prop:=∀o i,subscripted b false o i=operate [o,i] (getItem o i)
def IxR(X:Cx)(r:R2):Prop :=
 ∀(value slice:Expr) (a5:Nd) (s:Nh) (σ:St) (H:Hp) (x y:V) (v u:Value) (Q:VK),Inv X a5 σ H s→RelV x v→RelV y u→r x y H Q →
  subscripted slice false v u=operate [v,u] (getItem v u)→wpAny (model X.prog X.w) X.A (subscriptTail value slice v u) (EP X a5 σ Q) X.xe s
def MtR(X:Cx)(id:String)(r:V→List V→Hp→VK→Prop):Prop :=
 ∀(a5:Nd) (s:Nh) (σ:St) (H:Hp) (x:V) (xs:List V) (v:Value) (us:Ni) (Q:VK),Inv X a5 σ H s→RelV x v→Vals xs us→r x xs H Q →
  wpAny (model X.prog X.w) X.A (call (.builtin id) (v::us)) (EP X a5 σ Q) X.xe s
section
variable{X:Cx}{a b:Expr}{ta tb:TE}{pos:Pos}
def za6(hr:IxR X r)(ha:PE X a ta)(hb:PE X b tb)(hs:PlainIx b):PE X (.Subscript a b pos) (tOp r ta tb):=by
 intro a5 s σ H Q I h
 exact Subscript_ (binT ha hb I h λv u s2 x y H2 I2 rx ry q=>hr a b a5 s2 σ H2 x y v u Q I2 rx ry q (hs _ _))
inductive RrIxL(K:Na)(x:V)(y:V)(H:Hp)(Q:VK):Prop
 |mk (p:_) (xs:_) (i:_) (v:_) (h0:x=.ref p) (h1:y=.int i) (h2:SqL K H p xs) (h3:atI xs i=some v) (h4:Q v H):RrIxL K x y H Q
def rIxL(K:Na):R2:=λx y H Q=>RrIxL K x y H Q
inductive RrIxT(K:Na)(x:V)(y:V)(H:Hp)(Q:VK):Prop
 |mk (p:_) (xs:_) (i:_) (v:_) (h0:x=.ref p) (h1:y=.int i) (h2:SqT K H p xs) (h3:atI xs i=some v) (h4:Q v H):RrIxT K x y H Q
def rIxT(K:Na):R2:=λx y H Q=>RrIxT K x y H Q
inductive RrIxS(x:V)(y:V)(H:Hp)(Q:VK):Prop
 |mk (z:_) (i:_) (c:_) (h0:x=.str z) (h1:y=.int i) (h2:z.length≤sizeLine) (h3:atI z.cps.toList i=some c) (h4:Q (.str ⟨#[c]⟩) H):RrIxS  x y H Q
def rIxS:R2:=λx y H Q=>RrIxS  x y H Q
def zap:IxR X (rIxL X.K):=by
 intro value slice a5 s σ H x y v u Q I rx ry h hs
 obtain⟨p,xs,i,z,rfl,rfl,hq,he,q⟩:=h
 cases rx
 obtain⟨t,rfl⟩:=ry
 obtain⟨a6,r,pl,hz⟩:=I.list hq
 obtain⟨j,h1,h2,h3,h4,h5⟩:=atI_get he
 obtain⟨w,ew,cV⟩:=r.get h2
 have hl:=r.length
 have hn:=zdy
 have fin:EP X a5 σ Q w s:=⟨z,H,I,cV,q⟩
 by_cases h0:0≤i
 ·have hj:i.toNat=j:=by
   rw[seqIndex_of h0 h5]at h1
   exact Qr h1
  exact item_listR pl.isList h0 (by lia) (by rw[hj];simpa using ew) fin hs
 ·have hj:(i+(a6.toArray.size:Int)).toNat=j:=by
   rw[seqIndex_neg (by lia) h4]at h1
   rw[Qq,←hl]
   exact Qr h1
  exact subscriptTail_builtinR (x:=w) pl.isList.typeIs slot_list_getitem.lookup
   (wpAny_getItem_list_neg (Q:=λr s'=>r=w∧EP X a5 σ Q r s') pl.isList (by lia) (by rw[Qq]<;>lia) (by lia) (by rw[hj];simpa using ew) ⟨rfl,fin⟩) hs
def ix_tup:IxR X (rIxT X.K):=by
 intro value slice a5 s σ H x y v u Q I rx ry h hs
 obtain⟨p,xs,i,z,rfl,rfl,hq,he,q⟩:=h
 cases rx
 obtain⟨t,rfl⟩:=ry
 obtain⟨a6,r,pl,hz⟩:=I.tuple hq
 obtain⟨j,h1,h2,h3,h4,h5⟩:=atI_get he
 obtain⟨w,ew,cV⟩:=r.get h2
 have hl:=r.length
 have hn:=zdy
 have fin:EP X a5 σ Q w s:=⟨z,H,I,cV,q⟩
 exact subscriptTail_builtinR (x:=w) pl.typeIs slot_tuple_getitem.lookup
  (getItem_tuple (j:=j) (Q:=λr s'=>r=w∧EP X a5 σ Q r s') pl (by lia) (by lia) (by rw[Qq,←hl];exact h1) (by simpa using ew) ⟨rfl,fin⟩) hs
def ix_str:IxR X rIxS:=by
 intro value slice a5 s σ H x y v u Q I rx ry h hs
 obtain⟨z,i,c,rfl,rfl,hz,he,q⟩:=h
 obtain⟨t,rfl⟩:=rx
 obtain⟨t',rfl⟩:=ry
 obtain⟨j,h1,h2,h3,h4,h5⟩:=atI_get he
 have hl:z.cps.toList.length=z.length:=by simp[Str.length]
 rw[hl]at h1 h4 h5
 have hn:=zdy
 exact tail_any (typeIs_str s z t) slot_str_getitem.lookup (getItem_str (c:=c) (by
  have e1:decide (i < -(2 ^ 63:Int))=false:=decide_eq_false (by lia)
  have e2:decide (i≥2 ^ 63)=false:=decide_eq_false (by lia)
  rw[e1,e2,Bool.or_false]) (by rw[h1];simpa using h2) ⟨.str ⟨#[c]⟩,H,I.tok _,⟨_,rfl⟩,q⟩) hs
def mapSeq_set(a6:Ni)(n j:Nat)(u:Value):Obj.mapSeq (·.setIfInBounds j u) {cls:=.type "list",data:=.seq a6.toArray n}={cls:=.type "list",data:=.seq (a6.set j u).toArray n}:=by
 simp[Obj.mapSeq]
def Inv.lst{a5:Nd}{σ:St}{H:Hp}{s:Nh}{p:Nc}{xs:List V}(I:Inv X a5 σ H s)(h:H p=some (.lst xs)) :
  ∃(a6:Ni) (n:Nat),Vals xs a6∧s.heap.get? p=some {cls:=.type "list",data:=.seq a6.toArray n}∧xs.length≤sizeLine:=by
 obtain⟨z,a6,n,r,e⟩:=I.hok p _ h
 exact⟨a6,n,r,e,z⟩
def Inv.lstUpd{s:Nh}{xs ys:List V}{a6 its':Ni}{n n':Nat}{f:Obj→Obj}(I:Inv X a5 σ H s)(h:H p=some (.lst xs))(ho:s.heap.get? p=some {cls:=.type "list",data:=.seq a6.toArray n})(hf:f {cls:=.type "list",data:=.seq a6.toArray n}={cls:=.type "list",data:=.seq its'.toArray n'})(r:Vals ys its')(hz:ys.length≤sizeLine)(t:Nat) :
  Inv X a5 σ (upd H p (.lst ys)) {s with heap:=s.heap.update p f,toks:=t}:=by
 have e:(s.heap.update p f).get? p=some {cls:=.type "list",data:=.seq its'.toArray n'}:=by
  rw[Heap.get?_update_self f ho (by rw[hf]<;>rfl),hf]
 refine I.write (x:=p) (e:=p) (by rw[h];trivial) (.inl rfl) (λb u hb q=>(Ui _ _ (Zh hb)).trans q) ⟨_,e⟩ ?_
 exact⟨hz,its',n',r,e⟩
inductive RrSetL(o:V)(i:V)(v:V)(H:Hp)(Q:Hp→Prop):Prop
 |mk (p:_) (xs:_) (k:_) (j:_) (h0:o=.ref p) (h1:i=.int k) (h2:H p=some (.lst xs)) (h3:ixN xs.length k=some j) (h4:Q (upd H p (.lst (xs.set j v)))):RrSetL  o i v H Q
def rSetL:V→V→V→Hp→(Hp→Prop)→Prop:=λo i v H Q=>RrSetL  o i v H Q
def set_list:PSet X rSetL:=by
 intro a5 s σ H o i v ov iv u Q I ro ri rv h
 obtain⟨p,xs,k,j,rfl,rfl,hp,hj,q⟩:=h
 cases ro
 obtain⟨t,rfl⟩:=ri
 obtain⟨a6,n,r,ho,hz⟩:=I.lst hp
 obtain⟨h1,h2,h3,h4⟩:=ixN_seq hj
 have hl:=r.length
 have hn:=zdy
 have I':Inv X a5 σ (upd H p (.lst (xs.set j v))) {s with heap:=s.heap.update p (Obj.mapSeq (·.setIfInBounds j u))} :=
  I.lstUpd hp ho (mapSeq_set a6 n j u) (r.set rv j) (by rw[Wu];exact hz) s.toks
 by_cases h0:0≤k
 ·have hk:k.toNat=j:=by
   rw[seqIndex_of h0 h4]at h1
   exact Qr h1
  exact PySem.W.ki_setAt ho h0 (by lia) (by rw[Qq,←hl];exact h4) (by rw[hk];exact⟨_,I',q⟩)
 ·have hk:(k+(a6.toArray.size:Int)).toNat=j:=by
   rw[seqIndex_neg (by lia) h3]at h1
   rw[Qq,←hl]
   exact Qr h1
  exact PySem.W.ki_setBack ho (by lia) (by rw[Qq,←hl];exact h3) (by lia) (by rw[hk];exact⟨_,I',q⟩)
def slice_bounds(lo hi:Option Int)(n:Nat):(sliceBounds lo hi none n).1=((HT.sIx n 0 lo:Nat):Int)∧(sliceBounds lo hi none n).2.1=((HT.sIx n n hi:Nat):Int)∧(sliceBounds lo hi none n).2.2=1:=by
 refine⟨?_,?_,rfl⟩
 ·cases lo with
  |none=>simp[sliceBounds,HT.sIx]
  |some i =>
   simp only[sliceBounds,HT.sIx,Option.getD_none,show(1:Int)>0 by decide,if_true]
   by_cases h:i<0
   ·simp only[h,if_true]<;>lia
   ·simp only[h,if_false]<;>lia
 ·cases hi with
  |none=>simp[sliceBounds,HT.sIx]
  |some i =>
   simp only[sliceBounds,HT.sIx,Option.getD_none,show(1:Int)>0 by decide,if_true]
   by_cases h:i<0
   ·simp only[h,if_true]<;>lia
   ·simp only[h,if_false]<;>lia
def zgx(a6:Ni)(lo hi:Option Int):slicePick a6.toArray lo hi none=((a6.drop (HT.sIx a6.length 0 lo)).take (HT.sIx a6.length a6.length hi-HT.sIx a6.length 0 lo)).toArray:=by
 obtain⟨h1,h2,h3⟩:=slice_bounds lo hi a6.toArray.size
 unfold slicePick
 rw[h1,h2,h3]
 simp only[sliceRange_one,pick_run,Qq]<;>rfl
inductive RrSlL(K:Na)(x:V)(lo:Option Int)(hi:Option Int)(H:Hp)(Q:VK):Prop
 |mk (a:_) (xs:_) (h0:x=.ref a) (h1:SqL K H a xs) (h2:∀p,H p=none→Q (.ref p) (upd H p (.lst (cutV xs lo hi)))):RrSlL K x lo hi H Q
def rSlL(K:Na):V→Option Int→Option Int→Hp→VK→Prop:=λx lo hi H Q=>RrSlL K x lo hi H Q
def zcy:SlR X (rSlL X.K):=by
 intro a5 s σ H x v vl vu lo hi sl Q I rx hs pl pu h
 obtain⟨a,xs,rfl,hx,q⟩:=h
 cases rx
 obtain⟨a6,r,ht,hz⟩:=I.list hx
 have a9:=r.length
 refine⟨"list",_,slot_list_getitem.lookup,ht.isList.typeIs,?_⟩
 refine wpAny_getItem_list_slice ht.isList hs pl pu .none (by simp) ?_ (by rw[Qq]<;>exact zdn ‹_› ‹_›)
 rw[zgx,←a9]
 refine⟨.ref s.heap.objs.size,_,I.laid (t':=s.toks) (o:=.lst (cutV xs lo hi)) (λb ob q=>Qg _ q) (Qf _) ?_,rfl,q _ (I.hok.fresh (Qf _))⟩
 exact⟨Zj (zb5 xs lo hi) hz,_,0,(r.drop (HT.sIx xs.length 0 lo)).take (HT.sIx xs.length xs.length hi-HT.sIx xs.length 0 lo),Zb _ rfl⟩
def zcx:V→Bool
 |.non=>true
 |.bl _=>true
 |.int _=>true
 |.str _=>true
 |_=>false
def eqV:V→V→Bool
 |.non,.non=>true
 |.bl a,.bl b=>a==b
 |.bl a,.int b=>(if a then 1 else 0)==b
 |.int a,.bl b=>a==(if b then 1 else 0)
 |.int a,.int b=>a==b
 |.str a,.str b=>a==b
 |_,_=>false
def eqAt_V(ry:RelV y u)(rx:RelV x v)(fy:zcx y=true)(fx:zcx x=true):SeqAt.EqAt A s u v (eqV y x):=by
 cases y with
 |non =>
  cases ry
  cases x with
  |non=>cases rx;exact SeqAt.EqAt.same _
  |bl b=>cases rx;exact SeqAt.EqAt.none_bool b
  |int b=>obtain⟨t,rfl⟩:=rx;exact SeqAt.EqAt.none_int b t
  |str b=>obtain⟨t,rfl⟩:=rx;exact SeqAt.EqAt.none_str b t
  |_=>exact absurd (show false=true from fx) Za
 |bl a =>
  cases ry
  cases x with
  |non=>cases rx;exact SeqAt.EqAt.bool_none a
  |bl b=>cases rx;exact SeqAt.EqAt.bool_bool a b
  |int b=>obtain⟨t,rfl⟩:=rx;exact SeqAt.EqAt.bool_int a b t
  |str b=>obtain⟨t,rfl⟩:=rx;exact SeqAt.EqAt.bool_str a b t
  |_=>exact absurd (show false=true from fx) Za
 |int a =>
  obtain⟨t',rfl⟩:=ry
  cases x with
  |non=>cases rx;exact SeqAt.EqAt.int_none a t'
  |bl b=>cases rx;exact SeqAt.EqAt.int_bool a t' b
  |int b=>obtain⟨t,rfl⟩:=rx;exact SeqAt.EqAt.int_int a t' b t
  |str b=>obtain⟨t,rfl⟩:=rx;exact SeqAt.EqAt.int_str a t' b t
  |_=>exact absurd (show false=true from fx) Za
 |str a =>
  obtain⟨t',rfl⟩:=ry
  cases x with
  |non=>cases rx;exact SeqAt.EqAt.str_none a t'
  |bl b=>cases rx;exact SeqAt.EqAt.str_bool a t' b
  |int b=>obtain⟨t,rfl⟩:=rx;exact SeqAt.EqAt.str_int a t' b t
  |str b=>obtain⟨t,rfl⟩:=rx;exact SeqAt.EqAt.str_str a t' b t
  |_=>exact absurd (show false=true from fx) Za
 |_=>exact absurd (show false=true from fy) Za
def eqU(x:V)(u:Value):Bool:=match u with
 |.none=>eqV .non x
 |.bool b=>eqV (.bl b) x
 |.int i _=>eqV (.int i) x
 |.str z _=>eqV (.str z) x
 |_=>false
def eqU_of(r:RelV y u)(f:zcx y=true):eqU x u=eqV y x:=by
 cases y with
 |non=>cases r;rfl
 |bl b=>cases r;rfl
 |int i=>obtain⟨t,rfl⟩:=r;rfl
 |str z=>obtain⟨t,rfl⟩:=r;rfl
 |_=>exact absurd (show false=true from f) Za
theorem zf3:∀{xs:List V} {us:Ni},Vals xs us→xs.all zcx=true→us.any (eqU x)=xs.any λy=>eqV y x
 |_,_,.nil,_=>rfl
 |y::xs,u::us,.cons r t,f=>by
  rw[List.all_cons,Jh]at f
  rw[Km,Km,eqU_of r f.1,zf3 t f.2]
theorem zda(rx:RelV x v)(fx:zcx x=true):∀{xs:List V} {us:Ni},Vals xs us→xs.all zcx=true→∀u∈us,SeqAt.EqAt A s u v (eqU x u)
 |_,_,.nil,_=>λu hu=>by cases hu
 |y::xs,u::us,.cons r t,f=>λu' hu=>by
  rw[List.all_cons,Jh]at f
  rcases Qh.mp hu with rfl | hu
  ·rw[eqU_of r f.1];exact eqAt_V r rx f.1 fx
  ·exact zda rx fx t f.2 u' hu
def inV(x:V)(xs:List V):Bool:=xs.any λy=>eqV y x
inductive RrIn(K:Na)(neg:Bool)(x:V)(y:V)(H:Hp)(Q:VK):Prop
 |mk (p:_) (xs:_) (h0:y=.ref p) (h1:(SqL K H p xs∨SqT K H p xs)) (h2:zcx x=true) (h3:xs.all zcx=true) (h4:Q (.bl (if neg then !inV x xs else inV x xs)) H):RrIn K neg x y H Q
def rIn(K:Na)(neg:Bool):R2:=λx y H Q=>RrIn K neg x y H Q
def op_in_seq:OpR X (compareOp .In) (rIn X.K false):=by
 intro a5 s σ H x y v u Q I rx ry h
 obtain⟨p,xs,rfl,hq,fx,fs,q⟩:=h
 cases ry
 rcases hq with hq | hq
 ·obtain ⟨a6,r,pl,hz⟩:=I.list hq
  refine SeqAt.in_listAt (eqU x) pl.isList (λw hw=>zda rx fx r fs w (by simpa using hw)) ⟨.bl _,H,I,rfl,?_⟩
  rw[show a6.toArray.any (eqU x)=a6.any (eqU x) by simp,zf3 r fs]
  exact q
 ·obtain ⟨a6,r,pl,hz⟩:=I.tuple hq
  refine SeqAt.in_tupleAt (eqU x) pl (λw hw=>zda rx fx r fs w (by simpa using hw)) ⟨.bl _,H,I,rfl,?_⟩
  rw[show a6.toArray.any (eqU x)=a6.any (eqU x) by simp,zf3 r fs]
  exact q
def zc1:OpR X (compareOp .NotIn) (rIn X.K true):=by
 intro a5 s σ H x y v u Q I rx ry h
 obtain⟨p,xs,rfl,hq,fx,fs,q⟩:=h
 cases ry
 rcases hq with hq | hq
 ·obtain ⟨a6,r,pl,hz⟩:=I.list hq
  refine SeqAt.notIn_listAt (eqU x) pl.isList (λw hw=>zda rx fx r fs w (by simpa using hw)) ⟨.bl _,H,I,rfl,?_⟩
  rw[show a6.toArray.any (eqU x)=a6.any (eqU x) by simp,zf3 r fs]
  exact q
 ·obtain ⟨a6,r,pl,hz⟩:=I.tuple hq
  refine SeqAt.notIn_tupleAt (eqU x) pl (λw hw=>zda rx fx r fs w (by simpa using hw)) ⟨.bl _,H,I,rfl,?_⟩
  rw[show a6.toArray.any (eqU x)=a6.any (eqU x) by simp,zf3 r fs]
  exact q
def zam:zbz X (.builtin "len") (λxs H Q=>Ex2 λp ys=>Aj3 (xs=[.ref p]) ((SqL X.K H p ys)∨( SqT X.K H p ys)) (Q (.int ys.length) H)):=by
 intro a5 s σ H xs us Q I r h
 obtain⟨p,ys,rfl,hq,q⟩:=h
 obtain⟨u,rfl,rx⟩:=vals1 r
 cases rx
 have hn:=zdy
 rcases hq with hq | hq
 ·obtain ⟨a6,r',pl,hz⟩:=I.list hq
  have a9:=r'.length
  exact Calls.call_len_list pl.isList (by simp only[Qq]<;>lia) ⟨.int ys.length,H,I.tok _,⟨s.toks+1,by rw[Qq,a9]⟩,q⟩
 ·obtain ⟨a6,r',pl,hz⟩:=I.tuple hq
  have a9:=r'.length
  exact len_tuple pl (by simp only[Qq]<;>lia) ⟨.int ys.length,H,I.tok _,⟨s.toks+1,by rw[Qq,a9]⟩,q⟩
def zbw:zbz X (.builtin "len") (λxs H Q=>Ex1 λz=>Aj3 (xs=[.str z]) (z.length≤sizeLine) (Q (.int z.length) H)):=by
 intro a5 s σ H xs us Q I r h
 obtain⟨z,rfl,hz,q⟩:=h
 obtain⟨u,rfl,t,rfl⟩:=vals1 r
 have hn:=zdy
 exact len_str (by lia) ⟨.int z.length,H,I.tok _,⟨_,rfl⟩,q⟩
def zey:zbz X (.type "list") (λxs H Q=>Ex2 λp ys=>Aj3 (xs=[.ref p]) ((SqL X.K H p ys)∨( SqT X.K H p ys)) (∀l,H l=none→Q (.ref l) (upd H l (.lst ys)))):=by
 intro a5 s σ H xs us Q I r h
 obtain⟨p,ys,rfl,hq,q⟩:=h
 obtain⟨u,rfl,rx⟩:=vals1 r
 cases rx
 have fin:∀(a6:Ni),Vals ys a6→ys.length≤sizeLine→∀(h':Nm) (c':Nat),(∀b o',s.heap.get? b=some o'→h'.get? b=some o') →
   h'.get? s.heap.objs.size=some {cls:=.type "list",dict:=none,data:=.seq a6.toArray c',slots:=#[]}→EP X a5 σ Q (.ref s.heap.objs.size) {s with heap:=h'}:=λa6 r' hz h' c' kp e =>
  ⟨.ref s.heap.objs.size,_,I.laid (t':=s.toks) kp (Qf _) (show zbg X.prog X.w _ h' _ (.lst ys) from⟨hz,a6,c',r',e⟩),rfl,q _ (I.hok.fresh (Qf _))⟩
 rcases hq with hq | hq
 ·obtain ⟨a6,r',pl,hz⟩:=I.list hq
  have a9:=r'.length
  obtain⟨o,ho,hc,n,hd⟩:=pl.isList
  exact call_list_seq p (.inl rfl) ho hc hd (λh' c' kp e=>fin a6 r' hz h' c' kp e) (by simp only[Qq]<;>exact zdn ‹_› ‹_›)
 ·obtain ⟨a6,r',pl,hz⟩:=I.tuple hq
  have a9:=r'.length
  obtain⟨o,ho,hc,n,hd⟩:=pl
  exact call_list_seq p (.inr rfl) ho hc hd (λh' c' kp e=>fin a6 r' hz h' c' kp e) (by simp only[Qq]<;>exact zdn ‹_› ‹_›)
def zhr:zbz X (.type "tuple") (λxs H Q=>Ex2 λp ys=>Aj2 (xs=[.ref p]) ((Aj2 (SqL X.K H p ys) (∀l,H l=none→Q (.ref l) (upd H l (.tup ys))))∨(Aj2 (SqT X.K H p ys) (Q (.ref p) H)))):=by
 intro a5 s σ H xs us Q I r h
 obtain⟨p,ys,rfl,h⟩:=h
 obtain⟨u,rfl,rx⟩:=vals1 r
 cases rx
 rcases h with⟨hq,q⟩ | ⟨hq,q⟩
 ·obtain ⟨a6,r',pl,hz⟩:=I.list hq
  have a9:=r'.length
  refine call_tuple_list pl.isList (λh' kp=>?_) (by simp only[Qq]<;>exact zdn ‹_› ‹_›)
  have I1:Inv X a5 σ H {s with heap:=h'}:=I.kept (t':=s.toks) kp
  have I2:Inv X a5 σ (upd H h'.objs.size (.tup ys)) {s with heap:=h'.push {cls:=.type "tuple",data:=.seq a6.toArray}} :=
   I1.laid (t':=s.toks) (λb o e=>Qg _ e) (Qf _) (show zbg X.prog X.w _ _ _ (.tup ys) from⟨hz,a6,r',IsTup.new _ _⟩)
  exact⟨.ref h'.objs.size,_,I2,rfl,q _ (I1.hok.fresh (Qf _))⟩
 ·obtain ⟨a6,r',pl,hz⟩:=I.tuple hq
  exact call_tuple_same pl ⟨.ref p,H,I,rfl,q⟩
def tyV(K:Na)(T:String)(x:V)(H:Hp):Prop:=match x with
 |.str _=>T = "str"
 |.int _=>T = "int"
 | .ref p=>(T = "list" ∧ ∃ xs,SqL K H p xs)∨(T = "tuple" ∧ ∃ o,K.lookup p=some o∧o.cls=.type "tuple" ∧ o.dict=none) ∨
   (T = "dict" ∧ ((∃kvs,H p=some (.dK kvs))∨∃kvs,H p=some (.dT kvs)))∨(T = "set" ∧ ∃S n,H p=some (.set S n))
 |_=>False
def tyV_is(I:Inv X a5 σ H s)(r:RelV x v)(ty:tyV X.K T x H) :
  s.TypeIs v T∧∀a,v=.ref a→∃ob,s.heap.get? a=some ob∧ob.dict=none:=by
 cases x with
 |str z =>
  obtain⟨t,rfl⟩:=r
  cases(show T = "str" from ty)
  exact⟨typeIs_str s z t,λ_ e=>nomatch e⟩
 |int i =>
  obtain⟨t,rfl⟩:=r
  cases(show T = "int" from ty)
  exact⟨typeIs_int s i t,λ_ e=>nomatch e⟩
 | ref p =>
  cases r
  rcases ty with⟨rfl,xs,hq⟩ | ⟨rfl,o,hk,hc,hd⟩ | ⟨rfl,hk⟩ | ⟨rfl,S,n,hk⟩
  ·obtain ⟨a6,_,pl,_⟩:=I.list hq
   refine⟨pl.isList.typeIs,λa e=>?_⟩
   cases e
   obtain⟨o,n,e,c,hd,_⟩:=pl
   exact⟨o,e,hd⟩
  ·refine ⟨⟨o,I.kIn p o hk,hc⟩,fun a e=>?_⟩
   cases e
   exact⟨o,I.kIn _ o hk,hd⟩
  ·have z:∃ o,s.heap.get? p=some o∧o.ExactDict:=by
    rcases hk with⟨kvs,hk⟩ | ⟨kvs,hk⟩
    ·obtain ⟨_,_,_,_,o,_,_,e,ex,_⟩:=I.hok p _ hk
     exact⟨o,e,ex⟩
    ·obtain ⟨_,_,_,_,o,_,_,e,ex,_⟩:=I.hok p _ hk
     exact⟨o,e,ex⟩
   obtain⟨o,e,ex⟩:=z
   refine⟨⟨o,e,ex.1⟩,λa e2=>?_⟩
   cases e2
   exact⟨o,e,ex.2.1⟩
  ·obtain ⟨o,_,_,_,e,ex,_⟩:=I.hok p _ hk
   refine⟨⟨o,e,ex.1⟩,λa e2=>?_⟩
   cases e2
   exact⟨o,e,ex.2.1⟩
 |_=>exact False.elim ty
def tBM0(K:Na)(T:String)(r:V→List V→Hp→VK→Prop)(to:TE):TE:=λ σ H Q=>to σ H λx H1=>tyV K T x H1∧r x [] H1 Q
def tBM(K:Na)(T:String)(r:V→List V→Hp→VK→Prop)(to:TE)(t:TA):TE:=λ σ H Q=>to σ H λx H1=>tyV K T x H1∧t σ H1 λxs H2=>r x xs H2 Q
variable{o e:Expr}{es:Np}{to:TE}{t:TA}{name:Str}{apos cpos:Pos}{T id:String}{r:V→List V→Hp→VK→Prop}
def pe_bm0(pa:PlainAttrs T)(slot:Slot T name id)(oR:typeOf (.builtin id)=pure (.type "method_descriptor"))(hm:MtR X id r)(ho:PE X o to)(eZ:attributeBase o name X.env (eval o X.env)=eval o X.env:=by rfl)(dU:(apos.endLine==cpos.line)=true:=by rfl):PE X (.Call (.Attribute o name apos) [] [] cpos) (tBM0 X.K T r to):=by
 intro a5 s σ H Q I h
 refine wpAny_Call_method0_late eZ dU (thn (ho a5 s σ H _ I h) λv s1 ⟨x,H1,I1,r1,ty,q1⟩=>?_)
 obtain⟨h1,h2⟩:=tyV_is I1 r1 ty
 exact⟨T,id,pa,slot,oR,h1,h2,Calls.callWith_builtin rfl (PySem.evalArgs_none (hm a5 s1 σ H1 x [] v [] Q I1 r1 .nil q1))⟩
def zch(pa:PlainAttrs T)(slot:Slot T name id)(oR:typeOf (.builtin id)=pure (.type "method_descriptor"))(hm:MtR X id r)(ho:PE X o to)(ha:PA X (e::es) t)(eZ:attributeBase o name X.env (eval o X.env)=eval o X.env:=by rfl)(qD:((backTo cpos (starEach (e::es) X.env)).all (fun x=>!x.1) && (backToKw cpos (keywordEach [] X.env)).all (fun x=>x.1.isSome)
   && decide ((e::es).length+([]:List Keyword).length+(if([]:List Keyword).isEmpty then 0 else 1)<30))=true:=by rfl)(dU:(apos.endLine==cpos.line)=true:=by rfl)(hs:starEach (e::es) X.env=(false,eval e X.env)::starEach es X.env:=by rfl)(iG:(backTo cpos (starEach es X.env)).any (·.1)=false:=by rfl) :
  PE X (.Call (.Attribute o name apos) (e::es) [] cpos) (tBM X.K T r to t):=by
 intro a5 s σ H Q I h
 refine wpAny_Call_method_late eZ qD dU rfl (thn (ho a5 s σ H _ I h) λv s1 ⟨x,H1,I1,r1,ty,q1⟩=>?_)
 obtain⟨h1,h2⟩:=tyV_is I1 r1 ty
 refine⟨T,id,pa,slot,oR,h1,h2,?_⟩
 have hA:=ha cpos a5 s1 σ H1 _ I1 q1
 rw[hs]at hA ⊢
 refine Calls.callWith_builtin (by show(false||(backTo cpos (starEach es X.env)).any (·.1))=false;rw[iG]<;>rfl) (Calls.evalArgs_plain ?_)
 exact thn hA λus s2 ⟨vs,H2,I2,r2,q2⟩=>hm a5 s2 σ H2 x vs v us Q I2 r1 r2 q2
end
end L2
namespace L2
open PySem PySem.Spec PyProof.Rows
def MtM(X:Cx)(id:String)(r:V→List V→Hp→VK→Prop):Prop :=
 ∀(a5:Nd) (s:Nh) (σ:St) (H:Hp) (x:V) (xs:List V) (v:Value) (us:Ni) (Q:VK),Inv X a5 σ H s→RelV x v→Vals xs us→r x xs H Q →
  wpAny (model X.prog X.w) X.A (call (.builtin id) (v::us)) (EP X a5 σ Q) X.xe s
theorem Vals.one:∀{x:V} {us:Ni},Vals [x] us→∃u,us=[u]∧RelV x u
 |_,_,.cons r .nil=>⟨_,rfl,r⟩
theorem Vals.two:∀{x y:V} {us:Ni},Vals [x,y] us→∃u v,us=[u,v]∧RelV x u∧RelV y v
 |_,_,_,.cons r (.cons q .nil)=>⟨_,_,rfl,r,q⟩
theorem Vals.zero:∀{us:Ni},Vals [] us→us=[]
 |_,.nil=>rfl
def Vals.dropLast{xs:List V}{us:Ni}(h:Vals xs us):Vals xs.dropLast us.dropLast:=by
 induction h with
 |nil=>exact .nil
 |cons r t ih =>
  cases t with
  |nil=>exact .nil
  |cons q t'=>exact .cons r ih
def Vals.reverse{xs:List V}{us:Ni}(h:Vals xs us):Vals xs.reverse us.reverse:=by
 induction h with
 |nil=>exact .nil
 |cons r t ih=>rw[Kg,Kg];exact Vals.append ih (.cons r .nil)
def erase_last{α:Type}(l:List α):l.eraseIdx (l.length - 1)=l.dropLast:=by
 induction l with
 |nil=>rfl
 | cons a r ih =>
  cases r with
  |nil=>rfl
  | cons b r =>
   have e:(a::b::r).length-1=((b::r).length-1)+1:=by
    have h1:(a::b::r).length=r.length+2:=rfl
    have h2:(b::r).length=r.length+1:=rfl
    assumption
   rw[e,List.eraseIdx_cons_succ,ih]
   all_goals rfl
section
variable{X:Cx}{a5:Nd}{σ:St}{H:Hp}{s:Nh}{l b:Nc}{xs ys zs:List V}
def Inv.lset{a6 its':Ni}{n:Nat}{f:Array Value→Array Value}{t':Nat}(I:Inv X a5 σ H s)(hH:H l=some (.lst xs))(e:s.heap.get? l=some {cls:=.type "list",data:=.seq a6.toArray n})(hf:f a6.toArray=its'.toArray)(hv:Vals ys its')(hz:ys.length≤sizeLine) :
  Inv X a5 σ (upd H l (.lst ys)) {s with heap:=s.heap.update l (Obj.mapSeq f),toks:=t'}:=by
 have q:=PySem.IsL.update e f
 rw[hf]at q
 refine I.write (x:=l) (e:=l) (by rw[hH];exact trivial) (.inl rfl) (λb' u hb hu=>(Ui s.heap (Obj.mapSeq f) (Zh hb)).trans hu) ⟨_,q⟩ ?_
 exact⟨hz,its',_,hv,q⟩
def Inv.lnew(I:Inv X a5 σ H s)(hv:Vals ys a6)(hz:ys.length≤sizeLine) :
  Inv X a5 σ (upd H s.heap.objs.size (.lst ys)) {s with heap:=s.heap.push {cls:=.type "list",data:=.seq a6.toArray},toks:=t'} :=
 I.laid (λ_ _ q=>Qg _ q) (Qf _) ⟨hz,a6,0,hv,Zb _ rfl⟩
def Inv.fresh(I:Inv X a5 σ H s):H s.heap.objs.size=none:=I.hok.fresh (Qf _)
def Inv.lstM(I:Inv X a5 σ H s)(hH:H l=some (.lst xs)):xs.length≤sizeLine∧∃(a6:Ni) (n:Nat),Vals xs a6∧xs.length=a6.length∧s.heap.get? l=some {cls:=.type "list",data:=.seq a6.toArray n}:=by
 obtain⟨z,a6,n,r,e⟩:=I.hok l _ hH
 exact⟨z,a6,n,r,r.length,e⟩
def notLongL{n:Nat}(h:n≤sizeLine):Builtin.List.listTooLong n=false:=by
 unfold Builtin.List.listTooLong
 exact decide_eq_false (by lia)
end
section
variable{X:Cx}
inductive RrAppend(x:V)(vs:List V)(H:Hp)(Q:VK):Prop
 |mk (l:_) (xs:_) (y:_) (h0:x=.ref l) (h1:vs=[y]) (h2:H l=some (.lst xs)) (h3:xs.length<sizeLine) (h4:Q .non (upd H l (.lst (xs++[y])))):RrAppend  x vs H Q
def rAppend:V→List V→Hp→VK→Prop:=λx vs H Q=>RrAppend  x vs H Q
def zbc:MtM X "list.append" rAppend:=by
 intro a5 s σ H x vs v us Q I rx rv h
 obtain⟨l,xs,y,rfl,rfl,hH,hz,q⟩:=h
 cases rx
 obtain⟨u,rfl,ru⟩:=rv.one
 obtain⟨z,a6,n,r,hl,e⟩:=I.lstM hH
 refine call_meets F.slot_list_append ⟨_,e,rfl⟩ F.entry_list_append (F.args_list_append_2 _ _) (PySem.list_append l a6.toArray n u (by rw[Qq];exact zdn ‹_› ‹_›)) ⟨e,?_⟩
 refine⟨.non,_,I.lset (its':=a6++[u]) hH e (by simp) (r.append (.cons ru .nil)) ?_,rfl,q⟩
 rw[Qp,Xc]
 assumption
def rExtend:V→List V→Hp→VK→Prop:=λx vs H Q=>∃l b xs zs,x=.ref l∧vs=[.ref b]∧H l=some (.lst xs)∧H b=some (.lst zs)∧xs.length+zs.length≤sizeLine∧Q .non (upd H l (.lst (xs++zs)))
def mt_extend:MtM X "list.extend" rExtend:=by
 intro a5 s σ H x vs v us Q I rx rv h
 obtain⟨l,b,xs,zs,rfl,rfl,hH,hB,hz,q⟩:=h
 cases rx
 obtain⟨u,rfl,ru⟩:=rv.one
 cases ru
 obtain⟨z,a6,n,r,hl,e⟩:=I.lstM hH
 obtain⟨z2,aK,n2,r2,ax,e2⟩:=I.lstM hB
 have hsz:a6.toArray.size+aK.toArray.size≤sizeLine:=by rw[Qq,Qq];lia
 have lf:¬(!a6.toArray.isEmpty&&Builtin.List.listTooLong (a6.toArray.size+aK.toArray.size))=true:=by
  rw[notLongL hsz,Bool.and_false]
  exact Za
 refine call_meets F.slot_list_extend ⟨_,e,rfl⟩ F.entry_list_extend (F.args_list_extend_2 _ _)
  (AutoSeq1.list_extend_list_list_0 l a6.toArray n b aK.toArray n2 lf (by rw[Qq];lia) (by exact zar16 ‹_›)) ⟨e,e2,?_⟩
 refine⟨.non,_,I.lset (its':=a6++aK) hH e (by simp) (r.append r2) ?_,rfl,q⟩
 rw[Qp]
 assumption
inductive RrPop(x:V)(vs:List V)(H:Hp)(Q:VK):Prop
 |mk (l:_) (xs:_) (y:_) (h0:x=.ref l) (h1:vs=[]) (h2:H l=some (.lst xs)) (h3:xs[xs.length-1]?=some y) (h4:Q y (upd H l (.lst xs.dropLast))):RrPop  x vs H Q
def rPop:V→List V→Hp→VK→Prop:=λx vs H Q=>RrPop  x vs H Q
def mt_pop:MtM X "list.pop" rPop:=by
 intro a5 s σ H x vs v us Q I rx rv h
 obtain⟨l,xs,y,rfl,rfl,hH,hy,q⟩:=h
 cases rx
 have oP:=rv.zero
 subst oP
 obtain⟨z,a6,n,r,hl,e⟩:=I.lstM hH
 obtain⟨u,hu,ru⟩:=r.get hy
 have cM:a6.toArray[a6.toArray.size-1]?=some u:=by
  show a6.toArray[a6.length-1]?=some u
  rw[←Wr,←hl]
  exact hu
 refine call_meets F.slot_list_pop ⟨_,e,rfl⟩ F.entry_list_pop (F.args_list_pop_1 _) (MeetsSeq.list_pop_last l a6.toArray n u cM (by rw[Qq];exact zdn ‹_› ‹_›)) ⟨e,?_⟩
 refine⟨y,_,I.lset (its':=a6.dropLast) hH e ?_ r.dropLast ?_,ru,q⟩
 ·show a6.toArray.eraseIdxIfInBounds (a6.toArray.size - 1)=a6.dropLast.toArray
  rw[Qq,List.eraseIdxIfInBounds_toArray,erase_last]
 ·rw [List.length_dropLast]
  lia
inductive RrCat(x:V)(y:V)(H:Hp)(Q:VK):Prop
 |mk (l:_) (b:_) (xs:_) (zs:_) (h0:x=.ref l) (h1:y=.ref b) (h2:H l=some (.lst xs)) (h3:H b=some (.lst zs)) (h4:xs.length+zs.length≤sizeLine) (h5:∀p,H p=none→Q (.ref p) (upd H p (.lst (xs++zs)))):RrCat  x y H Q
def rCat:R2:=λx y H Q=>RrCat  x y H Q
def zfm:OpR X (binaryOp .Add) rCat:=by
 intro a5 s σ H x y v u Q I rx ry h
 obtain⟨l,b,xs,zs,rfl,rfl,hH,hB,hz,q⟩:=h
 cases rx
 cases ry
 obtain⟨z,a6,n,r,hl,e⟩:=I.lstM hH
 obtain⟨z2,aK,n2,r2,ax,e2⟩:=I.lstM hB
 refine PySem.P.add_list e e2 ?_ (by rw[Qq,Qq];lia)
 have ea:a6.toArray++aK.toArray=(a6++aK).toArray:=by simp
 rw[ea]
 exact⟨.ref _,_,I.lnew (t':=s.toks) (r.append r2) (by rw[Qp];assumption),rfl,q _ I.fresh⟩
end
section
variable{prog:Nj}{w:Nk}{A:Nn}{E:Nb}{s:Nh}
end
section
variable{X:Cx}
end
end L2
namespace Att
open PySem PySem.W PySem.Calls PyProof.Rows
def zfy:∀(ns:List Int) (vs:Ni),WellAll P h vs (ns.map WData.int)→IntsAre vs ns:=by
 intro ns
 induction ns with
 |nil =>
  intro vs w
  rw[Ks]at w
  cases w
  exact .nil
 | cons n ns ih =>
  intro vs w
  rw[Qk]at w
  cases w with
  |cons a b =>
   cases a
   exact .cons _ _ (ih _ b)
def script_of{l:OpenLaw}{n:Nat}(hn:l.most=some n){P:Params}{h:Nm}{args:List WData}{hW:Ni}(gm:l.row.toRowW.claim.pre args=true)(fC:WellAll P h hW args) :
  ∃a vs ns,hW=[Value.ref a]∧args=[WData.list (ns.map WData.int)]∧h.get? a=some {cls:=.type "list",data:=.seq vs.toArray}∧IntsAre vs ns∧ns.length≤n:=by
 have hsh:WShape.hasAll [] args [.list .int]=true:=(pre_splitW gm).1
 have hc:l.pre.holds [] {args:=args}=true:=(pre_splitW gm).2
 obtain⟨d,r,rfl,h1,h2⟩:=hasAllW_cons hsh
 obtain rfl:=hasAllW_nil h2
 obtain⟨xs,rfl,h3⟩:=hasW_list h1
 obtain⟨ns,rfl⟩:=items_int h3
 have a9:ns.length≤n:=by
  unfold OpenLaw.pre at hc
  have h4:(WTm.not (.lt (.lit (.int (n:Int))) (.len (.arg 0)))).holds [] {args:=[.list (ns.map .int)]}=true:=by
   have h4:=(holds_andW hc).1
   rw[hn]at h4
   exact h4
  have h5:=condW_of h4 (w_not (w_lt w_lit (w_len_list (w_arg rfl))))
  rw[Qa]at h5
  refine Nat.le_of_not_lt λq=>?_
  have q':(n:Int)<((ns.length:Nat):Int):=by exact zar9 ‹_›
  first
   |(rw[decide_eq_true q']at h5;exact absurd h5 (by decide))
   |(simp at h5;lia)
 cases fC with
 |cons w1 w2 =>
  cases w2
  cases w1 with
  |list ho cj=>exact⟨_,_,ns,rfl,rfl,ho,zfy ns _ cj,a9⟩
def post_true(l:OpenLaw)(args:List WData):l.row.toRowW.claim.post args (.bool true) args=true :=
 postW_of (r:=l.row.toRowW) (X:=(true==true))
  (show WShape.has [] (.bool true) .bool=true by first | rfl | decide | simp[WShape.has,WShape.arms,WShape.armsAll])
  (show(WTm.eq .res (.lit (.bool true))).value [] {args:=args,res:=some (.bool true),after:=args}=some (.bool (true==true)) from w_eq_bool (w_res rfl) w_lit) rfl
def attach_call{l:OpenLaw}{n:Nat}{q:Nj}{loose:Ng}{XP:(Str→Option Value)→Heap→Prop}{YP:World→Heap→Prop}{d:DefRec}(hn:l.most=some n)(lJ:d.params.defaults=[])(call:∀ (w:Nk) (s₀ s₁:Nh) (mg mb:Nf) (fa:Nc) (o:Obj) (pm cd doc:Value) (a:Nc) (vs:Ni) (ns:List Int),
   Ground q loose [] XP w s₀ mg mb s₁.heap→YP w s₁.heap →
   s₁.heap.get? fa=some o→o.data=.func (docDef d.name d.params d.body d.scope pm cd doc)→s₁.heap.CodeRec cd d.name→mg d.name=some (.ref fa) →
   s₁.heap.get? a=some {cls:=.type "list",data:=.seq vs.toArray}→IntsAre vs ns→ns.length≤n→s₁.gens=#[] →
   codeAny (model l.prog w) callerA (.call (.ref fa) ⟨[.ref a],[]⟩) (λr s'=>r=.ok (.ret (.bool true))∧OldK s₁.heap s'.heap∧s'.os=s₁.os∧AllBare s'.gens) s₁) :
  WalkO q loose XP YP l.row.toRowW d [] (λf vs=>PySem.call f vs):=by
 intro w s₀ s₁ mg mb G Y fa o pm cd doc dV kV ho hd aF hD qd hg args hW as gm dX hrd fC hlo
 obtain rfl:dV=.none:=Dflts.none hD lJ
 obtain rfl:kV=.none:=Dflts.noKw hD
 obtain⟨a,vs,ns,rfl,rfl,iK,eG,a9⟩:=script_of hn gm fC
 refine enter_call (codeAny_mono (call w s₀ s₁ mg mb fa o pm cd doc a vs ns G Y ho (fd_plain hd) aF qd iK eG a9 hg) λr s' hq=>?_)
 obtain⟨rfl,h2,h3,h4⟩:=hq
 exact⟨.inl ⟨.bool true,.bool true,[],rfl,λ_=>rfl,.bool true,post_true l _,λ_=>⟨List.Pairwise.nil,λ_ hm=>(nomatch hm)⟩⟩,h2,h3,h4⟩
section
variable{prog:Nj}{w:Nk}{A:Nn}{E:Nb}{s:Nh}{K:Frag}
end
end Att
namespace L2
open PySem PySem.Spec PyProof.Rows
theorem vals_ints:∀{vs:Ni} {ns:List Int},IntsAre vs ns→Vals (ns.map V.int) vs
 |_,_,.nil=>.nil
 |_,_,.cons n t h=>.cons ⟨t,rfl⟩ (vals_ints h)
def Only(H:Hp):Prop:=∀b,H b=none∨∃o xs,H b=some (.frz o (.lst xs))
def law_call{P:Nj}{w:Nk}{K:Na}{mg mb:Nf}{CX:CXT}{k:Nat}{fa a:Nc}{fd:Nt}{x:Str}{sp:Sp}{s₁:Nh}{vs:Ni}{ns:List Int}(KX:K.In s₁.heap)(n6:s₁.heap.Ns mainGlobals mg)(hb:s₁.heap.Ns builtinsNs mb)(nz:∀x:Str,x ≠ "__name__" → mb x=bootBuiltins x)(qh:s₁.heap.NoLimit)(hg:s₁.gens=#[])(ha:s₁.heap.get? a=some {cls:=.type "list",data:=.seq vs.toArray})(hi:IntsAre vs ns)(hl:ns.length≤sizeLine)(hr:Room k callerA)(F:∀base:Heap,K.In base→base.Ns mainGlobals mg→FnOk P w K mg base CX k fa fd [x] sp)(lQ:∀(s:Shared) (u:Value),BindsTo s fd ⟨[u],[]⟩ [(x,u)])(aW:∀H:Hp,Only H→SqL K H a (ns.map V.int)→sp [.ref a] H (λv _=>v=.bl true) λ_ _ _=>False)(rM:∀H e s',CX [] H s₁ (λ_ _ _=>False) e s'→False) :
  codeAny (model P w) callerA (.call (.ref fa) ⟨[.ref a],[]⟩) (λr s'=>r=.ok (.ret (.bool true))∧OldK s₁.heap s'.heap∧s'.os=s₁.os∧AllBare s'.gens) s₁:=by
 have rv:=vals_ints hi
 have lenV:=hi.length
 have core:∀ H:Hp,Only H→SqL K H a (ns.map V.int)→HOk P w H s₁.heap→(∀ b,H b≠none→b=a)→(H a≠none→K.lookup a=none) →
   codeAny (model P w) callerA (.call (.ref fa) ⟨[.ref a],[]⟩) (λr s'=>r=.ok (.ret (.bool true))∧OldK s₁.heap s'.heap∧s'.os=s₁.os∧AllBare s'.gens) s₁:=by
  intro H hO hS hok hA hK
  have base_of:∀{b:Nc} {o:Obj},s₁.heap.get? b=some o→H b=none→(hidT s₁.heap H).get? b=some o:=λe n=>hidT_get e n
  have noA:∀{b:Nc} {o:Obj} {es:Array DictEntry} {ep:Nat},s₁.heap.get? b=some o→o.data=.dict es ep→H b=none:=λ{b o es ep} e d=>by
   cases q:H b with
   |none=>rfl
   |some u =>
    have e':b=a:=hA b (by rw[q];simp)
    subst e'
    rw[ha]at e;cases e
    have d':Data.seq vs.toArray _=Data.dict es ep:=d
    cases d'
  have nsK:∀{b:Nc} {m:Nf},s₁.heap.Ns b m→(hidT s₁.heap H).Ns b m:=λ{b m} ⟨o,es,ep,e,d,r⟩=>⟨o,es,ep,base_of e (noA e d),d,r⟩
  have hKb:K.In (hidT s₁.heap H):=λb o e=>base_of (KX b o e) (by
   cases q:H b with
   |none=>rfl
   |some u =>
    have e':b=a:=hA b (by rw[q];simp)
    subst e'
    rw[hK (by rw[q];simp)]at e;cases e)
  have hM:Mod K mg (hidT s₁.heap H):=⟨hKb,nsK n6,⟨mb,nsK hb,nz⟩,let⟨mc,h1,h2⟩:=qh;⟨mc,nsK h1,h2⟩⟩
  have e0:Env0 P w K mg (hidT s₁.heap H) callerA [] s₁ H:=⟨rfl,hM,λb o e=>of_hidT e,Nat.le_of_eq (hidT_size _ _),trivial,λb hb=>absurd (show b∈([]:List Addr) from hb) (by simp),hok,.of_eq hg⟩
  refine codeAny_mono ((F _ hKb (nsK n6)).run callerA [] s₁ H ⟨[.ref a],[]⟩ [.ref a] [.ref a] _ _ hr e0 (lQ s₁ (.ref a)) (.cons rfl .nil) (aW H hO hS)) λr s' h=>?_
  cases r with
  |error e=>exact(rM H e s' h).elim
  | ok fl =>
   cases fl with
   |next=>exact False.elim h
   |brk=>exact False.elim h
   |cont=>exact False.elim h
   | ret u =>
    obtain⟨v,H',os,bare,un,pV,r',q⟩:=h
    have q':v=.bl true:=q
    subst q'
    obtain rfl:u=Value.bool true:=r'
    refine⟨rfl,OldK.of_keep λb o e=>?_,os,bare⟩
    cases q:H b with
    |none=>exact un.keep b o e q (by intro z;exact absurd (show b∈([]:List Addr) from z) (by simp)) (by simp)
    | some u =>
     rcases hO b with z | ⟨ob,xs,z⟩
     ·rw[q]at z;cases z
     ·have z2:=un.frzs b ob _ z
      obtain⟨e1,_⟩:=hok b _ z
      obtain⟨e2,_⟩:=pV b _ z2
      rw[e]at e1;cases e1
      exact e2
 cases hk:K.lookup a with
 |some o =>
  have e:=KX a o hk
  rw[ha]at e
  cases e
  refine core (λ_=>none) (λ_=>.inl rfl) (.inr ⟨_,vs.toArray,_,hk,rfl,rfl,rfl,by rw[Qq,lenV];exact hl,by simpa using rv⟩) (λb u z=>by have z':(none:Option HO)=some u:=z;cases z') (λb z=>absurd rfl z) λz=>absurd rfl z
 | none =>
  refine core (λb=>if b=a then some (.frz {cls:=.type "list",data:=.seq vs.toArray} (.lst (ns.map V.int))) else none) (λb=>?_) (.inl (.inr ⟨{cls:=.type "list",data:=.seq vs.toArray},if_pos rfl⟩)) (λb u z=>?_) (λb z=>?_) λ_=>hk
  ·by_cases hb:b=a
   ·exact .inr ⟨_,_,if_pos hb⟩
   ·exact .inl (if_neg hb)
  ·by_cases hb:b=a
   ·have z':=(if_pos hb).symm.trans z
    cases z'
    subst hb
    exact⟨ha,by rw[Qa];exact hl,vs,_,rv,ha⟩
   ·have z':=(if_neg hb).symm.trans z
    cases z'
  ·by_cases hb:b=a
   ·exact hb
   ·exact absurd (if_neg hb) z
end L2
namespace L2
open PySem PySem.Spec PyProof.Rows
def walk_of{l:PySem.W.OpenLaw}{n k:Nat}{q:Nj}{loose:Ng}{XP:(Str→Option Value)→Heap→Prop}{YP:World→Heap→Prop}{d:DefRec}{K:Params→PySem.W.Frag}{CX:World→CXT}{sp:World→Sp}{x:Str}(hn:l.most=some n)(bK:n≤sizeLine)(lJ:d.params.defaults=[])(hr:Room k callerA)(hY:∀(w:World) (h:Heap),YP w h→(K w.params).In h)(F:∀ (w:Nk) (mg:Nf) (fa:Nc) (h:Nm),(K w.params).In h→h.Ns mainGlobals mg→mg d.name=some (.ref fa) →
   ∃fd:FuncData,(∀(s:Nh) (u:Value),BindsTo s fd ⟨[u],[]⟩ [(x,u)]) ∧
    ∀base:Heap,(K w.params).In base→base.Ns mainGlobals mg→FnOk l.prog w (K w.params) mg base (CX w) k fa fd [x] (sp w))(aW:∀(w:Nk) (H:Hp) (a:Nc) (ns:List Int),ns.length≤n→Only H→SqL (K w.params) H a (ns.map V.int)→sp w [.ref a] H (λv _=>v=.bl true) λ_ _ _=>False)(rM:∀(w:World) (H:Hp) (s:Shared) (e:Value) (s':Shared),CX w [] H s (λ_ _ _=>False) e s'→False) :
  PySem.W.WalkO q loose XP YP l.row.toRowW d [] (λf vs=>PySem.call f vs):=by
 refine Att.attach_call hn lJ λw s₀ s₁ mg mb fa o pm cd doc a vs ns G Y ho hd aF qd iK eG a9 hg=>?_
 have KX:=hY w _ Y
 obtain⟨fd,hb,hF⟩:=F w mg fa _ KX G.T.g qd
 exact law_call KX G.T.g G.T.b G.T.builtins G.T.nolimit hg iK eG (Zj a9 bK) hr hF hb (λH hO hS=>aW w H a ns a9 hO hS) λH e s'=>rM w H s₁ e s'
end L2
namespace L2
open PySem PySem.Spec PyProof.Rows
def inClass(s:Stmt)(j:Nat):Stmt:=match s with
 |.ClassDef _ _ _ body _ _ _ _ _ _ _=>body.getD j (.Pass ⟨0,0,0,0⟩)
 |_=>.Pass ⟨0,0,0,0⟩
def zcr(s:Stmt):Arguments:=match s with
 |.FunctionDef _ a _ _ _ _ _ _ _ _=>a
 |_=>{posonlyargs:=[],args:=[],vararg:=none,kwonlyargs:=[],kw_defaults:=[],kwarg:=none,defaults:=[]}
def zbs(s:Stmt):List Stmt:=match s with
 |.FunctionDef _ _ b _ _ _ _ _ _ _=>b
 |_=>[]
def zag(s:Stmt):Scope:=match s with
 |.FunctionDef _ _ _ _ _ _ sc _ _ _=>sc
 |_=>{kind:=.function,names:=[],isGenerator:=false,isCoroutine:=false}
abbrev CX0:CXT:=λ_ _ _ _ _ _=>False
abbrev E0:XK:=λ_ _ _=>False
def za0:zgn CX0 X E0:=λ_ _ _ _ _ _ _ h=>h.elim
structure Fun(K:Na)(x qual:Str)(st:Stmt)(f:Nc)(fd:Nt):Prop where
 ex:∃(oc:Value) (od:Option Addr) (kV doc pm:Value) (an:Option Addr) (cdv ct:Value) (osl:Array (Option Value)),
  fd=PySem.W.fnOf x qual (zcr st) (zbs st) (zag st) .none kV doc pm an cdv ct∧K.lookup f=some ⟨oc,od,.func fd,osl⟩∧PySem.W.codeIn K cdv qual=true
 kp:PySem.W.keepIn K (.ref f)=true
section
variable{P:Nj}{w:Nk}{K:Na}{mg:Nf}{base:Nm}
def Fun.ok{x qual:Str}{st:Stmt}{f:Nc}{fd:Nt}{N ps:Ng}{k:Nat}{sp:Sp}(F:Fun K x qual st f fd)(S:zao N ps (zag st))(len:∀vs H Q E,sp vs H Q E→vs.length=ps.length)(aV:∀ (cdv:Value) (A:Nn) (outer:List Env) (s:Nh) (H:Hp) (vs:List V) (Q:VK) (E:XK),Room k (A.deeper (envOfC qual (zag st) s.heap.objs.size f cdv))→sp vs H Q E →
   ∃t,PSs (cxOf CX0 P w K mg base N qual (zag st) f cdv A outer s H E).nox (zbs st) t∧t {nx:=λ_ H'=>Q .non H',rt:=Q} (start N vs) H):FnOk P w K mg base CX0 (k+1) f fd ps sp:=by
 obtain⟨oc,od,kV,doc,pm,an,cdv,ct,osl,rfl,lk,aF⟩:=F.ex
 refine fn_of lk aF S len λA outer s H vs Q E hr aW=>?_
 obtain⟨t,h,q⟩:=aV cdv A outer s H vs Q E hr aW
 exact⟨t,h.nox,q⟩
def Fun.binds{x qual:Str}{st:Stmt}{f:Nc}{fd:Nt}{ps:Ng}(F:Fun K x qual st f fd)(h:∀(kV doc pm:Value) (an:Option Addr) (cdv ct:Value) (us:Ni),us.length=ps.length→bindArgs (PySem.W.fnOf x qual (zcr st) (zbs st) (zag st) .none kV doc pm an cdv ct) ⟨us,[]⟩=pure (ps.zip us)):Binds K fd ps []:=by
 obtain⟨oc,od,kV,doc,pm,an,cdv,ct,osl,rfl,lk,aF⟩:=F.ex
 exact .all (h kV doc pm an cdv ct)
def fun_mk{x qual:Str}{st:Stmt}{f:Nc}{oc:Value}{od an:Option Addr}{osl:Array (Option Value)}{kV doc pm cdv ct:Value}(l:K.lookup f=some ⟨oc,od,.func (PySem.W.fnOf x qual (zcr st) (zbs st) (zag st) .none kV doc pm an cdv ct),osl⟩)(c:PySem.W.codeIn K cdv qual=true)(k:PySem.W.keepIn K (.ref f)=true):Fun K x qual st f (PySem.W.fnOf x qual (zcr st) (zbs st) (zag st) .none kV doc pm an cdv ct):=⟨⟨oc,od,kV,doc,pm,an,cdv,ct,osl,rfl,l,c⟩,k⟩
end
def zb7(hr:Room k A):A.units+1<cLine:=Nat.lt_of_le_of_lt (Nat.add_le_add_left (by decide:1≤64) _) hr.units
section
variable{X:Cx}
def pv(i:Nat)(hN:X.N[i]?=some x:=by rfl)(hv:Vis X.env.scope x:=by first | exact Or.inl rfl | exact Or.inr (Or.inl rfl) | exact Or.inr (Or.inr rfl))(hd:(x==("__debug__" : Str))=false:=by decide)(aF:(x==("__classdict__" : Str))=false:=by decide):PE X (.Name x pos) (tVar i):=pe_var hN hv hd aF
end
def iteF{A B:Prop}(h:B):if false=true then A else B:=by
 rw[if_neg Za]
 exact h
def iteT{A B:Prop}(h:A):if true=true then A else B:=by
 rw[if_pos rfl]
 exact h
def ite2{c A B:Prop}[Decidable c](h1:c→A)(h2:¬c→B):if c then A else B:=by
 by_cases h:c
 ·rw [if_pos h]
  exact h1 h
 ·rw [if_neg h]
  exact h2 h
section
variable{κ:Type}[DecidableEq κ]
end
end L2
end
section
namespace L2
open PySem PySem.Spec PyProof.Rows
def clOf(sc:Scope)(env:Env):List (Str×Addr):=sc.names.foldl (λcs y=>if(y.2==NameKind.free)=true then(y.1,(env.cells.lookup y.1).getD 0)::cs else cs) []
theorem cl_fold:∀(l:List (Str×NameKind)) (cs:List (Str×Addr)),(∀y∈l,y.2=.free→∃c,env.cells.lookup y.1=some c) →
  (forIn l cs (fun (y:Str×NameKind) (r:List (Str×Addr))=>(do
   let(name,kind):=y
   if(kind==.free)=true then do
    let a ←cellOf env name
    pure (ForInStep.yield ((name,a)::r))
   else pure (ForInStep.yield r):Sem (ForInStep (List (Str×Addr))))))=(pure (l.foldl (λcs y=>if(y.2==NameKind.free)=true then(y.1,(env.cells.lookup y.1).getD 0)::cs else cs) cs):Sem (List (Str×Addr)))
 |[],cs,_=>rfl
 | (n,k)::r,cs,h=>by
  rw[List.forIn_cons]
  have ih:=λcs=>cl_fold (env:=env) r cs λy hy=>h y (Qi _ hy)
  by_cases hk:(k==NameKind.free)=true
  ·obtain ⟨c,hc⟩:=h (n,k) Qe (by simpa using hk)
   have bG:env.cells.lookup n=some c:=hc
   have e:cellOf env n=pure c:=by unfold cellOf;rw[bG]
   rw[Jl]
   dsimp only
   rw[if_pos hk,if_pos hk,e,bG]
   exact ih _
  ·rw [Jl]
   dsimp only
   rw[if_neg hk,if_neg hk]
   exact ih _
def zb6(h:∀y∈sc.names,y.2=.free→∃c,env.cells.lookup y.1=some c):closureFor sc env=pure (clOf sc env):=by
 unfold closureFor
 have e:=cl_fold (env:=env) sc.names [] h
 exact(congrArg (λt:Sem (List (Str×Addr))=>t >>= λcs=>pure cs) e).trans rfl
theorem clOf_in{env:Env}{x:Str}{c:Nc}:∀(l:List (Str×NameKind)) (cs:List (Str×Addr)),(∀y∈l,y.2=.free→∃c,env.cells.lookup y.1=some c)→(∀x c,cs.lookup x=some c→env.cells.lookup x=some c) →
  (l.foldl (λcs y=>if(y.2==NameKind.free)=true then(y.1,(env.cells.lookup y.1).getD 0)::cs else cs) cs).lookup x=some c→env.cells.lookup x=some c
 |[],cs,_,hc,e=>hc _ _ e
 | (n,k)::r,cs,h,hc,e=>by
  rw[Jl]at e
  refine clOf_in r _ (λy hy=>h y (Qi _ hy)) ?_ e
  by_cases hk:(k==NameKind.free)=true
  ·obtain ⟨a,ha⟩:=h (n,k) Qe (by simpa using hk)
   have ha':env.cells.lookup n=some a:=ha
   dsimp only
   rw[if_pos hk,ha']
   intro x c q
   rw[Wm]at q
   cases hx:x==n with
   |true =>
    rw[hx]at q
    have q':a=c:=Qr q
    have:x=n:=by simpa using hx
    rw[this,←q'];exact ha'
   |false =>
    rw[hx]at q
    exact hc x c q
  ·dsimp only
   rw[if_neg hk]
   exact hc
theorem zho{env:Env}{x:Str}:∀(l:List (Str×NameKind)) (cs:List (Str×Addr)),((x,NameKind.free)∈l∨∃c,cs.lookup x=some c) →
  ∃c,(l.foldl (λcs y=>if(y.2==NameKind.free)=true then(y.1,(env.cells.lookup y.1).getD 0)::cs else cs) cs).lookup x=some c
 |[],cs,h=>by
  rcases h with h | h
  ·exact absurd h (by simp)
  ·exact h
 | (n,k)::r,cs,h=>by
  rw[Jl]
  refine zho r _ ?_
  rcases h with h | ⟨c,h⟩
  ·rcases Qh.mp h with e | e
   ·obtain ⟨rfl,rfl⟩:=Uj e
    exact .inr ⟨(env.cells.lookup x).getD 0,by dsimp only;rw[if_pos (by rfl),List.lookup_cons];simp⟩
   ·exact .inl e
  ·refine .inr ?_
   dsimp only
   by_cases hk:(k==NameKind.free)=true
   ·rw [if_pos hk,Wm]
    cases hx:x==n with
    |true=>exact⟨_,rfl⟩
    |false=>exact⟨c,h⟩
   ·rw[if_neg hk];exact⟨c,h⟩
structure Blk(X:Cx)(sc:Scope)(M:Ng)(ix:Nr):Prop where
 kind:sc.kind=.function
 nocell:∀y∈sc.names,y.2≠.cell
 names:∀y∈sc.names,y.2=.local→sc.names.lookup y.1=some .local
 frees:∀y∈sc.names,y.2=.free→X.env.scope.names.lookup y.1=some .cell∨X.env.scope.names.lookup y.1=some .free
 len:ix.length=M.length
 nd:M.Nodup
 caps:∀(j i:Nat) (x:Str),M[j]?=some x→ix[j]?=some (some i)→X.N[i]?=some x∧sc.names.lookup x=some .free
def inner(ix:Nr)(σ:St):St:=ix.map λo=>match o with | none=>none | some i=>(σ[i]?).join
def zg5{sc:Scope}{env:Env}{x:Str}{oz:Option Str}(hn:∀ y∈sc.names,y.2=.cell→oz=some y.1)(h:(relabel sc env).names.lookup x=some .cell∨(relabel sc env).names.lookup x=some .free):(x,NameKind.free)∈sc.names∨oz=some x:=by
 have key:∀k',k'=.cell∨k'=.free→(x,k')∈(relabel sc env).names→(x,NameKind.free)∈sc.names∨oz=some x:=λk' ql hm=>by
  obtain⟨⟨n,k⟩,hy,e⟩:=Qj.mp hm
  dsimp only at e
  by_cases hb:(k==NameKind.free&&env.scope.kind==.function&&env.kindOf n==some .cell)=true
  ·rw [if_pos hb] at e
   obtain⟨rfl,_⟩:=Uj e
   have hk:k=.free:=by
    have:=(Bool.and_eq_true_iff.mp (Bool.and_eq_true_iff.mp hb).1).1
    simpa using this
   rw[hk]at hy
   exact .inl hy
  ·rw [if_neg hb] at e
   obtain⟨rfl,rfl⟩:=Uj e
   rcases ql with q | q
   ·exact .inr (hn _ hy q)
   ·rw[q]at hy;exact .inl hy
 rcases h with h | h
 ·exact key _ (.inl rfl) (Wd h)
 ·exact key _ (.inr rfl) (Wd h)
def ocl(oz:Option Str)(C:Nc)(cl:List (Str×Addr)):List (Str×Addr):=match oz with
 |none=>cl
 |some z=>(z,C+1)::cl
def och(oz:Option Str)(h:Nm):Heap:=match oz with
 |none=>h
 |some _=>h.push {cls:=.type "cell",data:=.cell none}
structure BlkG(X:Cx)(sc:Scope)(oz:Option Str)(M:Ng)(ix:Nr):Prop where
 kind:sc.kind=.function
 own:∀y∈sc.names,y.2=.cell→oz=some y.1
 one:∀n cl,cellsFrom (n+1) sc.names cl=ocl oz n cl
 psh:∀h,pushCells h sc.names=och oz h
 zc:∀z,oz=some z→sc.names.lookup z=some .cell
 names:∀y∈sc.names,y.2=.local→sc.names.lookup y.1=some .local
 frees:∀y∈sc.names,y.2=.free→X.env.scope.names.lookup y.1=some .cell∨X.env.scope.names.lookup y.1=some .free
 len:ix.length=M.length
 nd:M.Nodup
 caps:∀(j i:Nat) (x:Str),M[j]?=some x→ix[j]?=some (some i)→X.N[i]?=some x∧sc.names.lookup x=some .free
theorem zhq:∀{l:List (Str×NameKind)} (_:∀y∈l,y.2≠.cell),(∀n cl,cellsFrom n l cl=cl)∧∀h,pushCells h l=h
 |[],_=>⟨λ_ _=>rfl,λ_=>rfl⟩
 |(a,k)::t,h=>by
  obtain⟨h1,h2⟩:=zhq λy hy=>h y (Qi _ hy)
  have hk:(k==NameKind.cell)=false:=beq_eq_false_iff_ne.mpr (h (a,k) Qe)
  exact⟨λn cl=>by unfold cellsFrom;rw[hk];exact h1 n cl,λg=>by unfold pushCells;rw[hk];exact h2 g⟩
def Blk.g{X:Cx}{sc:Scope}{M:Ng}{ix:Nr}(B:Blk X sc M ix):BlkG X sc none M ix :=
 ⟨B.kind,λy hy h=>absurd h (B.nocell y hy),λn cl=>(zhq B.nocell).1 _ cl,(zhq B.nocell).2,λ_ h=>(by cases h),B.names,B.frees,B.len,B.nd,B.caps⟩
def zd3(X:Cx)(sc:Scope)(oz:Option Str)(M:Ng)(C:Nc)(a5:Nd)(ex:Nl)(s:Nh)(H:Hp):Cx :=
 {X with N:=M,s₀:=s,H₀:=H,env:=compEnvC sc (ocl oz C (clOf sc X.env)) C X.env,outer:=X.stack,ex:=ex,fn:=λx=>oz==some x,pn:=X.pn++a5,xe:=λ_ _=>False}
abbrev zcs(X:Cx)(sc:Scope)(M:Ng)(C:Nc)(a5:Nd)(ex:Nl)(s:Nh)(H:Hp):Cx:=zd3 X sc none M C a5 ex s H
section
variable{M:Model}{A:Nn}{E:Nb}{s:Nh}
def newEnv_own{sc:Scope}{g:Nc}{cl:List (Str×Addr)}{q:Str}{env:Env}{oz:Option Str}{Q:Env→Shared→Prop}(one:∀n cl,cellsFrom (n+1) sc.names cl=ocl oz n cl)(psh:∀h,pushCells h sc.names=och oz h)(hQ:Q (newEnv sc s.heap.objs.size g (ocl oz s.heap.objs.size cl) q none .none (some env) builtinsNs) {s with heap:=och oz (s.heap.push {cls:=.type "dict",data:=.dict #[]})}) :
  wpAny M A (newFunctionEnv sc g cl [] q none .none (some env)) Q E s:=by
 simp only[newFunctionEnv,Option.isSome_some,if_true]
 refine wpAny_bind (wpAny_alloc ?_)
 refine wpAny_bind (wpAny_layCells _ (λname kind cells=>by cases hkc:kind==NameKind.cell<;>simp[hkc]) _ _ _ _ ?_)
 rw[psh,show({s with heap:=s.heap.push {cls:=.type "dict",data:=.dict #[]}}:Shared).heap.objs.size=s.heap.objs.size+1 from Wz ..,one]
 exact wpAny_pure hQ
end
section
variable{X:Cx}{sc:Scope}{oz:Option Str}{M:Ng}{ix:Nr}{a5:Nd}{σ:St}{H:Hp}{s:Nh}
def BlkG.clos(B:BlkG X sc oz M ix)(I:Inv X a5 σ H s):∀y∈sc.names,y.2=.free→∃c,X.env.cells.lookup y.1=some c:=λy hy hf =>
 I.ok.has y.1 (by rcases B.frees y hy hf with z | z;exact .inl z;exact .inr z)
def Blk.clos(B:Blk X sc M ix)(I:Inv X a5 σ H s):∀y∈sc.names,y.2=.free→∃c,X.env.cells.lookup y.1=some c:=B.g.clos I
def inv_blkG{ex:Nl}{s':Nh}{C:Nc}(B:BlkG X sc oz M ix)(I:Inv X a5 σ H s)(hx:∀ b∈ex,FpOk X a5 H b)(aa:∀ b∈ex,b < s.heap.objs.size)(hC:C=s.heap.objs.size)(hn:s'.heap.Ns C λ_=>none)(hz:∀z,oz=some z→s'.heap.IsCell (C+1) none)(hk:∀b o,s.heap.get? b=some o→s'.heap.get? b=some o)(hg:s'.gens=s.gens)(ho:s'.os=s.os):Inv (zd3 X sc oz M C a5 ex s H) [] (inner ix σ) H s':=by
 have cls:=B.clos I
 have cin:∀x c,(clOf sc X.env).lookup x=some c→X.env.cells.lookup x=some c:=λx c e=>clOf_in sc.names [] cls (λ_ _ z=>by cases z) e
 have cne:∀x c,(clOf sc X.env).lookup x=some c→c<s.heap.objs.size:=λx c e=>by
  obtain⟨v,q⟩:=I.cell x c (cin x c e)
  exact q.lt
 have zne:∀c:Addr,c<s.heap.objs.size→c≠C+1:=λc h e=>by
  rw[e,hC]at h;exact absurd (Uf h) (Yc _)
 have zin:∀x c,(ocl oz C (clOf sc X.env)).lookup x=some c→(oz=some x∧c=C+1)∨oz≠some x∧(clOf sc X.env).lookup x=some c:=λx c e=>by
  cases oz with
  |none=>exact .inr ⟨λz=>(by cases z),e⟩
  |some zn =>
   have e:((zn,C+1)::clOf sc X.env).lookup x=some c:=e
   rw[Wm]at e
   cases q:x==zn with
   |true=>rw[q]at e;exact .inl ⟨by rw[eq_of_beq q],(Qr e).symm⟩
   |false=>rw[q]at e;exact .inr ⟨λz=>(by rw[Qr z,beq_self_eq_true]at q;cases q),e⟩
 have zout:∀x c,oz≠some x→(clOf sc X.env).lookup x=some c→(ocl oz C (clOf sc X.env)).lookup x=some c:=λx c hx e=>by
  cases oz with
  |none=>exact e
  |some zn =>
   show((zn,C+1)::clOf sc X.env).lookup x=_
   rw[Wm,beq_eq_false_iff_ne.mpr λz=>hx (by rw[z])];exact e
 refine⟨⟨I.ok.mod,?_,I.ok.glob,I.ok.blt,?_,λx y c h1 h2=>?_,λx hx=>?_,λx c h e=>?_,I.ok.hd,I.ok.frames,.inl rfl,λb hb=>?_,I.bs,?_,λb o e hb=>?_,λb hb=>?_,I.stack,I.stkFree⟩,
  ?_,?_,Un.kept hk,⟨_,hn,λj x v e1 e2 e3=>?_⟩,λx c e=>?_,?_,λx c e=>?_,λp hp=>?_,I.hok.kept hk,?_⟩
 ·show (relabel sc X.env).kind=.function
  exact B.kind
 ·show s.heap.objs.size≤C
  rw[hC];exact Qf _
 ·rcases zin x c h1 with ⟨a,b⟩ | ⟨_,a⟩ <;> rcases zin y c h2 with ⟨a',b'⟩ | ⟨_,a'⟩
  ·exact Qr (a.symm.trans a')
  ·exact absurd b (zne c (cne y c a'))
  ·exact absurd b' (zne c (cne x c a))
  ·exact I.ok.inj x y c (cin x c a) (cin y c a')
 ·by_cases q:oz=some x
  ·exact⟨C+1,by show(ocl oz C (clOf sc X.env)).lookup x=_;rw[q];show((x,C+1)::clOf sc X.env).lookup x=_;rw[Wm,beq_self_eq_true]⟩
  ·obtain ⟨c,hc⟩:=zho (env:=X.env) sc.names [] (.inl ((zg5 B.own hx).resolve_right q))
   exact⟨c,zout x c q hc⟩
 ·have h':oz=some x:=by
   have:(oz==some x)=true:=h
   exact eq_of_beq this
  rcases zin x c e with⟨_,b⟩ | ⟨b,_⟩
  ·show s.heap.objs.size≤c
   rw[b,hC];exact Ja _
  ·exact absurd h' b
 ·have:=aa b hb
  refine⟨λz=>?_,λx c e=>(zin x c e).elim (λq h=>zne b this (h.symm.trans q.2)) λe=>(hx b hb).2.2.2.2.1 x c (cin x c e.2)⟩
  have z':b=C:=z
  rw[z',hC]at this
  exact Yc _ this
 ·exact Zj I.ok.bsz I.sz
 ·rcases (hx b hb).2.2.2.1 with z | z
  ·exact I.ok.noex b o e z
  ·have h1:b < X.base.objs.size:=Qs e
   have h2:=I.ok.bsz
   have h3:X.s₀.heap.objs.size≤b:=z
   exact absurd (Zp h1 (Zj h2 h3)) (Yc _)
 ·intro z
  rcases Qh.mp (I.stkSub b z) with q | q
  ·exact(hx b hb).2.1 q
  ·exact(hx b hb).2.2.1 q
 ·exact ho
 ·rw[hg];exact I.bare
 ·have hj:∃ i,ix[j]?=some (some i)∧σ[i]?=some (some v):=by
   unfold inner at e2
   rw[Qu]at e2
   cases q:ix[j]? with
   |none=>rw[q]at e2;cases e2
   | some o =>
    rw[q]at e2
    cases o with
    |none=>cases e2
    |some i =>
     have nV:(σ[i]?).join=some v:=Qr e2
     cases q2:σ[i]? with
     |none=>rw[q2]at nV;cases nV
     |some w=>rw[q2]at nV;exact⟨i,rfl,by rw[q2];exact congrArg some nV⟩
  obtain⟨i,hi,hσ⟩:=hj
  obtain⟨hN,aU⟩:=B.caps j i x e1 hi
  have hm:=Wd aU
  have cR:=B.frees (x,.free) hm rfl
  obtain⟨m,_,hl⟩:=I.loc
  obtain⟨u,ru,lk⟩:=hl i x v hN hσ (by rcases cR with z | z;exact .inr (.inl z);exact .inr (.inr z))
  refine⟨u,ru,.inr ?_⟩
  obtain⟨c,hc⟩:=zho (env:=X.env) sc.names [] (.inl hm)
  have bG:=cin x c hc
  have lk2:s.heap.IsCell c (some u):=by
   rcases lk with⟨k,_⟩ | ⟨_,c',e',z⟩
   ·have k':X.env.scope.names.lookup x=some .local:=k
    rcases cR with q | q<;>(rw[show X.env.scope.names.lookup x=_ from q]at k';cases k')
   ·rw[bG]at e';cases e';exact z
  refine⟨?_,c,zout x c (λq=>by rw[B.zc x q]at aU;cases aU) hc,?_⟩
  ·have e3':Vis (relabel sc X.env) x:=e3
   rcases e3' with z | z | z
   ·exfalso
    have:=@lookup_relabel_local
    have bJ:∀(l:List (Str×NameKind)),l.lookup x=some .free→(l.map λ(y:Str×NameKind)=>match y with | (n,k)=>if(k==NameKind.free&&X.env.scope.kind==.function&&X.env.kindOf n==some .cell) then(n,NameKind.cell) else(n,k)).lookup x≠some .local:=by
     intro l
     induction l with
     |nil=>intro h;cases h
     | cons y r ih =>
      obtain⟨n,k⟩:=y
      intro h
      rw[Wm]at h
      rw[Qk]
      dsimp only
      by_cases hb:(k==NameKind.free&&X.env.scope.kind==.function&&X.env.kindOf n==some .cell)=true
      ·rw [if_pos hb,Wm]
       cases hx:x==n with
       |true=>intro q;cases q
       |false=>rw[hx]at h;exact ih h
      ·rw [if_neg hb,Wm]
       cases hx:x==n with
       |true =>
        rw[hx]at h
        intro q
        have h':k=NameKind.free:=Qr h
        have q':k=NameKind.local:=Qr q
        rw[h']at q';cases q'
       |false=>rw[hx]at h;exact ih h
    exact bJ sc.names aU z
   ·exact .inl z
   ·exact .inr z
  ·obtain ⟨o,am,fO⟩:=lk2
   exact⟨o,hk c o am,fO⟩
 ·rcases zin x c e with ⟨a,b⟩ | ⟨_,b⟩
  ·rw[b];exact⟨none,hz x a⟩
  ·obtain ⟨v,o,am,fO⟩:=I.cell x c (cin x c b)
   exact⟨v,o,hk c o am,fO⟩
 ·show H C=none
  rw[hC]
  exact I.hok.fresh (Qf _)
 ·rcases zin x c e with ⟨_,b⟩ | ⟨_,b⟩
  ·rw[b];exact I.hok.fresh (by rw[hC];exact Ja _)
  ·exact I.freeC x c (cin x c b)
 ·have c7:p∈X.pn++a5:=by
   have:p∈(X.pn++a5)++[]:=hp
   rwa[Zx]at this
  obtain⟨e,n,ne,nf,d⟩:=I.pin p c7
  refine⟨hk _ _ e,n,?_,λz=>?_,d⟩
  ·intro z
   have z':p.1=C:=z
   have:=Qs e
   rw[z',hC]at this
   exact Yc _ this
  ·rcases Qh.mp (I.stkSub _ z) with q | q
   ·exact ne q
   ·exact nf q
 ·unfold inner
  rw[Qa]
  exact B.len
def inv_blk(B:Blk X sc M ix)(I:Inv X a5 σ H s)(hx:∀b∈ex,FpOk X a5 H b)(aa:∀b∈ex,b<s.heap.objs.size)(hC:C=s.heap.objs.size)(hn:s'.heap.Ns C λ_=>none)(hk:∀b o,s.heap.get? b=some o→s'.heap.get? b=some o)(hg:s'.gens=s.gens)(ho:s'.os=s.os):Inv (zcs X sc M C a5 ex s H) [] (inner ix σ) H s':=inv_blkG B.g I hx aa hC hn (λ_ h=>by cases h) hk hg ho
def PTs(X:Cx)(ifs:Np)(t:TT):Prop :=
 ∀(a5:Nd) (s:Nh) (σ:St) (H:Hp) (Q:Bool→Hp→Prop),Inv X a5 σ H s→t σ H Q →
  wpAny (model X.prog X.w) X.A (forIn ifs true λc r=>if r=true then do let ok ←isTrue c X.env (eval c X.env);pure (ForInStep.yield ok) else pure (ForInStep.yield r)) (TP X a5 σ Q) X.xe s
def tAll:TT:=λ_ H Q=>Q true H
def zdh:PTs X [] tAll:=λ_ _ _ H _ I h=>wpAny_tests_nil ⟨H,I,h⟩
def zg7(h:PT X c t):PTs X [c] t:=λa5 s σ H Q I q=>wpAny_tests_one (h a5 s σ H Q I q)
def compLoop_any{prog:Nj}{w:Nk}{A:Nn}{s:Nh}{elt target iter:Expr}{ifs:Np}{scope:Scope}{pos:Pos}{it ae:Value}{env:Env}{R:Nv}(I:Nat→Shared→Prop)(turn:∀ n s,I n s→wpAny (model prog w) A (pyNext it) (fun r s₁=>match r with
   |none=>R (.ok .next) s₁
   | some v=>wpAny (model prog w) A (letOwnedTupleGo target it v) (fun _ s₁'=>wpAny (model prog w) A (assign target env v) (fun _ s₂ =>
     wpAny (model prog w) A (forIn ifs true λc r=>if r=true then do let ok ←isTrue c env (eval c env);pure (ForInStep.yield ok) else pure (ForInStep.yield r)) (λok s₃ =>
      if ok=true then wpAny (model prog w) A (eval elt env) (λx s₄ =>
       wpAny (model prog w) A (call (.builtin "list.append") [ae,x]) (λ_ s₅=>∃m,m<n∧I m s₅) (λ_ _=>False) s₄) (λ_ _=>False) s₃
      else ∃m,m<n∧I m s₃) (λ_ _=>False) s₂) (λ_ _=>False) s₁') (λ_ _=>False) s₁) (λ_ _=>False) s)(n:Nat)(h:I n s):codeAny (model prog w) A (.compLoop (.ListComp elt [⟨target,iter,ifs,0⟩] scope pos) 0 it ae env) R s:=by
 refine codeAny_loop rfl I (λn s hI=>?_) n h
 show wpAny _ A ((compTurn (.ListComp elt [⟨target,iter,ifs,0⟩] scope pos) 0 it ae env).onRaise (λx=>do noteFrame x env;theTreesLotGoes x)) _ _ s
 refine wpAny_noted ?_
 rw[compTurn_list]
 refine wpAny_bind (wpAny_standAt (wpAny_bind (wpAny_mono (turn n s hI) (λr s₁ h₁=>?_) λ_ _ h'=>h'.elim)))
 cases r with
 |none=>exact wpAny_pure h₁
 | some v =>
  refine wpAny_bind (wpAny_mono h₁ (λ_ s₁' h₁'=>?_) λ_ _ h'=>h'.elim)
  refine wpAny_bind (wpAny_mono h₁' (λ_ s₂ h₂=>wpAny_bind (wpAny_mono h₂ (λok s₃ h₃=>?_) λ_ _ h'=>h'.elim)) λ_ _ h'=>h'.elim)
  cases ok with
  |false=>exact wpAny_pure ⟨rfl,h₃⟩
  |true =>
   exact wpAny_bind (wpAny_bind (wpAny_mono h₃ (λx s₄ h₄=>wpAny_bind (wpAny_mono h₄ (λ_ s₅ h₅=>wpAny_pure (wpAny_pure ⟨rfl,h₅⟩)) λ_ _ h'=>h'.elim)) λ_ _ h'=>h'.elim))
def rLC(g:TG)(tc:TT)(te:TE)(Q:VK)(J:It)(τ:St)(H1:Hp):Prop:=∃W:Nat→Nat→List V→St→Hp→Prop,(∃m,W 0 m [] τ H1)∧∀i m ys τ H,W i m ys τ H →
 (J.stop i H∧∀D,H D=none→Q (.ref D) (upd H D (.lst ys))) ∨
 (J.go i H∧ys.length<sizeLine∧∀x H',J.yld i H x H'→g x τ H' λ τ2 H2=>tc τ2 H2 λb H3=>if b=true then te τ2 H3 λy H4=>∃m',m'<m∧W (i+1) m' (ys++[y]) τ2 H4 else ∃m',m'<m∧W (i+1) m' ys τ2 H3)
def tLC(ix:Nr)(wi:TI)(g:TG)(tc:TT)(te:TE):TE:=λ σ H Q=>wi σ H λJ H1=>rLC g tc te Q J (inner ix σ) H1
def lc_blockG{tg elt iter:Expr}{ifs:Np}{pos:Pos}{g:TG}{tc:TT}{te:TE}{fp:Nl}{it:Nc}{tn:Nat→Heap→Prop}{J:It}{Q:VK}{RR:Value→Addr→Result→Shared→Prop}{E:Nb}(B:BlkG X sc oz M ix)(hc:X.calm=true)(hg:∀C ex s H,PG (zd3 X sc oz M C a5 ex s H) tg g)(ht:∀C ex s H,PTs (zd3 X sc oz M C a5 ex s H) ifs tc)(he:∀C ex s H,PE (zd3 X sc oz M C a5 ex s H) elt te)(I:Inv X a5 σ H s)(T:Turn X.prog X.w X.K tg J fp it tn)(h0:tn 0 s.heap)(hf:∀b∈fp,FpOk X a5 H b)(q:rLC g tc te Q J (inner ix σ) H)(lW:∀D C m ys H' s',Inv X a5 σ (upd H' D (.lst ys)) s'→Q (.ref D) (upd H' D (.lst ys))→s'.heap.Ns C m→upd H' D (.lst ys) C=none→s.heap.objs.size<C→RR (.ref D) C (.ok .next) s') :
  wpAny (model X.prog X.w) X.A (newList []) (λae s₃=>wpAny (model X.prog X.w) X.A (newFunctionEnv sc X.env.globals (clOf sc X.env) [] X.env.qual none .none (some X.env)) (λcenv s₄ =>
   codeAny (model X.prog X.w) X.A (.compStart (.ListComp elt [⟨tg,iter,ifs,0⟩] sc pos) 0 (.ref it) ae {cenv with scope:=relabel sc X.env}) (RR ae cenv.locals) s₄) E s₃) E s:=by
 refine wpAny_newObj_type (newEnv_own B.one B.psh ?_)
 dsimp only
 generalize hD:s.heap.objs.size=D
 generalize hJ:s.heap.push {cls:=.type "list",dict:=none,data:=.seq ([]:List Value).toArray}=g2
 generalize qx:och oz (g2.push {cls:=.type "dict",data:=.dict #[]})=h₁
 have kp:∀(q:Nm) (b:Nc) (o:Obj),q.get? b=some o→(och oz q).get? b=some o:=λq b o e=>by
  cases oz with
  |none=>exact e
  |some _=>exact Qg _ e
 have hns₁:h₁.Ns g2.objs.size (λ_=>none):=qx▸(Heap.Ns.new g2 (.type "dict")).keeps λb o e=>kp _ b o e
 have hz₁:∀z,oz=some z→h₁.IsCell (g2.objs.size+1) none:=λz ez=>by
  have e:(g2.push {cls:=.type "dict",data:=.dict #[]}).objs.size=g2.objs.size+1:=Wz ..
  rw[←qx,←e,ez]
  exact⟨_,Zb _ rfl,rfl⟩
 have hC:g2.objs.size=D+1:=by rw[←hJ,Wz,hD]
 have k2:∀b o,s.heap.get? b=some o→g2.get? b=some o:=λb o e=>by rw[←hJ];exact Qg _ e
 have I3:Inv X a5 σ H {s with heap:=g2}:=I.kept (t':=s.toks) k2
 have HD:H D=none:=I.hok.fresh (by rw[hD];exact Qf _)
 have fD:FpOk X a5 H D:=I.fpOk (by rw[hD];exact Qf _) HD
 have D2:g2.get? D=some {cls:=.type "list",dict:=none,data:=.seq ([]:List Value).toArray}:=by rw[←hJ,←hD];exact Zb _ rfl
 have k1:∀b o,g2.get? b=some o→h₁.get? b=some o:=λb o e=>qx▸kp _ b o (Qg _ e)
 have fpx:∀b∈D::fp,FpOk X a5 H b:=λb hb=>by
  rcases Qh.mp hb with e | e
  ·rw[e];exact fD
  ·exact hf b e
 have fplt:∀b∈D::fp,b<g2.objs.size:=λb hb=>by
  rcases Qh.mp hb with e | e
  ·rw[e,hC];exact Ym _
  ·obtain ⟨o,q,_⟩:=T.obj _ _ h0 b e
   exact Qs (k2 b o q)
 have fpD:D∉fp:=λhm=>by
  obtain⟨o,q,_⟩:=T.obj _ _ h0 D hm
  have:=Qs q
  rw[hD]at this
  exact Yc _ this
 generalize au:zd3 X sc oz M g2.objs.size a5 (D::fp) {s with heap:=g2} H=Y
 have IY:Inv Y [] (inner ix σ) H {s with heap:=h₁,toks:=s.toks+([]:List (Str×Value)).length}:=by
  rw[←au]
  exact inv_blkG B I3 fpx fplt rfl hns₁ hz₁ k1 rfl rfl
 have Yg:=au▸hg g2.objs.size (D::fp) {s with heap:=g2} H
 have Yt:=au▸ht g2.objs.size (D::fp) {s with heap:=g2} H
 have Ye:=au▸he g2.objs.size (D::fp) {s with heap:=g2} H
 have eP:Y.prog=X.prog:=by rw[←au];rfl
 have eW:Y.w=X.w:=by rw[←au];rfl
 have eK:Y.K=X.K:=by rw[←au];rfl
 have eA:Y.A=X.A:=by rw[←au];rfl
 have eC:Y.calm=true:=by rw[←au];exact hc
 have eE:Y.env=compEnvC sc (ocl oz g2.objs.size (clOf sc X.env)) g2.objs.size X.env:=by rw[←au];rfl
 have eX:Y.xe=λ_ _=>False:=by rw[←au];rfl
 have eEx:Y.ex=D::fp:=by rw[←au];rfl
 have eFs:Y.fs=frs X.stack:=by rw[←au];rfl
 have ePn:Y.pn=X.pn++a5:=by rw[←au];rfl
 have eL:Y.env.locals=g2.objs.size:=by rw[eE];rfl
 have rP:Y.H₀=H:=by rw[←au];rfl
 have mf:Y.s₀={s with heap:=g2}:=by rw[←au];rfl
 have fY:∀{H':Hp} {pl:Nd} {b:Nc},b∈D::fp→H' b=none→(∀p∈pl,p.1≠b)→FpOk Y pl H' b:=λ{H' pl b} hb hn hp=>by
  obtain⟨f0,f1,f2,f3,f4,f5⟩:=fpx b hb
  refine⟨hn,?_,?_,.inl (by rw[eEx];exact hb),IY.ok.exf b (by rw[eEx];exact hb) |>.2,λp c7=>?_⟩
  ·rw[eL];exact Zi (fplt b hb)
  ·rw [eFs]
   intro z
   rcases Qh.mp (I3.stkSub b z) with q | q
   ·exact f1 q
   ·exact f2 q
  ·rw [ePn] at c7
   rcases Qd.mp c7 with z | z
   ·exact f5 p z
   ·exact hp p z
 obtain⟨W,⟨m0,w0⟩,turn⟩:=q
 have loop:∀ sN:Shared,sN={ s with heap:=h₁,toks:=s.toks+([]:List (Str×Value)).length } →
   codeAny (model X.prog X.w) X.A (.compLoop (.ListComp elt [⟨tg,iter,ifs,0⟩] sc pos) 0 (.ref it) (.ref D) (compEnvC sc (ocl oz g2.objs.size (clOf sc X.env)) g2.objs.size X.env)) (RR (.ref D) g2.objs.size) sN:=by
  rintro sN rfl
  refine compLoop_any (λn s'=>Ex6 λi τ H' ys a6 k=>Aj7 (Inv Y [] τ H' s') (tn i s'.heap) (∀b∈D::fp,H' b=none) (s'.heap.get? D=some {cls:=.type "list",data:=.seq (a6:Ni).toArray k}) (Vals ys a6) (ys.length≤sizeLine) (W i n ys τ H')) ?_ m0
   ⟨0,inner ix σ,H,[],[],0,IY,T.keep _ _ _ h0 λb _ o e=>k1 b o (k2 b o e),λb hb=>(fpx b hb).1,k1 _ _ D2,.nil,Zn _,w0⟩
  rintro n s5 ⟨i,τ,H5,ys,a6,k,I5,t5,n5,d5,v5,z5,w5⟩
  have oD:∀{s':Nh} {its':Ni} {k':Nat},s'.heap.get? D=some {cls:=.type "list",data:=.seq its'.toArray k'}→∀b∈[D],∃o,s'.heap.get? b=some o∧∀v,o.data≠.cell v:=λ{s' its' k'} e b hb=>by
   rw[Qb.mp hb]
   exact⟨_,e,λv z=>by cases z⟩
  have jx:Inv Y ([]++zcb [D] s5.heap) τ H5 s5:=I5.pinned (λb hb=>fY (by rw[Qb.mp hb];exact Qe) (n5 b (by rw[Qb.mp hb];exact Qe)) (by simp)) (oD d5)
  have pD:∀p∈zcb [D] s5.heap,p.1=D∧p.2={cls:=.type "list",data:=.seq a6.toArray k}:=λp hp=>by
   obtain⟨e1,e2⟩:=zfn hp
   have dE:p.1=D:=Qb.mp e1
   rw[dE,d5]at e2
   exact⟨dE,(Qr e2).symm⟩
  have fN:∀{H':Hp},(∀b∈fp,H' b=none)→∀b∈fp,FpOk Y ([]++zcb [D] s5.heap) H' b:=λhn b hb=>fY (Qi _ hb) (hn b hb) λp hp z=>by
   rw[Ue]at hp
   rw[(pD p hp).1]at z
   exact fpD (z▸hb)
  rcases turn i n ys τ H5 w5 with⟨stop,qn⟩ | ⟨go,zl,step⟩
  ·have h6:=T.done Y eP eW eK eC i _ s5 τ H5 (fun _ _=>False) jx (fN fun b hb=>n5 b (Qi _ hb)) t5 stop
   rw[eA]at h6
   refine thn h6 λr s6 ⟨hr,I6⟩=>?_
   subst hr
   have d6:s6.heap.get? D=some {cls:=.type "list",data:=.seq a6.toArray k}:=by
    have hp:=zbl (fp:=[D]) (Qb.mpr rfl) d5
    exact(I6.pin (D,_) (Qn _ hp)).1
   have H5D:H5 D=none:=n5 D Qe
   obtain⟨mL,nL,_⟩:=I6.loc
   rw[eL]at nL
   have CD:g2.objs.size≠D:=by rw[hC];exact Nat.succ_ne_self _
   refine lW D _ mL ys H5 s6 ?_ (qn D H5D) nL ?_ (by rw[hC,hD];exact Ym _)
   ·have u6:=I6.base
    rw[eFs,eEx,rP,mf]at u6
    refine I3.call' (ch:=D::fp) (I6.os.trans (by rw[mf])) ⟨u6.keep,u6.slot,λb o e n hx=>?_,u6.there,λb xs e=>?_,λb o u e=>?_,λb ps e=>?_⟩ ?_ I6.bare λb hb=>?_
    ·rw[zad (λz=>hx (by rw[z];exact Qe))];exact u6.free b o e n hx
    ·rw[zad (zab e HD)];exact u6.tups b xs e
    ·rw[zad (zab e HD)];exact u6.frzs b o u e
    ·rw[zad (zab e HD)];exact u6.tbls b ps e
    ·have kj:=I6.hok
     rw[eP,eW]at kj
     intro b u e
     by_cases hb:b=D
     ·subst hb
      rw[zac]at e
      cases e
      exact⟨z5,a6,k,v5,d6⟩
     ·rw [zad hb] at e
      exact(kj b u e).stay (λc v _ q=>q) (λc q=>by rw[zad (zab q H5D)];exact q) λc xs q=>by rw[zad (zab q H5D)];exact q
    ·obtain ⟨f0,f1,f2,f3,f4,f5⟩:=fpx b hb
     exact⟨f3,f1,f4,f5⟩
   ·rw [zad CD]
    have:=I6.free
    rw[eL]at this
    exact this
  ·have h6:=T.item Y eP eW eK eC i _ s5 τ H5 (fun _ _=>False) jx (fN fun b hb=>n5 b (Qi _ hb)) t5 go
   rw[eA]at h6
   refine thn h6 λr s6 ⟨u,hr,h7⟩=>?_
   subst hr
   refine thn h7 λ_ s7 ⟨x,H7,I7,r7,y7,t7,n7⟩=>?_
   have sx:=I7.pinned (fN n7) (T.obj _ _ t7)
   have h8:=Yg _ s7 τ H7 x u _ sx r7 (step x H7 y7)
   rw[eP,eW,eA,eX,eE]at h8
   refine thn h8 λ_ s8 ⟨τ8,H8,I8,q8⟩=>?_
   have h9:=Yt _ s8 τ8 H8 _ I8 q8
   rw[eP,eW,eA,eX,eE]at h9
   refine thn h9 λok s9 ⟨H9,I9,q9⟩=>?_
   have again:∀{τ':St} {H':Hp} {s':Nh},Inv Y (([]++zcb [D] s5.heap)++zcb fp s7.heap) τ' H' s'→s'.heap.get? D=some {cls:=.type "list",data:=.seq a6.toArray k}∧H' D=none∧tn (i+1) s'.heap∧∀b∈fp,H' b=none:=λ{τ' H' s'} I'=>by
    have pp:∀{b:Nc} {o:Obj},b∈fp→s7.heap.get? b=some o→s'.heap.get? b=some o∧H' b=none:=λ{b o} hb e =>
     let z:=I'.pin (b,o) (Qn _ (Qn _ (zbl hb e)))
     ⟨z.1,z.2.1⟩
    have hp:=zbl (fp:=[D]) (Qb.mpr rfl) d5
    have z:=I'.pin (D,_) (Qn _ (Qo _ hp))
    refine⟨z.1,z.2.1,T.keep _ _ _ t7 λb hb o e=>(pp hb e).1,λb hb=>?_⟩
    obtain⟨o,e,_⟩:=T.obj _ _ t7 b hb
    exact(pp hb e).2
   have drop:∀{pl:Nd} {τ':St} {H':Hp} {s':Nh},Inv Y pl τ' H' s'→Inv Y [] τ' H' s':=λI'=>I'.pins_of (by simp)
   cases ok with
   |false =>
    rw[if_neg (by decide)]at q9 ⊢
    obtain⟨m',hm,w9⟩:=q9
    obtain⟨d9,H9D,t9,n9⟩:=again I9
    exact⟨m',hm,i+1,τ8,H9,ys,a6,k,drop I9,t9,λb hb=>(Qh.mp hb).elim (λe=>e▸H9D) (n9 b),d9,v5,z5,w9⟩
   | true =>
    rw[if_pos rfl]at q9 ⊢
    have ju:=Ye _ s9 τ8 H9 _ I9 q9
    rw[eP,eW,eA,eX,eE]at ju
    refine thn ju λy hX ⟨yv,jy,o8,mr,m',hm,w10⟩=>?_
    obtain⟨rT,H10D,t10,n10⟩:=again o8
    refine call_meets F.slot_list_append ⟨_,rT,rfl⟩ F.entry_list_append (F.args_list_append_2 _ _) (PySem.list_append D a6.toArray k y (by rw[Qq,←v5.length];assumption)) ⟨rT,?_⟩
    have q:=PySem.IsL.update rT (λa=>a.push y)
    have e11:(a6.toArray.push y)=(a6++[y]).toArray:=by simp
    rw[e11]at q
    have kk:∀b o,b≠D→hX.heap.get? b=some o→(hX.heap.update D (Obj.mapSeq λa=>a.push y)).get? b=some o:=λb o hb e=>(Ui hX.heap (Obj.mapSeq λa=>a.push y) (Zh hb)).trans e
    obtain⟨g0,g1,g2',g3,g4,g5⟩:=fY (pl:=[]) (H':=jy) (b:=D) Qe H10D (by simp)
    have o7:=(drop o8).turned (h':=hX.heap.update D (Obj.mapSeq λa=>a.push y)) (t':=hX.toks) (it:=D) kk H10D g1 g3 g4 g5
    exact⟨m',hm,i+1,τ8,jy,ys++[yv],a6++[y],_,o7,T.keep _ _ _ t10 λb hb o e=>kk b o (λz=>fpD (z▸hb)) e,λb hb=>(Qh.mp hb).elim (λe=>e▸H10D) (n10 b),q,v5.append (.cons mr .nil),
     by rw[Qp,Xc];assumption,w10⟩
 exact codeAny_compStart_list (loop _ rfl) (T.self _ 0 _ _ _ (T.keep _ _ _ h0 λb _ o e=>k1 b o (k2 b o e)) (loop _ rfl))
def lc_block{tg elt iter:Expr}{ifs:Np}{pos:Pos}{g:TG}{tc:TT}{te:TE}{fp:Nl}{it:Nc}{tn:Nat→Heap→Prop}{J:It}{Q:VK}{RR:Value→Addr→Result→Shared→Prop}{E:Nb}(B:Blk X sc M ix)(hc:X.calm=true)(hg:∀C ex s H,PG (zcs X sc M C a5 ex s H) tg g)(ht:∀C ex s H,PTs (zcs X sc M C a5 ex s H) ifs tc)(he:∀C ex s H,PE (zcs X sc M C a5 ex s H) elt te)(I:Inv X a5 σ H s)(T:Turn X.prog X.w X.K tg J fp it tn)(h0:tn 0 s.heap)(hf:∀b∈fp,FpOk X a5 H b)(q:rLC g tc te Q J (inner ix σ) H)(lW:∀D C m ys H' s',Inv X a5 σ (upd H' D (.lst ys)) s'→Q (.ref D) (upd H' D (.lst ys))→s'.heap.Ns C m→upd H' D (.lst ys) C=none→s.heap.objs.size<C→RR (.ref D) C (.ok .next) s') :
  wpAny (model X.prog X.w) X.A (newList []) (λae s₃=>wpAny (model X.prog X.w) X.A (newFunctionEnv sc X.env.globals (clOf sc X.env) [] X.env.qual none .none (some X.env)) (λcenv s₄ =>
   codeAny (model X.prog X.w) X.A (.compStart (.ListComp elt [⟨tg,iter,ifs,0⟩] sc pos) 0 (.ref it) ae {cenv with scope:=relabel sc X.env}) (RR ae cenv.locals) s₄) E s₃) E s:=lc_blockG B.g hc hg ht he I T h0 hf q lW
def Inv.letgo{C:Nc}{m:Nf}{h':Nm}{s₀:Nm}(I:Inv X a5 σ H s)(hn:s.heap.Ns C m)(hC:H C=none)(aa:X.env.locals<s₀.objs.size)(ji:∀x c,X.env.cells.lookup x=some c→c<s₀.objs.size)(hp:∀p∈X.pn++a5,p.1<s₀.objs.size)(aB:X.s₀.heap.objs.size≤s₀.objs.size)(hc:s₀.objs.size<C)(hs:Heap.SameBut C s.heap h'):Inv X a5 σ H {s with heap:=h'} :=
 I.turned (t':=s.toks) (it:=C) (λb o hb e=>(hs.2 b hb).trans e) hC (Yq (Yy aa hc)) (.inr (Zj aB (Wx hc))) (λx c e=>Zi (Yy (ji x c e) hc)) λp q=>Zi (Yy (hp p q) hc)
def Inv.cl_lt(I:Inv X a5 σ H s):∀x c,X.env.cells.lookup x=some c→c<s.heap.objs.size:=λx c e=>by
 obtain⟨v,q⟩:=I.cell x c e
 exact q.lt
def Inv.pin_lt(I:Inv X a5 σ H s):∀p∈X.pn++a5,p.1<s.heap.objs.size:=λp hp=>Qs (I.pin p hp).1
def pe_lcC(B:BlkG X sc oz M ix)(hc:X.calm=true)(hi:PI X tg iter wi)(hg:∀C a5 ex s H,PG (zd3 X sc oz M C a5 ex s H) tg g)(ht:∀C a5 ex s H,PTs (zd3 X sc oz M C a5 ex s H) ifs tc)(he:∀C a5 ex s H,PE (zd3 X sc oz M C a5 ex s H) elt te)(hs:∀x,foldedSetIterable iter X.env x=pure x:=by intro _;rfl):PE X (.ListComp elt [⟨tg,iter,ifs,0⟩] sc pos) (tLC ix wi g tc te):=by
 intro a5 s σ H Q I h
 rw[eval_ListComp]
 refine wpAny_comprehension_free (use:=none) rfl hs (zb6 (B.clos I)) B.kind B.names (thn (hi a5 s σ H _ I h) λv s1 h1=>thn h1 λitv s2 h2=>?_)
 obtain⟨it,fp,tn,J,H2,e,I2,T,bh,f2,q⟩:=h2
 subst e
 refine lc_blockG (RR:=λae C=>compPost (model X.prog X.w) X.A X.xe none (EP X a5 σ Q) ae C) B hc (hg · a5) (ht · a5) (he · a5) I2 T bh f2 q ?_
 intro D C m ys H' s' I' q' hn hC aa
 refine⟨m,hn,λh' cq=>⟨.ref D,_,I'.letgo hn hC I2.lt I2.cl_lt I2.pin_lt I2.sz aa cq,rfl,q'⟩⟩
def pe_lc(B:Blk X sc M ix)(hc:X.calm=true)(hi:PI X tg iter wi)(hg:∀C a5 ex s H,PG (zcs X sc M C a5 ex s H) tg g)(ht:∀C a5 ex s H,PTs (zcs X sc M C a5 ex s H) ifs tc)(he:∀C a5 ex s H,PE (zcs X sc M C a5 ex s H) elt te)(hs:∀x,foldedSetIterable iter X.env x=pure x:=by intro _;rfl):PE X (.ListComp elt [⟨tg,iter,ifs,0⟩] sc pos) (tLC ix wi g tc te):=pe_lcC B.g hc hi hg ht he hs
def ps_lc(hN:X.N.Nodup)(eI:X.N[i]?=some y)(hy:X.env.scope.names.lookup y=some .local)(B:Blk X sc M ix)(hc:X.calm=true)(hi:PI X tg iter wi)(hg:∀C a5 ex s H,PG (zcs X sc M C a5 ex s H) tg g)(ht:∀C a5 ex s H,PTs (zcs X sc M C a5 ex s H) ifs tc)(he:∀C a5 ex s H,PE (zcs X sc M C a5 ex s H) elt te)(pf:swapsWith (.ListComp elt [⟨tg,iter,ifs,0⟩] sc pos) (some (.Name y py)) spos.line X.env=pure true)(hs:∀x,foldedSetIterable iter X.env x=pure x:=by intro _;rfl):PS X (.Assign [.Name y py] (.ListComp elt [⟨tg,iter,ifs,0⟩] sc pos) spos) (tAsg (tLC ix wi g tc te) (gName i)):=by
 intro a5 s σ H D' I h
 rw[exec_Assign_Name_used _ _ _ _ pf]
 refine wpAny_bind (wpAny_standAt (wpAny_bind ?_))
 show wpAny _ X.A (do let _ ←comprehension (.ListComp elt [⟨tg,iter,ifs,0⟩] sc pos) sc X.env _ (newList []) false (eval iter X.env) (some (assign (.Name y py) X.env))) _ _ s
 refine wpAny_bind (wpAny_mono (wpAny_comprehension_free (use:=some (assign (.Name y py) X.env)) (Q:=λ_ s'=>SP X a5 D' .next s') rfl hs (zb6 (B.clos I)) B.kind B.names
  (thn (hi a5 s σ H _ I h) λv s1 h1=>thn h1 λitv s2 h2=>?_)) (λ_ s' hq=>wpAny_pure (wpAny_pure hq)) λ_ _ e=>e)
 obtain⟨it,fp,tn,J,H2,e,I2,T,bh,f2,q⟩:=h2
 subst e
 refine lc_block (RR:=λae C=>compPost (model X.prog X.w) X.A X.xe (some (assign (.Name y py) X.env)) (λ_ s'=>SP X a5 D' .next s') ae C) B hc (hg · a5) (ht · a5) (he · a5) I2 T bh f2 q ?_
 intro D C m ys H' s' I' q' hn hC aa
 show wpAny _ X.A (assign (.Name y py) X.env (.ref D)) _ _ s'
 refine wpAny_assign_Name (zfd I' hN eI (.inl hy) (v:=.ref D) rfl (λke sA ⟨a,sb,ha⟩=>?_) (.inr hy))
 have aC:C≠a:=by
  rcases ha with z | z
  ·rw[z];exact Yq (Yy I2.lt aa)
  ·exact Yq (Yy (I2.cl_lt _ _ z) aa)
 have bK:=hn.sameBut sb aC
 exact⟨m,bK,λh' cq=>⟨_,_,sA.letgo bK hC I2.lt I2.cl_lt I2.pin_lt I2.sz aa cq,q'⟩⟩
end
end L2
end
section
namespace Tm
open PySem PyProof.Rows
def gallopT:Bool→Keyed→Array Keyed→Nat→Nat→Nat→StateT SortSt Sem (Option Nat):=sortPriv% PySem.Builtin.gallop
def mergeLoT:Array Keyed→Array Keyed→StateT SortSt Sem (Array Keyed):=sortPriv% PySem.Builtin.mergeLo
def mergeHiT:Array Keyed→Array Keyed→StateT SortSt Sem (Array Keyed):=sortPriv% PySem.Builtin.mergeHi
section
variable{σ α β:Type}{M:Model}{A:Nn}{E:Nb}{s:Nh}{Q:α→σ→Prop}{st:σ}{c:Prop}[Decidable c]
def zcp(h:∀Q0:α→σ→Prop,(∀r a8,Q r a8→Q0 r a8)→wpS M A E s m Q0 st):wpS M A E s m Q st:=h Q λ_ _ z=>z
def jp_if{f:Unit→β→StateT σ Sem α}(h:∀z,wpS M A E s (f () z) Q st):wpS M A E s (if c then f () x else f () y) Q st:=by
 split
 ·exact h _
 ·exact h _
def zal{x y:StateT σ Sem α}(h1:c→wpS M A E s x Q st)(h2:¬c→wpS M A E s y Q st):wpS M A E s (if c then x else y) Q st:=by
 split
 next z=>exact h1 z
 next z=>exact h2 z
end
section
variable{prog:Nj}{w:Nk}{A:Nn}{E:Nb}{s:Nh}{kd:SortKind}{a₀:Array Keyed}
def Cmp(prog:Nj)(w:Nk)(A:Nn)(E:Nb)(s:Nh)(kd:SortKind)(a₀:Array Keyed):Prop :=
 ∀(x y:Keyed) (st:SortSt) (Q:Option Bool→SortSt→Prop),x∈a₀.toList→y∈a₀.toList→kindOf st=kd→(∀b,Q (some b) st)→wpS (model prog w) A E s (lt' x y) Q st
def Of(a₀ xs:Array Keyed):Prop:=∀(i:Nat) (p:Keyed),xs[i]?=some p→p∈a₀.toList
def zar{arr:Array Keyed}{i:Nat}{p:Keyed}{Q:Keyed→SortSt→Prop}{st:SortSt}(h:arr[i]?=some p)(q:Q p st):wpS (model prog w) A E s (elem' arr i) Q st:=by
 rw[elem'_eq,h];exact wpS_pure q
def beyondT(left:Bool)(ky:Keyed)(arr:Array Keyed)(i:Nat):StateT SortSt Sem (Option Bool):=do
 let x ←elem' arr i
 if left=true then lt' x ky else do
  let r ←lt' ky x
  pure (r.map λz=>!z)
def wpS_beyond{left:Bool}{ky:Keyed}{arr:Array Keyed}{i:Nat}{Q:Option Bool→SortSt→Prop}{st:SortSt}(C:Cmp prog w A E s kd a₀)(hk:kindOf st=kd)(hO:Of a₀ arr)(hy:ky∈a₀.toList)(hi:i<arr.size)(q:∀b,Q (some b) st):wpS (model prog w) A E s (beyondT left ky arr i) Q st:=by
 have e:=getElem?_pos arr i hi
 unfold beyondT
 refine wpS_bind (zar e ?_)
 have m:=hO _ _ e
 cases left with
 |true=>exact C _ _ _ _ m hy hk q
 |false=>exact wpS_bind (C _ _ _ _ hy m hk λb=>wpS_pure (q _))
def zb0{left:Bool}{ky:Keyed}{arr:Array Keyed}{base n hint:Nat}{Q:Option Nat→SortSt→Prop}{st:SortSt}(C:Cmp prog w A E s kd a₀)(hk:kindOf st=kd)(hO:Of a₀ arr)(hy:ky∈a₀.toList)(hb:base+n≤arr.size)(hh:hint<n)(h:∀k,k≤n→Q (some k) st):wpS (model prog w) A E s (gallopT left ky arr base n hint) Q st:=by
 have ask:∀{i:Nat} {Q':Option Bool→SortSt→Prop},i<n→(∀b,Q' (some b) st)→wpS (model prog w) A E s (beyondT left ky arr (base+i)) Q' st:=λ{i Q'} hi q=>wpS_beyond C hk hO hy (by omega) q
 have last:∀(f:Nat→(Option (Option Nat)×Nat×Nat)→StateT SortSt Sem (ForInStep (Option (Option Nat)×Nat×Nat))) (lo hi:Nat),lo≤hi→hi≤n →
   (∀x l r Q',l≥r→Q' (ForInStep.done (none,l,r)) st→wpS (model prog w) A E s (f x (none,l,r)) Q' st) →
   (∀x l r Q',¬l≥r→r≤n→Q' (ForInStep.yield (none,l+(r-l)/2+1,r)) st→Q' (ForInStep.yield (none,l,l+(r-l)/2)) st→wpS (model prog w) A E s (f x (none,l,r)) Q' st) →
   wpS (model prog w) A E s (forIn [:n] (none,lo,hi) f) (λc a8=>a8=st∧∃k,c=(none,k,k)∧k≤n) st:=by
  intro f lo hi h1 h2 f1 f2
  refine wpS_forRange (I:=λx c a8=>Aj2 (a8=st) (Ex2 λl r=>Aj4 (c=(none,l,r)) (l≤r) (r≤n) (r-l≤n-x))) ?step ?fin ?init
  case init=>exact⟨rfl,lo,hi,rfl,h1,h2,by omega⟩
  case fin =>
   rintro c a8 ⟨rfl,l,r,rfl,a1,a2,a3⟩
   have:l=r:=by omega
   subst this
   exact⟨rfl,l,rfl,a2⟩
  case step =>
   rintro x c a8 _ hx ⟨rfl,l,r,rfl,a1,a2,a3⟩
   by_cases dk:l≥r
   ·refine f1 x l r _ dk ?_
    have:l=r:=Nat.le_antisymm a1 dk
    subst this
    exact⟨rfl,l,rfl,a2⟩
   ·exact f2 x l r _ dk a2 ⟨rfl,_,_,rfl,by omega,a2,by omega⟩ ⟨rfl,_,_,rfl,Wg _ _,by omega,by omega⟩
 unfold gallopT
 refine wpS_bind (ask (i:=hint) hh λb0=>?_)
 cases b0 with
 | true =>
  refine wpS_bind (wpS_mono (wpS_forRange
   (I:=λx c a8=>Aj2 (a8=st) (Ex2 λla of=>Aj4 (c=(none,la,of)) (hint+la<n) (la<of) (x<of)))
   (Q:=λc a8=>Aj2 (a8=st) (Ex2 λla of=>Aj3 (c=(none,la,of)) (hint+la<n) (la<of))) ?step ?fin ?init) ?post)
  case init=>exact⟨rfl,0,1,rfl,hh,Qf _,Qf _⟩
  case fin =>
   rintro c a8 ⟨rfl,la,of,rfl,a2,a3,a4⟩
   exact⟨rfl,la,of,rfl,a2,a3⟩
  case step =>
   rintro x c a8 _ hx ⟨rfl,la,of,rfl,a2,a3,a4⟩
   dsimp only
   refine zal (λ_=>wpS_pure ⟨rfl,la,of,rfl,a2,a3⟩) λdk=>wpS_bind (ask (i:=hint+of) (by omega) λb=>?_)
   cases b with
   |true=>exact wpS_pure ⟨rfl,of,2*of+1,rfl,by omega,by omega,by omega⟩
   |false=>exact wpS_pure ⟨rfl,la,of,rfl,a2,a3⟩
  case post =>
   rintro c a8 ⟨rfl,la,of,rfl,a2,a3⟩
   refine wpS_bind (wpS_mono (last _ (hint+la+1) (hint+min of (n-hint)) (by omega) (by omega) ?_ ?_) ?_)
   ·intro x l r Q' dk q
    exact zal (λ_=>wpS_pure q) λz=>absurd dk z
   ·intro x l r Q' dk hr q1 q2
    refine zal (λz=>absurd z dk) λ_=>wpS_bind (ask (i:=l+(r-l)/2) (by omega) λb=>?_)
    cases b with
    |true=>exact wpS_pure q1
    |false=>exact wpS_pure q2
   ·rintro c a8 ⟨rfl,k,rfl,b1⟩
    exact wpS_pure (h k b1)
 | false =>
  refine wpS_bind (wpS_mono (wpS_forRange
   (I:=λx c a8=>Aj2 (a8=st) (Ex2 λla of=>Aj4 (c=(none,la,of)) (la≤hint) (la<of) (x<of)))
   (Q:=λc a8=>Aj2 (a8=st) (Ex2 λla of=>Aj3 (c=(none,la,of)) (la≤hint) (la<of))) ?step ?fin ?init) ?post)
  case init=>exact⟨rfl,0,1,rfl,Zn _,Qf _,Qf _⟩
  case fin =>
   rintro c a8 ⟨rfl,la,of,rfl,a2,a3,a4⟩
   exact⟨rfl,la,of,rfl,a2,a3⟩
  case step =>
   rintro x c a8 _ hx ⟨rfl,la,of,rfl,a2,a3,a4⟩
   dsimp only
   refine zal (λ_=>wpS_pure ⟨rfl,la,of,rfl,a2,a3⟩) λdk=>wpS_bind (ask (i:=hint-of) (by omega) λb=>?_)
   cases b with
   |true=>exact wpS_pure ⟨rfl,la,of,rfl,a2,a3⟩
   |false=>exact wpS_pure ⟨rfl,of,2*of+1,rfl,by omega,by omega,by omega⟩
  case post =>
   rintro c a8 ⟨rfl,la,of,rfl,a2,a3⟩
   refine wpS_bind (wpS_mono (last _ (hint+1-min of (hint+1)) (hint-la) (by omega) (by omega) ?_ ?_) ?_)
   ·intro x l r Q' dk q
    exact zal (λ_=>wpS_pure q) λz=>absurd dk z
   ·intro x l r Q' dk hr q1 q2
    refine zal (λz=>absurd z dk) λ_=>wpS_bind (ask (i:=l+(r-l)/2) (by omega) λb=>?_)
    cases b with
    |true=>exact wpS_pure q1
    |false=>exact wpS_pure q2
   ·rintro c a8 ⟨rfl,k,rfl,b1⟩
    exact wpS_pure (h k b1)
end
section
variable{prog:Nj}{w:Nk}{A:Nn}{E:Nb}{s:Nh}{kd:SortKind}{a₀:Array Keyed}
variable{all out ra rb seg:List Keyed}
def Pm(all out ra rb:List Keyed):Prop:=(out++(ra++rb)).Perm all
def Pm.appA(j:Pm all out (seg++ra) rb):Pm all (out++seg) ra rb:=by
 unfold Pm at *
 rw[Qw,←Qw seg];exact j
def Pm.appB(j:Pm all out ra (seg++rb)):Pm all (out++seg) ra rb:=by
 unfold Pm at *
 rw[Qw]
 refine List.Perm.trans (Zv _ ?_) j
 rw[←Qw,←Qw]
 exact Yw.append_right _
def drop_cons{a:Array Keyed}{i:Nat}(h:i<a.size):a.toList.drop i=a[i]::a.toList.drop (i+1):=by
 rw[Ka (by simpa using h)];simp
def zcq{a:Array Keyed}{i:Nat}:(a.extract i a.size).toList=a.toList.drop i:=by
 simp[Qx]
def zf0{a:Array Keyed}{i k:Nat}(h:i+k≤a.size):(a.extract i (i+k)).toList++a.toList.drop (i+k)=a.toList.drop i:=by
 rw[Array.toList_extract,Jz]
 have:i+k-i=k:=by omega
 rw[this,←List.drop_drop,Yp]
abbrev Pa(a b o:Array Keyed)(i k:Nat):Prop:=Pm (a.toList++b.toList) o.toList (a.toList.drop i) (b.toList.drop k)
variable{a b o:Array Keyed}{i k n:Nat}
def Pa.pushA(j:Pa a b o i k)(h:i<a.size):Pa a b (o.push a[i]) (i+1) k:=by
 have:=Pm.appA (seg:=[a[i]]) (ra:=a.toList.drop (i+1)) (by rw[Xa,←drop_cons h];exact j)
 rwa[←Jf]at this
def Pa.pushB(j:Pa a b o i k)(h:k<b.size):Pa a b (o.push b[k]) i (k+1):=by
 have:=Pm.appB (seg:=[b[k]]) (rb:=b.toList.drop (k+1)) (by rw[Xa,←drop_cons h];exact j)
 rwa[←Jf]at this
def Pa.runA(j:Pa a b o i k)(h:i+n≤a.size):Pa a b (o++a.extract i (i+n)) (i+n) k:=by
 have:=Pm.appA (seg:=(a.extract i (i+n)).toList) (ra:=a.toList.drop (i+n)) (by rw[zf0 h];exact j)
 show Pm _ (o++a.extract i (i+n)).toList _ _
 rw[Yd];exact this
def Pa.runB(j:Pa a b o i k)(h:k+n≤b.size):Pa a b (o++b.extract k (k+n)) i (k+n):=by
 have:=Pm.appB (seg:=(b.extract k (k+n)).toList) (rb:=b.toList.drop (k+n)) (by rw[zf0 h];exact j)
 show Pm _ (o++b.extract k (k+n)).toList _ _
 rw[Yd];exact this
def Pa.end1(j:Pa a b o i k):(o++a.extract i++b.extract k).toList.Perm (a.toList++b.toList):=by
 rw[Yd,Yd,zcq,zcq,Qw];exact j
def Pa.end2(j:Pa a b o i k):(o++b.extract k++a.extract i).toList.Perm (a.toList++b.toList):=by
 rw[Yd,Yd,zcq,zcq,Qw]
 exact(Zv _ Yw).trans j
def SG(st a8:SortSt):Prop:=∃g,a8=SortSt.mk' (kindOf st) (arrOf st) (pendingOf st) g (failedOf st)
def wpS_mergeLo{Q:Array Keyed→SortSt→Prop}{st:SortSt}(C:Cmp prog w A E s kd a₀)(hk:kindOf st=kd)(oa:Of a₀ a)(ob:Of a₀ b)(ha:0 < a.size)(hb:0 < b.size)(h:∀(res:Array Keyed) (a8:SortSt),res.toList.Perm (a.toList++b.toList)→SG st a8→Q res a8):wpS (model prog w) A E s (mergeLoT a b) Q st:=by
 have ia_:∀i (hi:i<a.size),a[i]∈a₀.toList:=λi hi=>oa i _ (getElem?_pos a i hi)
 have ib_:∀i (hi:i<b.size),b[i]∈a₀.toList:=λi hi=>ob i _ (getElem?_pos b i hi)
 have ea:∀i (hi:i<a.size),a[i]?=some a[i]:=λi hi=>getElem?_pos a i hi
 have eb:∀i (hi:i<b.size),b[i]?=some b[i]:=λi hi=>getElem?_pos b i hi
 have sgk:∀{a8},SG st a8→kindOf a8=kd:=λ⟨g,e⟩=>by rw[e];exact hk
 unfold mergeLoT
 refine wpS_bind (wpS_lift (wpAny_rule ⟨rfl,?_⟩))
 refine wpS_bind (zar (eb 0 hb) ?_)
 have j0:Pa a b (#[b[0]]:Array Keyed) 0 1:=by
  have j:Pa a b (#[]:Array Keyed) 0 0:=by show List.Perm _ _;simp
  exact j.pushB hb
 refine zal (λc1=>wpS_pure (h _ _ j0.end1 ⟨_,rfl⟩)) λc1=>zal (λc2=>wpS_pure (h _ _ j0.end2 ⟨_,rfl⟩)) λc2=>?_
 have rV:¬b.size=1:=λz=>c1 (by simp[z])
 have c2':¬a.size=1:=λz=>c2 (by simp[z])
 refine wpS_bind (wpS_get ?_)
 refine wpS_bind (wpS_mono (wpS_forRange
  (I:=λx c a8=>Aj2 (SG st a8) (Ex4 λo i k g=>Aj5 (c=(none,o,i,k,g)) (i+1<a.size) (k<b.size) (Pa a b o i k) (x≤i+k)))
  (Q:=λc a8=>Aj2 (SG st a8) (Ex2 λres r=>Aj2 (c=(some res,r)) (res.toList.Perm (a.toList++b.toList)))) ?step ?fin ?init) ?post)
 case init=>exact⟨⟨_,rfl⟩,_,0,1,_,rfl,by omega,by omega,j0,by omega⟩
 case fin =>
  rintro c a8 ⟨_,o,i,k,g,rfl,a1,a2,a3,a4⟩
  exfalso;omega
 case post =>
  rintro c a8 ⟨g,res,r,rfl,m⟩
  exact wpS_pure (h res a8 m g)
 case step =>
  rintro x c aR _ hx ⟨g1,o1,i1,k1,mg,rfl,a1,a2,a3,a4⟩
  dsimp -zeta only
  refine wpS_bind (wpS_mono (wpS_forRange
   (I:=λy c a8=>Aj2 (a8=aR) (Ex5 λo i k ac bc=>Aj5 (c=(none,o,i,k,ac,bc)) (i+1<a.size) (k<b.size) (Pa a b o i k) (i1+k1+y≤i+k)))
   (Q:=λc a8=>Aj2 (a8=aR) ((Ex2 λres r=>Aj2 (c=(some res,r)) (res.toList.Perm (a.toList++b.toList)))∨Ex5 λo i k ac bc=>Aj5 (c=(none,o,i,k,ac,bc)) (i+1<a.size) (k<b.size) (Pa a b o i k) (i1+k1<i+k))) ?step1 ?fin1 ?init1) ?post1)
  case init1=>exact⟨rfl,o1,i1,k1,0,0,rfl,a1,a2,a3,Qf _⟩
  case fin1 =>
   rintro c a8 ⟨_,o,i,k,ac,bc,rfl,b1,b2,b3,b4⟩
   exfalso;omega
  case step1 =>
   rintro y c bh _ hy ⟨rfl,o,i,k,ac,bc,rfl,b1,b2,b3,b4⟩
   have nZ:i<a.size:=by omega
   dsimp -zeta only
   refine wpS_bind (zar (eb k b2) (wpS_bind (zar (ea i nZ) (wpS_bind (C _ _ _ _ (ib_ k b2) (ia_ i nZ) (sgk g1) λe=>?_)))))
   dsimp -zeta only
   refine zal (λ_=>?_) (λ_=>?_)
   ·refine wpS_bind (zar (eb k b2) ?_)
    have j:=b3.pushB b2
    refine zal (λ_=>wpS_pure ⟨rfl,.inl ⟨_,_,rfl,j.end1⟩⟩) λd1=>?_
    have mh:¬k+1=b.size:=λz=>d1 (beq_iff_eq.mpr z)
    exact zal (λ_=>wpS_pure ⟨rfl,.inr ⟨_,i,k+1,_,_,rfl,b1,by omega,j,by omega⟩⟩) λ_=>wpS_pure ⟨rfl,_,i,k+1,_,_,rfl,b1,by omega,j,by omega⟩
   ·refine wpS_bind (zar (ea i nZ) ?_)
    have j:=b3.pushA nZ
    refine zal (λ_=>wpS_pure ⟨rfl,.inl ⟨_,_,rfl,j.end2⟩⟩) λd1=>?_
    have mh:¬i+1+1=a.size:=λz=>d1 (beq_iff_eq.mpr z)
    exact zal (λ_=>wpS_pure ⟨rfl,.inr ⟨_,i+1,k,_,_,rfl,by omega,b2,j,by omega⟩⟩) λ_=>wpS_pure ⟨rfl,_,i+1,k,_,_,rfl,by omega,b2,j,by omega⟩
  case post1 =>
   rintro c bh ⟨rfl,⟨res,r,rfl,m⟩ | ⟨o2,i2,k2,ac2,bc2,rfl,b1,b2,b3,b4⟩⟩
   ·exact wpS_pure ⟨g1,res,_,rfl,m⟩
   dsimp -zeta only
   refine wpS_bind (wpS_lift (wpAny_rule ⟨rfl,?_⟩))
   refine wpS_bind (wpS_mono (wpS_forRange
    (I:=λy c a8=>Aj2 (SG st a8) (Ex6 λo i k g ac bc=>Aj5 (c=(none,o,i,k,g,ac,bc)) (i+1<a.size) (k<b.size) (Pa a b o i k) (i2+k2≤i+k)))
    (Q:=λc a8=>Aj2 (SG st a8) ((Ex2 λres r=>Aj2 (c=(some res,r)) (res.toList.Perm (a.toList++b.toList)))∨Ex6 λo i k g ac bc=>Aj5 (c=(none,o,i,k,g,ac,bc)) (i+1<a.size) (k<b.size) (Pa a b o i k) (i2+k2≤i+k))) ?step2 ?fin2 ?init2) ?post2)
   case init2=>exact⟨g1,o2,i2,k2,_,_,_,rfl,b1,b2,b3,Qf _⟩
   case fin2 =>
    rintro c a8 ⟨g,o,i,k,g',ac,bc,rfl,c1,c2,c3,c4⟩
    exact⟨g,.inr ⟨o,i,k,g',ac,bc,rfl,c1,c2,c3,c4⟩⟩
   case post2 =>
    rintro c aj ⟨g3,⟨res,r,rfl,m⟩ | ⟨o3,i3,k3,g',sw,rW,rfl,c1,c2,c3,c4⟩⟩
    ·exact wpS_pure ⟨g3,res,_,rfl,m⟩
    dsimp -zeta only
    refine wpS_bind (wpS_modify ?_)
    obtain⟨gg,e3⟩:=g3
    exact wpS_pure ⟨⟨_,by rw[e3]⟩,o3,i3,k3,_,rfl,c1,c2,c3,by omega⟩
   case step2 =>
    rintro y c aj _ hy ⟨g3,o3,i3,k3,mg3,sw,rW,rfl,c1,c2,c3,c4⟩
    refine zcp λQ0 aY=>?_
    dsimp -zeta only
    have sgm:∀g',SG st (SortSt.mk' (kindOf aj) (arrOf aj) (pendingOf aj) g' (failedOf aj)):=λg'=>by
     obtain⟨g,e⟩:=g3
     exact⟨g',by rw[e]⟩
    extract_lets -underBinder +onlyGivenNames s1 out s2 ia s3 ib s4 mn s5 ac bc jp
    refine jp_if (f:=jp) λm'=>?_
    refine wpS_bind (wpS_modify ?_)
    refine wpS_bind (zar (eb k3 c2) ?_)
    refine wpS_bind (zb0 (base:=i3) (n:=a.size-i3) (hint:=0) C (sgk (sgm _)) oa (ib_ k3 c2) (by omega) (by omega) λk q1=>?_)
    dsimp -zeta only
    have jr:=c3.runA (n:=k) (by omega)
    extract_lets -underBinder +onlyGivenNames ac' jp2
    have h2:∀(n':Nat) (o':Array Keyed) (f1:n'+1<a.size),i3≤n'→Pa a b o' n' k3→wpS (model prog w) A E s (jp2 () o' n') Q0 (SortSt.mk' (kindOf aj) (arrOf aj) (pendingOf aj) m' (failedOf aj)):=by
     intro n' o' f1 f2 fJ
     have f0:n'<a.size:=by omega
     refine wpS_bind (zar (eb k3 c2) ?_)
     have fK:=fJ.pushB c2
     refine zal (λ_=>wpS_pure (aY _ _ ⟨sgm _,.inl ⟨_,_,rfl,fK.end1⟩⟩)) λd=>?_
     have d':¬k3+1=b.size:=λz=>d (beq_iff_eq.mpr z)
     refine wpS_bind (zar (ea n' f0) ?_)
     refine wpS_bind (zb0 (base:=k3+1) (n:=b.size-(k3+1)) (hint:=0) C (sgk (sgm _)) ob (ia_ n' f0) (by omega) (by omega) λk' r1=>?_)
     dsimp -zeta only
     have js:=fK.runB (n:=k') (by omega)
     extract_lets -underBinder +onlyGivenNames bc' jp3
     have h3:∀(m2:Nat) (o2:Array Keyed) (p1:m2<b.size),k3+1≤m2→Pa a b o2 n' m2→wpS (model prog w) A E s (jp3 () o2 m2) Q0 (SortSt.mk' (kindOf aj) (arrOf aj) (pendingOf aj) m' (failedOf aj)):=by
      intro m2 o2 p1 p2 pJ
      refine wpS_bind (zar (ea n' f0) ?_)
      have pK:=pJ.pushA f0
      refine zal (λ_=>wpS_pure (aY _ _ ⟨sgm _,.inl ⟨_,_,rfl,pK.end2⟩⟩)) λd=>?_
      have d2:¬n'+1+1=a.size:=λz=>d (beq_iff_eq.mpr z)
      exact zal (λ_=>wpS_pure (aY _ _ ⟨sgm _,.inr ⟨_,n'+1,m2,_,_,_,rfl,by omega,p1,pK,by omega⟩⟩)) λ_=>wpS_pure (aY _ _ ⟨sgm _,_,n'+1,m2,_,_,_,rfl,by omega,p1,pK,by omega⟩)
     refine zal (λkz=>?_) (λkz=>?_)
     ·refine zal (fun _=>wpS_pure (aY _ _ ⟨sgm _,.inl ⟨_,_,rfl,js.end1⟩⟩)) fun d4=>?_
      have d4':¬k3+1+k'=b.size:=λz=>d4 (beq_iff_eq.mpr z)
      exact h3 (k3+1+k') _ (by omega) (Wg _ _) js
     ·exact h3 (k3+1) _ (by omega) (Qf _) fK
    refine zal (λkz=>?_) (λkz=>?_)
    ·refine zal (fun _=>wpS_pure (aY _ _ ⟨sgm _,.inl ⟨_,_,rfl,jr.end2⟩⟩)) fun d=>zal (fun _=>wpS_pure (aY _ _ ⟨sgm _,.inl ⟨_,_,rfl,jr.end1⟩⟩)) fun e=>?_
     have d':¬i3+k+1=a.size:=λz=>d (beq_iff_eq.mpr z)
     have e':¬i3+k=a.size:=λz=>e (beq_iff_eq.mpr z)
     exact h2 (i3+k) _ (by omega) (Wg _ _) jr
    ·exact h2 i3 _ c1 (Qf _) c3
end
section
variable{prog:Nj}{w:Nk}{A:Nn}{E:Nb}{s:Nh}{kd:SortKind}{a₀:Array Keyed}
variable{a b o:Array Keyed}{na nb at_:Nat}
def ze9:(a.extract 0 n).toList=a.toList.take n:=by simp
def ze4{a:Array Keyed}{i n:Nat}(hi:i≤n)(h:n≤a.size):a.toList.take i++(a.extract i n).toList=a.toList.take n:=by
 rw[Array.toList_extract,Jz]
 have e:a.toList.take i=(a.toList.take n).take i:=by rw[List.take_take];congr 1;omega
 have e2:(a.toList.drop i).take (n-i)=(a.toList.take n).drop i:=by rw[List.drop_take]
 rw[e,e2,Yp]
def Ph(a b o:Array Keyed)(na nb:Nat):Prop:=(a.toList.take na++(b.toList.take nb++o.toList)).Perm (a.toList++b.toList)
def mvA{t sg kb u r all:List Keyed}(h:((t++sg)++(u++r)).Perm all)(hs:kb.Perm sg):(t++(u++(r++kb))).Perm all:=by
 refine List.Perm.trans ?_ h
 rw[Qw,←Qw u]
 exact Zv _ ((Zv _ hs).trans Yw)
def mvB{t sg kb u r all:List Keyed}(h:(t++((u++sg)++r)).Perm all)(hs:kb.Perm sg):(t++(u++(r++kb))).Perm all:=by
 refine List.Perm.trans ?_ h
 rw[Qw]
 exact Zv _ (Zv _ ((Zv _ hs).trans Yw))
def Ph.runA(j:Ph a b o na nb)(hi:at_≤na)(h:na≤a.size):Ph a b (o++(a.extract at_ na).reverse) at_ nb:=by
 unfold Ph at *
 rw[←ze4 hi h]at j
 rw[Yd,Jk]
 exact mvA j (Jd _)
def Ph.runB(j:Ph a b o na nb)(hi:at_≤nb)(h:nb≤b.size):Ph a b (o++(b.extract at_ nb).reverse) na at_:=by
 unfold Ph at *
 rw[←ze4 hi h]at j
 rw[Yd,Jk]
 exact mvB j (Jd _)
def Ph.pushA(j:Ph a b o (na+1) nb)(h:na<a.size):Ph a b (o.push a[na]) na nb:=by
 unfold Ph at *
 rw[Ql (by simpa using h)]at j
 rw[Jf]
 exact mvA j (by simp)
def Ph.pushB(j:Ph a b o na (nb+1))(h:nb<b.size):Ph a b (o.push b[nb]) na nb:=by
 unfold Ph at *
 rw[Ql (by simpa using h)]at j
 rw[Jf]
 exact mvB j (by simp)
def Ph.end1(j:Ph a b o na nb):(a.extract 0 na++b.extract 0 nb++o.reverse).toList.Perm (a.toList++b.toList):=by
 rw[Yd,Yd,Jk,ze9,ze9,Qw]
 exact(Zv _ (Zv _ (Jd _))).trans j
def Ph.end2(j:Ph a b o na nb):(b.extract 0 nb++a.extract 0 na++o.reverse).toList.Perm (a.toList++b.toList):=by
 rw[Yd,Yd,Jk,ze9,ze9]
 refine List.Perm.trans ?_ j
 rw[←Qw]
 exact(Yw).append (Jd _)
def wpS_mergeHi{Q:Array Keyed→SortSt→Prop}{st:SortSt}(C:Cmp prog w A E s kd a₀)(hk:kindOf st=kd)(oa:Of a₀ a)(ob:Of a₀ b)(ha:0 < a.size)(hb:0 < b.size)(h:∀(res:Array Keyed) (a8:SortSt),res.toList.Perm (a.toList++b.toList)→SG st a8→Q res a8):wpS (model prog w) A E s (mergeHiT a b) Q st:=by
 have ia_:∀i (hi:i<a.size),a[i]∈a₀.toList:=λi hi=>oa i _ (getElem?_pos a i hi)
 have ib_:∀i (hi:i<b.size),b[i]∈a₀.toList:=λi hi=>ob i _ (getElem?_pos b i hi)
 have ea:∀i (hi:i<a.size),a[i]?=some a[i]:=λi hi=>getElem?_pos a i hi
 have eb:∀i (hi:i<b.size),b[i]?=some b[i]:=λi hi=>getElem?_pos b i hi
 have sgk:∀{a8},SG st a8→kindOf a8=kd:=λ⟨g,e⟩=>by rw[e];exact hk
 obtain⟨n0,hn0⟩:∃n0,a.size=n0+1:=⟨a.size-1,by omega⟩
 have gM:n0<a.size:=by omega
 have j0:Ph a b (#[a[n0]]:Array Keyed) n0 b.size:=by
  have j:Ph a b (#[]:Array Keyed) (n0+1) b.size:=by
   have e1:a.toList.take (n0+1)=a.toList:=Qx (by simp;omega)
   have e2:b.toList.take b.size=b.toList:=Qx (by simp)
   unfold Ph;rw[e1,e2];simp
  exact j.pushA gM
 unfold mergeHiT
 refine wpS_bind (wpS_lift (wpAny_rule ⟨rfl,?_⟩))
 have e2:a.size-1=n0:=by omega
 simp -zeta only [e2]
 refine wpS_bind (zar (ea n0 gM) ?_)
 refine zal (λc1=>wpS_pure (h _ _ j0.end1 ⟨_,rfl⟩)) λc1=>zal (λc2=>wpS_pure (h _ _ j0.end2 ⟨_,rfl⟩)) λc2=>?_
 have rV:¬n0=0:=λz=>c1 (by simp[z])
 have c2':¬b.size=1:=λz=>c2 (by simp[z])
 refine wpS_bind (wpS_get ?_)
 obtain⟨n1,rfl⟩:∃n1,n0=n1+1:=⟨n0-1,by omega⟩
 obtain⟨m1,be⟩:∃m1,b.size=m1+1+1:=⟨b.size-2,by omega⟩
 rw[be]at j0
 refine wpS_bind (wpS_mono (wpS_forRange
  (I:=λx c a8=>Aj2 (SG st a8) (Ex4 λo i k g=>Aj5 (c=(none,i+1,k+1+1,o,g)) (i<a.size) (k+1<b.size) (Ph a b o (i+1) (k+1+1)) (i+k+x+4≤a.size+b.size)))
  (Q:=λc a8=>Aj2 (SG st a8) (Ex2 λres r=>Aj2 (c=(some res,r)) (res.toList.Perm (a.toList++b.toList)))) ?step ?fin ?init) ?post)
 case init=>exact⟨⟨_,rfl⟩,_,n1,m1,_,by rw[be],by omega,by omega,j0,by omega⟩
 case fin =>
  rintro c a8 ⟨_,o,i,k,g,rfl,a1,a2,a3,a4⟩
  exfalso;omega
 case post =>
  rintro c a8 ⟨g,res,r,rfl,m⟩
  exact wpS_pure (h res a8 m g)
 case step =>
  rintro x c aR _ hx ⟨g1,o1,i1,k1,mg,rfl,a1,a2,a3,a4⟩
  dsimp -zeta only
  refine wpS_bind (wpS_mono (wpS_forRange
   (I:=λy c a8=>Aj2 (a8=aR) (Ex5 λo i k ac bc=>Aj5 (c=(none,i+1,k+1+1,o,ac,bc)) (i<a.size) (k+1<b.size) (Ph a b o (i+1) (k+1+1)) (i+k+y≤i1+k1)))
   (Q:=λc a8=>Aj2 (a8=aR) ((Ex2 λres r=>Aj2 (c=(some res,r)) (res.toList.Perm (a.toList++b.toList)))∨Ex5 λo i k ac bc=>Aj5 (c=(none,i+1,k+1+1,o,ac,bc)) (i<a.size) (k+1<b.size) (Ph a b o (i+1) (k+1+1)) (i+k<i1+k1))) ?step1 ?fin1 ?init1) ?post1)
  case init1=>exact⟨rfl,o1,i1,k1,0,0,rfl,a1,a2,a3,Qf _⟩
  case fin1 =>
   rintro c a8 ⟨_,o,i,k,ac,bc,rfl,b1,b2,b3,b4⟩
   exfalso;omega
  case step1 =>
   rintro y c bh _ hy ⟨rfl,o,i,k,ac,bc,rfl,b1,b2,b3,b4⟩
   dsimp -zeta only
   refine wpS_bind (zar (eb (k+1) b2) (wpS_bind (zar (ea i b1) (wpS_bind (C _ _ _ _ (ib_ (k+1) b2) (ia_ i b1) (sgk g1) λe=>?_)))))
   dsimp -zeta only
   refine zal (λ_=>?_) (λ_=>?_)
   ·refine wpS_bind (zar (ea i b1) ?_)
    have j:=b3.pushA b1
    refine zal (λ_=>wpS_pure ⟨rfl,.inl ⟨_,_,rfl,j.end1⟩⟩) λd1=>?_
    have mh:¬i=0:=λz=>d1 (beq_iff_eq.mpr z)
    cases i with
    |zero=>exact absurd rfl mh
    |succ i'=>exact zal (λ_=>wpS_pure ⟨rfl,.inr ⟨_,i',k,_,_,rfl,by omega,b2,j,by omega⟩⟩) λ_=>wpS_pure ⟨rfl,_,i',k,_,_,rfl,by omega,b2,j,by omega⟩
   ·refine wpS_bind (zar (eb (k+1) b2) ?_)
    have j:=b3.pushB b2
    refine zal (λ_=>wpS_pure ⟨rfl,.inl ⟨_,_,rfl,j.end2⟩⟩) λd1=>?_
    have mh:¬k+1=1:=λz=>d1 (beq_iff_eq.mpr z)
    cases k with
    |zero=>exact absurd rfl mh
    |succ k'=>exact zal (λ_=>wpS_pure ⟨rfl,.inr ⟨_,i,k',_,_,rfl,b1,by omega,j,by omega⟩⟩) λ_=>wpS_pure ⟨rfl,_,i,k',_,_,rfl,b1,by omega,j,by omega⟩
  case post1 =>
   rintro c bh ⟨rfl,⟨res,r,rfl,m⟩ | ⟨o2,i2,k2,ac2,bc2,rfl,b1,b2,b3,b4⟩⟩
   ·exact wpS_pure ⟨g1,res,_,rfl,m⟩
   dsimp -zeta only
   refine wpS_bind (wpS_lift (wpAny_rule ⟨rfl,?_⟩))
   refine wpS_bind (wpS_mono (wpS_forRange
    (I:=λy c a8=>Aj2 (SG st a8) (Ex6 λo i k g ac bc=>Aj5 (c=(none,i+1,k+1+1,o,g,ac,bc)) (i<a.size) (k+1<b.size) (Ph a b o (i+1) (k+1+1)) (i+k≤i2+k2)))
    (Q:=λc a8=>Aj2 (SG st a8) ((Ex2 λres r=>Aj2 (c=(some res,r)) (res.toList.Perm (a.toList++b.toList)))∨Ex6 λo i k g ac bc=>Aj5 (c=(none,i+1,k+1+1,o,g,ac,bc)) (i<a.size) (k+1<b.size) (Ph a b o (i+1) (k+1+1)) (i+k≤i2+k2))) ?step2 ?fin2 ?init2) ?post2)
   case init2=>exact⟨g1,o2,i2,k2,_,_,_,rfl,b1,b2,b3,Qf _⟩
   case fin2 =>
    rintro c a8 ⟨g,o,i,k,g',ac,bc,rfl,c1,c2,c3,c4⟩
    exact⟨g,.inr ⟨o,i,k,g',ac,bc,rfl,c1,c2,c3,c4⟩⟩
   case post2 =>
    rintro c aj ⟨g3,⟨res,r,rfl,m⟩ | ⟨o3,i3,k3,g',sw,rW,rfl,c1,c2,c3,c4⟩⟩
    ·exact wpS_pure ⟨g3,res,_,rfl,m⟩
    dsimp -zeta only
    refine wpS_bind (wpS_modify ?_)
    obtain⟨gg,e3⟩:=g3
    exact wpS_pure ⟨⟨_,by rw[e3]⟩,o3,i3,k3,_,rfl,c1,c2,c3,by omega⟩
   case step2 =>
    rintro y c aj _ hy ⟨g3,o3,i3,k3,mg3,sw,rW,rfl,c1,c2,c3,c4⟩
    refine zcp λQ0 aY=>?_
    dsimp -zeta only
    have sgm:∀g',SG st (SortSt.mk' (kindOf aj) (arrOf aj) (pendingOf aj) g' (failedOf aj)):=λg'=>by
     obtain⟨g,e⟩:=g3
     exact⟨g',by rw[e]⟩
    extract_lets -underBinder +onlyGivenNames s1 na s2 nb s3 out s4 mn s5 ac bc jp
    refine jp_if (f:=jp) λm'=>?_
    refine wpS_bind (wpS_modify ?_)
    refine wpS_bind (zar (eb (k3+1) c2) ?_)
    refine wpS_bind (zb0 (n:=i3+1) (hint:=i3) C (sgk (sgm _)) oa (ib_ (k3+1) c2) (by omega) (by omega) λo0 q1=>?_)
    dsimp -zeta only
    have jr:=c3.runA (at_:=o0) q1 (by omega)
    extract_lets -underBinder +onlyGivenNames kk ac' jp2
    have h2:∀(n':Nat) (o':Array Keyed) (f1:n'<a.size),n'≤i3→Ph a b o' (n'+1) (k3+1+1)→wpS (model prog w) A E s (jp2 () (n'+1) o') Q0 (SortSt.mk' (kindOf aj) (arrOf aj) (pendingOf aj) m' (failedOf aj)):=by
     intro n' o' f1 f2 fJ
     refine wpS_bind (zar (eb (k3+1) c2) ?_)
     have fK:=fJ.pushB c2
     refine zal (λ_=>wpS_pure (aY _ _ ⟨sgm _,.inl ⟨_,_,rfl,fK.end2⟩⟩)) λd=>?_
     have d':¬k3+1=1:=λz=>d (beq_iff_eq.mpr z)
     refine wpS_bind (zar (ea n' f1) ?_)
     refine wpS_bind (zb0 (n:=k3+1) (hint:=k3) C (sgk (sgm _)) ob (ia_ n' f1) (by omega) (by omega) λml r1=>?_)
     dsimp -zeta only
     have js:=fK.runB (at_:=ml) r1 (by omega)
     extract_lets -underBinder +onlyGivenNames kk2 bc' jp3
     have h3:∀(m2:Nat) (o2:Array Keyed) (p1:m2+1<b.size),m2≤k3→Ph a b o2 (n'+1) (m2+1+1)→wpS (model prog w) A E s (jp3 () (m2+1+1) o2) Q0 (SortSt.mk' (kindOf aj) (arrOf aj) (pendingOf aj) m' (failedOf aj)):=by
      intro m2 o2 p1 p2 pJ
      refine wpS_bind (zar (ea n' f1) ?_)
      have pK:=pJ.pushA f1
      refine zal (λ_=>wpS_pure (aY _ _ ⟨sgm _,.inl ⟨_,_,rfl,pK.end1⟩⟩)) λd=>?_
      have d2:¬n'=0:=λz=>d (beq_iff_eq.mpr z)
      cases n' with
      |zero=>exact absurd rfl d2
      |succ t=>exact zal (λ_=>wpS_pure (aY _ _ ⟨sgm _,.inr ⟨_,t,m2,_,_,_,rfl,by omega,p1,pK,by omega⟩⟩)) λ_=>wpS_pure (aY _ _ ⟨sgm _,_,t,m2,_,_,_,rfl,by omega,p1,pK,by omega⟩)
     refine zal (λkz=>?_) (λkz=>?_)
     ·refine zal (fun _=>wpS_pure (aY _ _ ⟨sgm _,.inl ⟨_,_,rfl,js.end2⟩⟩)) fun d4=>zal (fun _=>wpS_pure (aY _ _ ⟨sgm _,.inl ⟨_,_,rfl,js.end1⟩⟩)) fun d5=>?_
      have d4':¬ml=1:=λz=>d4 (beq_iff_eq.mpr z)
      have d5':¬ml=0:=λz=>d5 (beq_iff_eq.mpr z)
      obtain⟨m2,e2⟩:∃m2,ml=m2+1+1:=⟨ml-2,by omega⟩
      have:=h3 m2 _ (by omega) (by omega) (by rw[←e2];exact js)
      rw[←e2]at this
      exact this
     ·obtain ⟨m2,e2⟩:∃ m2,k3=m2+1:=⟨k3 - 1,by omega⟩
      have:=h3 m2 _ (by omega) (by omega) (by rw[←e2];exact fK)
      rw[←e2]at this
      exact this
    refine zal (λkz=>?_) (λkz=>?_)
    ·refine zal (fun _=>wpS_pure (aY _ _ ⟨sgm _,.inl ⟨_,_,rfl,jr.end1⟩⟩)) fun d=>?_
     have d':¬o0=0:=λz=>d (beq_iff_eq.mpr z)
     obtain⟨n',e1⟩:∃n',o0=n'+1:=⟨o0-1,by omega⟩
     have:=h2 n' _ (by omega) (by omega) (by rw[←e1];exact jr)
     rw[←e1]at this
     exact this
    ·exact h2 i3 _ c1 (Qf _) c3
end
section
variable{prog:Nj}{w:Nk}{A:Nn}{E:Nb}{s:Nh}{kd:SortKind}{a₀:Array Keyed}{p:Array (Nat×Nat×Nat)}{lo:Nat}
structure Bs(kd:SortKind)(a₀:Array Keyed)(p:Array (Nat×Nat×Nat))(st:SortSt):Prop where
 kind:kindOf st=kd
 failed:failedOf st=none
 pend:pendingOf st=p
 perm:(arrOf st).Perm a₀
def Bs.size{st:SortSt}(B:Bs kd a₀ p st):(arrOf st).size=a₀.size:=B.perm.size_eq
def Bs.mem{st:SortSt}(B:Bs kd a₀ p st){i:Nat}(hi:i<a₀.size):∃q,(arrOf st)[i]?=some q∧q∈a₀.toList:=by
 have eI:i<(arrOf st).size:=by rw[B.size];exact hi
 exact⟨_,getElem?_pos _ i eI,(Yb.mp B.perm).mem_iff.mp (by simp)⟩
def zga{st:SortSt}{i j:Nat}{Q:Option Bool→SortSt→Prop}(C:Cmp prog w A E s kd a₀)(B:Bs kd a₀ p st)(hi:i<a₀.size)(hj:j<a₀.size)(h:∀b,Q (some b) st):wpS (model prog w) A E s (ltAt' i j) Q st:=by
 obtain⟨x,e1,m1⟩:=B.mem hi
 obtain⟨y,e2,m2⟩:=B.mem hj
 rw[ltAt'_eq]
 refine wpS_bind (wpS_get ?_)
 refine wpS_bind (zar e1 (wpS_bind (zar e2 ?_)))
 exact C x y st Q m1 m2 B.kind h
def Bs.mirror{st:SortSt}(B:Bs kd a₀ p st)(i j k:Nat):Bs kd a₀ p (setArr st (mirror (arrOf st) i j k)):=⟨B.kind,B.failed,B.pend,(mirror_perm _ _ _ _).trans B.perm⟩
def Bs.bubble{st:SortSt}(B:Bs kd a₀ p st)(src d:Nat):Bs kd a₀ p (setArr st (bubble (arrOf st) src d)):=⟨B.kind,B.failed,B.pend,(bubble_perm _ _ _).trans B.perm⟩
def wpS_binary{st:SortSt}{n ok:Nat}{Q:Bool→SortSt→Prop}(C:Cmp prog w A E s kd a₀)(hn:lo+n≤a₀.size)(B:Bs kd a₀ p st)(h:∀a8,Bs kd a₀ p a8→Q true a8):wpS (model prog w) A E s (binarySort' lo n ok) Q st:=by
 rw[binarySort'_eq]
 refine wpS_bind (wpS_mono (wpS_forRange (I:=λk c a8=>Aj2 (c=(none,())) (Bs kd a₀ p a8)) (Q:=λc a8=>Aj2 (c=(none,())) (Bs kd a₀ p a8)) ?step (λ_ _ z=>z) ⟨rfl,B⟩) ?post)
 case post =>
  rintro c a8 ⟨rfl,B'⟩
  exact wpS_pure (h a8 B')
 case step =>
  rintro k c a8 lS gu ⟨rfl,B'⟩
  refine wpS_bind (wpS_mono (wpS_forRange
   (I:=λx c cU=>Aj2 (cU=a8) (Ex2 λl r=>Aj4 (c=(none,l,r)) (l≤r) (r≤k) (r-l≤k-x)))
   (Q:=λc cU=>Aj2 (cU=a8) (Ex1 λl=>Aj2 (c=(none,l,l)) (l≤k))) ?is ?if_ ?ii) ?ip)
  case ii=>exact⟨rfl,0,k,rfl,Zn _,Qf _,Qf _⟩
  case if_ =>
   rintro c cU ⟨rfl,l,r,rfl,b1,b2,b3⟩
   have:l=r:=by omega
   subst this
   exact⟨rfl,l,rfl,b2⟩
  case is =>
   rintro x c cU _ hx ⟨rfl,l,r,rfl,b1,b2,b3⟩
   dsimp only
   refine zal (λge=>?_) λge=>wpS_bind (zga C B' (by omega) (by omega) λb=>?_)
   ·have:l=r:=Nat.le_antisymm b1 ge
    subst this
    exact wpS_pure ⟨rfl,l,rfl,b2⟩
   ·cases b with
    |true=>exact wpS_pure ⟨rfl,l,(l+r)/2,rfl,by omega,by omega,by omega⟩
    |false=>exact wpS_pure ⟨rfl,(l+r)/2+1,r,rfl,by omega,b2,by omega⟩
  case ip =>
   rintro c cU ⟨rfl,l,rfl,b2⟩
   show wpS _ _ _ _ (do moveDown' (lo+k) (lo+l);pure (ForInStep.yield (none,()))) _ _
   rw[moveDown'_eq]
   exact wpS_bind (wpS_modify (wpS_pure ⟨rfl,B'.bubble _ _⟩))
def jp_rev{α:Type}{c:Prop}[Decidable c]{i j:Nat}{f:Unit→StateT SortSt Sem α}{Q:α→SortSt→Prop}{st:SortSt}(B:Bs kd a₀ p st)(h:∀a8,Bs kd a₀ p a8→wpS (model prog w) A E s (f ()) Q a8):wpS (model prog w) A E s (if c then reverseSlice' i j >>= f else f ()) Q st:=by
 split
 ·exact wpS_bind (wpS_reverse (h _ (B.mirror _ _ _)))
 ·exact h _ B
def wpS_count{st:SortSt}{nrem:Nat}{Q:Option Nat→SortSt→Prop}(C:Cmp prog w A E s kd a₀)(hn:lo+nrem≤a₀.size)(h1:1≤nrem)(B:Bs kd a₀ p st)(h:∀m a8,Bs kd a₀ p a8→1≤m→m≤nrem→Q (some m) a8):wpS (model prog w) A E s (countRun' lo nrem) Q st:=by
 have asc:∀(f:Nat→(Option (Option Nat)×Nat)→StateT SortSt Sem (ForInStep (Option (Option Nat)×Nat))) (a:Nat) (aR:SortSt),1≤a→a≤nrem →
   (∀x y Q',1≤y→y<nrem→Q' (ForInStep.done (none,y)) aR→Q' (ForInStep.yield (none,y+1)) aR→wpS (model prog w) A E s (f x (none,y)) Q' aR) →
   wpS (model prog w) A E s (forIn [a:nrem] (none,a) f) (λc a8=>Aj2 (a8=aR) (Ex1 λn=>Aj3 (c=(none,n)) (a≤n) (n≤nrem))) aR:=by
  intro f a aR a1 a2 hf
  refine wpS_forRange (I:=λx c a8=>Aj2 (a8=aR) (c=(none,x))) ?step ?fin ⟨rfl,rfl⟩
  case fin =>
   rintro c a8 ⟨rfl,rfl⟩
   rw[show max a nrem=nrem by omega]
   exact⟨rfl,nrem,rfl,a2,Qf _⟩
  case step =>
   rintro x c a8 g1 g2 ⟨rfl,rfl⟩
   exact hf x x _ (by omega) g2 ⟨rfl,x,rfl,g1,Wx g2⟩ ⟨rfl,rfl⟩
 have two:∀{aR:SortSt},Bs kd a₀ p aR→∀{y:Nat},1≤y→y<nrem→lo+y<a₀.size∧lo+y-1<a₀.size:=λ_ y y1 y2=>⟨by omega,by omega⟩
 rw[countRun'_eq]
 refine wpS_bind (wpS_mono (asc _ 1 st (Qf _) h1 ?_) ?_)
 ·intro x y Q' y1 y2 q1 q2
  refine wpS_bind (zga C B (two B y1 y2).1 (two B y1 y2).2 λb=>?_)
  cases b with
  |true=>exact wpS_pure q1
  |false=>exact wpS_pure q2
 rintro c a8 ⟨rfl,n,rfl,n1,n2⟩
 refine zcp λQ0 aY=>?_
 refine zal (λd=>wpS_pure (aY _ _ (h n _ B n1 n2))) λd=>?_
 have d':n<nrem:=by have:¬n=nrem:=λz=>d (beq_iff_eq.mpr z);omega
 extract_lets -underBinder +onlyGivenNames jp
 have lr:∀aR,Bs kd a₀ p aR→wpS (model prog w) A E s (jp ()) Q0 aR:=by
  intro aR B1
  refine wpS_bind (wpS_lift (wpAny_rule ⟨rfl,?_⟩))
  refine wpS_bind (wpS_mono (wpS_forRange
   (I:=λx c bh=>Ex1 λq=>Aj4 (c=(none,x,q)) (Bs kd a₀ p bh) (2≤x) (x≤nrem))
   (Q:=λc bh=>Ex2 λx q=>Aj4 (c=(none,x,q)) (Bs kd a₀ p bh) (2≤x) (x≤nrem)) ?step ?fin ⟨0,rfl,B1,by omega,d'⟩) ?post)
  case fin =>
   rintro c bh ⟨q,rfl,b1,b2,b3⟩
   exact⟨_,q,rfl,b1,b2,b3⟩
  case step =>
   rintro x c bh x1 x2 ⟨q,rfl,b1,b2,b3⟩
   refine zcp λQ1 fR=>?_
   refine wpS_bind (zga (i:=lo+x) (j:=lo+x-1) C b1 (by omega) (by omega) λe1=>?_)
   cases e1 with
   |true =>
    refine zal (λ_=>?_) (λz=>absurd rfl z)
    exact jp_rev b1 λaj B3=>wpS_pure (fR _ _ ⟨0,rfl,B3,by omega,x2⟩)
   |false =>
    refine zal (λz=>absurd z (by decide)) λ_=>wpS_bind (zga (i:=lo+x-1) (j:=lo+x) C b1 (by omega) (by omega) λe2=>?_)
    cases e2 with
    |true=>exact zal (λ_=>wpS_pure (fR _ _ ⟨x,q,rfl,b1,b2,b3⟩)) (λz=>absurd rfl z)
    |false=>exact zal (λz=>absurd z (by decide)) λ_=>wpS_pure (fR _ _ ⟨q+1,rfl,b1,by omega,x2⟩)
  case post =>
   rintro c bh ⟨x,q,rfl,b1,b2,b3⟩
   refine jp_rev b1 λaj B3=>?_
   refine wpS_bind (wpS_reverse ?_)
   have B6:=B3.mirror lo (lo+x) ((lo+x-lo)/2)
   refine wpS_bind (wpS_mono (asc _ x _ (by omega) b3 ?_) ?_)
   ·intro z y Q' y1 y2 q1 q2
    refine wpS_bind (zga C B6 (two B6 y1 y2).1 (two B6 y1 y2).2 λb=>?_)
    cases b with
    |true=>exact wpS_pure q1
    |false=>exact wpS_pure q2
   ·rintro c st6 ⟨rfl,m,rfl,m1,m2⟩
    exact wpS_pure (aY _ _ (h m _ B6 (by omega) m2))
 refine zal (λd2=>?_) λd2=>lr _ B
 refine wpS_bind (zga C B (by omega) (by omega) λe=>?_)
 cases e with
 |true=>exact zal (λ_=>wpS_pure (aY _ _ (h n _ B n1 n2))) (λz=>absurd rfl z)
 |false=>exact zal (λz=>absurd z (by decide)) λ_=>wpS_bind (wpS_reverse (lr _ (B.mirror _ _ _)))
end
def PL:List (Nat×Nat×Nat)→Nat→Nat→Prop
 |[],off,af=>off=af
 |q::ps,off,af=>q.1=off∧0<q.2.1∧PL ps (off+q.2.1) af
def PL.split{fm:List (Nat×Nat×Nat)}{af:Nat}:∀{cw:List (Nat×Nat×Nat)} {off:Nat},PL (cw++fm) off af→∃mid,PL cw off mid∧PL fm mid af:=by
 intro cw
 induction cw with
 |nil=>intro off h;exact⟨off,rfl,h⟩
 |cons q ps ih =>
  intro off h
  obtain⟨mid,a,b⟩:=ih h.2.2
  exact⟨mid,⟨h.1,h.2.1,a⟩,b⟩
def PL.join{fm:List (Nat×Nat×Nat)}{mid af:Nat}:∀{cw:List (Nat×Nat×Nat)} {off:Nat},PL cw off mid→PL fm mid af→PL (cw++fm) off af:=by
 intro cw
 induction cw with
 |nil=>intro off a b;cases(show off=mid from a);exact b
 |cons q ps ih=>intro off a b;exact⟨a.1,a.2.1,ih a.2.2 b⟩
def PL.len{af:Nat}:∀{ps:List (Nat×Nat×Nat)} {off:Nat},PL ps off af→off+ps.length≤af:=by
 intro ps
 induction ps with
 |nil=>intro off h;exact Nat.le_of_eq h
 |cons q ps ih =>
  intro off h
  have:=ih h.2.2
  have:=h.2.1
  rw[Zd];omega
def put_back{sa:Nat}:∀ (l:List Keyed) (n:Nat) (arr:Array Keyed) (F M S:List Keyed),arr.toList=F++(M++S)→F.length=sa+n→M.length=l.length →
  ((l.zipIdx n).foldl (λ(a:Array Keyed) (q:Keyed×Nat)=>a.setIfInBounds (sa+q.2) q.1) arr).toList=F++(l++S):=by
 intro l
 induction l with
 |nil =>
  intro n arr F M S e _ hl
  have:M=[]:=List.length_eq_zero_iff.mp (by simpa using hl)
  rw[this]at e
  simpa using e
 | cons p l ih =>
  intro n arr F M S e hf hl
  cases M with
  |nil=>simp at hl
  | cons m M =>
   rw[List.zipIdx_cons,Jl]
   have e2:(arr.setIfInBounds (sa+n) p).toList=(F++[p])++(M++S):=by
    rw[Array.toList_setIfInBounds,e,←hf,List.set_append_right _ _ (Qf _),Nat.sub_self]
    simp
   rw[ih (n+1) _ (F++[p]) M S e2 (by rw[Qp];simp;omega) (by simpa using hl)]
   simp
section
variable{prog:Nj}{w:Nk}{A:Nn}{E:Nb}{s:Nh}{kd:SortKind}{a₀:Array Keyed}
structure Rn(kd:SortKind)(a₀:Array Keyed)(af:Nat)(st:SortSt):Prop where
 kind:kindOf st=kd
 failed:failedOf st=none
 perm:(arrOf st).Perm a₀
 pend:PL (pendingOf st).toList 0 af
 le:af≤a₀.size
def of_perm{xs:Array Keyed}(h:xs.Perm a₀):Of a₀ xs:=λi p e=>by
 refine(Yb.mp h).mem_iff.mp ?_
 have:xs.toList[i]?=some p:=by simpa using e
 exact Yl this
def of_ext{xs:Array Keyed}(h:xs.Perm a₀)(i j:Nat):Of a₀ (xs.extract i j):=λk p e=>by
 have e1:(xs.extract i j).toList[k]?=some p:=by rw[Wr];exact e
 have:=Yl e1
 rw[Array.toList_extract,Jz]at this
 exact(Yb.mp h).mem_iff.mp (Wj (Ys this))
def wpS_set{Q:PUnit→SortSt→Prop}{st a8:SortSt}(h:Q ⟨⟩ a8):wpS (model prog w) A E s (set a8:StateT SortSt Sem PUnit) Q st:=by
 unfold wpS;rw[StateT.run_set];exact wpAny_pure ⟨rfl,h⟩
def zfb{i af:Nat}{Q:Bool→SortSt→Prop}{st:SortSt}(C:Cmp prog w A E s kd a₀)(R:Rn kd a₀ af st)(hi:i+1 < (pendingOf st).size)(h:∀a8,Rn kd a₀ af a8→(pendingOf a8).size+1=(pendingOf st).size→Q true a8):wpS (model prog w) A E s (mergeAt' i) Q st:=by
 obtain⟨cw,q1,q2,fm,hp,hl⟩:∃cw q1 q2 fm,(pendingOf st).toList=cw++q1::q2::fm∧cw.length=i:=by
  have h1:i<(pendingOf st).toList.length:=by simp;omega
  have h2:i+1<(pendingOf st).toList.length:=by simp;omega
  refine⟨(pendingOf st).toList.take i,(pendingOf st).toList[i],(pendingOf st).toList[i+1],(pendingOf st).toList.drop (i+2),?_,by rw[Zg];omega⟩
  rw[←Ka h2,←Ka h1,Yp]
 have pr:=R.pend
 rw[hp]at pr
 obtain⟨sa,pr1,e1,hA,e2,hB,oi⟩:=pr.split
 obtain⟨ao,na,pw⟩:=q1
 obtain⟨sb',nb,pw2⟩:=q2
 dsimp only at e1 hA e2 hB oi
 subst e1 e2
 have x1:(pendingOf st)[i]?=some (ao,na,pw):=by
  have:(pendingOf st)[i]?=(pendingOf st).toList[i]?:=by simp
  rw[this,hp,←hl];simp
 have x2:(pendingOf st)[i+1]?=some (ao+na,nb,pw2):=by
  have:(pendingOf st)[i+1]?=(pendingOf st).toList[i+1]?:=by simp
  rw[this,hp,←hl];simp
 have hsz:ao+na+nb≤(arrOf st).size:=by
  have:=oi.len
  have:=R.le
  rw[R.perm.size_eq];omega
 have oA:=of_perm R.perm
 have mem:∀j (hj:j<(arrOf st).size),(arrOf st)[j]∈a₀.toList:=λj hj=>oA j _ (getElem?_pos _ j hj)
 have fin:∀(a8:SortSt),kindOf a8=kd→failedOf a8=none→(arrOf a8).Perm a₀→pendingOf a8=((pendingOf st).setIfInBounds i (ao,na+nb,pw)).eraseIdxIfInBounds (i+1)→Q true a8:=by
  intro a8 m3 m4 m5 m6
  have e:(pendingOf a8).toList=cw++(ao,na+nb,pw)::fm:=by
   rw[m6]
   have e1:((pendingOf st).setIfInBounds i (ao,na+nb,pw)).toList=cw++(ao,na+nb,pw)::(ao+na,nb,pw2)::fm:=by
    rw[Array.toList_setIfInBounds,hp,←hl,List.set_append_right _ _ (Qf _),Nat.sub_self]
    rfl
   rw[Array.toList_eraseIdxIfInBounds,e1,←hl,List.eraseIdx_append_of_length_le (Wg _ _)]
   simp
  refine h a8 ⟨m3,m4,m5,?_,R.le⟩ ?_
  ·rw [e]
   exact pr1.join ⟨rfl,Nat.add_pos_left hA _,by rw[←Nat.add_assoc];exact oi⟩
  ·rw[←We,←We,e,hp];simp;omega
 unfold mergeAt'
 refine wpS_bind (wpS_get ?_)
 rw[x1,x2]
 dsimp only
 refine wpS_bind (wpS_set ?_)
 have jX:ao+na<(arrOf st).size:=by omega
 refine wpS_bind (zar (getElem?_pos (arrOf st) (ao+na) jX) ?_)
 refine wpS_bind (zb0 (arr:=arrOf st) (base:=ao) (n:=na) (hint:=0) C R.kind oA (mem _ jX) (by omega) hA λk k1=>?_)
 refine zal (λc1=>wpS_pure (fin _ R.kind R.failed R.perm rfl)) λc1=>?_
 have rV:¬na-k=0:=λz=>c1 (beq_iff_eq.mpr z)
 have hla:ao+k+(na-k)-1<(arrOf st).size:=by omega
 refine wpS_bind (zar (getElem?_pos (arrOf st) (ao+k+(na-k)-1) hla) ?_)
 refine wpS_bind (zb0 (arr:=arrOf st) (base:=ao+na) (n:=nb) (hint:=nb-1) C R.kind oA (mem _ hla) (by omega) (by omega) λm n1=>?_)
 refine zal (λc2=>wpS_pure (fin _ R.kind R.failed R.perm rfl)) λc2=>?_
 have c2':¬m=0:=λz=>c2 (beq_iff_eq.mpr z)
 have mm:(arrOf st).toList=(arrOf st).toList.take (ao+k)++((((arrOf st).extract (ao+k) (ao+na)).toList++((arrOf st).extract (ao+na) (ao+na+m)).toList)++(arrOf st).toList.drop (ao+na+m)):=by
  rw[←Qw,←Qw,ze4 (by omega) (by omega),ze4 (by omega) (by omega),Yp]
 have oX:=of_ext R.perm (ao+k) (ao+na)
 have oY:=of_ext R.perm (ao+na) (ao+na+m)
 have zX:0<((arrOf st).extract (ao+k) (ao+na)).size:=by rw[Array.size_extract];omega
 have zY:0<((arrOf st).extract (ao+na) (ao+na+m)).size:=by rw[Array.size_extract];omega
 have done:∀(res:Array Keyed) (a8:SortSt),res.toList.Perm (((arrOf st).extract (ao+k) (ao+na)).toList++((arrOf st).extract (ao+na) (ao+na+m)).toList)→SG (SortSt.mk' (kindOf st) (arrOf st) (((pendingOf st).setIfInBounds i (ao,na+nb,pw)).eraseIdxIfInBounds (i+1)) (gallopOf st) (failedOf st)) a8 →
   wpS (model prog w) A E s (do
    modify λz=>SortSt.mk' (kindOf z) (res.toList.zipIdx.foldl (λ(a:Array Keyed) (q:Keyed×Nat)=>a.setIfInBounds (ao+k+q.2) q.1) (arrOf z)) (pendingOf z) (gallopOf z) (failedOf z)
    let z ←get
    pure (failedOf z).isNone) Q a8:=by
  intro res a8 mg ⟨g,est⟩
  subst est
  refine wpS_bind (wpS_modify (wpS_bind (wpS_get ?_)))
  have kZ:failedOf st=none:=R.failed
  show wpS _ _ _ _ (pure (failedOf st).isNone) _ _
  rw[kZ]
  refine wpS_pure (fin _ R.kind rfl ?_ rfl)
  have pb:=put_back (sa:=ao+k) res.toList 0 (arrOf st) _ _ _ mm (by rw[Zg,We];omega) mg.length_eq.symm
  refine Yb.mpr (List.Perm.trans ?_ (Yb.mp R.perm))
  refine List.Perm.trans (List.Perm.of_eq pb) ?_
  conv=>rhs;rw[mm]
  exact Zv _ (List.Perm.append_right _ mg)
 exact zal (λ_=>wpS_bind (wpS_mergeLo C R.kind oX oY zX zY done)) λ_=>wpS_bind (wpS_mergeHi C R.kind oX oY zX zY done)
end
section
variable{prog:Nj}{w:Nk}{A:Nn}{E:Nb}{s:Nh}{kd:SortKind}{a₀:Array Keyed}
def PL.congr:∀{ps jB:List (Nat×Nat×Nat)} {off:Nat},(ps.map λq=>(q.1,q.2.1))=(jB.map λq=>(q.1,q.2.1))→PL ps off af→PL jB off af:=by
 intro ps
 induction ps with
 |nil =>
  intro jB off e h
  cases jB with
  |nil=>exact h
  |cons q r=>cases e
 | cons q ps ih =>
  intro jB off e h
  cases jB with
  |nil=>cases e
  |cons q' r =>
   rw[Qk,Qk]at e
   obtain⟨e1,e2⟩:=List.cons.inj e
   obtain⟨e3,e4⟩:=Uj e1
   exact⟨e3.symm.trans h.1,e4▸h.2.1,ih e2 (e4▸h.2.2)⟩
def map_mod(f:Nat×Nat×Nat→Nat×Nat×Nat)(hf:∀q,((f q).1,(f q).2.1)=(q.1,q.2.1))(l:List (Nat×Nat×Nat))(i:Nat):((l.modify i f).map λq=>(q.1,q.2.1))=l.map λq=>(q.1,q.2.1):=by
 apply List.ext_getElem?
 intro k
 rw[Qu,Qu,List.getElem?_modify]
 cases l[k]? with
 |none=>simp
 |some q =>
  by_cases e:i=k
  ·simp[e];exact Uj (hf q)
  ·simp[e]
def Rn.mod{af:Nat}{st:SortSt}(R:Rn kd a₀ af st)(i:Nat)(f:Nat×Nat×Nat→Nat×Nat×Nat)(hf:∀q,((f q).1,(f q).2.1)=(q.1,q.2.1)):Rn kd a₀ af (setPending st ((pendingOf st).modify i f)) :=
 ⟨R.kind,R.failed,R.perm,by
  show PL ((pendingOf st).modify i f).toList 0 af
  rw[Array.toList_modify]
  exact R.pend.congr (map_mod f hf _ i).symm,R.le⟩
def zfa{st:SortSt}{Q:Unit→SortSt→Prop}(C:Cmp prog w A E s kd a₀)(hk:kindOf st=kd)(hf:failedOf st=none)(hp:(arrOf st).Perm a₀)(dQ:pendingOf st=#[])(h:∀a8,(arrOf a8).Perm a₀→failedOf a8=none→Q () a8):wpS (model prog w) A E s sortRuns' Q st:=by
 have R0:Rn kd a₀ 0 st:=⟨hk,hf,hp,by rw[dQ];rfl,Zn _⟩
 rw[sortRuns'_eq]
 refine wpS_bind (wpS_get ?_)
 dsimp -zeta only
 have hz:(arrOf st).size=a₀.size:=hp.size_eq
 rw[hz]
 refine wpS_bind (wpS_mono (wpS_forRange
  (I:=λx c a8=>Ex1 λaf=>Aj3 (c=(none,af)) (Rn kd a₀ af a8) (x≤af))
  (Q:=λc a8=>Ex1 λaf=>Aj3 (c=(none,af)) (Rn kd a₀ af a8) (a₀.size≤af)) ?step ?fin ⟨0,rfl,R0,Zn _⟩) ?post)
 case fin =>
  rintro c a8 ⟨af,rfl,R,hx⟩
  exact⟨af,rfl,R,by omega⟩
 case step =>
  rintro x c aR _ hx ⟨af,rfl,R,jI⟩
  refine zcp λQ0 aY=>?_
  refine zal (λc0=>wpS_pure (aY _ _ ⟨af,rfl,R,c0⟩)) λc0=>?_
  have B0:Bs kd a₀ (pendingOf aR) aR:=⟨R.kind,R.failed,rfl,R.perm⟩
  refine wpS_bind (wpS_count (lo:=af) (nrem:=a₀.size-af) C (by omega) (by omega) B0 λm bh B2 m1 m2=>?_)
  dsimp -zeta only
  extract_lets -underBinder +onlyGivenNames n0 jp
  have lr:∀(n':Nat) (aj:SortSt),1≤n'→af+n'≤a₀.size→Bs kd a₀ (pendingOf aR) aj→wpS (model prog w) A E s (jp () n') Q0 aj:=by
   intro n' aj l1 l2 B3
   have R3:Rn kd a₀ af aj:=⟨B3.kind,B3.failed,B3.perm,by rw[B3.pend];exact R.pend,R.le⟩
   have push:∀aG,Rn kd a₀ af aG→Rn kd a₀ (af+n') (setPending aG ((pendingOf aG).push (af,n',0))):=λaG R4 =>
    ⟨R4.kind,R4.failed,R4.perm,by show PL ((pendingOf aG).push _).toList 0 _;rw[Jf];exact R4.pend.join ⟨rfl,l1,rfl⟩,l2⟩
   refine wpS_bind (wpS_get ?_)
   extract_lets -underBinder +onlyGivenNames jp2
   have lq:∀aG,Rn kd a₀ af aG→wpS (model prog w) A E s (jp2 ()) Q0 aG:=λaG R4=>wpS_bind (wpS_modify (wpS_pure (aY _ _ ⟨af+n',rfl,push aG R4,by omega⟩)))
   cases(pendingOf aj).back? with
   |none=>exact lq _ R3
   | some q =>
    obtain⟨s1,n1,o1⟩:=q
    refine wpS_bind (wpS_mono (wpS_forRange (I:=λ_ c aG=>Aj2 (c=(none,())) (Rn kd a₀ af aG)) (Q:=λc aG=>Aj2 (c=(none,())) (Rn kd a₀ af aG)) ?istep (λ_ _ z=>z) ⟨rfl,R3⟩) ?ipost)
    case istep =>
     rintro y c aG _ _ ⟨rfl,R4⟩
     refine zcp λQ1 fR=>wpS_bind (wpS_get ?_)
     dsimp only
     by_cases hs:(pendingOf aG).size>1
     ·rw [if_pos hs,getElem?_pos (pendingOf aG) ((pendingOf aG).size - 2) (by omega)]
      refine zal (λ_=>wpS_pure (fR _ _ ⟨rfl,R4⟩)) λ_=>wpS_bind (zfb C R4 (by omega) λka R5 _=>?_)
      exact zal (λz=>absurd z (by decide)) λ_=>wpS_pure (fR _ _ ⟨rfl,R5⟩)
     ·rw [if_neg hs]
      exact wpS_pure (fR _ _ ⟨rfl,R4⟩)
    case ipost =>
     rintro c aG ⟨rfl,R4⟩
     exact wpS_bind (wpS_modify (lq _ (R4.mod _ _ λq=>rfl)))
  refine zal (λc1=>?_) λc1=>lr m bh m1 (by omega) B2
  have rV:m<minRun' a₀.size a₀.size 0:=c1
  refine wpS_bind (wpS_lift (wpAny_rule ⟨rfl,?_⟩))
  refine wpS_bind (wpS_binary (lo:=af) (n:=min (a₀.size-af) (minRun' a₀.size a₀.size 0)) C (by omega) B2 λaj B3=>?_)
  exact zal (λz=>absurd z (by decide)) λ_=>lr _ aj (by omega) (by omega) B3
 case post =>
  rintro c aR ⟨af,rfl,R,hx⟩
  refine wpS_bind (wpS_mono (wpS_forRange (I:=λ_ c aG=>Aj2 (c=(none,())) (Rn kd a₀ af aG)) (Q:=λc aG=>Aj2 (c=(none,())) (Rn kd a₀ af aG)) ?istep (λ_ _ z=>z) ⟨rfl,R⟩) ?ipost)
  case istep =>
   rintro y c aG _ _ ⟨rfl,R4⟩
   refine zcp λQ1 fR=>wpS_bind (wpS_get ?_)
   dsimp only
   refine zal (λ_=>wpS_pure (fR _ _ ⟨rfl,R4⟩)) λhs=>wpS_bind (zfb C R4 ?_ λka R5 _=>?_)
   ·repeat' split
    all_goals omega
   ·exact zal (λz=>absurd z (by decide)) λ_=>wpS_pure (fR _ _ ⟨rfl,R5⟩)
  case ipost =>
   rintro c aG ⟨rfl,R4⟩
   exact wpS_pure (h aG R4.perm R4.failed)
end
end Tm
end
section
namespace Tm
open PySem PyProof.Rows PySem.W
section
variable{O:KeyOrd}{kf:Nat→O.α}{n:Nat}{s:Nh}{cmp:Nat→Nat→(Bool→Shared→Prop)→Shared→Prop}
def kk(kf:Nat→O.α)(p:Array Nat)(i:Nat):O.α:=kf (p.getD i 0)
def kk_rev{p:Array Nat}{i j:Nat}(hj:j≤p.size)(k:Nat):kk kf (kas_rev p i j) k=if i≤k∧k<j then kk kf p (i+j-1-k) else kk kf p k:=by
 unfold kk kas_rev
 simp only[Wl,getElem?_mirror_all hj k]
 split<;>rfl
def kk_bub(hs:a<p.size)(hd:d≤a)(k:Nat):kk kf (bubble p a d) k=if k=a-d then kk kf p a else if a-d<k∧k≤a then kk kf p (k-1) else kk kf p k:=by
 unfold kk
 simp only[Wl,getElem?_bubble hs d hd k]
 repeat' split
 all_goals rfl
def Up(kf:Nat→O.α)(p:Array Nat)(k:Nat):Prop:=∀i j,i≤j→j<k→O.kle (kk kf p i) (kk kf p j)
def Dn(kf:Nat→O.α)(p:Array Nat)(k:Nat):Prop:=∀i j,i≤j→j<k→O.kle (kk kf p j) (kk kf p i)
def Up.snoc{p:Array Nat}{a:Nat}(h1:1≤a)(h:Up kf p a)(e:O.kle (kk kf p (a-1)) (kk kf p a)):Up kf p (a+1):=λi j cu hj=>by
 by_cases z:j<a
 ·exact h i j cu z
 obtain rfl:j=a:=by omega
 by_cases z2:i=j
 ·subst z2;exact Jm _
 ·exact Ul (h i (j-1) (by omega) (by omega)) e
def Dn.snoc{p:Array Nat}{a:Nat}(h1:1≤a)(h:Dn kf p a)(e:O.kle (kk kf p a) (kk kf p (a-1))):Dn kf p (a+1):=λi j cu hj=>by
 by_cases z:j<a
 ·exact h i j cu z
 obtain rfl:j=a:=by omega
 by_cases z2:i=j
 ·subst z2;exact Jm _
 ·exact Ul e (h i (j-1) (by omega) (by omega))
structure Ar(n:Nat)(p:Array Nat):Prop where
 sz:p.size=n
 lt:∀i,0<n→p.getD i 0<n
 pm:p.Perm (List.toArray (List.range n))
def Ar.of(h:p.Perm (List.toArray (List.range n))):Ar n p:=by
 have z:p.size=n:=by rw[h.size_eq];simp
 refine⟨z,λi h0=>?_,h⟩
 by_cases hi:i<p.size
 ·have:p[i]∈List.range n:=(Yb.mp h).mem_iff.mp (by simp)
  rw[Wl,getElem?_pos p i hi]
  exact Ya.mp this
 ·rw[Wl,getElem?_neg p i hi];exact h0
def Ar.rev{p:Array Nat}(h:Ar n p)(i j:Nat):Ar n (kas_rev p i j):=.of ((mirror_perm _ _ _ _).trans h.pm)
def Ar.bub(h:Ar n p)(i j:Nat):Ar n (bubble p i j):=.of ((bubble_perm _ _ _).trans h.pm)
variable(h0:0<n)(hc:∀i j C,i<n→j<n→C (O.blt (kf i) (kf j)) s→cmp i j C s)
include h0 hc
theorem t_ask{p:Array Nat}(P:Ar n p){α:Type}{i j:Nat}{k:Bool→KasT α}{Q:α→Shared→Prop}(h1:O.klt (kk kf p i) (kk kf p j)→(k true).kasWp cmp Q s)(h2:O.kle (kk kf p j) (kk kf p i)→(k false).kasWp cmp Q s):(KasT.ask (p.getD i 0) (p.getD j 0) k).kasWp cmp Q s:=by
 refine hc _ _ _ (P.lt _ h0) (P.lt _ h0) ?_
 cases e:O.blt (kf (p.getD i 0)) (kf (p.getD j 0)) with
 |true=>exact h1 e
 |false=>exact h2 e
theorem t_asc(P:Ar n p){Q:Nat→Shared→Prop}:∀(f a:Nat),1≤a→a+f≤n→Up kf p a→(∀m,a≤m→m≤a+f→Up kf p m→(m=a+f∨O.klt (kk kf p m) (kk kf p (m-1)))→Q m s)→(kas_asc p f a).kasWp cmp Q s
 |0,a,_,_,hs,h=>h a (Qf _) (Qf _) hs (.inl rfl)
 |f+1,a,h1,hn,hs,h=>t_ask h0 hc P (λe=>h a (Qf _) (by omega) hs (.inr e)) λe=>t_asc P f (a+1) (by omega) (by omega) (hs.snoc h1 e) λm h2 h3=>h m (by omega) (by omega)|>λq h4 h5=>q h4 (h5.imp (by omega) id)
theorem t_desc{Q:Array Nat×Nat×Nat→Shared→Prop}:∀(f:Nat) (p:Array Nat) (a q:Nat),Ar n p→1≤a→a+f≤n→Dn kf p a→q<a→(∀i,a-(q+1)≤i→i<a→kk kf p i=kk kf p (a-1))→(∀p' m q',Ar n p'→a≤m→m≤a+f→Dn kf p' m→q'<m→(∀i,m-(q'+1)≤i→i<m→kk kf p' i=kk kf p' (m-1))→Q (p',m,q') s)→(kas_desc f p a q).kasWp cmp Q s
 |0,p,a,q,P,_,_,hs,hq,he,h=>h p a q P (Qf _) (Qf _) hs hq he
 | f+1,p,a,q,P,h1,hn,hs,hq,he,h=>by
  have again:∀p',Ar n p'→Dn kf p' (a+1)→∀q'<a+1,(∀i,a+1-(q'+1)≤i→i<a+1→kk kf p' i=kk kf p' (a+1-1))→(kas_desc f p' (a+1) q').kasWp cmp Q s:=λp' P' cq q' gk bM=>t_desc f p' (a+1) q' P' (by omega) (by omega) cq gk bM λp2 m q2 P2 h3 h4=>h p2 m q2 P2 (by omega) (by omega)
  have one:∀(p':Array Nat) (i:Nat),a+1-(0+1)≤i→i<a+1→kk kf p' i=kk kf p' (a+1-1):=λp' i h2 h3=>by rw[show i=a+1-1 by omega]
  refine t_ask h0 hc P (λe=>?_) λe=>?_
  ·rw [if_pos rfl]
   have same:∀k,kk kf (kas_rev p (a-(q+1)) a) k=kk kf p k:=λk=>by
    rw[kk_rev (by rw[P.sz];omega)]
    split
    ·rw[he _ (by omega) (by omega),he k (by omega) (by omega)]
    ·rfl
   split
   ·refine again _ (P.rev _ _) (fun i j cu hj=>?_) 0 (by omega) (one _)
    rw[same,same]
    exact hs.snoc h1 (Jy e) i j cu hj
   ·exact again _ P (hs.snoc h1 (Jy e)) 0 (by omega) (one _)
  ·rw [if_neg (by simp)]
   refine t_ask h0 hc P (λe2=>?_) λe2=>?_
   ·rw[if_pos rfl];exact h p a q P (Qf _) (by omega) hs hq he
   ·rw [if_neg (by simp)]
    have eq:=KeyOrd.kle_antisymm e2 e
    refine again _ P (hs.snoc h1 e2) (q+1) (by omega) λi h2 h3=>?_
    rw[Nat.add_sub_cancel]
    by_cases z:i=a
    ·rw[z]
    ·rw[he i (by omega) (by omega),eq]
theorem t_tail(P:Ar n p)(h1:1≤m)(hm:m≤n)(hs:Dn kf p m)(h:∀p' k,Ar n p'→1≤k→k≤n→Up kf p' k→Q (k,p') s):(kas_tail3 m n p).kasWp cmp Q s:=by
 unfold kas_tail3
 rw[Kn]
 refine t_asc h0 hc (P.rev 0 m) _ m h1 (by omega) (λi j cu hj=>?_) λk h2 h3 h4 _=>h _ k (P.rev 0 m) (by omega) (by omega) h4
 rw[kk_rev (by rw[P.sz];omega),kk_rev (by rw[P.sz];omega),if_pos (by omega),if_pos (by omega)]
 exact hs _ _ (by omega) (by omega)
theorem t_dpart(P:Ar n p)(hm:m+1≤n)(hs:Dn kf p (m+1))(h:∀p' k,Ar n p'→1≤k→k≤n→Up kf p' k→Q (k,p') s):(kas_descPart m n p).kasWp cmp Q s:=by
 unfold kas_descPart
 rw[Kn]
 refine t_desc h0 hc _ p (m+1) 0 P (by omega) (by omega) hs (by omega) (λi h2 h3=>by rw[show i=m+1-1 by omega]) λp' k q P' h2 h3 cq hq he=>?_
 dsimp only
 split
 ·refine t_tail h0 hc (P'.rev _ _) (by omega) (by omega) (fun i j cu hj=>?_) h
  have same:∀i,kk kf (kas_rev p' (k-(q+1)) k) i=kk kf p' i:=λi=>by
   rw[kk_rev (by rw[P'.sz];omega)]
   split
   ·rw[he _ (by omega) (by omega),he i (by omega) (by omega)]
   ·rfl
  rw[same,same]
  exact cq i j cu hj
 ·exact t_tail h0 hc P' (by omega) (by omega) cq h
theorem t_count(P:Ar n p){Q:Nat×Array Nat→Shared→Prop}(h:∀p' k,Ar n p'→1≤k→k≤n→Up kf p' k→Q (k,p') s):(kas_count n p).kasWp cmp Q s:=by
 unfold kas_count
 rw[Kn]
 refine t_asc h0 hc P _ 1 (Qf _) (by omega) (λi j cu hj=>by rw[show i=j by omega];exact Jm _) λm h1 h2 hs kX=>?_
 split
 ·exact h p m P h1 (by omega) hs
 rename_i aE
 have l6:m≠n:=by simpa using aE
 have aa:=kX.resolve_left (by omega)
 split
 ·refine t_ask h0 hc P (fun _=>?_) fun e=>?_
  ·rw[if_pos rfl];exact h p m P h1 (by omega) hs
  ·rw [if_neg (by simp)]
   have all:∀k,k<m→kk kf p k=kk kf p (m-1):=λk hk=>KeyOrd.kle_antisymm (hs k (m-1) (by omega) (by omega)) (Ul e (hs 0 k (by omega) hk))
   have same:∀k,kk kf (kas_rev p 0 m) k=kk kf p k:=λk=>by
    rw[kk_rev (by rw[P.sz];omega)]
    split
    ·rw[all _ (by omega),all k (by omega)]
    ·rfl
   refine t_dpart h0 hc (P.rev 0 m) (by omega) (Dn.snoc h1 (λi j cu hj=>?_) (by rw[same,same];exact Jy aa)) h
   rw[same,same,all i (by omega),all j hj]
   exact Jm _
 ·obtain rfl:m=1:=by omega
  exact t_dpart h0 hc P (by omega) (Dn.snoc (Qf _) (λi j cu hj=>by rw[show i=j by omega];exact Jm _) (Jy aa)) h
theorem t_place{k:Nat}(P:Ar n p)(hs:Up kf p k){Q:Nat→Shared→Prop}:∀(f l r:Nat),l≤r→r≤k→r-l≤f→(∀i,i<l→O.kle (kk kf p i) (kk kf p k))→(∀i,r≤i→i<k→O.klt (kk kf p k) (kk kf p i))→(∀l,l≤k→(∀i,i<l→O.kle (kk kf p i) (kk kf p k))→(∀i,l≤i→i<k→O.klt (kk kf p k) (kk kf p i))→Q l s)→(kas_place p k f l r).kasWp cmp Q s
 |0,l,r,h1,h2,h3,h4,h5,h=>h l (by omega) h4 λi q=>h5 i (by omega)
 | f+1,l,r,h1,h2,h3,h4,h5,h=>by
  unfold kas_place
  split
  ·exact h l (by omega) h4 λi q=>h5 i (by omega)
  ·refine t_ask h0 hc P (fun e=>?_) fun e=>?_
   ·rw [if_pos rfl]
    exact t_place P hs f l _ (by omega) (by omega) (by omega) h4 (λi q1 q2=>KeyOrd.klt_of_klt_of_kle e (hs _ _ q1 q2)) h
   ·rw [if_neg (by simp)]
    exact t_place P hs f _ r (by omega) h2 (by omega) (λi q=>Ul (hs i ((l+r)/2) (by omega) (by omega)) e) h5 h
theorem t_bin(h:∀p,Ar n p→Up kf p n→Q p s):∀(f:Nat) (p:Array Nat) (k:Nat),Ar n p→Up kf p k→k+f=n→(kas_bin f p k).kasWp cmp Q s
 |0,p,k,P,hs,e=>h p P (by rwa[←e])
 | f+1,p,k,P,hs,e=>by
  unfold kas_bin
  rw[Kn]
  refine t_place h0 hc P hs k 0 k (by omega) (by omega) (by omega) (λi q=>absurd q (by omega)) (λi q1 q2=>absurd q2 (by omega)) λl hl hlo hhi=>t_bin h f _ (k+1) (P.bub _ _) (λi j cu hj=>?_) (by omega)
  have hk:k<p.size:=by rw[P.sz];omega
  rw[kk_bub hk (by omega),kk_bub hk (by omega),show k-(k-l)=l by omega]
  repeat' split
  all_goals first
   |(exfalso;omega)
   |exact Jm _
   |exact hlo _ (by omega)
   |exact Jy (hhi _ (by omega) (by omega))
   |exact hs _ _ (by omega) (by omega)
theorem t_sort(h:∀p,Ar n p→Up kf p n→Q p s):(kas_sort n).kasWp cmp Q s:=by
 unfold kas_sort
 rw[Kn]
 refine t_count h0 hc (.of (Array.Perm.refl _)) λp k P h1 h2 hs=>?_
 dsimp only
 split
 ·exact t_bin h0 hc h _ p _ P (by rwa[Nat.max_eq_left h1]) (by omega)
 ·exact h p P (by rwa[show k=n by omega]at hs)
end
open AutoSeq1 (wpAny_loadPart')
open MeetsSeq MeetsSeq2 MeetsSeq3 SeqRoads2
section
variable{prog:Nj}{w:Nk}{A:Nn}{E:Nb}{s:Nh}{R:List Value→Prop}{vs:Ni}
structure zbo(prog:Nj)(w:Nk)(A:Nn)(E:Nb)(s:Nh)(R:List Value→Prop)(vs:Ni):Prop where
 few:vs.length<2→R vs
 go:2≤vs.length→∃kd:SortKind,(∀Q:SortKind→Shared→Prop,Q kd s→wpAny (model prog w) A (keyKind' vs.toArray) Q E s) ∧
  ∀Q:Unit→SortSt→Prop,(∀a8,(arrOf a8).Perm (pairsOf vs)→failedOf a8=none→R ((arrOf a8).toList.map (·.2))→Q () a8)→wpS (model prog w) A E s sortRuns' Q (SortSt.mk' kd (vs.toArray.zip vs.toArray) #[] 7 none)
def zc9(vs:Ni):(pairsOf vs).toList=vs.map λv=>(v,v):=by
 rw[pairsOf_toList]
 induction vs with
 |nil=>rfl
 |cons v r ih=>rw[List.zip_cons_cons,Qk,ih]
def perm_back{l:List Keyed}{vs:Ni}(h:l.Perm (vs.map λv=>(v,v))):(l.map (·.2)).Perm vs:=by
 have:=h.map (·.2)
 rwa[Zm,show((λ(p:Keyed)=>p.2)∘λv=>(v,v))=id from rfl,List.map_id]at this
def cmp_of{kd:SortKind}(h:∀x y,x∈vs→y∈vs→∀(Q:Bool→Shared→Prop) (E':Value→Shared→Prop),(∀b,Q b s)→wpAny (model prog w) A (keyLt' kd x y) Q E' s):Cmp prog w A E s kd (pairsOf vs):=by
 intro x y st Q hx hy hk q
 rw[zc9]at hx hy
 obtain⟨v,hv,rfl⟩:=Qj.mp hx
 obtain⟨u,hu,rfl⟩:=Qj.mp hy
 rw[lt'_eq]
 refine wpS_bind (wpS_get ?_)
 rw[hk]
 refine wpS_bind (wpS_lift (wpAny_attempt (h v u hv hu _ _ λb=>⟨rfl,?_⟩)))
 exact wpS_pure (q b)
def zbo.any(h:2≤vs.length→∃kd:SortKind,(∀Q:SortKind→Shared→Prop,Q kd s→wpAny (model prog w) A (keyKind' vs.toArray) Q E s)∧∀x y,x∈vs→y∈vs→∀(Q:Bool→Shared→Prop) (E':Nb),(∀b,Q b s)→wpAny (model prog w) A (keyLt' kd x y) Q E' s):zbo prog w A E s (λ_=>True) vs :=
 ⟨fun _=>trivial,fun h2=>by
  obtain⟨kd,a1,a2⟩:=h h2
  exact⟨kd,a1,λQ q=>zfa (cmp_of a2) rfl rfl (Array.Perm.refl _) rfl λa8 p1 p2=>q a8 p1 p2 trivial⟩⟩
def zbo.ord{O:KeyOrd}{kv:Value→O.α}(h:2≤vs.length→∃ kd:SortKind,(∀ Q:SortKind→Shared→Prop,Q kd s→wpAny (model prog w) A (keyKind' vs.toArray) Q E s)∧∀ x y,x∈vs→y∈vs→∀ (Q:Bool→Shared→Prop) (E':Nb),Q (O.blt (kv x) (kv y)) s→wpAny (model prog w) A (keyLt' kd x y) Q E' s):zbo prog w A E s (fun ws=>vs.length < 64→ws.Pairwise fun x y=>O.kle (kv x) (kv y)) vs:=by
 refine⟨λh2 _=>?_,λh2=>?_⟩
 ·obtain _ | ⟨v,_ | ⟨v',r⟩⟩:=vs
  ·exact List.Pairwise.nil
  ·exact Yx _ _
  ·exact absurd h2 (by simp)
 obtain⟨kd,a1,a2⟩:=h h2
 refine⟨kd,a1,λQ q=>?_⟩
 by_cases nO:vs.length<64
 ·have at_:∀ i,i < vs.length→vs.getD i .none∈vs:=fun i hi=>by
   rw[Qv,Qc hi]
   exact Qm hi
  have st0:SortSt.mk' kd (vs.toArray.zip vs.toArray) #[] 7 none=kas_st kd (pairsOf vs) (List.toArray (List.range vs.length)):=by
   unfold kas_st
   rw[←pairsOf_size vs,kas_range]
   rfl
  rw[st0]
  refine kas_runs (κ:=kd) (it:=pairsOf vs) (E:=E) (Q:=λr st s'=>s'=s∧Q r st) (G:=λp s'=>Aj3 (s'=s) (Ar vs.length p) (Up (O:=O) (λi=>kv (vs.getD i .none)) p vs.length)) h2 nO (λp a8 s' hz ha hf ⟨hs,P,U⟩=>⟨hs,q a8 ?_ hf λ_=>?_⟩) (t_sort (O:=O) (kf:=λi=>kv (vs.getD i .none)) (by omega) (λi j C hi hj hC=>?_) λp P U=>⟨rfl,P,U⟩)
  ·have:=(Yb.mp P.pm).map (kas_item (pairsOf vs))
   rw[←Kq,←Kq,←pairsOf_size vs,kas_range]at this
   rw[ha]
   exact Yb.mpr this
  ·rw [ha,Kq,Zm,Wy,Uo]
   intro i j hi hj cu
   have e:∀k (hk:k<p.toList.length),kv ((kas_item (pairsOf vs) p.toList[k]).2)=kk (λi=>kv (vs.getD i .none)) p k:=λk hk=>by
    unfold kk
    rw[kas_item_eq,Wl,getElem?_pos p k (by simpa using hk)]
    rfl
   show O.kle (kv _) (kv _)
   dsimp only[Function.comp]
   rw[e i hi,e j hj]
   exact U i j (Wx cu) (by simpa[P.sz] using hj)
  ·unfold kas_cmp
   rw[kas_item_eq,kas_item_eq]
   exact a2 _ _ (at_ i hi) (at_ j hj) _ _ hC
 ·exact zfa (cmp_of λx y hx hy Q' E' q'=>a2 x y hx hy Q' E' (q' _)) rfl rfl (Array.Perm.refl _) rfl λa8 p1 p2=>q a8 p1 p2 λz=>absurd z nO
abbrev strO:KeyOrd:=strKind.toKeyOrd
def kvS(v:Value):List Nat:=(strOf v).cps.toList
def zdq(hv:∀v∈vs,∃x t,v=.str x t):zbo prog w A E s (λws=>vs.length<64→ws.Pairwise λx y=>strO.kle (kvS x) (kvS y)) vs:=by
 refine .ord λh2=>⟨oneType',λQ q=>kas_kind (T:=.type "str") h2 (λv hm=>?_) (by decide) (by decide) q,λx y hx hy Q E' q=>?_⟩
 ·obtain ⟨x,t,rfl⟩:=hv v hm
  exact Looks.of_pure rfl
 ·obtain ⟨a,t,rfl⟩:=hv x hx
  obtain⟨b,u,rfl⟩:=hv y hy
  rw[keyLt'_oneType]
  exact oneLt_str q
def sort_list{a:Nc}{n:Nat}{P:Fin→Shared→Prop}(ho:s.heap.get? a=some (seqObj "list" vs.toArray n))(hz:vs.length≤sizeLine)(hS:∀s':Shared,(∀b o,b≠a→s.heap.get? b=some o→s'.heap.get? b=some o)→zbo prog w A E s' R vs)(h:∀ws:List Value,ws.Perm vs→R ws→P (.done (.ret .none)) {s with heap:=sortedHeap s.heap a vs ws.toArray}) :
  wpAny (model prog w) A (Builtin.«list.sort» ⟨[.ref a],[]⟩) P E s:=by
 have lt:a<s.heap.objs.size:=Qs ho
 rw[list_sort_plain]
 refine wpAny_bind (listItems_at ho rfl (wpAny_bind (listUpdate_at ho rfl ?_ (hsz:=by simpa using hz) (hsz2:=by simp))))
 obtain⟨e1,k1⟩:∃e,(s.heap.update a (Obj.mapSeq λ_=>#[])).get? a=some (seqObj "list" #[] e):=⟨_,get?_update_seq ho λ_=>#[]⟩
 refine wpAny_bind (seqEpoch_at k1 rfl (wpAny_bind (wpAny_newTuple (wpAny_bind (wpAny_newList (wpAny_holding ?_))))))
 show wpAny (model prog w) A _ P E {s with heap:=((s.heap.update a (Obj.mapSeq λ_=>#[])).push (seqObj "tuple" vs.toArray 0)).push (seqObj "list" #[] 0)}
 generalize hg:((s.heap.update a (Obj.mapSeq λ_=>#[])).push (seqObj "tuple" vs.toArray 0)).push (seqObj "list" #[] 0)=g
 have k6:g.get? a=some (seqObj "list" #[] e1):=by
  rw[←hg]
  exact Qg _ (Qg _ k1)
 have kk:∀b o,b≠a→s.heap.get? b=some o→g.get? b=some o:=λb o hb e=>by
  rw[←hg]
  exact Qg _ (Qg _ ((Ui s.heap _ (Zh hb)).trans e))
 have eh:∀out,sortedHeap s.heap a vs out=g.update a (Obj.mapSeq λ_=>out):=λout=>by rw[←hg];rfl
 have S:=hS {s with heap:=g} kk
 dsimp only
 have fin:∀(l:Array Keyed),l.toList.Perm (vs.map λv=>(v,v))→R (l.toList.map (·.2))→P (.done (.ret .none)) {s with heap:=g.update a (Obj.mapSeq λ_=>l.map (·.2))}:=λl p1 p2=>by
  have:=h _ (perm_back p1) p2
  rw[eh]at this
  rw[show l.map (·.2)=(l.toList.map (·.2)).toArray by rw[←Kq]]
  exact this
 have lz:vs.toArray.size=vs.length:=Qq
 have szOk:∀l:Array Keyed,l.toList.Perm (vs.map λv=>(v,v))→(l.map (·.2)).size≤sizeLine+1:=λl p1=>by
  rw[Array.size_map,←We,p1.length_eq,Qa];exact zar16 ‹_›
 by_cases few:vs.toArray.size<2
 ·rw [if_pos few,if_pos few]
  refine wpAny_bind (wpAny_pure ?_)
  rw[StateT.run_pure]
  have pr:(pairsOf vs).toList.Perm (vs.map λv=>(v,v)):=by rw[zc9]
  refine wpAny_bind (wpAny_pure (wpAny_bind (seqEpoch_at k6 rfl (wpAny_bind (listUpdate_at k6 rfl ?_ (hsz:=by simp) (hsz2:=szOk (pairsOf vs) pr))))))
  simp only[bne_self_eq_false,Jx,if_false]
  refine wpAny_pure (fin (pairsOf vs) pr ?_)
  rw[zc9,Zm,show((λ(p:Keyed)=>p.2)∘λv=>(v,v))=id from rfl,List.map_id]
  exact S.few (by rw[←lz];exact few)
 ·rw [if_neg few,if_neg few]
  obtain⟨kd,ask,C⟩:=S.go (by omega)
  refine wpAny_bind (ask _ ?_)
  refine wpAny_bind (wpAny_mono (C (λ_ a8=>Aj3 ((arrOf a8).Perm (pairsOf vs)) (failedOf a8=none) (R ((arrOf a8).toList.map (·.2)))) λa8 p1 p2 p3=>⟨p1,p2,p3⟩) ?_ λ_ _ e=>e)
  rintro⟨⟨⟩,a8⟩ s' ⟨rfl,p1,p2,p3⟩
  have pr:(arrOf a8).toList.Perm (vs.map λv=>(v,v)):=by rw[←zc9];exact Yb.mp p1
  dsimp only
  refine wpAny_bind (seqEpoch_at k6 rfl (wpAny_bind (listUpdate_at k6 rfl ?_ (hsz:=by simp) (hsz2:=szOk (arrOf a8) pr))))
  rw[p2]
  simp only[bne_self_eq_false,Jx,if_false]
  exact wpAny_pure (fin _ pr p3)
def zea{x:Value}{G:List Value→Prop}{R:List Value→List Value→Prop}{Q:Nb}(rp:∀(E':Nb) (R:List Value→Shared→Prop),(∀(g:Nm) (tk:Nat) (vs:Ni),(∀b o,s.heap.get? b=some o→g.get? b=some o)→s.heap.objs.size≤g.objs.size→G vs→R vs {s with heap:=g,toks:=tk})→wpAny (model prog w) A.in1 (collect x) R E' s)(hz:∀vs,G vs→vs.length≤sizeLine)(hS:∀vs,G vs→∀(A':Around) (E':Value→Shared→Prop) (s':Shared),A'.units≤A.units+8→(∀b o,s.heap.get? b=some o→s'.heap.get? b=some o)→zbo prog w A' E' s' (R vs) vs)(h:∀(vs ws:Ni) (l:Nc) (g:Nm) (tk e:Nat),G vs→ws.Perm vs→R vs ws→s.heap.objs.size≤l→(∀b o,s.heap.get? b=some o→g.get? b=some o)→g.get? l=some (seqObj "list" ws.toArray e)→Q (.ref l) {s with heap:=g,toks:=tk}) :
  wpAny (model prog w) A (call (.builtin "sorted") [x]) Q E s:=by
 refine Calls.call_function_entry kind_sorted plain_sorted entry_sorted (args_sorted1 _) ?_
 unfold Builtin.«sorted»
 refine wpAny_bind (m:=checkCount "sorted" 1 1 _) (wpAny_pure (wpAny_bind (rp _ _ λg tk vs kg le hG=>?_)))
 have hzv:=hz vs hG
 refine wpAny_bind (wpAny_newList ?_ (hsz:=hzv))
 have o1:(g.push (seqObj "list" vs.toArray 0)).get? g.objs.size=some (seqObj "list" vs.toArray 0):=Zb _ rfl
 show wpAny _ _ _ _ _ {s with heap:=g.push (seqObj "list" vs.toArray 0),toks:=tk}
 refine wpAny_bind (wpAny_holding (wpAny_call_entry slot_list_sort ⟨_,o1,rfl⟩ entry_list_sort (sort_list (R:=R vs) o1 hzv (λs' k=>hS vs hG _ _ s' ?_ λb o e=>k b o (λz=>?_) (Qg _ (kg b o e))) λws p1 p2=>⟨_,rfl,?_⟩) (args_list_sort _)))
 ·show A.units+1+1≤A.units+8
  omega
 ·have lt:b < g.objs.size:=Qs (kg b o e)
  rw[z]at lt
  exact absurd lt (Yc _)
 ·obtain ⟨e,he⟩:=sortedHeap_at (out:=ws.toArray) o1
  refine wpAny_pure ⟨_,rfl,h vs ws _ _ _ e hG p1 p2 le (λb o q=>?_) he⟩
  have lt:b<g.objs.size:=Qs (kg b o q)
  rw[sortedHeap_old (Zi lt) (by rw[size_push'];exact Jc lt)]
  exact Qg _ (kg b o q)
def zf2{T:String}{r d:Nc}{n:Nat}{P:Nat→Value→Prop}{OK:Heap→Prop}{R:List Value→Shared→Prop}(K:KdlSrc prog w T r d n P OK)(hh:A.handled=none)(ok:OK s.heap)(hn:n≤sizeLine)(h:∀(g:Nm) (tk:Nat) (ae:Array Value),(∀b o,s.heap.get? b=some o→g.get? b=some o)→s.heap.objs.size≤g.objs.size→ItemsOf P ae n→R ae.toList {s with heap:=g,toks:=tk}) :
  wpAny (model prog w) A (collect (.ref r)) R E s:=by
 have there:=K.there _ ok
 unfold collect
 refine wpAny_bind (wpAny_runValue (codeAny_builtin entry_proto_collect' ?_))
 rw[Wc PySem.F.plain_proto_collect _]
 show wpAny _ A.in1 (newList [] >>= λl =>
  again (.builtin "list.__iadd__" ⟨[l,.ref r],[]⟩)) _ _ s
 refine wpAny_bind (wpAny_newObj_type (wpAny_pure ⟨plainId_quiet PySem.F.plain_list_iadd _,codeAny_builtin entry_list_iadd' ?_⟩))
 rw[Wc PySem.F.plain_list_iadd _]
 show wpAny _ A.in1 (Builtin.List.listExtendWith (.ref s.heap.objs.size)
  (.ref r) (.ref s.heap.objs.size)) _ _ _
 have jw:(s.heap.push {cls:=.type "list",data:=.seq ([]:List Value).toArray}).get? s.heap.objs.size=some {cls:=.type "list",data:=.seq #[]}:=Zb _ rfl
 refine wpAny_mono (kdl_extend (A:=A) (s:={s with heap:=s.heap.push {cls:=.type "list",data:=.seq ([]:List Value).toArray}})
  (R:=fun (q:Result) (s':Nh)=>∃ (g:Nm) (tk:Nat) (ae:Array Value) (c:Nat),q=.ok (.ret (.ref s.heap.objs.size))∧s'={ s with heap:=g,toks:=tk } ∧
   (∀b o,s.heap.get? b=some o→g.get? b=some o)∧g.get? s.heap.objs.size=some {cls:=.type "list",dict:=none,data:=.seq ae c,slots:=#[]}∧ItemsOf P ae n)
  K hh (K.keep _ _ ok λb _ o e=>Qg _ e) s.heap.objs.size (Yq there.1) (Yq there.2) (.ref s.heap.objs.size) 0 jw
  (λg tk ae c hk hS ha=>⟨g,tk,ae,c,rfl,rfl,λb o e=>hk b o (Zi (Qs e)) (Qg _ e),hS,ha⟩) hn) (λfin s' x=>?_) λe s' x=>?_
 ·cases fin with
  |done f =>
   obtain⟨g,tk,ae,c,e,rfl,hk,hS,ha⟩:=x
   cases e
   show wpAny _ A (load s.heap.objs.size >>= _) _ _ _
   exact wpAny_bind (wpAny_load hS (wpAny_pure (h g tk ae hk (Wx (Qs hS)) ha)))
  |again c1 =>
   refine⟨x.1,codeAny_mono x.2 λq s2 y=>?_⟩
   obtain⟨g,tk,ae,c,rfl,rfl,hk,hS,ha⟩:=y
   show wpAny _ A (load s.heap.objs.size >>= _) _ _ _
   exact wpAny_bind (wpAny_load hS (wpAny_pure (h g tk ae hk (Wx (Qs hS)) ha)))
 ·obtain ⟨_,_,_,_,e',_⟩:=x
  cases e'
def sorted_any{Q:Nb}(hl:s.heap.IsList l vs.toArray)(hz:vs.length≤sizeLine)(hS:∀(A':Around) (E':Value→Shared→Prop) (s':Shared),A'.units≤A.units+8→(∀b o,s.heap.get? b=some o→s'.heap.get? b=some o)→zbo prog w A' E' s' R vs)(h:∀(ws:Ni) (l:Nc) (g:Nm) (tk e:Nat),ws.Perm vs→R ws→s.heap.objs.size≤l→(∀b o,s.heap.get? b=some o→g.get? b=some o)→g.get? l=some (seqObj "list" ws.toArray e)→Q (.ref l) {s with heap:=g,toks:=tk}) :
  wpAny (model prog w) A (call (.builtin "sorted") [.ref l]) Q E s :=
 zea (G:=λus=>us=vs) (R:=λ_=>R) (λE' R' hR=>collect_list hl (hR _ _ _ (λb o e=>(Ui _ _ (Zh (Zi (Qs e)))).trans (Qg _ e)) (by rw[Heap.size_update,size_push'];exact Ja _) rfl) hz) (λus e=>e▸hz) (λus e=>e▸hS) λus ws l g tk e e' p1 p2=>h ws l g tk e (e'▸p1) p2
end
def str_ext{a b:Str}(h:a.cps.toList=b.cps.toList):a=b:=by
 cases a;cases b
 exact congrArg _ (Kr.mp h)
def str_ne{a b:Str}(h:¬a=b):¬a.cps.toList=b.cps.toList:=λq=>h (str_ext q)
def pairO(O P:KeyOrd):KeyOrd where
 α:=O.α×P.α
 blt a b:=O.blt a.1 b.1||(!O.blt b.1 a.1&&P.blt a.2 b.2)
 irrefl a:=by rw[O.irrefl,P.irrefl];rfl
 trans a b c h1 h2:=by
  simp only[Bool.or_eq_true,Jh,Je]at *
  rcases h1 with h1 | ⟨n1,h1⟩
  ·rcases h2 with h2 | ⟨n2,h2⟩
   ·exact .inl (O.trans _ _ _ h1 h2)
   ·exact .inl (KeyOrd.klt_of_klt_of_kle h1 n2)
  ·rcases h2 with h2 | ⟨n2,h2⟩
   ·exact .inl (KeyOrd.klt_of_kle_of_klt n1 h2)
   ·exact .inr ⟨Ul n1 n2,P.trans _ _ _ h1 h2⟩
 negTrans a b c h:=by
  simp only[Bool.or_eq_true,Jh,Je]at *
  rcases h with h | ⟨n,h⟩
  ·rcases O.negTrans _ b.1 _ h with q | q
   ·exact .inl (.inl q)
   ·exact .inr (.inl q)
  ·cases e1:O.blt a.1 b.1 with
   |true=>exact .inl (.inl rfl)
   | false =>
    cases e2:O.blt b.1 c.1 with
    |true=>exact .inr (.inl rfl)
    |false =>
     have n1:O.blt b.1 a.1=false:=Ul (O:=O) (a:=a.1) (b:=c.1) (c:=b.1) n e2
     have n2:O.blt c.1 b.1=false:=Ul (O:=O) (a:=b.1) (b:=a.1) (c:=c.1) e1 n
     rcases P.negTrans _ b.2 _ h with q | q
     ·exact .inl (.inr ⟨n1,q⟩)
     ·exact .inr (.inr ⟨n2,q⟩)
 total a b h1 h2:=by
  simp only[Bool.or_eq_false_iff,Bool.and_eq_false_iff,Bool.not_eq_false']at *
  have e1:=O.total _ _ h1.1 h2.1
  obtain⟨a1,a2⟩:=a
  obtain⟨b1,b2⟩:=b
  simp only at e1 h1 h2
  subst e1
  have i:=O.irrefl a1
  rw[i]at h1 h2
  have p1:P.blt a2 b2=false:=h1.2.elim (λz=>by cases z) id
  have p2:P.blt b2 a2=false:=h2.2.elim (λz=>by cases z) id
  rw[P.total _ _ p1 p2]
def zhj(h:Nm):Value→List Value
 | .ref a=>match h.get? a with
  |some o=>match o.data with
   |.seq xs _=>xs.toList
   |_=>[]
  |none=>[]
 |_=>[]
def itemsAt_ref(e:h.get? a=some o)(d:o.data=.seq xs n):zhj h (.ref a)=xs.toList:=by
 unfold zhj
 dsimp only
 rw[e]
 dsimp only
 rw[d]
def kvP(h:Nm)(v:Value):List Nat×List Nat:=(kvS ((zhj h v).getD 0 .none),kvS ((zhj h v).getD 1 .none))
def ze2(h:Nm)(v:Value)(x:Str)(q:Value):Prop:=∃a o t n,v=.ref a∧h.get? a=some o∧o.cls=.type "tuple" ∧ o.data=.seq #[.str x t,q] n
def ze2.key(p:ze2 h v x q):kvP h v=(x.cps.toList,kvS q):=by
 obtain⟨a,o,t,n,rfl,e,c,d⟩:=p
 unfold kvP
 rw[itemsAt_ref e d]
 rfl
theorem katTups(k:∀b o,h.get? b=some o→s.get? b=some o):∀(vs:Ni),(∀v∈vs,∃x q,ze2 h v x q)→∃fs,KatTups s vs fs∧fs.length=vs.length∧∀f∈fs,∃x t,f=.str x t
 |[],_=>⟨[],.nil,rfl,λf hf=>by cases hf⟩
 |v::vs,hv=>by
  obtain⟨fs,h1,h2,h3⟩:=katTups k vs λu hu=>hv u (Qi _ hu)
  obtain⟨x,q,a,o,t,n,rfl,e,c,d⟩:=hv v Qe
  refine⟨.str x t::fs,.cons (k _ _ e) c d rfl h1,by rw[Zd,Zd,h2],λf hf=>?_⟩
  rcases Qh.mp hf with z | z
  ·exact⟨x,t,z⟩
  ·exact h3 f z
section
variable{prog:Nj}{w:Nk}{A:Nn}{E:Nb}{s:Nh}{vs:Ni}{h:Nm}
def kind_tups(k:∀b o,h.get? b=some o→s.heap.get? b=some o)(hv:∀v∈vs,∃x q,ze2 h v x q)(h2:2≤vs.length)(q:Q (tuples' true) s):wpAny (model prog w) A (keyKind' vs.toArray) Q E s:=by
 obtain⟨fs,h1,h3,h4⟩:=katTups k vs hv
 refine kat_kind (T:=.type "str") h1 (by omega) (λf hf=>?_) (by decide) q
 obtain⟨x,t,rfl⟩:=h4 f hf
 exact Looks.of_pure rfl
def blt_p:(pairO strO strO).blt (x,y) (x',y')=if x=x' then decide (y<y') else decide (x<x'):=by
 show(decide (x<x')||(!decide (x'<x)&&decide (y<y')))=_
 split
 ·rename_i e
  subst e
  rw[decide_eq_false (Wk x)];rfl
 ·rename_i ne
  by_cases h1:x<x'
  ·rw[decide_eq_true h1];rfl
  ·rw[decide_eq_false h1,decide_eq_true (Kb λh2=>ne (strO.total _ _ (decide_eq_false h1) (decide_eq_false h2)))];rfl
def zdp(k:∀ b o,h.get? b=some o→s.heap.get? b=some o)(hv:∀ v∈vs,∃ x q,ze2 h v x q)(hd:∀ v∈vs,∀ u∈vs,∀ x p q,ze2 h v x p→ze2 h u x q→v=u∨∃ y t y' t',p=.str y t∧q=.str y' t'):zbo prog w A E s (fun ws=>vs.length < 64→ws.Pairwise fun x y=>(pairO strO strO).kle (kvP h x) (kvP h y)) vs:=by
 refine .ord λh2=>⟨tuples' true,λQ q=>kind_tups k hv h2 q,λv v' hx hy Q E' q=>?_⟩
 have same:=hd v hx v' hy
 obtain⟨x,z,p⟩:=hv v hx
 obtain⟨x',z',p'⟩:=hv v' hy
 have P:=p
 have P':=p'
 rw[P.key,P'.key,blt_p]at q
 obtain⟨a,o,t,n,rfl,e,c,d⟩:=p
 obtain⟨a',o',t',n',rfl,e',c',d'⟩:=p'
 refine kat_lt (k _ _ e) d (k _ _ e') d' ?_
 show KatLex _ _ _ _ _ _ [(Value.str x t,Value.str x' t'),(z,z')] 0 s
 refine kat_cons (wpAny_eqBool_str ?_)
 by_cases ex:x=x'
 ·subst ex
  rw[if_pos rfl]at q
  rw[decide_eq_true rfl]
  refine kat_yes (kat_cons ?_)
  rcases same x z z' P P' with e2 | ⟨y,u,y',u',rfl,rfl⟩
  ·cases e2
   rw[e]at e'
   cases e'
   rw[d]at d'
   have d2:(#[Value.str x t,z]:Array Value)=#[Value.str x t',z']:=by injection d'
   have d3:z=z':=by
    have:=congrArg (λa:Array Value=>a[1]?) d2
    simpa using this
   subst d3
   rw[decide_eq_false (Wk _)]at q
   exact SeqAt.EqAt.same z _ _ _ _ (kat_yes (kat_nil q))
  ·refine wpAny_eqBool_str ?_
   by_cases ey:y=y'
   ·subst ey
    rw[show kvS (Value.str y u')=kvS (Value.str y u) from rfl,decide_eq_false (Wk _)]at q
    rw[decide_eq_true rfl]
    exact kat_yes (kat_nil q)
   ·rw [decide_eq_false ey]
    exact kat_no (kat_one _ _ (lt_str q))
 ·rw [decide_eq_false ex]
  rw[if_neg (str_ne ex)]at q
  exact kat_no (oneLt_str q)
end
def lt_loopAt(l b:Nc)(xs ys:List (Str×Tok))(n n2:Nat)(k:Nat) :
  ∀ i:Nat,min xs.length ys.length - i=k→i≤min xs.length ys.length→Meets (Builtin.«list.__eq__.loop» ⟨[.ref l,.ref b,rawInt i,rawInt 0],[]⟩)
   (fun A R s=>s.heap.get? l=some { cls:=.type "list",data:=.seq (strValues xs).toArray n }∧s.heap.get? b=some { cls:=.type "list",data:=.seq (strValues ys).toArray n2 } ∧
    ∀z,R (.ok (.ret (.bool z))) s):=by
 have get:∀(zs:List (Str×Tok)) (i:Nat),(strValues zs).toArray[((i:Nat):Int).toNat]?=zs[i]?.map λp=>Value.str p.1 p.2:=λzs i=>by
  simp[strValues]
 induction k with
 | zero =>
  intro i hk dW prog w A R s h
  obtain⟨hp,g,d,tk,os⟩:=s;obtain⟨hl,hb,h⟩:=h
  wp_walk using wpAny_loadPart' hl,wpAny_loadPart' hb
  rw[get,get]
  by_cases hx:i<xs.length
  ·have hy:ys[i]?=none:=by simp;lia
   rw[hy,Qc hx]
   dsimp only[Option.map_some,Option.map_none]
   wp_walk using wpAny_loadPart' hl,wpAny_loadPart' hb
   exact h _
  ·have cB:xs[i]?=none:=by simp;lia
   rw[cB]
   dsimp only[Option.map_some,Option.map_none]
   wp_walk using wpAny_loadPart' hl,wpAny_loadPart' hb
   exact h _
 | succ k ih =>
  intro i hk dW prog w A R s h
  obtain⟨hp,g,d,tk,os⟩:=s;obtain⟨hl,hb,h⟩:=h
  wp_walk using wpAny_loadPart' hl,wpAny_loadPart' hb
  have hx:i<xs.length:=by lia
  have hy:i<ys.length:=by lia
  rw[get,get,Qc hx,Qc hy]
  dsimp only[Option.map_some]
  have hc:((i:Int)+1)=((i+1:Nat):Int):=by push_cast;rfl
  refine wpAny_bind (wpAny_eqBool_str ?_)
  by_cases he:xs[i].1=ys[i].1
  ·rw [decide_eq_true he]
   wp_walk
   rw[hc]
   exact⟨plainId_quiet plain_eq_loop _,codeAny_builtin entry_eq_loop (by
    rw[Wc plain_eq_loop _]
    exact ih (i+1) (by lia) (by lia) prog w A R _ ⟨hl,hb,h⟩)⟩
  ·rw [decide_eq_false he]
   wp_walk using wpAny_loadPart' hl,wpAny_loadPart' hb
   rw[get,get,Qc hx,Qc hy]
   dsimp only[Option.map_some]
   refine wpAny_bind (show wpAny _ _ (compareOp .Lt (Value.str xs[i].1 xs[i].2) (Value.str ys[i].1 ys[i].2)) _ _ _ from lt_str ?_)
   wp_walk
   exact h _
def list_ltAt(l b:Nc)(xs ys:List (Str×Tok))(n n2:Nat):Meets (Builtin.«list.__lt__» ⟨[.ref l,.ref b],[]⟩)
   (fun A R s=>s.heap.get? l=some { cls:=.type "list",data:=.seq (strValues xs).toArray n }∧s.heap.get? b=some { cls:=.type "list",data:=.seq (strValues ys).toArray n2 } ∧
    ∀z,R (.ok (.ret (.bool z))) s):=by
 intro prog w A R s h
 obtain⟨hp,g,d,tk,os⟩:=s;obtain⟨hl,hb,h⟩:=h
 have f3:=AutoSeq1.sub_list_list
 wp_walk using wpAny_loadPart' hl,wpAny_loadPart' hb
 exact⟨plainId_quiet plain_eq_loop _,codeAny_builtin entry_eq_loop (by
  rw[Wc plain_eq_loop _]
  exact lt_loopAt l b xs ys n n2 _ 0 rfl (Zn _) prog w A R _ ⟨hl,hb,h⟩)⟩
section
variable{prog:Nj}{w:Nk}{A:Nn}{E:Nb}{s:Nh}
def zf5{vs:Ni}{h:Nm}(hu:A.units<cLine)(k:∀b o,h.get? b=some o→s.heap.get? b=some o)(hv:∀v∈vs,∃a xs n,v=.ref a∧h.get? a=some {cls:=.type "list",data:=.seq (strValues xs).toArray n}):zbo prog w A E s (λ_=>True) vs:=by
 refine .any λh2=>⟨oneType',λQ q=>kas_kind (T:=.type "list") h2 (λv hm=>?_) (by decide) (by decide) q,λx y hx hy Q E' q=>?_⟩
 ·obtain ⟨a,xs,n,rfl,e⟩:=hv v hm
  exact(Looks.ld (k _ _ e)).andThen .now
 ·obtain ⟨a,xs,n,rfl,e⟩:=hv x hx
  obtain⟨b,ys,m,rfl,e'⟩:=hv y hy
  rw[keyLt'_oneType,oneLt'_eq]
  simp only[if_true]
  refine wpAny_bind (wpAny_cRoomFor hu ?_)
  refine wpAny_bind (wpAny_callSpecialIfBound?_slot ⟨_,k _ _ e,rfl⟩ F.slot_list_lt (call_meets F.slot_list_lt ⟨_,k _ _ e,rfl⟩ F.entry_list_lt (F.args_list_lt_2 _ _) (list_ltAt a b xs ys n m) ⟨k _ _ e,k _ _ e',λz=>?_⟩))
  exact wpAny_truthy_bool (q _)
end
end Tm
end
section
namespace L2
open PySem PySem.Spec PyProof.Rows
def zd0{K:Na}{a:Nc}{zs:Ng}{g:TG}{tb:TS}{D:Ends}{σ:St}{H:Hp}(Pv:Nat→St→Hp→Prop)(h0:Pv 0 σ H)(hl:∀i σ H,i≤(zs.map V.str).length→Pv i σ H→SqL K H a (zs.map V.str))(hs:∀i (hi:i<zs.length) σ H,Pv i σ H→g (.str zs[i]) σ H λ σ2 H2=>tb {D with nx:=Pv (i+1),ct:=Pv (i+1),bk:=D.nx} σ2 H2)(hd:∀σ H,Pv (zs.map V.str).length σ H→D.nx σ H) :
  ∃W:Nat→Nat→St→Hp→Prop,(∃m,W 0 m σ H)∧∀i m σ H,W i m σ H →
   ((Itl K a).stop i H∧D.nx σ H)∨((Itl K a).go i H∧∃N:St→Hp→Prop,(∀σ' H',N σ' H'→∃m',m'<m∧W (i+1) m' σ' H')∧∀x H',(Itl K a).yld i H x H'→g x σ H' λ σ2 H2=>tb {D with nx:=N,ct:=N,bk:=D.nx} σ2 H2) :=
 zbn Pv h0 hl (λi x σ H e p=>by
  have hi:i<zs.length:=by
   have:=(Ze.mp e).1
   rwa[Qa]at this
  rw[Qu,Qc hi]at e
  cases e
  exact hs i hi σ H p) hd
section
variable{X:Cx}
inductive RrIndex(x:V)(vs:List V)(H:Hp)(Q:VK):Prop
 |mk (l:Nc) (xs:List V) (y:V) (j:Nat) (h0:x=.ref l) (h1:vs=[y]) (h2:H l=some (.lst xs)) (h3:zcx y=true) (h4:xs.all zcx=true) (h5:(∃z,xs[j]?=some z∧eqV z y=true)) (h6:(∀m z,m<j→xs[m]?=some z→eqV z y=false)) (h7:Q (.int j) H):RrIndex x vs H Q
def rIndex:V→List V→Hp→VK→Prop:=λx vs H Q=>RrIndex x vs H Q
def ze8:MtM X "list.index" rIndex:=by
 intro a5 s σ H x vs v us Q I rx rv h
 obtain⟨l,xs,y,j,rfl,rfl,hH,fy,fs,⟨z,hz,ez⟩,bJ,q⟩:=h
 cases rx
 obtain⟨u,rfl,ru⟩:=rv.one
 obtain⟨zz,a6,n,r,hl,e⟩:=I.lstM hH
 have hn:=zdy
 obtain⟨wv,hw,cV⟩:=r.get hz
 have hj:j<a6.length:=(Ze.mp hw).1
 have fl:∀{i:Nat} {a:V},xs[i]?=some a→zcx a=true:=λ{i a} q=>Um.mp fs a (Yl q)
 refine call_meets F.slot_list_index ⟨_,e,rfl⟩ F.entry_list_index (F.args_list_index_2 _ _)
  (SeqAt.list_indexAt l a6.toArray n none #[] u (eqU y) j (by simpa using hj) (by lia) ?_ ?_) ⟨e,λa ha=>zda ru fy r fs a (by simpa using ha),?_⟩
 ·have e1:a6[j]=wv:=by
   have:=Qc hj
   rw[this]at hw;exact Qr hw
  show eqU y (a6.toArray[j])=true
  rw[Jj,e1,eqU_of cV (fl hz)]
  exact ez
 ·intro m hm aa
  have hm':m<a6.length:=by simpa using hm
  have be:m<xs.length:=by exact zar6 ‹_› ‹_›
  have gx:xs[m]?=some xs[m]:=Qc be
  obtain⟨wm,hwm,rm⟩:=r.get gx
  have e1:a6[m]=wm:=by
   have:=Qc hm'
   rw[this]at hwm;exact Qr hwm
  show eqU y (a6.toArray[m])=false
  rw[Jj,e1,eqU_of rm (fl gx)]
  exact bJ m _ aa gx
 ·exact⟨.int j,H,I.tok _,⟨_,rfl⟩,q⟩
inductive RrInsert(x:V)(vs:List V)(H:Hp)(Q:VK):Prop
 |mk (l:Nc) (xs:List V) (y:V) (k:Nat) (h0:x=.ref l) (h1:vs=[.int k,y]) (h2:H l=some (.lst xs)) (h3:xs.length<sizeLine) (h4:k≤xs.length) (h5:Q .non (upd H l (.lst (xs.take k++y::xs.drop k)))):RrInsert x vs H Q
def rInsert:V→List V→Hp→VK→Prop:=λx vs H Q=>RrInsert x vs H Q
def zfs:MtM X "list.insert" rInsert:=by
 intro a5 s σ H x vs v us Q I rx rv h
 obtain⟨l,xs,y,k,rfl,rfl,hH,hz,hk,q⟩:=h
 cases rx
 obtain⟨u1,u,rfl,⟨t,rfl⟩,ru⟩:=rv.two
 obtain⟨zz,a6,n,r,hl,e⟩:=I.lstM hH
 have hn:=zdy
 obtain⟨i,hi⟩:∃i:Int,i=(k:Int):=⟨_,rfl⟩
 have qC:¬(!Builtin.List.listFitsIndex i)=true:=by
  rw[fitsIndex_both (by lia) (by lia)]
  exact Za
 have hsz:a6.toArray.size≤sizeLine:=by rw[Qq];exact zdn ‹_› ‹_›
 have M:=AutoSeq1.list_insert_list_int_val_1 l a6.toArray n i t u qC hsz
 rw[←hi]
 refine call_meets F.slot_list_insert ⟨_,e,rfl⟩ F.entry_list_insert (F.args_list_insert_3 _ _ _) M ⟨e,?_⟩
 refine⟨.non,_,I.lset (its':=a6.take k++u::a6.drop k) hH e ?_ ((r.take k).append (.cons ru (r.drop k))) ?_,rfl,q⟩
 ·have e1:¬ (i < 0):=by lia
  have e2:min i.toNat a6.toArray.size=k:=by rw[Qq];lia
  show(a6.toArray.extract 0 (if i<0 then(i+((a6.toArray.size:Nat):Int)).toNat else min i.toNat a6.toArray.size)).push u++a6.toArray.extract (if i<0 then(i+((a6.toArray.size:Nat):Int)).toNat else min i.toNat a6.toArray.size)=_
  rw[if_neg e1,e2]
  apply Kr.mp
  simp
  rw[Qx (by rw[Uc];exact Qf _)]
 ·simp;lia
theorem zfc:∀{zs:Ng} {a6:Ni},Vals (zs.map V.str) a6→∃l:List (Str×Tok),a6=PySem.strValues l∧l.map (·.1)=zs
 |[],_,.nil=>⟨[],rfl,rfl⟩
 |z::zs,_,.cons r t=>by
  obtain⟨tk,rfl⟩:=r
  obtain⟨l,rfl,e⟩:=zfc t
  exact⟨(z,tk)::l,rfl,by rw[Qk,e]⟩
def call_isi_str:zbz X (.builtin "isinstance") (λxs H Q=>Ex1 λz=>Aj2 (xs=[.str z,.ty "str"]) (Q (.bl true) H)):=by
 intro a5 s σ H xs us Q I r h
 obtain⟨z,rfl,q⟩:=h
 obtain⟨u,w',rfl,⟨t,rfl⟩,e⟩:=vals2 r
 have e':w'=Value.type "str" := e
 subst e'
 exact IsiPair.str_str ⟨.bl true,H,I,rfl,q⟩
def zgs{a5:Nd}{s:Nh}{σ:St}{H:Hp}{p:Nc}{ys:List V}(hc:X.calm=true)(I:Inv X a5 σ H s)(hq:SqL X.K H p ys){Q:Nb}(h:∀ (a6:Ni) (It:Nc) (h1:Nm),Vals ys a6→Walks X.prog X.w X.A.in1 It [It,p] [It] a6.toArray.size (fun i v=>a6.toArray[i]?=some v) (fun i h=>h.IsListIter It p i∧h.IsList p a6.toArray)→(h1.IsListIter It p 0∧h1.IsList p a6.toArray)→(∀ b∈[It,p],b < h1.objs.size) →
   (∀(h':Nm) (tk:Nat),(∀b o,b∉[It]→h1.get? b=some o→h'.get? b=some o)→Inv X a5 σ H {s with heap:=h',toks:=tk})→Q (.ref It) {s with heap:=h1}) :
  wpAny (model X.prog X.w) X.A.in1 (pyIter (.ref p)) Q X.xe s:=by
 obtain⟨a6,rv,pl,hz⟩:=I.list hq
 refine wpAny_pyIter_list pl.isList ?_
 have lt:p<s.heap.objs.size:=by obtain⟨o,n,e,_⟩:=pl;exact Qs e
 refine h a6 s.heap.objs.size _ rv (Walks.list (show X.A.in1.handled=none from I.ok.hd hc) _ _ (Zi lt) _) ⟨⟨_,Zb _ rfl,rfl,rfl⟩,?_⟩ (λb hb=>?_) λh' tk k=>I.kept (t':=tk) λb o e=>?_
 ·obtain ⟨o,e,r⟩:=pl.isList
  exact⟨o,Qg _ e,r⟩
 ·rcases Qh.mp hb with e | e
  ·rw[e];simp[Heap.push]
  ·rw[Qb.mp e];simp[Heap.push];exact Jc lt
 ·exact k b o (λz=>absurd (Qs e) (by rw[Qb.mp z];exact Yc _)) (Qg _ e)
theorem zdi(ns:List Int):∀k,k≤ns.length→preSum (λi=>ns.getD i 0) k=(ns.take k).sum
 |0,_=>rfl
 |k+1,h=>by
  show preSum (λi=>ns.getD i 0) k+ns.getD k 0=_
  have hk:k<ns.length:=h
  rw[zdi ns k (by exact Wx ‹_›),Ql hk,List.sum_append,List.sum_singleton]
  congr 1
  simp[List.getD,hk]
theorem zgb:∀{ns:List Int} {a6:Ni},Vals (ns.map V.int) a6→∀(i:Nat) (v:Value),a6[i]?=some v→∃t,v=Value.int (ns.getD i 0) t
 |[],_,.nil,i,v,e=>by simp at e
 |n::ns,_,.cons r t,0,v,e=>by
  obtain⟨tk,rfl⟩:=r
  simp at e;subst e
  exact⟨tk,rfl⟩
 |n::ns,_,.cons r t,i+1,v,e=>by
  obtain⟨tk,h⟩:=zgb t i v (by simpa using e)
  exact⟨tk,by rw[h];simp⟩
def sum_small{ns:List Int}(hb:∀n∈ns,0≤n∧n≤1000000):0≤ns.sum∧ns.sum≤1000000*(ns.length:Int):=by
 induction ns with
 |nil=>simp
 |cons a r ih =>
  have h1:=hb a Qe
  have h2:=ih λn hn=>hb n (Qi _ hn)
  rw[Zy,Zd]
  lia
def call_sum(hc:X.calm=true):zbz X (.builtin "sum") (λxs H Q=>Ex2 λ(p:Nc) (ns:List Int)=>Aj5 (xs=[.ref p]) (SqL X.K H p (ns.map V.int)) (ns.length≤1000000) (∀n∈ns,0≤n∧n≤1000000) (Q (.int ns.sum) H)):=by
 intro a5 s σ H xs us Q I r h
 obtain⟨p,ns,rfl,hq,hl,hb,q⟩:=h
 obtain⟨u,rfl,rx⟩:=vals1 r
 cases rx
 refine call_sum_walk (zgs hc I hq λa6 It h1 rv W st lt keep=>⟨It,_,_,_,_,_,λi=>ns.getD i 0,rfl,W,st,lt,λi v e=>zgb rv i v (by simpa using e),λj hj=>?_,λh' tk t' k=>⟨.int ns.sum,H,keep h' tk k,⟨t',?_⟩,q⟩⟩)
 ·have ax:=rv.length
  rw[Qa]at ax
  have jR:j<ns.length:=by rw[ax];simpa using hj
  have s1:=sum_small (ns:=ns.take (j+1)) λn hn=>hb n (Ys hn)
  rw[Zg]at s1
  have g:ns.getD j 0=ns[j]:=by simp[List.getD,jR]
  have g2:=hb _ (Qm jR)
  refine⟨?_,?_⟩
  ·show InLong (ns.getD j 0)
   rw[g];unfold InLong;lia
  ·rw [zdi ns (j+1) jR]
   unfold InLong;lia
 ·have ax:=rv.length
  rw[Qa]at ax
  rw[Qq,zdi ns _ (by lia),←ax,Qx (Qf _)]
theorem zgc:∀{bs:List Bool} {a6:Ni},Vals (bs.map V.bl) a6→∀(i:Nat) (v:Value),a6[i]?=some v→v=Value.bool (bs.getD i true)
 |[],_,.nil,i,v,e=>by simp at e
 |n::ns,_,.cons r t,0,v,e=>by
  cases r
  simp at e;subst e
  rfl
 |n::ns,_,.cons r t,i+1,v,e=>by
  have h:=zgc t i v (by simpa using e)
  rw[h];simp
def all_range(bs:List Bool):(List.range bs.length).all (λi=>bs.getD i true)=bs.all id:=by
 rw[Yu,Um,Um]
 constructor
 ·intro h x hx
  obtain⟨i,hi,e⟩:=Zo hx
  have:=h i (Ya.mpr hi)
  simp[List.getD,hi]at this
  rw[←e];exact this
 ·intro h i hi
  have eI:=Ya.mp hi
  simp[List.getD,eI]
  exact h _ (Qm eI)
def call_all(hc:X.calm=true):zbz X (.builtin "all") (λxs H Q=>Ex2 λ(p:Nc) (bs:List Bool)=>Aj3 (xs=[.ref p]) (SqL X.K H p (bs.map V.bl)) (Q (.bl (bs.all id)) H)):=by
 intro a5 s σ H xs us Q I r h
 obtain⟨p,bs,rfl,hq,q⟩:=h
 obtain⟨u,rfl,rx⟩:=vals1 r
 cases rx
 refine call_all_walk (zgs hc I hq λa6 It h1 rv W st lt keep=>⟨It,_,_,_,_,_,λi=>bs.getD i true,rfl,W,st,λi v s' Q' E' e q'=>?_,λh' tk k=>⟨.bl (bs.all id),H,keep h' tk k,?_,q⟩⟩)
 ·have e':=zgc rv i v (by simpa using e)
  subst e'
  exact wpAny_truthy_bool q'
 ·have ax:=rv.length
  rw[Qa]at ax
  show Value.bool _=Value.bool _
  rw[Qq,←ax,all_range]
end
end L2
end
section
namespace L2
open PySem PySem.Spec PyProof.Rows Tm
def Vals.perm{ws us:Ni}(p:ws.Perm us):∀{ys:List V},Vals ys us→∃zs,zs.Perm ys∧Vals zs ws:=by
 induction p with
 |nil=>intro ys r;cases r;exact⟨[],.nil,.nil⟩
 | cons x q ih =>
  intro ys r
  cases r with
  |cons r1 r2 =>
   obtain⟨zs,h1,h2⟩:=ih r2
   exact⟨_::zs,h1.cons _,.cons r1 h2⟩
 | swap x y l =>
  intro ys r
  cases r with
  |cons r1 r2 =>
   cases r2 with
   |cons r3 r4=>exact⟨_,List.Perm.swap ..,.cons r3 (.cons r1 r4)⟩
 |trans _ _ ih1 ih2 =>
  intro ys r
  obtain⟨zs,h1,h2⟩:=ih2 r
  obtain⟨fk,h3,h4⟩:=ih1 h2
  exact⟨fk,h3.trans h1,h4⟩
theorem Vals.pairwise{α:Type}{R:α→α→Prop}{kv:Value→α}{kV:V→α}:∀{zs:List V} {ws:Ni},Vals zs ws→(∀v∈zs,∀u,RelV v u→kv u=kV v)→ws.Pairwise (λa b=>R (kv a) (kv b))→zs.Pairwise λa b=>R (kV a) (kV b)
 |_,_,.nil,_,_=>.nil
 |v::zs,u::ws,.cons r t,hk,h=>by
  rw[List.pairwise_cons]at h ⊢
  refine⟨λb hb=>?_,Vals.pairwise t (λv hv=>hk v (Qi _ hv)) h.2⟩
  obtain⟨i,hi,e⟩:=Zo hb
  obtain⟨x,hx,rx⟩:=Vals.get t (i:=i) (x:=b) (by rw[Qc hi,e])
  have:=h.1 x (Yl hx)
  rw[hk v Qe u r,hk b (Qi _ hb) x rx]at this
  exact this
section
variable{X:Cx}
def zdd{a5:Nd}{s:Nh}{σ:St}{H:Hp}{p:Nc}{ys:List V}{R:List Value→List Value→Prop}{Q:VK}(I:Inv X a5 σ H s)(hq:SqL X.K H p ys)(hS:∀a6,Vals ys a6→∀(A':Around) (E':Value→Shared→Prop) (s':Shared),A'.units≤X.A.units+8→(∀b o,s.heap.get? b=some o→s'.heap.get? b=some o)→zbo X.prog X.w A' E' s' (R a6) a6)(h:∀(l:Nc) (ws:List V) (a6 us:Ni),H l=none→ws.Perm ys→Vals ys a6→Vals ws us→R a6 us→Q (.ref l) (upd H l (.lst ws))) :
  wpAny (model X.prog X.w) X.A (call (.builtin "sorted") [.ref p]) (EP X a5 σ Q) X.xe s:=by
 obtain⟨a6,r,pl,hz⟩:=I.list hq
 refine sorted_any pl.isList (by rw[←r.length];exact hz) (hS a6 r) λws l g tk e p1 p2 le k he=>?_
 obtain⟨zs,q1,q2⟩:=Vals.perm p1 r
 exact⟨.ref l,_,I.laid (t':=tk) k le (show zbg X.prog X.w _ g _ (.lst zs) from⟨by rw[q1.length_eq];exact hz,ws,e,q2,he⟩),rfl,h l zs a6 ws (I.hok.fresh le) q1 r q2 p2⟩
def leS(x y:Str):Prop:=¬y.cps.toList<x.cps.toList
def txV:V→List Nat
 |.str x=>x.cps.toList
 |_=>[]
def strs_perm{ws:List V}{zs:Ng}(pm:ws.Perm (zs.map V.str)):∃ts:List Str,ws=ts.map V.str∧ts.Perm zs:=by
 have a1:∀v∈ws,∃x,v=V.str x:=λv hv=>by
  obtain⟨x,_,e⟩:=Qj.mp (pm.mem_iff.mp hv)
  exact⟨x,e.symm⟩
 have a2:∃ts:List Str,ws=ts.map V.str:=by
  clear pm
  induction ws with
  |nil=>exact⟨[],rfl⟩
  |cons v r ih =>
   obtain⟨ts,e⟩:=ih λv hv=>a1 v (Qi _ hv)
   obtain⟨x,e2⟩:=a1 v Qe
   exact⟨x::ts,by rw[e,e2];rfl⟩
 obtain⟨ts,rfl⟩:=a2
 refine⟨ts,rfl,?_⟩
 have:=pm.map (λv=>match v with | .str x=>x | _=>Str.empty)
 rw[Zm,Zm]at this
 simpa[Function.comp_def] using this
def zem{zs:Ng}{a6:Ni}(r:Vals (zs.map V.str) a6):∀v∈a6,∃x t,v=.str x t:=λv hv=>by
 obtain⟨l,rfl,e⟩:=zfc r
 obtain⟨pr,_,e2⟩:=Qj.mp hv
 exact⟨_,_,e2.symm⟩
def txV_str{zs:Ng}:∀v∈zs.map V.str,∀u,RelV v u→kvS u=txV v:=λv hv u ru=>by
 obtain⟨x,_,rfl⟩:=Qj.mp hv
 obtain⟨t,rfl⟩:=ru
 rfl
def strs_out{zs ts:Ng}{a6 us:Ni}(r:Vals (zs.map V.str) a6)(r2:Vals (ts.map V.str) us)(p:a6.length<64→us.Pairwise λx y=>strO.kle (kvS x) (kvS y))(h:zs.length<64):ts.Pairwise leS:=by
 have p2:=Vals.pairwise (R:=λa b=>strO.kle a b) (kV:=txV) r2 txV_str (p (by rw[←r.length,Qa];exact h))
 rw[Wy]at p2
 exact p2.imp of_decide_eq_false
def ze0:zbz X (.builtin "sorted") (λxs H Q=>Ex2 λ(p:Nc) (zs:Ng)=>Aj3 (xs=[.ref p]) (SqL X.K H p (zs.map V.str)) (∀(l:Nc) (ws:Ng),H l=none→ws.Perm zs→(zs.length<64→ws.Pairwise leS)→Q (.ref l) (upd H l (.lst (ws.map V.str))))):=by
 intro a5 s σ H xs us Q I r h
 obtain⟨p,zs,rfl,hq,q⟩:=h
 obtain⟨u,rfl,rx⟩:=vals1 r
 cases rx
 refine zdd I hq (λa6 r A' E' s' _ _=>zdq (zem r)) λl ws a6 us hl p1 r1 r2 p2=>?_
 obtain⟨ts,rfl,p3⟩:=strs_perm p1
 exact q l ts hl p3 (strs_out r1 r2 p2)
def zgv(I:Inv X a5 σ H s)(e:H a=some (.tup [.str x,z])):∃q,RelV z q∧ze2 s.heap (.ref a) x q:=by
 obtain⟨_,a6,r,o,e1,c,n,d⟩:=I.hok a _ e
 obtain⟨u,w',rfl,⟨t,rfl⟩,rz⟩:=vals2 r
 exact⟨w',rz,a,o,t,n,rfl,e1,c,d⟩
def vals_back(r:Vals ys a6):∀v∈a6,∃b∈ys,RelV b v:=λv hv=>by
 obtain⟨i,hi,e⟩:=Zo hv
 have hl:=r.length
 have ap:i<ys.length:=by exact zar6 ‹_› ‹_›
 obtain⟨u,hu,ru⟩:=r.get (i:=i) (Qc ap)
 rw[Qc hi,e]at hu
 cases hu
 exact⟨_,Qm ap,ru⟩
def ze3(a:ze2 h v x p)(b:ze2 h v y q):x=y∧p=q:=by
 obtain⟨a,o,t,n,rfl,e,c,d⟩:=a
 obtain⟨a',o',t',n',e0,e',c',d'⟩:=b
 cases e0
 rw[e]at e'
 cases e'
 rw[d]at d'
 have d2:(#[Value.str x t,p]:Array Value)=#[Value.str y t',q]:=by injection d'
 have d3:=congrArg (λa:Array Value=>a[0]?) d2
 have d4:=congrArg (λa:Array Value=>a[1]?) d2
 simp at d3 d4
 exact⟨d3.1,d4⟩
def rowV(H:Hp):V→List Nat
 |.ref a=>match H a with
  |some (.tup [x,_])=>txV x
  |_=>[]
 |_=>[]
def zdv(e:H a=some (.tup [x,y])):rowV H (.ref a)=txV x:=by
 unfold rowV;dsimp only;rw[e]
def ze1:zbz X (.builtin "sorted") (λxs H Q=>Ex2 λ(p:Nc) (ys:List V)=>Aj5 (xs=[.ref p]) (SqL X.K H p ys) (∀v∈ys,∃a x z,v=.ref a∧H a=some (.tup [.str x,z])) (∀v∈ys,∀u∈ys,rowV H v=rowV H u→v=u) (∀(l:Nc) (ws:List V),H l=none→ws.Perm ys→(ys.length<64→ws.Pairwise λa b=>strO.kle (rowV H a) (rowV H b))→Q (.ref l) (upd H l (.lst ws)))):=by
 intro a5 s σ H xs us Q I r h
 obtain⟨p,ys,rfl,hq,hy,hd,q⟩:=h
 obtain⟨u,rfl,rx⟩:=vals1 r
 cases rx
 have back:∀a6,Vals ys a6→∀v∈a6,∃b∈ys,RelV b v∧∃a x z q,b=.ref a∧v=.ref a∧H a=some (.tup [.str x,z])∧ze2 s.heap v x q:=λa6 r v hv=>by
  obtain⟨b,hb,rb⟩:=vals_back r v hv
  obtain⟨a,x,z,rfl,e2⟩:=hy b hb
  have rb':=rb
  cases rb
  obtain⟨q',_,T⟩:=zgv I e2
  exact⟨_,hb,rb',a,x,z,q',rfl,rfl,e2,T⟩
 refine zdd I hq (λa6 r A' E' s' _ k=>zdp k (λv hv=>?_) λv hv u hu x p q T T'=>?_) λl ws a6 us hl p1 r1 r2 p2=>q l ws hl p1 λnO=>?_
 ·obtain ⟨b,hb,rb,a,x,z,q,_,_,_,T⟩:=back a6 r v hv
  exact⟨x,q,T⟩
 ·obtain ⟨b,hb,rb,a,x1,z,q1,rfl,rfl,e1,T1⟩:=back a6 r v hv
  obtain⟨c,hc,rc,a',x2,z',q2,rfl,rfl,e2,T2⟩:=back a6 r u hu
  have h1:=(ze3 T T1).1
  have h2:=(ze3 T' T2).1
  subst h1
  subst h2
  have:=hd _ hb _ hc (by rw[zdv e1,zdv e2])
  cases this
  exact .inl rfl
 ·refine Vals.pairwise (R:=fun a b=>strO.kle a b) (kv:=fun u=>(kvP s.heap u).1) r2 (fun v hv u ru=>?_) ((p2 (by rw [← r1.length];exact nO)).imp fun h=>(Bool.or_eq_false_iff.mp h).1)
  obtain⟨a,x,z,rfl,e2⟩:=hy v (p1.mem_iff.mp hv)
  cases ru
  obtain⟨q',_,T⟩:=zgv I e2
  rw[T.key,zdv e2]
  rfl
def zek(hu:X.A.units+8<cLine):zbz X (.builtin "sorted") (λxs H Q=>Ex2 λ(p:Nc) (ys:List V)=>Aj4 (xs=[.ref p]) (SqL X.K H p ys) (∀v∈ys,∃a zs,v=.ref a∧H a=some (.lst (List.map V.str zs))) (∀(l:Nc) (ws:List V),H l=none→ws.Perm ys→Q (.ref l) (upd H l (.lst ws)))):=by
 intro a5 s σ H xs us Q I r h
 obtain⟨p,ys,rfl,hq,hy,q⟩:=h
 obtain⟨u,rfl,rx⟩:=vals1 r
 cases rx
 refine zdd I hq (λa6 r A' E' s' hA k=>zf5 (by exact Nat.lt_of_le_of_lt ‹_› ‹_›) k λv hv=>?_) λl ws _ _ hl p1 _ _ _=>q l ws hl p1
 obtain⟨b,hb,ru⟩:=vals_back r v hv
 obtain⟨a,zs,rfl,e2⟩:=hy b hb
 cases ru
 obtain⟨_,aK,n,r2,e3⟩:=I.hok a _ e2
 obtain⟨l2,rfl,_⟩:=zfc r2
 exact⟨a,l2,n,rfl,e3⟩
def dk_at{a5:Nd}{s:Nh}{σ:St}{H:Hp}{d:Nc}{kvs:List (Key×V)}(I:Inv X a5 σ H s)(rd:Rd H d (.dK kvs)) :
  kvs.length≤sizeLine∧(d==sysModules)=false∧∃vs ep,KV kvs vs∧s.heap.DictAt (zan X.prog X.w) d vs ep∧vs.length=kvs.length:=by
 obtain⟨z,y,vs,r,hd⟩:=rd.ok I.hok
 obtain⟨ep,ha⟩:=hd.dictAt
 exact⟨z,y,vs,ep,r,ha,(Zz r).symm⟩
def KV.get{kvs:List (Key×V)}{vs:List (Key×Value)}(r:KV kvs vs){i:Nat}(e:vs[i]?=some (k,x)):∃v,kvs[i]?=some (k,v)∧RelV v x:=by
 induction r generalizing i with
 |nil=>simp at e
 | cons h t ih =>
  cases i with
  |zero =>
   simp at e
   subst e
   exact⟨_,by simp;exact Ju h.1 rfl,h.2⟩
  |succ j =>
   obtain⟨v,h1,h2⟩:=ih (i:=j) (by simpa using e)
   exact⟨v,by simpa using h1,h2⟩
def key_rel(h:(zan P w).is k v=true):RelV (kV k) v:=by
 rcases za2 h with⟨i,t,rfl,rfl⟩ | ⟨x,t,rfl,rfl⟩
 ·exact⟨t,rfl⟩
 ·exact⟨t,rfl⟩
def keys_vals{P:Nj}{w:Nk}{kvs:List (Key×V)}{vs:List (Key×Value)}{ae:Array Value}(r:KV kvs vs)(hl:vs.length=kvs.length)(h:ItemsOf (λi v=>∃k x,vs[i]?=some (k,x)∧(zan P w).is k v=true) ae vs.length):Vals (kvs.map λp=>kV p.1) ae.toList:=by
 have g:∀(i:Nat),i<kvs.length→∃v,ae.toList[i]?=some v∧RelV (kV ((kvs.map Prod.fst).getD i (.inl 0))) v:=λi hi=>by
  have ap:i<ae.size:=by rw[h.1];exact zar6 ‹_› ‹_›
  have e:ae[i]?=some ae[i]:=by simp[ap]
  obtain⟨k,x,e1,e2⟩:=h.2 i _ e
  obtain⟨v',e3,_⟩:=KV.get r e1
  refine⟨ae[i],by rw[Wr];exact e,?_⟩
  have e4:(kvs.map Prod.fst).getD i (.inl 0)=k:=by
   rw[Qv,Qu,e3];rfl
  rw[e4]
  exact key_rel e2
 have hsz:ae.toList.length=kvs.length:=by rw[We,h.1];exact hl
 clear h r hl
 generalize ae.toList=l at g hsz
 induction kvs generalizing l with
 |nil =>
  have:l=[]:=List.length_eq_zero_iff.mp hsz
  subst this
  exact .nil
 | cons p t ih =>
  cases l with
  |nil=>cases hsz
  | cons u us =>
   refine .cons ?_ (ih us (λi hi=>?_) (by simpa using hsz))
   ·obtain ⟨v,e1,e2⟩:=g 0 (by simp)
    simp at e1
    subst e1
    exact e2
   ·obtain ⟨v,e1,e2⟩:=g (i+1) (by simpa using hi)
    exact⟨v,by simpa using e1,by simpa using e2⟩
def zcu(hc:X.calm=true):zbz X (.builtin "sorted") (λxs H Q=>Ex3 λ(d:Nc) (kvs:List (Key×V)) (zs:Ng)=>Aj4 (xs=[.ref d]) (Rd H d (.dK kvs)) ((kvs.map λp=>kV p.1)=zs.map V.str) (∀(l:Nc) (ws:Ng),H l=none→ws.Perm zs→(zs.length<64→ws.Pairwise leS)→Q (.ref l) (upd H l (.lst (ws.map V.str))))):=by
 intro a5 s σ H xs us Q I r h
 obtain⟨d,kvs,zs,rfl,hq,ez,q⟩:=h
 obtain⟨u,rfl,rx⟩:=vals1 r
 cases rx
 obtain⟨z,lo,vs,ep,rk,ha,hl⟩:=dk_at I hq
 refine zea (G:=λa6=>Vals (zs.map V.str) a6) (λE' R hR=>zf2 (PySem.W.kdl_dict lo) (show X.A.in1.handled=none from I.ok.hd hc) ha (by rw[hl];exact z) λg tk ae k le hi=>hR g tk _ k le (ez▸keys_vals rk hl hi))
  (λa6 r=>by rw[←r.length,←ez,Qa];exact z) (λa6 r A' E' s' _ _=>zdq (zem r)) λa6 ws l g tk e r p1 p2 le k he=>?_
 obtain⟨fk,q1,q2⟩:=Vals.perm p1 r
 obtain⟨ts,rfl,p3⟩:=strs_perm q1
 refine⟨.ref l,_,I.laid (t':=tk) k le (show zbg X.prog X.w _ g _ (.lst _) from⟨?_,ws,e,q2,he⟩),rfl,q l ts (I.hok.fresh le) p3 (strs_out r q2 p2)⟩
 rw[q1.length_eq,←ez,Qa];exact z
end
section
variable{X:Cx}{a5:Nd}{σ:St}{H:Hp}{s:Nh}
def Inv.freeze(I:Inv X a5 σ H s)(hd:H d=some u)(ho:s.heap.get? d=some o)(mu:Mut (some u)):Inv X a5 σ (upd H d (.frz o u)) s:=by
 have ne:∀b,H b=none→b≠d:=λb e z=>by rw[z,hd]at e;cases e
 have nt:∀b xs,H b=some (.tup xs)→b≠d:=λb xs e z=>by rw[z,hd]at e;cases e;exact mu
 have nf:∀b o' u',H b=some (.frz o' u')→b≠d:=λb o' u' e z=>by rw[z,hd]at e;cases e;exact mu
 have nb:∀b ps,H b=some (.tbl ps)→b≠d:=λb ps e z=>by rw[z,hd]at e;cases e;exact mu
 have no:∀b a,H b=some (.own a)→b≠d:=λb a e z=>by rw[z,hd]at e;cases e;exact mu
 refine I.un (h':=s.heap) (t':=s.toks) ⟨λb o e _ _ _=>e,λb o e _ _ _=>⟨o.slots,e⟩,λb o e n _=>by rw[zad (ne b n)];exact n,λb o e _=>⟨o,e⟩,λb xs e=>by rw[zad (nt b xs e)];exact e,
  λb o' u' e=>by rw[zad (nf b o' u' e)];exact e,λb ps e=>⟨#[],by rw[zad (nb b ps e),e];simp⟩⟩ λb v e=>?_
 by_cases hb:b=d
 ·subst hb
  rw[zac]at e
  cases e
  exact⟨ho,(I.hok b u hd).stay (λc v _ q=>q) (λc q=>by rw[zad (no c _ q)];exact q) λc xs q=>by rw[zad (nt c xs q)];exact q⟩
 ·rw [zad hb] at e
  exact(I.hok b v e).stay (λc v _ q=>q) (λc q=>by rw[zad (no c _ q)];exact q) λc xs q=>by rw[zad (nt c xs q)];exact q
def Inv.thaw(I:Inv X a5 σ H s)(hd:H d=some (.frz o u))(hx:∀o' u',X.H₀ d≠some (.frz o' u')):Inv X a5 σ (upd H d u) s:=by
 have ne:∀b,H b=none→b≠d:=λb e z=>by rw[z,hd]at e;cases e
 have nt:∀b xs,H b=some (.tup xs)→b≠d:=λb xs e z=>by rw[z,hd]at e;cases e
 have nb:∀b ps,H b=some (.tbl ps)→b≠d:=λb ps e z=>by rw[z,hd]at e;cases e
 have no:∀b a,H b=some (.own a)→b≠d:=λb a e z=>by rw[z,hd]at e;cases e
 have B:=I.base
 refine⟨I.ok,I.os,I.bare,⟨B.keep,B.slot,λb o e n hx=>?_,B.there,λb xs e=>?_,λb o' u' e=>?_,λb ps e=>?_⟩,I.loc,I.cell,?_,λx c e=>?_,λp hp=>?_,λb v e=>?_,I.len⟩
 ·have:=B.free b o e n hx
  rw[zad (ne b this)];exact this
 ·have:=B.tups b xs e
  rw[zad (nt b xs this)];exact this
 ·have:=B.frzs b o' u' e
  have nd:b≠d:=λz=>hx o' u' (z▸e)
  rw[zad nd];exact this
 ·obtain ⟨m,q⟩:=B.tbls b ps e
  exact⟨m,by rw[zad (nb b _ q)];exact q⟩
 ·rw[zad (ne _ I.free)];exact I.free
 ·rw[zad (ne c (I.freeC x c e))];exact I.freeC x c e
 ·obtain ⟨h1,h2,h3⟩:=I.pin p hp
  exact⟨h1,by rw[zad (ne _ h2)];exact h2,h3⟩
 ·by_cases hb:b=d
  ·subst hb
   rw[zac]at e
   cases e
   exact(show s.heap.get? b=some o∧zbg X.prog X.w H s.heap b u from I.hok b _ hd).2.stay (λc v _ q=>q) (λc q=>by rw[zad (no c _ q)];exact q) λc xs q=>by rw[zad (nt c xs q)];exact q
  ·rw [zad hb] at e
   exact(I.hok b v e).stay (λc v _ q=>q) (λc q=>by rw[zad (no c _ q)];exact q) λc xs q=>by rw[zad (nt c xs q)];exact q
inductive Thaw(X:Cx)(R:Hp→Prop)(H':Hp):Prop
 |mk (d:Nc) (o:Obj) (u:HO) (h:H' d=some (.frz o u)) (n:∀o' u',X.H₀ d≠some (.frz o' u')) (q:R (upd H' d u)):Thaw X R H'
def tThaw(X:Cx)(t:TE):TE:=λ σ H Q=>t σ H λv H'=>Thaw X (Q v) H'
def pe_thaw(h:PE X e t):PE X e (tThaw X t):=by
 intro a5 s σ H Q I q
 refine thn (h a5 s σ H _ I q) λu s' ⟨v,H',I',r,d,o,w',e1,e2,e3⟩=>?_
 exact⟨v,_,I'.thaw e1 e2,r,e3⟩
def sThaw(X:Cx)(t:TS):TS:=λD σ H=>t {nx:=λ σ' H'=>Thaw X (D.nx σ') H',rt:=λv H'=>Thaw X (D.rt v) H',bk:=λ σ' H'=>Thaw X (D.bk σ') H',ct:=λ σ' H'=>Thaw X (D.ct σ') H'} σ H
def ps_thaw{st:Stmt}{t:TS}(h:PS X st t):PS X st (sThaw X t):=by
 intro a5 s σ H D I q
 refine thn (h a5 s σ H _ I q) λf s' z=>?_
 cases f with
 |next=>obtain⟨σ',H',I',d,o,w',e1,e2,e3⟩:=z;exact⟨σ',_,I'.thaw e1 e2,e3⟩
 |brk=>obtain⟨σ',H',I',d,o,w',e1,e2,e3⟩:=z;exact⟨σ',_,I'.thaw e1 e2,e3⟩
 |cont=>obtain⟨σ',H',I',d,o,w',e1,e2,e3⟩:=z;exact⟨σ',_,I'.thaw e1 e2,e3⟩
 |ret u=>obtain⟨v,σ',H',I',r,d,o,w',e1,e2,e3⟩:=z;exact⟨v,σ',_,I'.thaw e1 e2,r,e3⟩
def Itd(d:Nc)(o:Obj)(kvs:List (Key×V)):It :=
 ⟨λi H=>H d=some (.frz o (.dK kvs))∧i<kvs.length,λi H x H'=>H'=H∧∃p,kvs[i]?=some p∧x=kV p.1,λi H=>H d=some (.frz o (.dK kvs))∧kvs.length≤i⟩
def frz_at(I:Inv X a5 σ H s)(e:H d=some (.frz o (.dK kvs))):s.heap.get? d=some o∧zbg X.prog X.w H s.heap d (.dK kvs):=I.hok d _ e
def zgl{h:Nm}{kvs:List (Key×V)}{vs vs':List (Key×Value)}{ep ep':Nat}(ho:h.get? d=some o)(a:h.DictAt (zan P w) d vs ep)(o':Obj)(h':Nm)(am:h'.get? d=some o):h'.DictAt (zan P w) d vs ep:=by
 obtain⟨q,es,e,r⟩:=a
 rw[ho]at e
 cases e
 exact⟨o,es,am,r⟩
theorem turn_dict{P:Nj}{w:Nk}{K:Na}{tg:Expr}{o:Obj}{kvs:List (Key×V)}{vs:List (Key×Value)}{ep:Nat}{h0:Nm}(d it:Nc)(rk:KV kvs vs)(hl:vs.length=kvs.length)(h00:h0.get? d=some o)(jw:h0.DictAt (zan P w) d vs ep) :
  Turn P w K tg (Itd d o kvs) [it] it (λi h=>h.IsKeyIter it d i vs.length ep) where
 mem:=by simp
 obj:=λi h st b hb=>by
  have e:b=it:=by simpa using hb
  subst e
  obtain⟨o,e,c,d⟩:=st
  exact⟨o,e,λv z=>by rw[d]at z;cases z⟩
 keep:=λi h h' st k=>st.at λo e=>k it (by simp) o e
 item:=by
  intro X hP hw hK hc i a5 s σ H E I hf st hg
  subst hP hw hK
  obtain⟨fz,hi⟩:=hg
  obtain⟨ho,_⟩:=frz_at I fz
  have DA:s.heap.DictAt (zan X.prog X.w) d vs ep:=zgl (kvs:=kvs) (vs':=vs) (ep':=ep) h00 jw o s.heap ho
  obtain⟨f0,f1,f2,f3,f4,f5⟩:=hf it (by simp)
  have ap:i<vs.length:=by exact zar6 ‹_› ‹_›
  obtain⟨v',e3,_⟩:=KV.get rk (i:=i) (k:=vs[i].1) (x:=vs[i].2) (Qc ap)
  refine wpAny_pyNext_dict_item st DA (k:=vs[i].1) (v:=vs[i].2) (Qc ap) λkey h' hk a8 sb=>?_
  have I1:Inv X a5 σ H {s with heap:=h'}:=I.turned (t':=s.toks) (λb o hb e=>(sb.2 b hb).trans e) f0 f1 f3 f4 f5
  obtain⟨o2,e,c,d2⟩:=id a8
  exact⟨key,rfl,go_of (s:={s with heap:=h'}) e c d2 (by decide) ⟨kV vs[i].1,H,I1,key_rel hk,⟨rfl,_,e3,rfl⟩,a8,λb hb=>(hf b hb).1⟩⟩
 done:=by
  intro X hP hw hK hc i a5 s σ H E I hf st hg
  subst hP hw hK
  obtain⟨fz,hi⟩:=hg
  obtain⟨ho,_⟩:=frz_at I fz
  have DA:s.heap.DictAt (zan X.prog X.w) d vs ep:=zgl (kvs:=kvs) (vs':=vs) (ep':=ep) h00 jw o s.heap ho
  obtain⟨f0,f1,f2,f3,f4,f5⟩:=hf it (by simp)
  exact wpAny_pyNext_dict_end (I.ok.hd hc) st DA (Wq (by omega)) λh' eb=>⟨rfl,I.turned (t':=s.toks) (λb o hb e=>eb b o hb e) f0 f1 f3 f4 f5⟩
 self:=λ_ _ _ _ _ st h=>wpAny_pyIter_keyiter st h
inductive RIDi(x:V)(H:Hp)(R:It→Hp→Prop):Prop
 |mk (d:Nc) (kvs:List (Key×V)) (e:x=.ref d) (h:H d=some (.dK kvs)) (q:∀o,R (Itd d o kvs) (upd H d (.frz o (.dK kvs)))):RIDi x H R
def iDict(td:TE):TI:=λ σ H R=>td σ H λx H1=>RIDi x H1 R
def zha{tg l:Expr}{tl:TE}(hl:PE X l tl):PI X tg l (iDict tl):=by
 intro a5 s σ H R I h
 refine thn (hl a5 s σ H _ I h) λv s1 ⟨x,H1,I1,r1,q1⟩=>?_
 obtain⟨d,kvs,e,hd,q⟩:=q1
 subst e
 cases r1
 obtain⟨z,lo,vs,ep,rk,ha,a9⟩:=dk_at I1 (.inl hd)
 obtain⟨o,es,ho,r⟩:=id ha
 refine wpAny_pyIter_dict lo ha ?_
 have I2:=I1.freeze hd ho trivial
 have I3:Inv X a5 σ (upd H1 d (.frz o (.dK kvs))) {s1 with heap:=s1.heap.push {cls:=.type "dict_keyiterator",data:=.fields #[.ref d,.int 0 0,.int vs.length 0,.int ep 0]}}:=I2.kept (t':=s1.toks) λb o e=>Qg _ e
 refine⟨s1.heap.objs.size,[s1.heap.objs.size],_,_,_,rfl,I3,turn_dict d _ rk a9 ho ha,⟨_,Zb _ rfl,rfl,rfl⟩,λb hb=>?_,q o⟩
 have e:b=s1.heap.objs.size:=by simpa using hb
 subst e
 exact I2.fpOk (Qf _) (I2.hok.fresh (Qf _))
end
def for_dict{d:Nc}{o:Obj}{kvs:List (Key×V)}{g:TG}{tb:TS}{D:Ends}{σ:St}{H:Hp}(Pv:Nat→St→Hp→Prop)(h0:Pv 0 σ H)(hl:∀i σ H,i≤kvs.length→Pv i σ H→H d=some (.frz o (.dK kvs)))(hs:∀i p σ H,kvs[i]?=some p→Pv i σ H→g (kV p.1) σ H λ σ2 H2=>tb {D with nx:=Pv (i+1),ct:=Pv (i+1),bk:=D.nx} σ2 H2)(hd:∀σ H,Pv kvs.length σ H→D.nx σ H) :
  ∃W:Nat→Nat→St→Hp→Prop,(∃m,W 0 m σ H)∧∀i m σ H,W i m σ H →
   ((Itd d o kvs).stop i H∧D.nx σ H)∨((Itd d o kvs).go i H∧∃N:St→Hp→Prop,(∀σ' H',N σ' H'→∃m',m'<m∧W (i+1) m' σ' H')∧∀x H',(Itd d o kvs).yld i H x H'→g x σ H' λ σ2 H2=>tb {D with nx:=N,ct:=N,bk:=D.nx} σ2 H2):=by
 refine⟨λi m σ H=>m=kvs.length-i∧i≤kvs.length∧Pv i σ H,⟨kvs.length,by simp,Zn _,h0⟩,?_⟩
 rintro i m σ H ⟨rfl,hi,p⟩
 have q:=hl i σ H hi p
 by_cases aa:i<kvs.length
 ·refine .inr ⟨⟨q,aa⟩,Pv (i+1),fun σ' H' p'=>⟨kvs.length - (i+1),by exact zar1 ‹_›,rfl,aa,p'⟩,fun x H' y=>?_⟩
  obtain⟨e,pr,e2,rfl⟩:=y
  subst e
  exact hs i pr σ _ e2 p
 ·have e:i=kvs.length:=by exact zar3 ‹_› ‹_›
  subst e
  exact .inl ⟨⟨q,Qf _⟩,hd σ H p⟩
end L2
end
section
namespace Enu
open PySem PyProof.Rows
open AutoSeq1 (wpAny_loadPart')
section
variable{prog:Nj}{w:Nk}{A:Nn}{E:Nb}{s:Nh}
def next_item(st:s.heap.IsTupleIter j t i)(ht:s.heap.IsTuple t xs)(hx:xs[i]?=some x)(hQ:∀g,g.IsTupleIter j t (i+1)→Heap.SameBut j s.heap g→Q x {s with heap:=g}):wpAny (model prog w) A (Builtin.SmallTypes.nextOf (.ref j)) Q E s:=by
 obtain⟨o,ho,hc,hd⟩:=id st
 obtain⟨p,hp,_,k,hk⟩:=ht
 unfold Builtin.SmallTypes.nextOf
 refine wpAny_bind (wpAny_callSpecial?_slot (name:=Str.ofString "__next__") st.typeIs Us (wpAny_call_entry Us st.typeIs F.entry_tuple_iterator_next ?_ (F.args_tuple_iterator_next_1 _)))
 show wpAny _ _ (field (.ref j) 0 >>= _) _ _ s
 refine wpAny_bind (wpAny_field ho hd (x:=.ref t) rfl ?_)
 show wpAny _ _ (if(Value.ref t==.none)=true then _ else _) _ _ s
 rw[if_neg (show ¬((Value.ref t==.none)=true) from Za)]
 show wpAny _ _ (field (.ref j) 1 >>= _) _ _ s
 refine wpAny_bind (wpAny_field ho hd (x:=.int i 0) rfl ?_)
 show wpAny _ _ (seqItems? (.ref t) >>= _) _ _ s
 refine wpAny_bind (wpAny_seqItems hp hk ?_)
 simp only[Uh,hx]
 refine wpAny_bind (wpAny_setField ho hd (by simp) (wpAny_pure ⟨x,rfl,wpAny_pure (hQ _ ⟨_,Heap.get?_update_self _ ho (Obj.isFreed_of_fields (Ko hd _)),(Obj.cls_mapFields ..).trans hc,by rw[Ko hd];simp[rawInt]⟩ (Kj ..))⟩))
def next_end(hh:A.handled=none)(st:s.heap.IsTupleIter j t i)(ht:s.heap.IsTuple t xs)(hx:xs[i]?=none)(hE:∀g e,Heap.ExtBut j s.heap g→(∃o,g.get? e=some o∧o.cls=.type "StopIteration")→E (.ref e) {s with heap:=g}):wpAny (model prog w) A (Builtin.SmallTypes.nextOf (.ref j)) Q E s:=by
 obtain⟨o,ho,hc,hd⟩:=id st
 obtain⟨p,hp,_,k,hk⟩:=ht
 unfold Builtin.SmallTypes.nextOf
 refine wpAny_bind (wpAny_callSpecial?_slot (name:=Str.ofString "__next__") st.typeIs Us (wpAny_call_entry Us st.typeIs F.entry_tuple_iterator_next ?_ (F.args_tuple_iterator_next_1 _)))
 show wpAny _ _ (field (.ref j) 0 >>= _) _ _ s
 refine wpAny_bind (wpAny_field ho hd (x:=.ref t) rfl ?_)
 show wpAny _ _ (if(Value.ref t==.none)=true then _ else _) _ _ s
 rw[if_neg (show ¬((Value.ref t==.none)=true) from Za)]
 show wpAny _ _ (field (.ref j) 1 >>= _) _ _ s
 refine wpAny_bind (wpAny_field ho hd (x:=.int i 0) rfl ?_)
 show wpAny _ _ (seqItems? (.ref t) >>= _) _ _ s
 refine wpAny_bind (wpAny_seqItems hp hk ?_)
 simp only[Uh,hx]
 refine wpAny_bind (wpAny_rule (wpAny_bind (wpAny_setField ho hd (by simp) ?_)))
 show wpAny _ _ (newExc (.type "StopIteration") [] >>= _) _ _ _
 refine wpAny_bind ?_
 simp only[newExc,newTuple]
 refine wpAny_bind (wpAny_newObj_type (wpAny_bind (m:=firstArgMember _ _) (wpAny_of_eq (a:=Value.none) (by first | rfl | (simp only[firstArgMember];rfl)) (wpAny_newObj_type ?_ (by size_fits)))) (by size_fits))
 simp only[raiseNew]
 refine wpAny_bind (wpAny_handled ?_)
 first | rw[show A.in1.handled=none from hh] | rw[hh]
 refine wpAny_bind (wpAny_pure (wpAny_throw (hE _ _ (((Kj ..).extBut.push _).push _) ⟨_,Zb _ rfl,rfl⟩)))
theorem drawsT(hh:A.handled=none)(j t:Nc)(aE:t≠j)(xs:Array Value) :
  Draws prog w A j [j,t] xs.size (λi v=>xs[i]?=some v) (λi h=>h.IsTupleIter j t i∧h.IsTuple t xs) where
 live:=λ_ _ st=>let⟨o,ho,_⟩:=st.1;⟨o,ho⟩
 frame:=λi h h' st k=>⟨st.1.at λo e=>k j (by simp) o e,let⟨o,e,r⟩:=st.2;⟨o,k t (by simp) o e,r⟩⟩
 item:=λi s Q E hi st hQ=>by
  refine next_item st.1 st.2 (x:=xs[i]) (by simp[hi]) λg a b=>?_
  obtain⟨o,e,r⟩:=st.2
  exact hQ _ g s.toks (by simp[hi]) ⟨a,o,(b.2 t aE).trans e,r⟩ b
 done:=λs Q E st hE=>next_end hh st.1 st.2 (by simp) hE
def new_tuple(t:Nc)(xs:Array Value)(n:Nat)(dct:Option Addr)(sl:Array (Option Value)) :
  Meets (Builtin.«enumerate.__new__» ⟨[.type "enumerate",.ref t],[]⟩) (λ_ R s=>s.heap.get? t=some {cls:=.type "tuple",dict:=dct,data:=.seq xs n,slots:=sl} ∧
   R (.ok (.ret (.ref (s.heap.push {cls:=.type "tuple_iterator",data:=.fields #[.ref t,.int 0 0]}).objs.size)))
    {s with heap:=(s.heap.push {cls:=.type "tuple_iterator",data:=.fields #[.ref t,.int 0 0]}).push {cls:=.type "enumerate",data:=.fields #[.none,.bool false,.ref s.heap.objs.size,rawInt 0,.none,.none]}}) :=
 .of_wp λprog w A R s h=>by
  obtain⟨hp,g,d,tk,os⟩:=s;obtain⟨hl,h⟩:=h
  have iu:=sub_enumerate
  have hL:Heap.IsTuple (Shared.heap ⟨hp,g,d,tk,os⟩) t xs:=⟨_,hl,rfl,n,rfl⟩
  wp_walk using wpAny_loadPart' hl
  refine wpAny_stack_any λst=>wpAny_pure ?_
  split
  ·rename_i c _ _ _ _ _
   cases(c==Value.type "enumerate")<;>(wp_walk using wpAny_loadPart' hl,wpAny_pyIter_tuple hL;exact⟨_,rfl,h⟩)
  ·wp_walk using wpAny_loadPart' hl,wpAny_pyIter_tuple hL
   exact⟨_,rfl,h⟩
def call_enum(hL:s.heap.IsTuple t xs)(h:∀g,IsEnum g (s.heap.objs.size+1) s.heap.objs.size 0 .none→g.IsTupleIter s.heap.objs.size t 0→g.objs.size=s.heap.objs.size+2→(∀b o,s.heap.get? b=some o→g.get? b=some o)→Q (.ref (s.heap.objs.size+1)) {s with heap:=g}) :
  wpAny (model prog w) A (call (.type "enumerate") [.ref t]) Q E s:=by
 obtain⟨⟨c,dct,dt,sl⟩,hl,hc,n,hd⟩:=hL
 replace hc:c=.type "tuple" := hc
 replace hd:dt=.seq xs n:=hd
 subst hc hd
 refine callType_new F.called_enumerate (by decide) (F.typeCall_enumerate_1 _) (F.newCall_enumerate_1 _) (λobj=>F.args_object_init_2 obj _) F.entry_enumerate_new (new_tuple t xs n dct sl) ⟨hl,?_⟩
 have hz:(s.heap.push {cls:=.type "tuple_iterator",data:=.fields #[.ref t,.int 0 0]}).objs.size=s.heap.objs.size+1:=Wz ..
 show _∧_
 rw[hz]
 have he:IsEnum ((s.heap.push {cls:=.type "tuple_iterator",data:=.fields #[.ref t,.int 0 0]}).push {cls:=.type "enumerate",data:=.fields #[.none,.bool false,.ref s.heap.objs.size,rawInt 0,.none,.none]}) (s.heap.objs.size+1) s.heap.objs.size 0 .none:=by
  have q:=Zb (s.heap.push {cls:=.type "tuple_iterator",data:=.fields #[.ref t,.int 0 0]}) (o:={cls:=.type "enumerate",data:=.fields #[.none,.bool false,.ref s.heap.objs.size,rawInt 0,.none,.none]}) rfl
  rw[hz]at q;exact q
 exact⟨⟨_,he,rfl⟩,h _ he ⟨_,Qg _ (Zb _ rfl),rfl,rfl⟩ (by rw[Wz,hz]) λb o x=>Qg _ (Qg _ x)⟩
end
end Enu
namespace L2
open PySem PySem.Spec PyProof.Rows Enu
def Ite(a:Nc)(K:Na):It :=
 ⟨λi H=>∃xs,SqT K H a xs∧i<xs.length,λi H x H'=>∃y t,(∀xs,SqT K H a xs→xs[i]?=some y)∧H t=none∧x=.ref t∧H'=upd H t (.tup [.int i,y]),λi H=>∃xs,SqT K H a xs∧xs.length≤i⟩
theorem turn_enum{P:Nj}{w:Nk}{K:Na}{elts:Np}{kk:Nat}{pos:Pos}(a e j:Nc)(jV:e≠j)(haj:a≠j)(hae:e≠a) :
  Turn P w K (.Tuple elts kk pos) (Ite a K) [e,j] e (λi h=>(∃old,IsEnum h e j i old)∧h.IsTupleIter j a i) where
 mem:=by simp
 obj:=λi h st b hb=>by
  rcases Qh.mp hb with z | z
  ·subst z
   obtain⟨old,q⟩:=st.1
   exact⟨_,q,λv z=>by
    have z':Data.fields _=Data.cell v:=z
    cases z'⟩
  ·rw [Qb.mp z]
   obtain⟨o,q,c,d⟩:=st.2
   exact⟨o,q,λv z=>by rw[d]at z;cases z⟩
 keep:=λi h h' st k=>⟨let⟨old,q⟩:=st.1;⟨old,k e (by simp) _ q⟩,st.2.at λo q=>k j (by simp) o q⟩
 item:=by
  intro X hP hw hK hc i a5 s σ H E I hf st hg
  subst hP hw hK
  obtain⟨xs,hq,hi⟩:=hg
  obtain⟨a6,rv,p,hz⟩:=I.tuple hq
  have hl:=rv.length
  obtain⟨⟨old,he⟩,hit⟩:=st
  have hh:X.A.in1.handled=none:=I.ok.hd hc
  refine wpAny_pyNext_enum_itemD (drawsT hh j a haj a6.toArray) he ⟨hit,p⟩ (by simp;exact zar7 ‹_› ‹_›) jV (by simp[jV,hae]) λx g tk hP ho hs hT hsz hk=>⟨.ref s.heap.objs.size,rfl,?_⟩
  have fr:∀b,b∈[e,j]→FpOk X a5 H b:=hf
  obtain⟨e0,e1,e2,e3,e4,e5⟩:=hf e (by simp)
  obtain⟨j0,j1,j2,j3,j4,j5⟩:=hf j (by simp)
  have hHe:∀b u,H b=some u→b≠e∧b≠j:=λb u q=>⟨λz=>(by rw[z,e0]at q;cases q),λz=>(by rw[z,j0]at q;cases q)⟩
  have I1:Inv X a5 σ H {s with heap:=g,toks:=tk+1}:=by
   refine I.step (g':=s.gens) (d':=s.drawn) (ch:=[e,j]) (λb hb=>?_) (λb o _ _ hc q _=>hk b o (λz=>hc (by simp[z])) (λz=>hc (by simp[z])) q) (λb o _ _ hc q _=>⟨o.slots,hk b o (λz=>hc (by simp[z])) (λz=>hc (by simp[z])) q⟩) (λ_ _ _ _ n=>n)
    (λb o hc q=>⟨o,hk b o (λz=>hc (by simp[z])) (λz=>hc (by simp[z])) q⟩) (λ_ _ q=>q) (λ_ _ _ q=>q) (λb ps q=>⟨#[],by rw[q];simp⟩) (λm hm=>?_) (λb u q=>?_) I.bare
   ·rcases Qh.mp hb with z | z
    ·subst z;exact⟨e3,e1,e4,e5⟩
    ·rw[Qb.mp z];exact⟨j3,j1,j4,j5⟩
   ·obtain ⟨o,es,ep,q,r⟩:=hm
    exact⟨o,es,ep,hk _ o (Zh e1) (Zh j1) q,r⟩
   ·refine (I.hok b u q).stay (fun c v hc z=>?_) (fun _ z=>z) fun _ _ z=>z
    have hcn:c≠e∧c≠j:=by
     rcases hc with rfl | hc
     ·exact hHe c u q
     ·exact hHe c _ hc
    exact hk c v hcn.1 hcn.2 z
  obtain⟨y,hy⟩:∃y,xs[i]?=some y:=⟨xs[i],Qc hi⟩
  obtain⟨u,hu,ru⟩:=rv.get hy
  have hP':a6[i]?=some x:=by simpa using hP
  rw[hu]at hP'
  have hux:u=x:=Qr hP'
  subst hux
  have hN:H s.heap.objs.size=none:=I.hok.fresh (Qf _)
  refine wpAny_letOwnedTupleGo_enum ho λg' bM cq=>?_
  have nT:s.heap.objs.size≠e:=Yq (Qs he)
  have nJ:s.heap.objs.size≠j:=by obtain⟨o,q,_⟩:=hit;exact Yq (Qs q)
  have I2:Inv X a5 σ H {s with heap:=g',toks:=tk+1}:=Inv.turned (s:={s with heap:=g,toks:=tk+1}) (t':=tk+1) (it:=e) I1 (λb o hb q=>(cq.2 b hb).trans q) e0 e1 e3 e4 e5
  have hT':g'.get? s.heap.objs.size=some {cls:=.type "tuple",data:=.seq #[.int i tk,u]}:=(cq.2 _ nT).trans hT
  have I3:Inv X a5 σ (upd H s.heap.objs.size (.tup [.int i,y])) {s with heap:=g',toks:=tk+1}:=by
   refine⟨I2.ok,I2.os,I2.bare,⟨I2.base.keep,I2.base.slot,λb o q n hx=>?_,I2.base.there,λb zs q=>?_,λb o v q=>?_,λb ps q=>?_⟩,I2.loc,I2.cell,?_,λz c q=>?_,λpp hp=>?_,λb v q=>?_,I2.len⟩
   ·have lt:b < s.heap.objs.size:=Zp (Qs q) I.sz
    rw[zad (Zi lt)];exact I2.base.free b o q n hx
   ·have:=I2.base.tups b zs q
    rw[zad (zab this hN)];exact this
   ·have:=I2.base.frzs b o v q
    rw[zad (zab this hN)];exact this
   ·obtain ⟨m,z⟩:=I2.base.tbls b ps q
    exact⟨m,by rw[zad (zab z hN)];exact z⟩
   ·rw[zad (Zi I.lt)];exact I2.free
   ·rw[zad (Zi (I.cl_lt z c q))];exact I2.freeC z c q
   ·obtain ⟨h1,h2,h3⟩:=I2.pin pp hp
    exact⟨h1,by rw[zad (Zi (I.pin_lt pp hp))];exact h2,h3⟩
   ·by_cases hb:b=s.heap.objs.size
    ·subst hb
     rw[zac]at q
     cases q
     exact⟨by show 2≤sizeLine;decide,[.int i tk,u],.cons ⟨tk,rfl⟩ (.cons ru .nil),_,hT',rfl,_,rfl⟩
    ·rw [zad hb] at q
     exact(I2.hok b v q).stay (λc v _ z=>z) (λc z=>by rw[zad (zab z hN)];exact z) λc zs z=>by rw[zad (zab z hN)];exact z
  refine⟨.ref s.heap.objs.size,_,I3,rfl,⟨y,_,λys hys=>by rw[I.tuple_inj hys hq];exact hy,hN,rfl,rfl⟩,⟨⟨u,by simpa using bM⟩,?_⟩,λb hb=>?_⟩
  ·exact hs.1.at λo q=>(cq.2 j (Zh jV)).trans q
  ·rcases Qh.mp hb with z | z
   ·rw[z,zad (Zh nT)];exact e0
   ·rw[Qb.mp z,zad (Zh nJ)];exact j0
 done:=by
  intro X hP hw hK hc i a5 s σ H E I hf st hg
  subst hP hw hK
  obtain⟨xs,hq,hi⟩:=hg
  obtain⟨a6,rv,p,hz⟩:=I.tuple hq
  have hl:=rv.length
  obtain⟨⟨old,he⟩,hit⟩:=st
  obtain⟨j0,j1,j2,j3,j4,j5⟩:=hf j (by simp)
  have hh:X.A.in1.handled=none:=I.ok.hd hc
  have hT:s.TypeIs (.ref e) "enumerate" := ⟨_,he,rfl⟩
  unfold pyNext
  refine wpAny_bind (wpAny_attempt (wpAny_callSpecial?_slot (name:=Str.ofString "__next__") hT F.slot_enumerate_next (wpAny_call_entry F.slot_enumerate_next hT F.entry_enumerate_next ?_ (F.args_enumerate_next_1 _))))
  show wpAny _ _ (field (.ref e) 2 >>= _) _ _ _
  refine wpAny_bind (wpAny_field he rfl (x:=.ref j) rfl (wpAny_bind (next_end hh hit p (by simp;exact zdn ‹_› ‹_›) λg x hg hx=>?_)))
  obtain⟨o,ho,hc⟩:=hx
  refine wpAny_bind (wpAny_isInstance (T := "StopIteration") (b:=true) ⟨o,ho,hc⟩ isSubtype_stop (wpAny_pure ⟨rfl,?_⟩))
  exact I.turned (t':=s.toks) (λb o hb q=>hg b o hb q) j0 j1 j3 j4 j5
 self:=λA i s Q E st h=>by
  obtain⟨⟨old,he⟩,_⟩:=st
  exact wpAny_pyIter_enum he h
end L2
end
section
namespace L2
open PySem PySem.Spec PyProof.Rows Enu
section
variable{X:Cx}
def iEnum(K:Na)(ta:TA):TI:=λ σ H R=>ta σ H λvs H1=>∃a,vs=[.ref a]∧(∃xs,SqT K H1 a xs)∧R (Ite a K) H1
def pi_enum(hg:Gl X "enumerate")(hm:X.mg "enumerate" = none)(ha:PA X [a] ta)(hs:starEach [a] X.env=[(false,eval a X.env)]:=by rfl) :
  PI X (.Tuple elts kk tpos) (.Call (.Name "enumerate" p) [a] [] pos) (iEnum X.K ta):=by
 intro a5 s σ H R I h
 refine Call_ (ld_blt I hg hm boot_enumerate (Js (thn (ha pos a5 s σ H _ I h) λus s1 ⟨vs,H1,I1,r1,q1⟩=>?_) hs rfl))
 obtain⟨t,e,⟨xs,hq⟩,q⟩:=q1
 subst e
 obtain⟨u,rfl,ru⟩:=vals1 r1
 cases ru
 obtain⟨a6,rv,pl,hz⟩:=I1.tuple hq
 have lt:t<s1.heap.objs.size:=by obtain⟨o,q,_⟩:=pl;exact Qs q
 refine call_enum pl λg he hit hsz k=>wpAny_pyIter_enum he ?_
 have I2:Inv X a5 σ H1 {s1 with heap:=g}:=I1.kept (t':=s1.toks) k
 refine⟨s1.heap.objs.size+1,[s1.heap.objs.size+1,s1.heap.objs.size],_,_,H1,rfl,I2,turn_enum t _ _ (Nat.succ_ne_self _) (Zi lt) (Yq (Jc lt)),⟨⟨_,he⟩,hit⟩,λb hb=>?_,q⟩
 have nF:s1.heap.objs.size≤b:=by
  rcases Qh.mp hb with z | z
  ·rw[z];exact Ja _
  ·rw[Qb.mp z];exact Qf _
 exact I1.fpOk nF (I1.hok.fresh nF)
def for_enum{K:Na}{a:Nc}{xs:List V}{g:TG}{tb:TS}{D:Ends}{σ:St}{H:Hp}(Pv:Nat→St→Hp→Prop)(h0:Pv 0 σ H)(hl:∀i σ H,i≤xs.length→Pv i σ H→H a=some (.tup xs))(hs:∀i x t σ H,xs[i]?=some x→Pv i σ H→H t=none→g (.ref t) σ (upd H t (.tup [.int i,x])) λ σ2 H2=>tb {D with nx:=Pv (i+1),ct:=Pv (i+1),bk:=D.nx} σ2 H2)(hd:∀σ H,Pv xs.length σ H→D.nx σ H) :
  ∃W:Nat→Nat→St→Hp→Prop,(∃m,W 0 m σ H)∧∀i m σ H,W i m σ H →
   ((Ite a K).stop i H∧D.nx σ H)∨((Ite a K).go i H∧∃N:St→Hp→Prop,(∀σ' H',N σ' H'→∃m',m'<m∧W (i+1) m' σ' H')∧∀x H',(Ite a K).yld i H x H'→g x σ H' λ σ2 H2=>tb {D with nx:=N,ct:=N,bk:=D.nx} σ2 H2):=by
 refine⟨λi m σ H=>m=xs.length-i∧i≤xs.length∧Pv i σ H,⟨xs.length,by simp,Zn _,h0⟩,?_⟩
 rintro i m σ H ⟨rfl,hi,p⟩
 have q:=hl i σ H hi p
 by_cases aa:i<xs.length
 ·refine .inr ⟨⟨xs,SqT.of q,aa⟩,Pv (i+1),fun σ' H' p'=>⟨xs.length - (i+1),by exact zar1 ‹_›,rfl,aa,p'⟩,fun x H' y=>?_⟩
  obtain⟨z,t,e1,e3,rfl,rfl⟩:=y
  exact hs i z t σ H (e1 xs (SqT.of q)) p e3
 ·have e:i=xs.length:=by exact zar3 ‹_› ‹_›
  subst e
  exact .inl ⟨⟨xs,SqT.of q,Qf _⟩,hd σ H p⟩
def Its(x:Str):It:=⟨λi _=>i<x.cps.size,λi H v H'=>H'=H∧∃c,x.cps[i]?=some c∧v=.str ⟨#[c]⟩,λi _=>x.cps.size≤i⟩
theorem turn_str{P:Nj}{w:Nk}{K:Na}{tg:Expr}{x:Str}{t:Tok}(it:Nc):Turn P w K tg (Its x) [it] it (λi h=>h.IsStrIter it "str_ascii_iterator" x t i) where
 mem:=by simp
 obj:=λi h st b hb=>by
  rw[Qb.mp hb]
  obtain⟨o,e,c,d⟩:=st
  exact⟨o,e,λv z=>by rw[d]at z;cases z⟩
 keep:=λi h h' st k=>let⟨o,ho,r⟩:=st;⟨o,k it (by simp) o ho,r⟩
 item:=by
  intro X hP hw hK hc i a5 s σ H E I hf st hg
  subst hP hw hK
  obtain⟨f0,f1,f2,f3,f4,f5⟩:=hf it (by simp)
  have hi:i<x.cps.size:=hg
  refine wpAny_pyNext_ascii_item st (c:=x.cps[i]) (by simp[hi]) λh' a8 sb=>?_
  have I1:Inv X a5 σ H {s with heap:=h',toks:=s.toks+1}:=I.turned (λb o hb e=>(sb.2 b hb).trans e) f0 f1 f3 f4 f5
  obtain⟨o,e,c,d⟩:=id a8
  exact⟨_,rfl,go_of (s:={s with heap:=h',toks:=s.toks+1}) e c d (by decide) ⟨.str ⟨#[x.cps[i]]⟩,H,I1,⟨_,rfl⟩,⟨rfl,_,by simp[hi],rfl⟩,a8,λb hb=>(hf b hb).1⟩⟩
 done:=by
  intro X hP hw hK hc i a5 s σ H E I hf st hg
  subst hP hw hK
  obtain⟨f0,f1,f2,f3,f4,f5⟩:=hf it (by simp)
  have hi:x.cps.size≤i:=hg
  exact wpAny_pyNext_ascii_end (I.ok.hd hc) st (by simp[hi]) λh' eb=>⟨rfl,I.turned (t':=s.toks) (λb o hb e=>eb b o hb e) f0 f1 f3 f4 f5⟩
 self:=λ_ _ _ _ _ st h=>wpAny_pyIter_striter_ascii st h
def iStr(tl:TE):TI:=λ σ H R=>tl σ H λv H1=>∃x:Str,v=.str x∧x.cps.all (· < 128)=true∧R (Its x) H1
def pi_str{tg l:Expr}{tl:TE}(hl:PE X l tl):PI X tg l (iStr tl):=by
 intro a5 s σ H R I h
 refine thn (hl a5 s σ H _ I h) λv s1 ⟨y,H1,I1,r1,q1⟩=>?_
 obtain⟨x,e,ha,q⟩:=q1
 subst e
 obtain⟨t,rfl⟩:=r1
 refine wpAny_pyIter_ascii ha ?_
 refine⟨s1.heap.objs.size,[s1.heap.objs.size],_,_,H1,rfl,I1.kept (t':=s1.toks) λb o e=>Qg _ e,turn_str (t:=t) _,⟨_,Zb _ rfl,rfl,rfl⟩,λb hb=>?_,q⟩
 rw[Qb.mp hb]
 exact I1.fpOk (Qf _) (I1.hok.fresh (Qf _))
def op_le_str:OpR X (compareOp .LtE) (λx y H Q=>Ex2 λi j=>Aj3 (x=.str i) (y=.str j) (Q (.bl (!decide (j.cps.toList<i.cps.toList))) H)):=by
 intro a5 s σ H x y v u Q I rx ry h
 obtain⟨i,j,rfl,rfl,q⟩:=h
 obtain⟨t,rfl⟩:=rx
 obtain⟨t',rfl⟩:=ry
 exact PySem.P.le_str (zaz I q rfl)
end
end L2
end
section
namespace L2
open PySem PySem.Spec PyProof.Rows
section
variable{X:Cx}{a5:Nd}{σ:St}{H:Hp}{s:Nh}
inductive RrNil(neg:Bool)(K:Na)(x:V)(y:V)(H:Hp)(Q:VK):Prop
 |mk (l:_) (b:_) (xs:_) (h0:x=.ref l) (h1:y=.ref b) (h2:SqL K H l xs) (h3:SqL K H b []) (h4:Q (.bl (if neg then !xs.isEmpty else xs.isEmpty)) H):RrNil neg K x y H Q
def rNil(neg:Bool)(K:Na):R2:=λx y H Q=>RrNil neg K x y H Q
def op_eq_nil(hu:X.A.units<cLine):OpR X (compareOp .Eq) (rNil false X.K):=by
 intro a5 s σ H x y v u Q I rx ry h
 obtain⟨l,b,xs,rfl,rfl,h1,h2,q⟩:=h
 cases rx;cases ry
 obtain⟨a6,r,pl,_⟩:=I.list h1
 obtain⟨aK,r2,hZ,_⟩:=I.list h2
 cases r2
 cases r with
 |nil=>exact SeqAt.eq_listAt (e:=λ_=>true) pl.isList hZ.isList rfl hu (λj h1 _=>by simp at h1) ⟨.bl true,H,I,rfl,q⟩
 |cons a t=>exact SeqAt.eq_list_lengthsAt pl.isList hZ.isList (by simp) hu ⟨.bl false,H,I,rfl,q⟩
def op_ne_nil(hu:X.A.units<cLine):OpR X (compareOp .NotEq) (rNil true X.K):=by
 intro a5 s σ H x y v u Q I rx ry h
 obtain⟨l,b,xs,rfl,rfl,h1,h2,q⟩:=h
 cases rx;cases ry
 obtain⟨a6,r,pl,_⟩:=I.list h1
 obtain⟨aK,r2,hZ,_⟩:=I.list h2
 cases r2
 cases r with
 |nil=>exact SeqAt.RcNeAt.lists (e:=λ_=>true) pl.isList hZ.isList rfl hu (λj h1 _=>by simp at h1) _ _ _ _ ⟨.bl false,H,I,rfl,q⟩
 |cons a t=>exact SeqAt.RcNeAt.lists_lengths pl.isList hZ.isList (by simp) hu _ _ _ _ ⟨.bl true,H,I,rfl,q⟩
theorem argBest_lt:∀k,argBest bt k≤k
 |0=>Qf _
 |k+1=>by
  show(if bt (k+1) (argBest bt k)=true then k+1 else argBest bt k)≤k+1
  split
  ·exact Qf _
  ·exact Ke (argBest_lt k)
theorem zct(f:Nat→List Nat):∀k j,j≤k→¬f j<f (argBest (λi j=>decide (f i<f j)) k)
 |0,j,h=>by
  have:j=0:=by lia
  subst this
  exact Wk _
 | k+1,j,h=>by
  show ¬f j<f (if decide (f (k+1)<f (argBest (λi j=>decide (f i<f j)) k))=true then k+1 else argBest (λi j=>decide (f i<f j)) k)
  by_cases aa:f (k+1)<f (argBest (λi j=>decide (f i<f j)) k)
  ·rw [if_pos (decide_eq_true aa)]
   by_cases hj:j=k+1
   ·subst hj;exact Wk _
   ·intro z
    exact zct f k j (by lia) (List.lt_trans z aa)
  ·rw [if_neg (by simpa using aa)]
   by_cases hj:j=k+1
   ·subst hj;exact aa
   ·exact zct f k j (by lia)
def zd7(hc:X.calm=true):zbz X (.builtin "min") (λxs H Q=>Ex2 λ(p:Nc) (zs:Ng)=>Aj4 (xs=[.ref p]) (SqL X.K H p (zs.map V.str)) (zs≠[]) (∀z∈zs,(∀y∈zs,leS z y)→Q (.str z) H)):=by
 intro a5 s σ H xs us Q I r h
 obtain⟨p,zs,rfl,hq,aE,q⟩:=h
 obtain⟨u,rfl,rx⟩:=vals1 r
 cases rx
 have bY:0<zs.length:=Uq.mpr aE
 refine call_min_walk (zgs hc I hq λa6 It h1 rv W st lt keep=>⟨It,_,_,_,_,_,λi j=>decide ((zs.getD i Str.empty).cps.toList<(zs.getD j Str.empty).cps.toList),rfl,W,st,lt,?_,λi j vi vj s' Q' E' hi hj gk=>?_,λv h' tk hv k=>?_⟩)
 ·have:=rv.length
  rw[Qa]at this
  rw[Qq];exact zar7 ‹_› ‹_›
 ·have gs:∀ (i:Nat) (v:Value),a6.toArray[i]?=some v→∃ t,v=.str (zs.getD i Str.empty) t:=fun i v e=>by
   have e':a6[i]?=some v:=by simpa using e
   have hi:i<a6.length:=(Ze.mp e').1
   have hl:=rv.length
   rw[Qa]at hl
   have ap:i<zs.length:=by exact zar6 ‹_› ‹_›
   obtain⟨u,e2,t,e3⟩:=rv.get (i:=i) (x:=.str zs[i]) (by simp[ap])
   rw[e']at e2
   cases e2
   exact⟨t,by rw[e3];simp[List.getD,ap]⟩
  obtain⟨t1,rfl⟩:=gs i vi hi
  obtain⟨t2,rfl⟩:=gs j vj hj
  exact lt_str gk
 ·have hl:=rv.length
  rw[Qa]at hl
  have hk:=argBest_lt (bt:=λi j=>decide ((zs.getD i Str.empty).cps.toList<(zs.getD j Str.empty).cps.toList)) (a6.toArray.size-1)
  generalize hb:argBest (λi j=>decide ((zs.getD i Str.empty).cps.toList<(zs.getD j Str.empty).cps.toList)) (a6.toArray.size-1)=b at hv hk
  have dq:b<zs.length:=by rw[Qq]at hk;lia
  have jJ:a6[b]?=some v:=by simpa using hv
  obtain⟨u,e2,t,e3⟩:=rv.get (i:=b) (x:=.str zs[b]) (by simp[dq])
  rw[jJ]at e2
  cases e2
  refine⟨.str zs[b],H,keep h' tk k,⟨t,e3⟩,q _ (Qm dq) λy hy=>?_⟩
  obtain⟨j,hj,ej⟩:=Zo hy
  have:=zct (λi=>(zs.getD i Str.empty).cps.toList) (a6.toArray.size-1) j (by rw[Qq];lia)
  rw[hb]at this
  have g1:zs.getD b Str.empty=zs[b]:=by simp[List.getD,dq]
  have g2:zs.getD j Str.empty=y:=by simp[List.getD,hj,ej]
  rw[g1,g2]at this
  exact this
end
section
variable{X:Cx}
def eqV_self{x:V}(f:zcx x=true):eqV x x=true:=by
 cases x with
 |non=>rfl
 |bl b=>exact beq_self_eq_true b
 |int i=>exact beq_self_eq_true i
 |str z=>exact beq_self_eq_true z
 |_=>cases f
def KV.value{kvs:List (Key×V)}{vs:List (Key×Value)}(r:KV kvs vs){k:Key}{v:V}(nd:(kvs.map (·.1)).Nodup)(h:(k,v)∈kvs):∃ y,valueAt vs k=some y∧RelV v y:=by
 induction r with
 |nil=>cases h
 | @cons p q ps qs e t ih =>
  rw[Qk,Qy]at nd
  rcases Qh.mp h with z | z
  ·refine ⟨q.2,?_,?_⟩
   ·unfold valueAt
    rw[Yz (by rw[←e.1,←z];simp)]
    rfl
   ·have:=e.2
    rw[←z]at this
    exact this
  ·obtain ⟨y,h1,h2⟩:=ih nd.2 z
   refine⟨y,?_,h2⟩
   have ne:p.1≠k:=λw=>nd.1 (by rw[w];exact Qj.mpr ⟨_,z,rfl⟩)
   unfold valueAt at h1 ⊢
   rw[Wa (by rw[←e.1];simpa using ne)]
   exact h1
end
end L2
end
section
namespace SetT
open PySem PyProof.Rows PySem.Spec
section
variable{prog:Nj}{w:Nk}{A:Nn}{R:Nv}{I:Nc}{fp wr:Nl}{G:Array GenState→Array GenState→Prop}{n:Nat}{P:Nat→Value→Prop}{St:Nat→Shared→Prop}
def loop(W:WalksS prog w A.in1 I fp wr G n P St)(S:Nc)(nM:S∉fp)(zs:Ng)(hz:zs.length=n)(nd:zs.Nodup)(ik:∀i v,P i v→∃t,v=.str (zs.getD i Str.empty) t)(hb:n+1<scanBound) :
  ∀(k i:Nat) (s:Nh),n-i=k→i≤n→St i s→s.heap.SetOf (PySem.strKind prog w) S (λx=>decide (x∈zs.take i)) i →
   (∀s',Moved (S::wr) G s s'→s'.heap.SetOf (PySem.strKind prog w) S (λx=>decide (x∈zs.take n)) n→R (.ok (.ret .none)) s')→codeAny (model prog w) A (.builtin "set.update.loop" ⟨[.ref S,.ref I],[]⟩) R s:=by
 have hSw:S∉wr:=λh=>nM (W.sub _ h)
 have sub:∀b∈wr,b∈S::wr:=λb q=>Qi _ q
 intro k
 induction k with
 |zero =>
  intro i s hk hi ak hS hR
  obtain rfl:i=n:=by lia
  refine codeAny_builtin F.entry_set_update_loop ?_
  rw[Wc F.plain_set_update_loop _]
  show wpAny _ A.in1 (pyNext (.ref I) >>= _) _ _ s
  refine wpAny_bind (W.done s _ _ ak λs' hm=>(show wpAny _ A.in1 (ret Value.none) _ _ s' from wpAny_pure (hR s' (hm.mono sub) ?_)))
  obtain⟨o,es,ep,t,ho,rest⟩:=hS
  exact⟨o,es,ep,t,hm.heap S _ hSw ho,rest⟩
 | succ k ih =>
  intro i s hk hi ak hS hR
  have lt:i<n:=by lia
  refine codeAny_builtin F.entry_set_update_loop ?_
  rw[Wc F.plain_set_update_loop _]
  show wpAny _ A.in1 (pyNext (.ref I) >>= _) _ _ s
  refine wpAny_bind (W.item i s _ _ lt ak λv s' hP iw hm=>?_)
  obtain⟨t,rfl⟩:=ik i v hP
  have ap:i<zs.length:=by exact zar6 ‹_› ‹_›
  have eg:zs.getD i Str.empty=zs[i]:=by simp[List.getD,ap]
  rw[eg]
  have jY:s'.heap.SetOf (PySem.strKind prog w) S (λx=>decide (x∈zs.take i)) i:=by
   obtain⟨o,es,ep,tb,ho,rest⟩:=hS
   exact⟨o,es,ep,tb,hm.heap S _ hSw ho,rest⟩
  show wpAny _ A.in1 (holding [Value.str zs[i] t] (setAdd S (.str zs[i] t)) >>= _) _ _ s'
  refine wpAny_bind (wpAny_holding ?_)
  unfold setAdd
  refine wpAny_holding (wpAny_bind ((PySem.strKind prog w).pyHash (k:=zs[i]) (by simp[PySem.strKind,Value.isStrOf]) ?_))
  have nin:decide (zs[i]∈zs.take i)=false:=decide_eq_false λq=>by
   obtain⟨j,hj,e⟩:=Zo q
   rw[Zg]at hj
   rw[Ug]at e
   have:=(Yv nd).mp e
   lia
  refine wpAny_setAddHashed_of (knd:=PySem.strKind prog w) (k:=zs[i]) (by simp[PySem.strKind,Value.isStrOf]) rfl jY (by lia) λg sb hS2=>?_
  have jq:g.SetOf (PySem.strKind prog w) S (λx=>decide (x∈zs.take (i+1))) (i+1):=by
   refine SetOf_congr hS2 (λx=>?_) (by simp only[nin];simp)
   rw[Yu]
   simp only[Bool.or_eq_true,decide_eq_true_eq]
   rw[Ql ap,Qd,Qb]
  refine wpAny_pure ⟨plainId_quiet F.plain_set_update_loop _,ih (i+1) _ (by lia) lt (W.frame _ s' _ _ iw (by first | exact Qf _ | exact Ja _) λb q o e=>?_) jq λs2 be hS3=>hR s2 (Moved.trans W.gtrans ((hm.mono sub).then_heap (by first | exact Qf _ | exact Ja _) λb o q e=>?_) be) hS3⟩
  ·rw[sb.2 b (λz:b=S=>nM (by rw[←z];exact q))];exact e
  ·rw[sb.2 b (λz:b=S=>q (by rw[z];exact Qe))];exact e
end
section
variable{prog:Nj}{w:Nk}{A:Nn}{E:Nb}{s:Nh}
def call_set{l:Nc}{a6:Ni}{zs:Ng}{Q:Nb}(hh:A.handled=none)(hl:s.heap.IsList l a6.toArray)(hz:zs.length=a6.length)(nd:zs.Nodup)(ik:∀(i:Nat) (v:Value),a6[i]?=some v→∃t,v=.str (zs.getD i Str.empty) t)(hb:a6.length+1<scanBound)(h:∀(g:Nm) (tk:Nat),g.SetOf (PySem.strKind prog w) s.heap.objs.size (λx=>decide (x∈zs)) zs.length→(∀b o,s.heap.get? b=some o→g.get? b=some o)→Q (.ref s.heap.objs.size) {s with heap:=g,toks:=tk}) :
  wpAny (model prog w) A (call (.type "set") [.ref l]) Q E s:=by
 obtain⟨c,tl,hmro⟩:=Wf.mro
 have hmade:=Wf.made
 have iu:=Wf.sub
 refine wpAny_call (codeAny_of_tree (show wpAny _ _ (callAny (.type "set") _) _ _ _ from wpAny_pure ⟨Code.quiet_builtin _ (by decide +kernel),codeAny_builtin PySem.F.entry_type_call ?_⟩))
 rw[Around.under_plain (weight_type_call_type "set" [.ref l] []) rfl]
 have h1:=Wf.notType
 have h2:=Wf.canCreate
 have jW:=PySem.F.typeCall_set_1 (.ref l)
 repeat(any_goals (first | assumption | wp_step))
 refine codeAny_mono (code_set_new_1 (.ref l) (E:=E) (Q₁:=λobj s₁=>∃led:Bool,obj=.ref s.heap.objs.size∧s₁={s with heap:=s.heap.push {cls:=.type "set",dict:=none,data:=.set #[] 0 (.fresh 0 0 led)}}) λled=>⟨led,rfl,rfl⟩) λr s1 hr=>?_
 cases r with
 |error e=>exact hr
 | ok fl =>
  cases fl with
  | ret obj =>
   obtain⟨led,rfl,rfl⟩:=hr
   have hS:(s.heap.push {cls:=.type "set",dict:=none,data:=.set #[] 0 (.fresh 0 0 led)}).get? s.heap.objs.size=some {cls:=.type "set",dict:=none,data:=.set #[] 0 (.fresh 0 0 led)}:=Zb _ rfl
   have hT:Shared.TypeIs {s with heap:=s.heap.push {cls:=.type "set",dict:=none,data:=.set #[] 0 (.fresh 0 0 led)}} (.ref s.heap.objs.size) "set" := ⟨_,hS,rfl⟩
   have hli:=Wf.init.lookup
   have hbi:=Wf.init.bind (.ref s.heap.objs.size)
   repeat(any_goals (first | assumption | wp_step))
   refine codeAny_mono (codeAny_call_builtin (R:=wants (λr s₂=>r=.none∧∃g tk,s₂={s with heap:=g,toks:=tk}∧g.SetOf (PySem.strKind prog w) s.heap.objs.size (λx=>decide (x∈zs)) zs.length∧(∀b o,s.heap.get? b=some o→g.get? b=some o)) E)
    Wf.init.plain PySem.F.entry_set_init (check_set_init_1 hT ?_)) λr2 s2 dw=>?_
   ·obtain ⟨ol,pU,ji,nl,gw⟩:=hl
    obtain⟨ocls,odict,odata,oslots⟩:=ol
    simp only at ji gw
    subst ji;subst gw
    have pT:(s.heap.push {cls:=.type "set",dict:=none,data:=.set #[] 0 (.fresh 0 0 led)}).get? l=some {cls:=.type "list",dict:=odict,data:=.seq a6.toArray nl,slots:=oslots}:=Qg _ pU
    have hsls:=PySem.F.sub_list_set
    have hslf:=PySem.F.sub_list_frozenset
    have aE:(Value.type "list" == Value.type "dict")=false:=by decide
    have bA:(s.heap.push {cls:=.type "set",dict:=none,data:=.set #[] 0 (.fresh 0 0 led)}).IsList l a6.toArray:=⟨_,pT,rfl,nl,rfl⟩
    unfold Builtin.«set.__init__» noKeywords Builtin.Frozenset.updateFrom
    generalize hPI:pyIter=PI
    wp_walk
    subst hPI
    refine wpAny_pyIter_list bA (wpAny_bind (wpAny_runValue ?_))
    have hlS:l<s.heap.objs.size:=Qs pU
    have hh3:A.in1.in1.in1.handled=none:=by simp[hh]
    have z1:(s.heap.push {cls:=.type "set",dict:=none,data:=.set #[] 0 (.fresh 0 0 led)}).objs.size=s.heap.objs.size+1:=Wz ..
    have q5:l≠(s.heap.push {cls:=.type "set",dict:=none,data:=.set #[] 0 (.fresh 0 0 led)}).objs.size:=by rw[z1];exact Zi (Jc hlS)
    have nM:s.heap.objs.size∉[(s.heap.push {cls:=.type "set",dict:=none,data:=.set #[] 0 (.fresh 0 0 led)}).objs.size,l]:=by
     rw[z1];simp only[Qh,List.not_mem_nil,or_false,not_or]
     exact⟨Zi (Ym _),Yq hlS⟩
    refine loop ((Walks.list hh3 _ l q5 a6.toArray).toS) s.heap.objs.size nM zs (by rw[Qq];exact hz) nd (λi v hv=>ik i v (by simpa using hv)) (by rw[Qq];exact hb) _ 0 _ rfl (Zn _) ⟨⟨_,Zb _ rfl,rfl,rfl⟩,(bA.push _)⟩ ?_ ?_
    ·exact SetOf_congr ((setObjOf_fresh (knd:=PySem.strKind prog w) led).setOf (Qg _ hS) (by unfold scanBound;exact Nat.le_add_left _ _)) (λ_=>by simp) rfl
    ·intro s' hm jY
     obtain⟨g,g',d',o9,oj⟩:=s'
     have eg:g'=s.gens:=hm.gens
     have ed:d'=s.drawn:=hm.drawn
     have eo:oj=s.os:=hm.os
     subst eg;subst ed;subst eo
     show wpAny _ _ _ _ _ _
     refine wpAny_pure (show wpAny _ _ (ret Value.none) _ _ _ from wpAny_pure ⟨rfl,g,o9,rfl,?_,λb o e=>?_⟩)
     ·have e1:a6.toArray.size=zs.length:=by rw [Qq,hz]
      rw[e1,Qx (Qf _)]at jY
      exact jY
     ·have jX:b < s.heap.objs.size:=Qs e
      refine hm.heap b o ?_ (Qg _ (Qg _ e))
      rw[z1]
      simp only[Qh,List.not_mem_nil,or_false,not_or]
      exact⟨Zi jX,Zi (Jc jX)⟩
   ·cases r2 with
    |error e=>exact dw
    | ok fl2 =>
     cases fl2 with
     |ret r =>
      obtain⟨rfl,g,tk,rfl,jY,ql⟩:=dw
      repeat(any_goals (first | assumption | wp_step))
      exact h _ _ jY ql
     |_=>exact dw.elim
  |_=>exact hr.elim
end
end SetT
namespace L2
open PySem PySem.Spec PyProof.Rows
def setO(P:Nj)(w:Nk)(a:Nc)(zs:Ng):HO:=.ext λh=>h.SetOf (PySem.strKind P w) a (λx=>decide (x∈zs)) zs.length
section
variable{X:Cx}
def zhs(hc:X.calm=true):zbz X (.type "set") (λxs H Q=>Ex2 λ(p:Nc) (zs:Ng)=>Aj5 (xs=[.ref p]) (SqL X.K H p (zs.map V.str)) zs.Nodup (zs.length≤1000) (∀l,H l=none→Q (.ref l) (upd H l (setO X.prog X.w l zs)))):=by
 intro a5 s σ H xs us Q I r h
 obtain⟨p,zs,rfl,hq,nd,hz,q⟩:=h
 obtain⟨u,rfl,rx⟩:=vals1 r
 cases rx
 obtain⟨a6,rv,pl,_⟩:=I.list hq
 have hl:=rv.length
 rw[Qa]at hl
 refine SetT.call_set (zs:=zs) (I.ok.hd hc) pl.isList hl nd (λi v e=>?_) (by unfold scanBound;lia) λg tk hS k=>?_
 ·have hi:i < a6.length:=(Ze.mp e).1
  have ap:i<zs.length:=by exact zar6 ‹_› ‹_›
  obtain⟨u,e2,t,e3⟩:=rv.get (i:=i) (x:=.str zs[i]) (by simp[ap])
  rw[e]at e2
  cases e2
  exact⟨t,by rw[e3];simp[List.getD,ap]⟩
 ·refine ⟨.ref _,_,I.laid (t':=tk) k (Qf _) (show zbg X.prog X.w _ g _ (setO X.prog X.w s.heap.objs.size zs) from ⟨hS,?_,fun h1 h2 p1 k1=>?_⟩),rfl,q _ (I.hok.fresh (Qf _))⟩
  ·obtain ⟨o,_,_,_,e,_⟩:=hS
   exact⟨o,e⟩
  ·obtain ⟨o,es,ep,t,e,rest⟩:=p1
   exact⟨o,es,ep,t,k1 o e,rest⟩
def zht:zbz X (.builtin "len") (λxs H Q=>Ex2 λ(p:Nc) (zs:Ng)=>Aj4 (xs=[.ref p]) (H p=some (setO X.prog X.w p zs)) (zs.length≤1000) (Q (.int zs.length) H)):=by
 intro a5 s σ H xs us Q I r h
 obtain⟨p,zs,rfl,hq,hz,q⟩:=h
 obtain⟨u,rfl,rx⟩:=vals1 r
 cases rx
 obtain⟨⟨o,es,ep,t,ho,jT,hd,eU,gq,hb,hf,hn⟩,_⟩:=(show zbg X.prog X.w H s.heap p (setO X.prog X.w p zs) from I.hok p _ hq)
 exact call_len_set ho jT hd hf (by rw[hn];lia) ⟨.int zs.length,H,I.tok _,⟨_,by rw[hn]⟩,q⟩
end
end L2
end
section
namespace DictR
open PySem PyProof.Rows PySem.Spec
def miss_keys:typeLookup (.type "list") "keys" = pure none:=am_miss_of_fast (by decide +kernel)
section
variable{prog:Nj}{w:Nk}{A:Nn}{E:Nb}{s:Nh}
def no_keys{a:Nc}{xs:Array Value}{k:Nat}{sl:Array (Option Value)}{Q:Option Value→Shared→Prop}(hx:s.heap.get? a=some {cls:=.type "list",dict:=none,data:=.seq xs k,slots:=sl})(hA:A.handled=none)(h:∀g tk,(∀b o,s.heap.get? b=some o→g.get? b=some o)→Q none {s with heap:=g,toks:=tk}):wpAny (model prog w) A (getAttr? (.ref a) "keys") Q E s:=by
 obtain⟨hp,g,d,tk,os⟩:=s
 have hT:∀t',(⟨hp,g,d,t',os⟩:Shared).TypeIs (.ref a) "list" := λ_=>⟨_,hx,rfl⟩
 have f1:=sub_AttributeError
 have f3:=Xe.lookup
 have f4:=Xe.bind (.ref a)
 have f5:=am_list_getattr_none
 unfold getAttr? getAttrBy? getAttrBy
 repeat(any_goals (first | assumption | exact hT _ | ((with_reducible show wpAny _ _ (call (Value.builtin "list.__getattribute__") _ _) _ _ _);refine call_meets Xe (hT _) am_entry_list_getattribute (F.args_list_getattribute_2 _ _) (meets_getattribute_miss_list a xs k sl "keys" _ miss_keys (by decide +kernel) (by decide +kernel)) ⟨hx,hA,λh' o9 e cB=>?_⟩) | wp_step))
 obtain⟨t',u',he⟩:=cB.there
 show wpAny _ _ (getattributeRaised _ _ _ _ _ _ _) _ _ _
 unfold getattributeRaised
 repeat(any_goals (first | assumption | wp_step))
 exact h h' o9 cB.keeps
def zgk:entryFor table "dict.update.loop" = some Builtin.«dict.update.loop»:=entryFor_of_tree (by kernel_rfl)
def zc8:plainId "dict.update.loop" = true:=by decide +kernel
structure Row(K:Type) where
 a:Addr
 o:Obj
 k:K
 key:Value
 val:Value
 n:Nat
variable{K:Type}[DecidableEq K]{knd:KeyKind prog w K}
def RowAt(knd:KeyKind prog w K)(h:Nm)(r:Row K):Prop:=h.get? r.a=some r.o∧r.o.cls=.type "tuple" ∧ r.o.data=.seq #[r.key,r.val] r.n∧knd.is r.k r.key=true
def stored_new{kvs:List (K×Value)}(h:k∉kvs.map (·.1)):stored kvs k v=kvs++[(k,v)]:=by
 unfold stored
 rw[if_neg]
 intro z
 obtain⟨p,hp,e⟩:=Yn.mp z
 exact h (Qj.mpr ⟨p,hp,of_decide_eq_true e⟩)
def loop{R:Nv}{I l:Nc}(hh:A.handled=none)(rows:List (Row K))(d:Nc)(rf:d≠I)(gw:d≠l)(hlI:l≠I)(hr:∀ r∈rows,r.a≠d∧r.a≠I)(nd:(rows.map (·.k)).Nodup)(hz:rows.length≤sizeLine) :
  ∀(m i:Nat) (s:Nh),rows.length-i=m→i≤rows.length→s.heap.IsListIter I l i→s.heap.IsList l (rows.map λr=>Value.ref r.a).toArray→(∀r∈rows,RowAt knd s.heap r)→s.heap.DictOf knd d ((rows.take i).map λr=>(r.k,r.val)) →
   (∀g tk,(∀b o,b≠d→b≠I→s.heap.get? b=some o→g.get? b=some o)→g.DictOf knd d (rows.map λr=>(r.k,r.val))→R (.ok (.ret .none)) {s with heap:=g,toks:=tk}) →
   codeAny (model prog w) A (.builtin "dict.update.loop" ⟨[.ref d,.ref I,rawInt i,.none],[]⟩) R s:=by
 intro m
 induction m with
 |zero =>
  intro i s hm hi st hl hR hd hQ
  obtain rfl:i=rows.length:=by lia
  refine codeAny_builtin zgk ?_
  rw[Wc zc8 _]
  show wpAny _ A.in1 (pyNext (.ref I) >>= _) _ _ s
  refine wpAny_bind (wpAny_pyNext_list_end (show A.in1.handled=none from hh) st hl (by simp) λg eb=>?_)
  show wpAny _ A.in1 (Builtin.Dict.addKeywords d [] >>= λ_=>ret Value.none) _ _ _
  refine wpAny_bind (show wpAny _ A.in1 (pure ()) _ _ _ from wpAny_pure (wpAny_pure (hQ g s.toks (λb o _ hb e=>eb b o hb e) ?_)))
  rw[Qx (Qf _)]at hd
  exact hd.extBut eb rf
 | succ m ih =>
  intro i s hm hi st hl hR hd hQ
  have lt:i<rows.length:=by lia
  obtain⟨e1,e2,e3,e4⟩:=hR rows[i] (Qm lt)
  obtain⟨n1,n2⟩:=hr rows[i] (Qm lt)
  refine codeAny_builtin zgk ?_
  rw[Wc zc8 _]
  show wpAny _ A.in1 (pyNext (.ref I) >>= _) _ _ s
  refine wpAny_bind (wpAny_pyNext_list_item st hl (x:=.ref rows[i].a) (by simp[lt]) λg a8 sb=>?_)
  have k1:∀b o,b≠I→s.heap.get? b=some o→g.get? b=some o:=λb o hb e=>(sb.2 b hb).trans e
  have nv:g.DictOf knd d ((rows.take i).map λr=>(r.k,r.val)):=hd.sameBut sb rf
  refine wpAny_bind (wpAny_holding ?_)
  refine wpAny_bind (wpAny_tryCatch ?_)
  show wpAny _ A.in1 (Builtin.Dict.pairItems (.ref rows[i].a)) _ _ _
  unfold Builtin.Dict.pairItems
  refine wpAny_bind (wpAny_typeOf (T := "tuple") ⟨_,k1 _ _ n2 e1,e2⟩ ?_)
  rw[if_pos (by decide)]
  refine wpAny_bind (wpAny_seqItems (k1 _ _ n2 e1) e3 (wpAny_pure ?_))
  show wpAny _ A.in1 (holding [rows[i].key,rows[i].val] (dictSet d rows[i].key rows[i].val)) _ _ _
  have nk:rows[i].k∉((rows.take i).map λr=>(r.k,r.val)).map (·.1):=by
   rw[Zm]
   intro q
   obtain⟨r,aH,dw⟩:=Qj.mp q
   obtain⟨j,hj,ej⟩:=Zo aH
   rw[Zg]at hj
   rw[Ug]at ej
   have nr:j<rows.length:=by lia
   have:(rows.map (·.k))[j]'(by simpa using nr)=(rows.map (·.k))[i]'(by simpa using lt):=by
    rw[Zs,Zs,ej];exact dw
   have:=(Yv nd).mp this
   lia
  refine wpAny_holding (wpAny_dictSet_pairs (knd:=knd) e4 nv (λg2 hd2 sb2=>?_) (by rw[Qa,Zg];lia))
  rw[stored_new nk]at hd2
  have lM:g2.DictOf knd d ((rows.take (i+1)).map λr=>(r.k,r.val)):=by
   rw[Ql lt,Qt];exact hd2
  have k2:∀b o,b≠d→b≠I→s.heap.get? b=some o→g2.get? b=some o:=λb o fQ dq e=>(sb2.2 b fQ).trans (k1 b o dq e)
  have hc:((i:Int)+1)=((i+1:Nat):Int):=by push_cast;rfl
  refine wpAny_pure ⟨plainId_quiet zc8 _,?_⟩
  rw[hc]
  refine ih (i+1) _ (by lia) lt ?_ ?_ (λr fE=>?_) lM λg3 tk3 k3 rh=>?_
  ·obtain ⟨o,q,z⟩:=a8
   exact⟨o,(sb2.2 I (Zh rf)).trans q,z⟩
  ·obtain ⟨o,q,z⟩:=hl
   exact⟨o,k2 l o (Zh gw) hlI q,z⟩
  ·obtain ⟨q1,q2⟩:=hR r fE
   exact⟨k2 _ _ (hr r fE).1 (hr r fE).2 q1,q2⟩
  ·exact hQ g3 tk3 (λb o fQ dq e=>k3 b o fQ dq (k2 b o fQ dq e)) rh
def call{l:Nc}{rows:List (Row K)}{Q:Nb}{xk:Nat}(hh:A.handled=none)(hl:s.heap.get? l=some {cls:=.type "list",data:=.seq (rows.map λr=>Value.ref r.a).toArray xk})(hR:∀r∈rows,RowAt knd s.heap r)(nd:(rows.map (·.k)).Nodup)(hz:rows.length≤sizeLine)(h:∀g tk,g.DictOf knd s.heap.objs.size (rows.map λr=>(r.k,r.val))→(∀b o,s.heap.get? b=some o→g.get? b=some o)→Q (.ref s.heap.objs.size) {s with heap:=g,toks:=tk}) :
  wpAny (model prog w) A (call (.type "dict") [.ref l]) Q E s:=by
 refine callType_codes (Q₁:=λobj s₁=>obj=.ref s.heap.objs.size∧s₁={s with heap:=s.heap.push {cls:=.type "dict",data:=.dict #[]}}) PySem.F.kt_called_dict (PySem.F.kt_typeCall_dict_1 _) PySem.F.entry_dict_init (kt_code_dict_new _ ⟨rfl,rfl⟩) ?_
 rintro obj s₁ ⟨rfl,rfl⟩
 have c8:(s.heap.push {cls:=.type "dict",data:=.dict #[]}).DictOf knd s.heap.objs.size []:=Heap.DictOf.new s.heap
 refine⟨c8.typeIs,PySem.F.args_dict_init_2 _ _,?_⟩
 unfold Builtin.«dict.__init__»
 refine wpAny_bind ?_
 unfold Builtin.Dict.selfAndRest
 refine wpAny_bind (wpAny_notOrdered_dict c8.typeIs (show wpAny _ _ (pure (s.heap.objs.size,[Value.ref l])) _ _ _ from wpAny_pure ?_))
 show wpAny _ _ (Builtin.Dict.updateFrom "dict.__init__" s.heap.objs.size (.ref l) [] .none) _ _ _
 unfold Builtin.Dict.updateFrom
 have bA:(s.heap.push {cls:=.type "dict",data:=.dict #[]}).get? l=some {cls:=.type "list",data:=.seq (rows.map λr=>Value.ref r.a).toArray xk}:=Qg _ hl
 refine wpAny_bind (wpAny_typeOf (T := "list") ⟨_,bA,rfl⟩ ?_)
 rw[if_pos (by decide)]
 refine wpAny_bind (no_keys bA (by first | exact hh | (show A.handled=none;exact hh)) λg tk kg=>?_)
 simp only[Option.isNone_none,if_true]
 refine wpAny_bind (wpAny_rule ?_)
 have ltl:l<s.heap.objs.size:=Qs hl
 have dg:g.DictOf knd s.heap.objs.size []:=by
  obtain⟨o,es,ep,q,z⟩:=c8
  exact⟨o,es,ep,kg _ _ q,z⟩
 have hlg:g.IsList l (rows.map λr=>Value.ref r.a).toArray:=⟨_,kg _ _ bA,rfl,xk,rfl⟩
 have ltd:s.heap.objs.size<g.objs.size:=by
  obtain⟨o,es,ep,q,z⟩:=dg
  exact Qs q
 have lts:∀b o,s.heap.get? b=some o→b≠s.heap.objs.size∧b≠g.objs.size:=λb o e=>⟨Zi (Qs e),Zi (Yy (Qs e) ltd)⟩
 refine wpAny_bind (wpAny_pyIter_list (s:={s with heap:=g,toks:=tk}) hlg (wpAny_pure ⟨plainId_quiet zc8 _,?_⟩))
 refine loop (knd:=knd) (I:=g.objs.size) (l:=l) (by first | exact hh | (show A.handled=none;exact hh)) rows s.heap.objs.size (Zi ltd) (Yq ltl) (Zi (Yy ltl ltd)) (λr hr=>lts r.a r.o (hR r hr).1) nd hz _ 0 _ rfl (Zn _) ⟨_,Zb _ rfl,rfl,rfl⟩ ?_ (λr hr=>?_) ?_ λg2 tk2 k2 hd=>?_
 ·obtain ⟨o,q,z⟩:=hlg
  exact⟨o,Qg _ q,z⟩
 ·obtain ⟨q1,q2⟩:=hR r hr
  exact⟨Qg _ (kg _ _ (Qg _ q1)),q2⟩
 ·exact dg.push _
 ·exact⟨rfl,h g2 tk2 hd λb o e=>k2 b o (lts b o e).1 (lts b o e).2 (Qg _ (kg _ _ (Qg _ e)))⟩
end
end DictR
end
section
namespace L2
open PySem PySem.Spec PyProof.Rows
section
variable{X:Cx}
abbrev RowsAt(H:Hp):List Addr→List (Str×V)→Prop:=Paired λa p=>H a=some (.tup [.str p.1,p.2])
theorem rows_of(I:Inv X a5 σ H s):∀{as:Nl} {ps:List (Str×V)},RowsAt H as ps →
  ∃rows:List (DictR.Row Key),rows.map (·.a)=as∧(∀r∈rows,DictR.RowAt (zan X.prog X.w) s.heap r)∧rows.map (·.k)=ps.map (λp=>Sum.inr p.1)∧KV (ps.map λp=>((Sum.inr p.1:Key),p.2)) (rows.map λr=>(r.k,r.val))
 |_,_,.nil=>⟨[],rfl,λr hr=>(by cases hr),rfl,.nil⟩
 | a::as,p::ps,.cons h t=>by
  obtain⟨rows,e1,e2,e3,e4⟩:=rows_of I t
  obtain⟨_,a6,r,o,q,c,n,d⟩:=I.hok a _ h
  obtain⟨u,w',rfl,⟨tk,rfl⟩,rz⟩:=vals2 r
  refine⟨⟨a,o,Sum.inr p.1,.str p.1 tk,w',n⟩::rows,by rw[Qk,e1],λx hx=>?_,by rw[Qk,Qk,e3],.cons ⟨rfl,rz⟩ e4⟩
  rcases Qh.mp hx with z | z
  ·subst z
   exact⟨q,c,d,zft _ _ _ _⟩
  ·exact e2 x z
def zcf(hc:X.calm=true):zbz X (.type "dict") (fun xs H Q=>Ex3 fun (p:Nc) (as:Nl) (ps:List (Str×V))=>Aj5 (xs=[.ref p]) (H p=some (.lst (as.map V.ref))) (RowsAt H as ps) ((ps.map (·.1)).Nodup) (∀ l,H l=none→Q (.ref l) (upd H l (.dK (ps.map fun p=>((Sum.inr p.1:Key),p.2)))))):=by
 intro a5 s σ H xs us Q I r h
 obtain⟨p,as,ps,rfl,hp,hr,nd,q⟩:=h
 obtain⟨u,rfl,rx⟩:=vals1 r
 cases rx
 obtain⟨hz,a6,n,rv,hl,e⟩:=I.lstM hp
 obtain⟨rows,e1,e2,e3,e4⟩:=rows_of I hr
 have eits:a6=rows.map λr=>Value.ref r.a:=by
  have dE:=e1
  clear hz hl e hp e4 e3 e2 hr e1 q
  induction rows generalizing as a6 with
  |nil=>subst dE;cases rv;rfl
  | cons r rs ih =>
   cases as with
   |nil=>cases dE
   | cons a as =>
    rw[Qk]at dE rv
    injection dE with h1 h2
    cases rv with
    |cons r1 r2 =>
     cases r1
     rw[Qk,h1,ih _ _ r2 h2]
 subst eits
 have a9:rows.length≤sizeLine:=by rw[Qa]at hz hl;rw[Qa]at hl;exact zdn ‹_› ‹_›
 have ndk:(rows.map (·.k)).Nodup:=by
  rw[e3,show(λp:Str×V=>(Sum.inr p.1:Key))=(Sum.inr:Str→Key)∘(λp:Str×V=>p.1) from rfl,←Zm]
  exact List.Pairwise.map _ (λa b z q=>z (Ww q)) nd
 refine DictR.call (knd:=zan X.prog X.w) (rows:=rows) (xk:=n) (I.ok.hd hc) e e2 ndk a9 λg tk hd k=>?_
 have nS:(s.heap.objs.size==sysModules)=false:=beq_eq_false_iff_ne.mpr (Yq I.big)
 refine⟨.ref _,_,I.laid (t':=tk) k (Qf _) (show zbg X.prog X.w _ g _ (.dK _) from⟨?_,nS,_,e4,hd⟩),rfl,q _ (I.hok.fresh (Qf _))⟩
 have:=Zz e4
 rw[Qa,Qa]at this
 rw[Qa];omega
end
def zhn{prog:Nj}{w:Nk}{A:Nn}{s:Nh}{kx vx target iter:Expr}{ifs:Np}{scope:Scope}{pos:Pos}{it:Value}{D:Nc}{env:Env}{R:Nv}(I:Nat→Shared→Prop)(turn:∀ n s,I n s→wpAny (model prog w) A (pyNext it) (fun r s₁=>match r with
   |none=>R (.ok .next) s₁
   | some v=>wpAny (model prog w) A (letOwnedTupleGo target it v) (fun _ s₁'=>wpAny (model prog w) A (assign target env v) (fun _ s₂ =>
     wpAny (model prog w) A (forIn ifs true λc r=>if r=true then do let ok ←isTrue c env (eval c env);pure (ForInStep.yield ok) else pure (ForInStep.yield r)) (λok s₃ =>
      if ok=true then wpAny (model prog w) A (eval kx env) (λkv s₄=>wpAny (model prog w) A (eval vx env) (λvv s₅ =>
       wpAny (model prog w) A (dictSet D kv vv) (λ_ s₆=>∃m,m<n∧I m s₆) (λ_ _=>False) s₅) (λ_ _=>False) s₄) (λ_ _=>False) s₃
      else ∃m,m<n∧I m s₃) (λ_ _=>False) s₂) (λ_ _=>False) s₁') (λ_ _=>False) s₁) (λ_ _=>False) s)(n:Nat)(h:I n s):codeAny (model prog w) A (.compLoop (.DictComp kx vx [⟨target,iter,ifs,0⟩] scope pos) 0 it (.ref D) env) R s:=by
 refine codeAny_loop rfl I (λn s hI=>?_) n h
 show wpAny _ A ((compTurn (.DictComp kx vx [⟨target,iter,ifs,0⟩] scope pos) 0 it (.ref D) env).onRaise (λx=>do noteFrame x env;theTreesLotGoes x)) _ _ s
 refine wpAny_noted ?_
 rw[compTurn_dict]
 refine wpAny_bind (wpAny_standAt (wpAny_bind (wpAny_mono (turn n s hI) (λr s₁ h₁=>?_) λ_ _ h'=>h'.elim)))
 cases r with
 |none=>exact wpAny_pure h₁
 | some v =>
  refine wpAny_bind (wpAny_mono h₁ (λ_ s₁' h₁'=>?_) λ_ _ h'=>h'.elim)
  refine wpAny_bind (wpAny_mono h₁' (λ_ s₂ h₂=>wpAny_bind (wpAny_mono h₂ (λok s₃ h₃=>?_) λ_ _ h'=>h'.elim)) λ_ _ h'=>h'.elim)
  cases ok with
  |false=>exact wpAny_pure ⟨rfl,h₃⟩
  |true =>
   exact wpAny_bind (wpAny_bind (wpAny_mono h₃ (λkv s₄ h₄=>wpAny_bind (wpAny_holding (wpAny_mono h₄ (λvv s₅ h₅=>wpAny_bind (wpAny_standAt (wpAny_holding (wpAny_mono h₅ (λ_ s₆ h₆=>wpAny_pure ⟨rfl,h₆⟩) λ_ _ h'=>h'.elim)))) λ_ _ h'=>h'.elim))) λ_ _ h'=>h'.elim))
section
variable{X:Cx}{sc:Scope}{M:Ng}{ix:Nr}{a5:Nd}{σ:St}{H:Hp}{s:Nh}
def rDC(g:TG)(tc:TT)(tk tv:TE)(Q:VK)(J:It)(τ:St)(H1:Hp):Prop:=∃W:Nat→Nat→List (Key×V)→St→Hp→Prop,(∃m,W 0 m [] τ H1)∧∀i m ys τ H,W i m ys τ H →
 (J.stop i H∧∀D,H D=none→Q (.ref D) (upd H D (.dK ys))) ∨
 (J.go i H∧ys.length<sizeLine∧∀x H',J.yld i H x H'→g x τ H' λ τ2 H2=>tc τ2 H2 λb H3=>if b=true then tk τ2 H3 λkv H4=>tv τ2 H4 λy H5=>∃k,kv=kV k∧∃m',m'<m∧W (i+1) m' (putK ys k y) τ2 H5 else ∃m',m'<m∧W (i+1) m' ys τ2 H3)
def tDC(ix:Nr)(wi:TI)(g:TG)(tc:TT)(tk tv:TE):TE:=λ σ H Q=>wi σ H λJ H1=>rDC g tc tk tv Q J (inner ix σ) H1
def dc_block{tg kx vx iter:Expr}{ifs:Np}{pos:Pos}{g:TG}{tc:TT}{tk tv:TE}{fp:Nl}{it:Nc}{tn:Nat→Heap→Prop}{J:It}{Q:VK}{RR:Value→Addr→Result→Shared→Prop}{E:Nb}(B:Blk X sc M ix)(hc:X.calm=true)(hg:∀C ex s H,PG (zcs X sc M C a5 ex s H) tg g)(ht:∀C ex s H,PTs (zcs X sc M C a5 ex s H) ifs tc)(hk:∀C ex s H,PE (zcs X sc M C a5 ex s H) kx tk)(he:∀C ex s H,PE (zcs X sc M C a5 ex s H) vx tv)(I:Inv X a5 σ H s)(T:Turn X.prog X.w X.K tg J fp it tn)(h0:tn 0 s.heap)(hf:∀b∈fp,FpOk X a5 H b)(q:rDC g tc tk tv Q J (inner ix σ) H)(lW:∀D C m ys H' s',Inv X a5 σ (upd H' D (.dK ys)) s'→Q (.ref D) (upd H' D (.dK ys))→s'.heap.Ns C m→upd H' D (.dK ys) C=none→s.heap.objs.size<C→RR (.ref D) C (.ok .next) s') :
  wpAny (model X.prog X.w) X.A newDict (λae s₃=>wpAny (model X.prog X.w) X.A (newFunctionEnv sc X.env.globals (clOf sc X.env) [] X.env.qual none .none (some X.env)) (λcenv s₄ =>
   codeAny (model X.prog X.w) X.A (.compStart (.DictComp kx vx [⟨tg,iter,ifs,0⟩] sc pos) 0 (.ref it) ae {cenv with scope:=relabel sc X.env}) (RR ae cenv.locals) s₄) E s₃) E s:=by
 refine wpAny_newObj_type (wpAny_newFunctionEnv B.nocell (by intro y hy;simp at hy) (λh₁ hns₁ hsb₁=>?_) B.kind)
 dsimp only at hns₁ hsb₁ ⊢
 generalize hD:s.heap.objs.size=D at hns₁ hsb₁ ⊢
 generalize hJ:s.heap.push {cls:=.type "dict",dict:=none,data:=.dict #[]}=g2 at hns₁ hsb₁ ⊢
 have hC:g2.objs.size=D+1:=by rw[←hJ,Wz,hD]
 have k2:∀b o,s.heap.get? b=some o→g2.get? b=some o:=λb o e=>by rw[←hJ];exact Qg _ e
 have I3:Inv X a5 σ H {s with heap:=g2}:=I.kept (t':=s.toks) k2
 have HD:H D=none:=I.hok.fresh (by rw[hD];exact Qf _)
 have fD:FpOk X a5 H D:=I.fpOk (by rw[hD];exact Qf _) HD
 have D2:g2.get? D=some {cls:=.type "dict",dict:=none,data:=.dict #[]}:=by rw[←hJ,←hD];exact Zb _ rfl
 have nS:(D==sysModules)=false:=beq_eq_false_iff_ne.mpr (by rw[←hD];exact Yq I.big)
 have k1:∀b o,g2.get? b=some o→h₁.get? b=some o:=λb o e=>by
  have hb:b≠g2.objs.size:=Zi (Qs e)
  exact(hsb₁.2 b hb).trans (Qg _ e)
 have DN:h₁.DictOf (zan X.prog X.w) D []:=by
  have q:g2.DictOf (zan X.prog X.w) D []:=by rw[←hJ,←hD];exact Heap.DictOf.new s.heap
  obtain⟨o,es,ep,e,r⟩:=q
  exact⟨o,es,ep,k1 _ _ e,r⟩
 have fpx:∀b∈D::fp,FpOk X a5 H b:=λb hb=>by
  rcases Qh.mp hb with e | e
  ·rw[e];exact fD
  ·exact hf b e
 have fplt:∀b∈D::fp,b<g2.objs.size:=λb hb=>by
  rcases Qh.mp hb with e | e
  ·rw[e,hC];exact Ym _
  ·obtain ⟨o,q,_⟩:=T.obj _ _ h0 b e
   exact Qs (k2 b o q)
 have fpD:D∉fp:=λhm=>by
  obtain⟨o,q,_⟩:=T.obj _ _ h0 D hm
  have:=Qs q
  rw[hD]at this
  exact Yc _ this
 generalize au:zcs X sc M g2.objs.size a5 (D::fp) {s with heap:=g2} H=Y
 have IY:Inv Y [] (inner ix σ) H {s with heap:=h₁,toks:=s.toks+([]:List (Str×Value)).length}:=by
  rw[←au]
  exact inv_blk B I3 fpx fplt rfl hns₁ k1 rfl rfl
 have Yg:=au▸hg g2.objs.size (D::fp) {s with heap:=g2} H
 have Yt:=au▸ht g2.objs.size (D::fp) {s with heap:=g2} H
 have Yk:=au▸hk g2.objs.size (D::fp) {s with heap:=g2} H
 have Ye:=au▸he g2.objs.size (D::fp) {s with heap:=g2} H
 have eP:Y.prog=X.prog:=by rw[←au];rfl
 have eW:Y.w=X.w:=by rw[←au];rfl
 have eK:Y.K=X.K:=by rw[←au];rfl
 have eA:Y.A=X.A:=by rw[←au];rfl
 have eC:Y.calm=true:=by rw[←au];exact hc
 have eE:Y.env=compEnvC sc (clOf sc X.env) g2.objs.size X.env:=by rw[←au];rfl
 have eX:Y.xe=λ_ _=>False:=by rw[←au];rfl
 have eEx:Y.ex=D::fp:=by rw[←au];rfl
 have eFs:Y.fs=frs X.stack:=by rw[←au];rfl
 have ePn:Y.pn=X.pn++a5:=by rw[←au];rfl
 have eL:Y.env.locals=g2.objs.size:=by rw[eE];rfl
 have rP:Y.H₀=H:=by rw[←au];rfl
 have mf:Y.s₀={s with heap:=g2}:=by rw[←au];rfl
 have fY:∀{H':Hp} {pl:Nd} {b:Nc},b∈D::fp→H' b=none→(∀p∈pl,p.1≠b)→FpOk Y pl H' b:=λ{H' pl b} hb hn hp=>by
  obtain⟨f0,f1,f2,f3,f4,f5⟩:=fpx b hb
  refine⟨hn,?_,?_,.inl (by rw[eEx];exact hb),IY.ok.exf b (by rw[eEx];exact hb) |>.2,λp c7=>?_⟩
  ·rw[eL];exact Zi (fplt b hb)
  ·rw [eFs]
   intro z
   rcases Qh.mp (I3.stkSub b z) with q | q
   ·exact f1 q
   ·exact f2 q
  ·rw [ePn] at c7
   rcases Qd.mp c7 with z | z
   ·exact f5 p z
   ·exact hp p z
 obtain⟨W,⟨m0,w0⟩,turn⟩:=q
 have loop:∀ sN:Shared,sN={ s with heap:=h₁,toks:=s.toks+([]:List (Str×Value)).length } →
   codeAny (model X.prog X.w) X.A (.compLoop (.DictComp kx vx [⟨tg,iter,ifs,0⟩] sc pos) 0 (.ref it) (.ref D) (compEnvC sc (clOf sc X.env) g2.objs.size X.env)) (RR (.ref D) g2.objs.size) sN:=by
  rintro sN rfl
  refine zhn (λn s'=>Ex5 λi τ H' ys vs=>Aj7 (Inv Y [] τ H' s') (tn i s'.heap) (∀b∈D::fp,H' b=none) (s'.heap.DictOf (zan X.prog X.w) D vs) (KV ys vs) (ys.length≤sizeLine) (W i n ys τ H')) ?_ m0
   ⟨0,inner ix σ,H,[],[],IY,T.keep _ _ _ h0 λb _ o e=>k1 b o (k2 b o e),λb hb=>(fpx b hb).1,DN,.nil,Zn _,w0⟩
  rintro n s5 ⟨i,τ,H5,ys,vs,I5,t5,n5,dd5,v5,z5,w5⟩
  obtain⟨o5,jv,rO,d5,nX⟩:=id dd5
  have nc5:∀v,o5.data≠.cell v:=λv z=>by
   obtain⟨_,q,_⟩:=nX
   rw[q]at z;cases z
  have oD:∀b∈[D],∃o,s5.heap.get? b=some o∧∀v,o.data≠.cell v:=λb hb=>by
   rw[Qb.mp hb]
   exact⟨_,d5,nc5⟩
  have jx:Inv Y ([]++zcb [D] s5.heap) τ H5 s5:=I5.pinned (λb hb=>fY (by rw[Qb.mp hb];exact Qe) (n5 b (by rw[Qb.mp hb];exact Qe)) (by simp)) oD
  have pD:∀p∈zcb [D] s5.heap,p.1=D∧p.2=o5:=λp hp=>by
   obtain⟨e1,e2⟩:=zfn hp
   have dE:p.1=D:=Qb.mp e1
   rw[dE,d5]at e2
   exact⟨dE,(Qr e2).symm⟩
  have fN:∀{H':Hp},(∀b∈fp,H' b=none)→∀b∈fp,FpOk Y ([]++zcb [D] s5.heap) H' b:=λhn b hb=>fY (Qi _ hb) (hn b hb) λp hp z=>by
   rw[Ue]at hp
   rw[(pD p hp).1]at z
   exact fpD (z▸hb)
  rcases turn i n ys τ H5 w5 with⟨stop,qn⟩ | ⟨go,zl,step⟩
  ·have h6:=T.done Y eP eW eK eC i _ s5 τ H5 (fun _ _=>False) jx (fN fun b hb=>n5 b (Qi _ hb)) t5 stop
   rw[eA]at h6
   refine thn h6 λr s6 ⟨hr,I6⟩=>?_
   subst hr
   have d6:s6.heap.get? D=some o5:=by
    have hp:=zbl (fp:=[D]) (Qb.mpr rfl) d5
    exact(I6.pin (D,_) (Qn _ hp)).1
   have H5D:H5 D=none:=n5 D Qe
   obtain⟨mL,nL,_⟩:=I6.loc
   rw[eL]at nL
   have CD:g2.objs.size≠D:=by rw[hC];exact Nat.succ_ne_self _
   refine lW D _ mL ys H5 s6 ?_ (qn D H5D) nL ?_ (by rw[hC,hD];exact Ym _)
   ·have u6:=I6.base
    rw[eFs,eEx,rP,mf]at u6
    refine I3.call' (ch:=D::fp) (I6.os.trans (by rw[mf])) ⟨u6.keep,u6.slot,λb o e n hx=>?_,u6.there,λb xs e=>?_,λb o u e=>?_,λb ps e=>?_⟩ ?_ I6.bare λb hb=>?_
    ·rw[zad (λz=>hx (by rw[z];exact Qe))];exact u6.free b o e n hx
    ·rw[zad (zab e HD)];exact u6.tups b xs e
    ·rw[zad (zab e HD)];exact u6.frzs b o u e
    ·rw[zad (zab e HD)];exact u6.tbls b ps e
    ·have kj:=I6.hok
     rw[eP,eW]at kj
     intro b u e
     by_cases hb:b=D
     ·subst hb
      rw[zac]at e
      cases e
      exact⟨z5,nS,vs,v5,o5,jv,rO,d6,nX⟩
     ·rw [zad hb] at e
      exact(kj b u e).stay (λc v _ q=>q) (λc q=>by rw[zad (zab q H5D)];exact q) λc xs q=>by rw[zad (zab q H5D)];exact q
    ·obtain ⟨f0,f1,f2,f3,f4,f5⟩:=fpx b hb
     exact⟨f3,f1,f4,f5⟩
   ·rw [zad CD]
    have:=I6.free
    rw[eL]at this
    exact this
  ·have h6:=T.item Y eP eW eK eC i _ s5 τ H5 (fun _ _=>False) jx (fN fun b hb=>n5 b (Qi _ hb)) t5 go
   rw[eA]at h6
   refine thn h6 λr s6 ⟨u,hr,h7⟩=>?_
   subst hr
   refine thn h7 λ_ s7 ⟨x,H7,I7,r7,y7,t7,n7⟩=>?_
   have sx:=I7.pinned (fN n7) (T.obj _ _ t7)
   have h8:=Yg _ s7 τ H7 x u _ sx r7 (step x H7 y7)
   rw[eP,eW,eA,eX,eE]at h8
   refine thn h8 λ_ s8 ⟨τ8,H8,I8,q8⟩=>?_
   have h9:=Yt _ s8 τ8 H8 _ I8 q8
   rw[eP,eW,eA,eX,eE]at h9
   refine thn h9 λok s9 ⟨H9,I9,q9⟩=>?_
   have again:∀{τ':St} {H':Hp} {s':Nh},Inv Y (([]++zcb [D] s5.heap)++zcb fp s7.heap) τ' H' s'→s'.heap.get? D=some o5∧H' D=none∧tn (i+1) s'.heap∧∀b∈fp,H' b=none:=λ{τ' H' s'} I'=>by
    have pp:∀{b:Nc} {o:Obj},b∈fp→s7.heap.get? b=some o→s'.heap.get? b=some o∧H' b=none:=λ{b o} hb e =>
     let z:=I'.pin (b,o) (Qn _ (Qn _ (zbl hb e)))
     ⟨z.1,z.2.1⟩
    have hp:=zbl (fp:=[D]) (Qb.mpr rfl) d5
    have z:=I'.pin (D,_) (Qn _ (Qo _ hp))
    refine⟨z.1,z.2.1,T.keep _ _ _ t7 λb hb o e=>(pp hb e).1,λb hb=>?_⟩
    obtain⟨o,e,_⟩:=T.obj _ _ t7 b hb
    exact(pp hb e).2
   have drop:∀{pl:Nd} {τ':St} {H':Hp} {s':Nh},Inv Y pl τ' H' s'→Inv Y [] τ' H' s':=λI'=>I'.pins_of (by simp)
   cases ok with
   |false =>
    rw[if_neg (by decide)]at q9 ⊢
    obtain⟨m',hm,w9⟩:=q9
    obtain⟨d9,H9D,t9,n9⟩:=again I9
    exact⟨m',hm,i+1,τ8,H9,ys,vs,drop I9,t9,λb hb=>(Qh.mp hb).elim (λe=>e▸H9D) (n9 b),⟨o5,jv,rO,d9,nX⟩,v5,z5,w9⟩
   | true =>
    rw[if_pos rfl]at q9 ⊢
    have ju:=Yk _ s9 τ8 H9 _ I9 q9
    rw[eP,eW,eA,eX,eE]at ju
    refine thn ju λkv hX ⟨kw,jy,o8,mr,q10⟩=>?_
    have rN:=Ye _ hX τ8 jy _ o8 q10
    rw[eP,eW,eA,eX,eE]at rN
    refine thn rN λy og ⟨yv,H11,o7,r11,kk,ek,m',hm,w11⟩=>?_
    subst ek
    obtain⟨d11,H11D,t11,n11⟩:=again o7
    have rS:og.heap.DictOf (zan X.prog X.w) D vs:=⟨o5,jv,rO,d11,nX⟩
    have iS:(zan X.prog X.w).is kk kv=true:=by
     cases kk with
     |inl i=>obtain⟨t,rfl⟩:=mr;exact keyIs_int i t
     |inr x=>obtain⟨t,rfl⟩:=mr;exact keyIs_str x t
    refine wpAny_dictSet_pairs (knd:=zan X.prog X.w) iS rS (λh' fO sb=>?_) (by rw[←Zz v5];assumption)
    have kkp:∀b o,b≠D→og.heap.get? b=some o→h'.get? b=some o:=λb o hb e=>(sb.2 b hb).trans e
    obtain⟨g0,g1,g2',g3,g4,g5⟩:=fY (pl:=[]) (H':=H11) (b:=D) Qe H11D (by simp)
    have I12:=(drop o7).turned (h':=h') (t':=og.toks+1) (it:=D) kkp H11D g1 g3 g4 g5
    refine⟨m',hm,i+1,τ8,H11,putK ys kk yv,stored vs kk y,I12,T.keep _ _ _ t11 λb hb o e=>kkp b o (λz=>fpD (z▸hb)) e,λb hb=>(Qh.mp hb).elim (λe=>e▸H11D) (n11 b),fO,v5.put kk r11,?_,w11⟩
    unfold putK
    split
    ·rw[Qa];exact z5
    ·rw[Qp,Xc];assumption
 exact codeAny_compStart_dict (loop _ rfl) (T.self _ 0 _ _ _ (T.keep _ _ _ h0 λb _ o e=>k1 b o (k2 b o e)) (loop _ rfl))
def ps_dc(hN:X.N.Nodup)(eI:X.N[i]?=some y)(hy:X.env.scope.names.lookup y=some .local)(B:Blk X sc M ix)(hc:X.calm=true)(hi:PI X tg iter wi)(hg:∀C a5 ex s H,PG (zcs X sc M C a5 ex s H) tg g)(ht:∀C a5 ex s H,PTs (zcs X sc M C a5 ex s H) ifs tc)(hk:∀C a5 ex s H,PE (zcs X sc M C a5 ex s H) kx tk)(he:∀C a5 ex s H,PE (zcs X sc M C a5 ex s H) vx tv)(pf:swapsWith (.DictComp kx vx [⟨tg,iter,ifs,0⟩] sc pos) (some (.Name y py)) spos.line X.env=pure true)(hs:∀x,foldedSetIterable iter X.env x=pure x:=by intro _;rfl):PS X (.Assign [.Name y py] (.DictComp kx vx [⟨tg,iter,ifs,0⟩] sc pos) spos) (tAsg (tDC ix wi g tc tk tv) (gName i)):=by
 intro a5 s σ H D' I h
 rw[exec_Assign_Name_used _ _ _ _ pf]
 refine wpAny_bind (wpAny_standAt (wpAny_bind ?_))
 show wpAny _ X.A (do let _ ←comprehension (.DictComp kx vx [⟨tg,iter,ifs,0⟩] sc pos) sc X.env _ newDict false (eval iter X.env) (some (assign (.Name y py) X.env))) _ _ s
 refine wpAny_bind (wpAny_mono (wpAny_comprehension_free (use:=some (assign (.Name y py) X.env)) (Q:=λ_ s'=>SP X a5 D' .next s') rfl hs (zb6 (B.clos I)) B.kind B.names
  (thn (hi a5 s σ H _ I h) λv s1 h1=>thn h1 λitv s2 h2=>?_)) (λ_ s' hq=>wpAny_pure (wpAny_pure hq)) λ_ _ e=>e)
 obtain⟨it,fp,tn,J,H2,e,I2,T,bh,f2,q⟩:=h2
 subst e
 refine dc_block (RR:=λae C=>compPost (model X.prog X.w) X.A X.xe (some (assign (.Name y py) X.env)) (λ_ s'=>SP X a5 D' .next s') ae C) B hc (hg · a5) (ht · a5) (hk · a5) (he · a5) I2 T bh f2 q ?_
 intro D C m ys H' s' I' q' hn hC aa
 show wpAny _ X.A (assign (.Name y py) X.env (.ref D)) _ _ s'
 refine wpAny_assign_Name (zfd I' hN eI (.inl hy) (v:=.ref D) rfl (λke sA ⟨a,sb,ha⟩=>?_) (.inr hy))
 have aC:C≠a:=by
  rcases ha with z | z
  ·rw[z];exact Yq (Yy I2.lt aa)
  ·exact Yq (Yy (I2.cl_lt _ _ z) aa)
 have bK:=hn.sameBut sb aC
 exact⟨m,bK,λh' cq=>⟨_,_,sA.letgo bK hC I2.lt I2.cl_lt I2.pin_lt I2.sz aa cq,q'⟩⟩
end
section
variable{prog:Nj}{w:Nk}{A:Nn}{s:Nh}{elt tg1 it1 target iter:Expr}{ifs:Np}{scope:Scope}{pos:Pos}{it ae:Value}{env:Env}{R:Nv}
end
section
variable{X:Cx}{sc:Scope}{M:Ng}{ix:Nr}{a5:Nd}{σ:St}{H:Hp}{s:Nh}
end
end L2
end
section
namespace RawD
open PySem PyProof.Rows PySem.W
def At(h:Nm)(a:Nc)(es:Array DictEntry)(ep:Nat):Prop:=∃o,h.get? a=some o∧o.ExactDict∧o.data=.dict es ep
def At.typeIs{s:Nh}{a:Nc}{es:Array DictEntry}{ep:Nat}(x:At s.heap a es ep):s.TypeIs (.ref a) "dict" := let⟨o,e,c,_⟩:=x;⟨o,e,c.1⟩
def At.keep{h g:Nm}{a:Nc}{es:Array DictEntry}{ep:Nat}(x:At h a es ep)(k:∀o,h.get? a=some o→g.get? a=some o):At g a es ep:=let⟨o,e,r⟩:=x;⟨o,k _ e,r⟩
section
variable{prog:Nj}{w:Nk}{A:Nn}{E:Nb}{s:Nh}{d:Nc}{es:Array DictEntry}{ep:Nat}
def iter{Q:Nb}(nS:(d==sysModules)=false)(m:At s.heap d es ep)(q:Q (.ref s.heap.objs.size) {s with heap:=s.heap.push {cls:=.type "dict_keyiterator",data:=.fields #[.ref d,.int 0 0,.int es.size 0,.int ep 0]}}):wpAny (model prog w) A (pyIter (.ref d)) Q E s:=by
 obtain⟨o,ho,hc,hd⟩:=id m
 refine wpAny_pyIter_slot m.typeIs F.slot_dict_iter (wpAny_call_entry F.slot_dict_iter m.typeIs F.entry_dict_iter ?_ (F.args_dict_iter_1 _))
 unfold Builtin.«dict.__iter__»
 refine wpAny_bind ?_
 unfold Builtin.Dict.dictSlotNone
 refine wpAny_bind (wpAny_notOrdered_dict m.typeIs (show wpAny _ _ (pure (Value.ref d)) _ _ s from wpAny_pure ?_))
 show wpAny _ _ (Builtin.Dict.showsAll d >>= _) _ _ s
 unfold Builtin.Dict.showsAll
 rw[if_neg (by rw[nS];exact Za)]
 refine wpAny_bind (wpAny_pure (wpAny_bind (wpAny_dictEntries ho hd (wpAny_bind (wpAny_dictEpoch ho hd ?_)))))
 refine wpAny_bind (wpAny_newObj_type (wpAny_pure ⟨_,rfl, "dict_keyiterator",_,⟨_,Zb _ rfl,rfl⟩,Wn.lookup,?_⟩))
 simpa[rawInt] using q
def item{j:Nc}{i:Nat}{Q:Option Value→Shared→Prop}(st:s.heap.IsKeyIter j d i es.size ep)(m:At s.heap d es ep)(hi:i<es.size)(hQ:∀g,g.IsKeyIter j d (i+1) es.size ep→Heap.SameBut j s.heap g→Q (some es[i].key) {s with heap:=g}):wpAny (model prog w) A (pyNext (.ref j)) Q E s:=by
 obtain⟨o,ho,hc,hd⟩:=id st
 obtain⟨od,kY,aF,jd⟩:=id m
 unfold pyNext
 refine wpAny_bind (wpAny_attempt (wpAny_callSpecial?_slot (name:=Str.ofString "__next__") st.typeIs Wn (wpAny_call_entry Wn st.typeIs F.entry_dict_keyiterator_next ?_ (F.args_dict_keyiterator_next_1 _))))
 refine wpAny_bind (wpAny_pure (wpAny_bind (wpAny_bind ?_)))
 first | refine wpAny_bind (wpAny_typeNameOfWhole_keyiter st.typeIs (wpAny_pure ?_)) | refine wpAny_bind (wpAny_typeNameOf_keyiter st.typeIs (wpAny_pure ?_))
 refine wpAny_bind (wpAny_fieldsOf ho hd ?_)
 have iJ:Builtin.Dict_items.ownsTuple "dict_keyiterator" = false:=by decide
 simp only[iJ,Jx,if_false]
 show wpAny _ _ (if(Value.ref d==.none)=true then _ else _) _ _ s
 rw[if_neg (show ¬((Value.ref d==.none)=true) from Za)]
 refine wpAny_bind (wpAny_pure (wpAny_bind (wpAny_dictEntries kY jd ?_)))
 rw[if_neg (by simp)]
 refine wpAny_bind (wpAny_pure (wpAny_bind (wpAny_dictEpoch kY jd ?_)))
 rw[if_neg (by simp)]
 refine wpAny_pure ?_
 simp only[show ¬((i:Int)<0) from by lia,if_false,Uh,Kc hi]
 refine wpAny_bind ?_
 first | refine wpAny_bind (wpAny_typeNameOfWhole_keyiter st.typeIs (wpAny_pure ?_)) | refine wpAny_bind (wpAny_typeNameOf_keyiter st.typeIs (wpAny_pure ?_))
 refine wpAny_bind (wpAny_isOneOf_keyiter st.typeIs ?_)
 show wpAny _ _ (setField (.ref j) 1 (rawInt ((i:Int)+1)) >>= _) _ _ s
 refine wpAny_bind (wpAny_setField ho hd (by simp) ?_)
 have a8:(s.heap.update j (Obj.mapFields (·.setIfInBounds 1 (rawInt ((i:Int)+1))))).IsKeyIter j d (i+1) es.size ep :=
  ⟨_,Heap.get?_update_self _ ho (Obj.isFreed_of_fields (Ko hd _)),(Obj.cls_mapFields ..).trans hc,by rw[Ko hd];simp[rawInt]⟩
 refine wpAny_bind (wpAny_holding (wpAny_bind (wpAny_isOneOf_keyiter (s:={s with heap:=s.heap.update j (Obj.mapFields (·.setIfInBounds 1 (rawInt ((i:Int)+1))))}) a8.typeIs ?_)))
 show wpAny _ _ (pure es[i].key) _ _ _
 exact wpAny_pure (wpAny_pure ⟨_,rfl,wpAny_pure (hQ _ a8 (Kj ..))⟩)
def done{j:Nc}{i:Nat}{Q:Option Value→Shared→Prop}(hh:A.handled=none)(st:s.heap.IsKeyIter j d i es.size ep)(m:At s.heap d es ep)(hi:es.size≤i)(hQ:∀g,Heap.ExtBut j s.heap g→Q none {s with heap:=g}):wpAny (model prog w) A (pyNext (.ref j)) Q E s:=by
 obtain⟨o,ho,hc,hd⟩:=id st
 obtain⟨od,kY,aF,jd⟩:=id m
 unfold pyNext
 refine wpAny_bind (wpAny_attempt (wpAny_callSpecial?_slot (name:=Str.ofString "__next__") st.typeIs Wn (wpAny_call_entry Wn st.typeIs F.entry_dict_keyiterator_next ?_ (F.args_dict_keyiterator_next_1 _))))
 refine wpAny_bind (wpAny_pure (wpAny_bind (wpAny_bind ?_)))
 first | refine wpAny_bind (wpAny_typeNameOfWhole_keyiter st.typeIs (wpAny_pure ?_)) | refine wpAny_bind (wpAny_typeNameOf_keyiter st.typeIs (wpAny_pure ?_))
 refine wpAny_bind (wpAny_fieldsOf ho hd ?_)
 have iJ:Builtin.Dict_items.ownsTuple "dict_keyiterator" = false:=by decide
 simp only[iJ,Jx,if_false]
 show wpAny _ _ (if(Value.ref d==.none)=true then _ else _) _ _ s
 rw[if_neg (show ¬((Value.ref d==.none)=true) from Za)]
 refine wpAny_bind (wpAny_pure (wpAny_bind (wpAny_dictEntries kY jd ?_)))
 rw[if_neg (by simp)]
 refine wpAny_bind (wpAny_pure (wpAny_bind (wpAny_dictEpoch kY jd ?_)))
 rw[if_neg (by simp)]
 refine wpAny_pure ?_
 simp only[show ¬((i:Int)<0) from by lia,if_false,Uh,Array.getElem?_eq_none hi]
 refine wpAny_bind ?_
 first | refine wpAny_bind (wpAny_typeNameOfWhole_keyiter st.typeIs (wpAny_pure ?_)) | refine wpAny_bind (wpAny_typeNameOf_keyiter st.typeIs (wpAny_pure ?_))
 show wpAny _ _ (setField (.ref j) 0 .none >>= _) _ _ s
 refine wpAny_bind (wpAny_setField ho hd (by simp) ?_)
 show wpAny _ _ (newExc (.type "StopIteration") [] >>= _) _ _ _
 refine wpAny_bind ?_
 simp only[newExc,newTuple]
 refine wpAny_bind (wpAny_newObj_type (wpAny_bind (m:=firstArgMember _ _) (wpAny_of_eq (a:=Value.none) (by first | rfl | (simp only[firstArgMember];rfl)) (wpAny_newObj_type ?_ (by size_fits)))) (by size_fits))
 simp only[raiseNew]
 refine wpAny_bind (wpAny_handled ?_)
 first | rw[show A.in1.handled=none from hh] | rw[hh]
 refine wpAny_bind (wpAny_pure (wpAny_throw ?_))
 refine wpAny_bind (wpAny_isInstance (T := "StopIteration") (b:=true) ⟨_,Zb _ rfl,rfl⟩ isSubtype_stop ?_)
 exact wpAny_pure (hQ _ (((Kj ..).extBut.push _).push _))
theorem src(nS:(d==sysModules)=false):KdlSrc prog w "dict" d d es.size (λi v=>∃e,es[i]?=some e∧v=e.key) (λh=>At h d es ep) where
 type:=λ_ m=>m.typeIs
 there:=λ_ m=>let⟨_,e,_⟩:=m;⟨Qs e,Qs e⟩
 keep:=λ_ _ m k=>m.keep λo e=>k d (.inl rfl) o e
 notList:=by decide
 notTuple:=by decide
 hint:=λ_ _ _ _ m q=>kdl_hint_dict m.typeIs q
 iter:=λA s hh m=>by
  have lt:d<s.heap.objs.size:=let⟨_,e,_⟩:=m;Qs e
  refine⟨_,λi h=>h.IsKeyIter s.heap.objs.size d i es.size ep∧At h d es ep,λ_ _ q=>iter nS m q,?_,⟨_,Zb _ rfl,rfl,rfl⟩,m.keep λo e=>Qg _ e⟩
  exact
   {sub:=fun b hb=>by simp at hb;simp [hb]
    frame:=λi h g st k=>⟨st.1.at λo e=>k _ (by simp) o e,st.2.keep λo e=>k d (by simp) o e⟩
    item:=λi s' Q E hi st hQ=>item st.1 st.2 hi λg a b=>hQ _ g s'.toks ⟨_,Kc hi,rfl⟩ ⟨a,st.2.keep λo e=>(b.2 d (Zi lt)).trans e⟩ λc o hc e=>(b.2 c (λz=>hc (by simp[z]))).trans e
    done:=λs' Q E st hQ=>done hh st.1 st.2 (Qf _) λg a=>hQ g s'.toks λc o hc e=>a c o (λz=>hc (by simp[z])) e
    self:=λ_ _ _ _ st q=>wpAny_pyIter_keyiter st.1 q}
end
end RawD
namespace L2
open PySem PySem.Spec PyProof.Rows Tm
def kP(q:Str×Str):List Key:=[Sum.inr q.1,Sum.inr q.2]
abbrev zc4(H:Hp):List Addr→List (Str×Str)→Prop:=Paired λb r=>H b=some (.tup [.str r.1,.str r.2])
section
variable{X:Cx}
def zdk{α β:Type}{R:α→β→Prop}{as bu:List α}(p:bu.Perm as):∀{bs:List β},Paired R as bs→∃fV,fV.Perm bs∧Paired R bu fV:=by
 induction p with
 |nil=>intro bs r;cases r;exact⟨[],.nil,.nil⟩
 | cons x q ih =>
  intro bs r
  cases r with
  |cons r1 r2 =>
   obtain⟨zs,h1,h2⟩:=ih r2
   exact⟨_::zs,h1.cons _,.cons r1 h2⟩
 | swap x y l =>
  intro bs r
  cases r with
  |cons r1 r2 =>
   cases r2 with
   |cons r3 r4=>exact⟨_,List.Perm.swap ..,.cons r3 (.cons r1 r4)⟩
 |trans _ _ ih1 ih2 =>
  intro bs r
  obtain⟨zs,h1,h2⟩:=ih2 r
  obtain⟨fk,h3,h4⟩:=ih1 h2
  exact⟨fk,h3.trans h1,h4⟩
def pairs_mem{H:Hp}{as:Nl}{qs:Nu}(r:zc4 H as qs){a:Nc}(ha:a∈as):∃r:Str×Str,H a=some (.tup [.str r.1,.str r.2]):=by
 induction r with
 |nil=>cases ha
 |cons h t ih =>
  rcases Qh.mp ha with zz | zz
  ·subst zz;exact⟨_,h⟩
  ·exact ih zz
def zf9(hc:X.calm=true):zbz X (.builtin "sorted") (fun xs H Q=>Ex3 fun (d:Nc) (kvs:List (List Key×V)) (qs:Nu)=>Aj4 (xs=[.ref d]) (H d=some (.dT kvs)) (kvs.map (·.1)=qs.map kP) (∀ (l:Nc) (as:Nl) (ws:Nu),H l=none→ws.Perm qs→zc4 H as ws→Q (.ref l) (upd H l (.lst (as.map V.ref))))):=by
 intro a5 s σ H xs us Q I r h
 obtain⟨d,kvs,qs,rfl,hq,ek,q⟩:=h
 obtain⟨u,rfl,rx⟩:=vals1 r
 cases rx
 obtain⟨z,lo,ts,rk,o,es,ep,e1,e2,e3,e4,e5⟩:=(show zbg X.prog X.w H s.heap d (.dT kvs) from I.hok d _ hq)
 have jw:RawD.At s.heap d es ep:=⟨o,e1,e2,e3⟩
 have a9:kvs.length=ts.length:=Zz rk
 have cg:es.size=ts.length:=by rw[←We,e4,Qa]
 have gR:zc4 H (ts.map λt=>t.2.1) qs:=by
  clear e4 e5 cg a9 jw z q hq
  induction rk generalizing qs with
  |nil =>
   cases qs with
   |nil=>exact .nil
   |cons a b=>cases ek
  | @cons p t ps ts' h1 t1 ih =>
   cases qs with
   |nil=>cases ek
   |cons a b =>
    rw[Qk,Qk]at ek
    injection ek with k1 k2
    refine .cons ?_ (ih _ k2)
    have:=h1.2.1
    rw[k1]at this
    exact this
 have kJ:∀ae:Array Value,ItemsOf (λi v=>∃e,es[i]?=some e∧v=e.key) ae es.size→ae.toList=(ts.map λt=>t.2.1).map Value.ref:=λae hi=>by
  apply List.ext_getElem?
  intro i
  rw[Qu,Qu]
  by_cases aa:i<es.size
  ·have qg:i < ae.size:=by rw [hi.1];exact aa
   have a1:ae[i]?=some ae[i]:=Kc qg
   obtain⟨e,h1,h2⟩:=hi.2 i _ a1
   rw[Wr,a1,h2]
   have h3:es.toList[i]?=some e:=by rw[Wr];exact h1
   rw[e4,Qu]at h3
   cases ht:ts[i]? with
   |none=>rw[ht]at h3;cases h3
   |some t =>
    rw[ht]at h3
    have h4:entryOfKey (tupleKind (zan X.prog X.w)) t=e:=Qr h3
    rw[←h4];rfl
  ·have a1:ae.toList[i]?=none:=by rw [Wr];exact Array.getElem?_eq_none (by rw [hi.1];lia)
   have a2:ts[i]?=none:=Wq (by lia)
   rw[a1,a2];rfl
 have hvr:∀as:List Addr,Vals (as.map V.ref) (as.map Value.ref):=λas=>by
  induction as with
  |nil=>exact .nil
  |cons a r ih=>exact .cons rfl ih
 refine zea (R:=λa6 ws=>a6.length<64→ws.Pairwise λx y=>(pairO strO strO).kle (kvP s.heap x) (kvP s.heap y)) (G:=λa6=>a6=(ts.map λt=>t.2.1).map Value.ref) (λE' R hR=>zf2 (RawD.src lo) (show X.A.in1.handled=none from I.ok.hd hc) jw (by lia) λg tk ae k le hi=>hR g tk _ k le (kJ ae hi))
  (λa6 e=>by rw[e,Qa,Qa];exact zdn ‹_› ‹_›) (λa6 e A' E' s' _ k=>?_) λa6 ws l g tk e r p1 p2 le k he=>?_
 ·have all:∀ v∈a6,∃ x y t,ze2 s.heap v x (.str y t):=fun v hv=>by
   rw[e]at hv
   obtain⟨a,ha,rfl⟩:=Qj.mp hv
   obtain⟨rr,fE⟩:∃r:Str×Str,H a=some (.tup [.str r.1,.str r.2]):=pairs_mem gR ha
   obtain⟨q',⟨t,rfl⟩,T⟩:=zgv I fE
   exact⟨_,_,t,T⟩
  refine zdp k (λv hv=>let⟨x,y,t,T⟩:=all v hv;⟨x,_,T⟩) λv hv u hu x p q T T'=>.inr ?_
  obtain⟨_,y,t,T1⟩:=all v hv
  obtain⟨_,y',t',T2⟩:=all u hu
  exact⟨y,t,y',t',(ze3 T T1).2,(ze3 T' T2).2⟩
 ·subst r
  obtain⟨as,rfl,p3⟩:∃as:List Addr,ws=as.map Value.ref∧as.Perm (ts.map λt=>t.2.1):=by
   have key:∀{ws:Ni} {bs:Nl},ws.Perm (bs.map Value.ref)→∃as:List Addr,ws=as.map Value.ref∧as.Perm bs:=λ{ws bs} pm=>by
    have a2:∃as:List Addr,ws=as.map Value.ref:=by
     have a1:∀v∈ws,∃a,v=Value.ref a:=λv hv=>by
      obtain⟨a,_,e⟩:=Qj.mp (pm.mem_iff.mp hv)
      exact⟨a,e.symm⟩
     clear pm
     induction ws with
     |nil=>exact⟨[],rfl⟩
     |cons v r ih =>
      obtain⟨as,e⟩:=ih λv hv=>a1 v (Qi _ hv)
      obtain⟨x,e2⟩:=a1 v Qe
      exact⟨x::as,by rw[e,e2];rfl⟩
    obtain⟨as,rfl⟩:=a2
    refine⟨as,rfl,?_⟩
    have:=pm.map (λv=>match v with | .ref a=>a | _=>0)
    rw[Zm,Zm]at this
    simpa[Function.comp_def] using this
   exact key p1
  obtain⟨qs',q1,q2⟩:=zdk p3 gR
  refine⟨.ref l,_,I.laid (t':=tk) k le (show zbg X.prog X.w _ g _ (.lst _) from⟨?_,as.map Value.ref,e,hvr as,he⟩),rfl,q l as qs' (I.hok.fresh le) q1 q2⟩
  rw[Qa,p3.length_eq,Qa];exact zdn ‹_› ‹_›
end
end L2
end
section
set_option Elab.async false
set_option linter.all false
namespace L2
open PySem PySem.Spec PyProof.Rows
def fsk{N P:Ng}{sc:Scope}(a:sc.kind=.function:=by rfl)(b:sc.isCoroutine=false:=by rfl)(c:sc.isGenerator=false:=by rfl)(d:N.Nodup:=by decide +kernel)(e:N.take P.length=P:=by rfl)(f:∀x∈P,sc.names.lookup x=some .local∨sc.names.lookup x=some .cell:=by decide +kernel)(g:∀y∈sc.names,y.2≠.free:=by decide +kernel):zao N P sc:=⟨a,b,c,d,e,f,g⟩
section
variable{X:Cx}
def zat(i:Nat){x:Str}{e:Expr}{te:TE}{pos aS:Pos}(hN:X.N.Nodup)(he:PE X e te)(hi:X.N[i]?=some x:=by rfl)(hx:Loc X.env.scope x:=by exact Or.inl rfl)(hs:swapsWith e (some (.Name x aS)) pos.line X.env=pure false:=by rfl)(hf:X.fn x=true∨X.env.scope.names.lookup x=some .local:=by first | exact .inl rfl | exact .inr rfl | assumption) :
  PS X (.Assign [.Name x aS] e pos) (tAsg te (gName i)):=zeu hN hi hx he hs hf
def za9(i:Nat){x:Str}{pos:Pos}(hN:X.N.Nodup)(hi:X.N[i]?=some x:=by rfl)(hx:Loc X.env.scope x:=by exact Or.inl rfl)(hf:X.fn x=true∨X.env.scope.names.lookup x=some .local:=by first | exact .inl rfl | exact .inr rfl | assumption):PG X (.Name x pos) (gName i):=zhb hN hi hx hf
def zf7{o i:Expr}{td ty:TE}{pos:Pos}(hu:X.A.units+1<cLine)(ho:PE X o td)(hi:PE X i ty)(hs:NoSl i:=by exact λ_ _=>rfl):PE X (.Subscript o i pos) (tDGet td ty):=pe_dget hu ho hi hs
end
end L2
namespace L2
open PySem PySem.Spec PyProof.Rows
def Fun.okL{P:Nj}{w:Nk}{K:Na}{mg:Nf}{base:Nm}{x qual:Str}{st:Stmt}{f:Nc}{fd:Nt}{N ps:Ng}{k:Nat}{sp:Sp}(F:Fun K x qual st f fd)(S:zao N ps (zag st))(aV:∀ (cdv:Value) (A:Nn) (outer:List Env) (s:Nh) (H:Hp) (vs:List V) (Q:VK) (E:XK),Room k (A.deeper (envOfC qual (zag st) s.heap.objs.size f cdv))→sp vs H Q E →
   ∃t,PSs (cxOf CX0 P w K mg base N qual (zag st) f cdv A outer s H E).nox (zbs st) t∧t {nx:=λ_ H'=>Q .non H',rt:=Q} (start N vs) H)(len:∀vs H Q E,sp vs H Q E→vs.length=ps.length:=by intro _ _ _ _ h;cases h;subst_vars;rfl):FnOk P w K mg base CX0 (k+1) f fd ps sp:=F.ok S len aV
end L2
end
section
namespace K21
open PySem L2
abbrev qR:Str := "_law_rounds_here"
abbrev qP:Str := "_law_pot_here"
abbrev qM:Str := "_law_many"
abbrev qO:Str := "_law_other"
abbrev qS:Str := "_law_script"
abbrev qN:Str := "_law_names_here"
def top(i:Nat):Stmt:=PySem.Challenge.pw_fivehues_k71_trees_of_layers.main.body.getD i (.Pass ⟨0,0,0,0⟩)
def eOf:Stmt→Expr
 |.Assign _ e _=>e
 |.Return (some e) _=>e
 |.For _ e _ _ _=>e
 |.While e _ _ _=>e
 |_=>.Name "" ⟨0,0,0,0⟩
def bOf:Stmt→List Stmt
 |.For _ _ b _ _=>b
 |.If _ b _ _=>b
 |_=>[]
def aOf(i:Nat):Expr→Expr
 |.Call _ a _ _=>a.getD i (.Name "" ⟨0,0,0,0⟩)
 |.BinOp l _ r _=>[l,r].getD i l
 |.BoolOp _ a _=>a.getD i (.Name "" ⟨0,0,0,0⟩)
 |.Compare _ _ a _=>a.getD i (.Name "" ⟨0,0,0,0⟩)
 |e=>e
def scOf:Expr→Scope
 |.ListComp _ _ sc _=>sc
 |.DictComp _ _ _ sc _=>sc
 |_=>{kind:=.function,names:=[],isGenerator:=false,isCoroutine:=false}
abbrev sAt(s:Stmt)(i:Nat):Stmt:=(zbs s).getD i (.Pass ⟨0,0,0,0⟩)
abbrev bAt(s:Stmt)(i:Nat):Stmt:=(bOf s).getD i (.Pass ⟨0,0,0,0⟩)
def Pot(H:Hp)(p:Nc)(b m:Int):Prop:=H p=some (.lst [.int b,.int m])∧0≤b∧0≤m∧m<2147483648
inductive IspTake(vs:List V)(H:Hp)(Q:VK):Prop
 |mk (p:Nc) (b m n:Int) (h0:vs=[.ref p,.int n]) (h1:Pot H p b m) (h2:0<n) (h3:n<1073741824) (h4:∀(d b' m':Int) (H':Hp),0≤d→d<n→Pot H' p b' m'→(∀c o,H c=some o→c≠p→H' c=some o)→Q (.int d) H'):IspTake vs H Q
def zge:Sp:=λvs H Q _=>IspTake vs H Q
section
variable{P:Nj}{w:Nk}{K:Na}{mg:Nf}{base:Nm}
end
end K21
end
section
namespace Wb
section
variable{α:Type}[DecidableEq α]
def nxt(zs:List α)(x:α):α:=zs.getD ((zs.idxOf x+1)%zs.length) x
def ins(zs:List α):Option α→α→List α
 |none,n=>n::zs
 |some c,n=>zs.take (zs.idxOf c+1)++n::zs.drop (zs.idxOf c+1)
abbrev Rs(α:Type):=List (α×List α)
def row(rs:Rs α)(x:α):List α:=((rs.find? λp=>decide (p.1=x)).map (·.2)).getD []
def za5(rs:Rs α)(x:α)(r:List α):Rs α:=rs.map λp=>if p.1=x then(p.1,r) else p
def stp(rs:Rs α)(s:α×α):α×α:=(s.2,nxt (row rs s.2) s.1)
end
end Wb
namespace K21
open PySem L2 Wb
def Keep(xs:Nl)(H H':Hp):Prop:=∀c o,H c=some o→c∉xs→H' c=some o
def Keep.refl:Keep xs H H:=λ_ _ e _=>e
def Keep.trans(a:Keep xs H H1)(b:Keep xs H1 H2):Keep xs H H2:=λc o e n=>b c o (a c o e n) n
def Keep.sub(a:Keep xs H H1)(h:∀x∈xs,x∈ys):Keep ys H H1:=λc o e n=>a c o e λz=>n (h c z)
def Keep.new(h:H l=none):Keep xs H (upd H l o):=λc u e _=>by rw[zad (zab e h)];exact e
def Keep.wr(h:l∈xs):Keep xs H (upd H l o):=λc u e n=>by rw[zad (λz=>n (by rw[z];exact h))];exact e
abbrev Ent:=Str×List Str×Addr
def rsOf(es:List Ent):Rs Str:=es.map λe=>(e.1,e.2.1)
def zen{es:List Ent}(nd:(es.map (·.1)).Nodup){e:Ent}(h:e∈es):valV (es.map fun e=>((Sum.inr e.1:Key),V.ref e.2.2)) (Sum.inr e.1)=some (.ref e.2.2):=by
 induction es with
 |nil=>cases h
 | cons a t ih =>
  rw[Qk,Qy]at nd
  rw[Qk]
  rcases Qh.mp h with z | z
  ·subst z;exact zb8 rfl
  ·rw [zbh]
   ·exact ih nd.2 z
   ·intro q
    exact nd.1 (by rw[Ww q];exact Qj.mpr ⟨e,z,rfl⟩)
def val_out{es:List Ent}{x:Str}(h:x∉es.map (·.1)):valV (es.map λe=>((Sum.inr e.1:Key),V.ref e.2.2)) (Sum.inr x)=none:=by
 induction es with
 |nil=>rfl
 |cons a t ih =>
  rw[Qk,Qh,not_or]at h
  rw[Qk,zbh]
  ·exact ih h.2
  ·intro q;exact h.1 (Ww q).symm
def zca(nd:(es.map (·.1)).Nodup)(h:e∈es):row (rsOf es) e.1=e.2.1:=by
 unfold row rsOf
 induction es with
 |nil=>cases h
 | cons a t ih =>
  rw[Qk,Qy]at nd
  rw[Qk]
  rcases Qh.mp h with z | z
  ·subst z;rw[Yz (by simp)];rfl
  ·rw [Wa]
   ·exact ih nd.2 z
   ·intro q
    exact nd.1 (by rw[of_decide_eq_true q];exact Qj.mpr ⟨e,z,rfl⟩)
def put_new{es:List Ent}{x:Str}{r:Ng}{a:Nc}(h:x∉es.map (·.1)):putK (es.map λe=>((Sum.inr e.1:Key),V.ref e.2.2)) (Sum.inr x) (.ref a)=(es++[(x,r,a)]).map λe=>((Sum.inr e.1:Key),V.ref e.2.2):=by
 rw[zdw _ (val_out h),Qt]
 rfl
def cut_to{xs:List V}{k:Nat}(h:k≤xs.length):cutV xs none (some (k:Int))=xs.take k:=by
 unfold cutV
 have e1:HT.sIx xs.length 0 none=0:=rfl
 have e2:HT.sIx xs.length xs.length (some (k:Int))=k:=by rw[HT.sIx_nat];omega
 rw[e1,e2];simp
def zd4{xs:List V}{k:Nat}(h:k≤xs.length):cutV xs (some (k:Int)) none=xs.drop k:=by
 unfold cutV
 have e1:HT.sIx xs.length 0 (some (k:Int))=k:=by rw[HT.sIx_nat];omega
 have e2:HT.sIx xs.length xs.length none=xs.length:=rfl
 rw[e1,e2,Qx (by rw[Uc];exact Qf _)]
def idx_lt{zs:Ng}{x:Str}(h:x∈zs):zs.idxOf x<zs.length:=Ub.mpr h
def index_of{zs:Ng}{x:Str}(h:x∈zs):(∃ z,(zs.map V.str)[zs.idxOf x]?=some z∧eqV z (.str x)=true)∧∀ m z,m < zs.idxOf x→(zs.map V.str)[m]?=some z→eqV z (.str x)=false:=by
 refine⟨⟨.str x,?_,beq_self_eq_true x⟩,λm z hm e=>?_⟩
 ·rw[Qu,Qc (idx_lt h),Jw];rfl
 ·rw [Qu] at e
  have be:m<zs.length:=Yy hm (idx_lt h)
  rw[Qc be]at e
  cases e
  show(zs[m]==x)=false
  refine beq_eq_false_iff_ne.mpr λq=>?_
  have aE:∀(l:Ng) (j:Nat) (hj:j<l.length),l[j]=x→l.idxOf x≤j:=by
   intro l
   induction l with
   |nil=>intro j hj;simp at hj
   | cons a t ih =>
    intro j hj e
    rw[Kw]
    cases j with
    |zero =>
     have e':a=x:=e
     rw[e'];simp
    | succ i =>
     have:=ih i (by simpa using hj) (by simpa using e)
     by_cases h:a=x
     ·rw[h];simp
     ·have hb:(a == x)=false:=beq_eq_false_iff_ne.mpr h
      rw[hb];simp;assumption
  have:=aE zs m be q
  omega
def zd1(zs:Ng):(zs.map V.str).all zcx=true:=by
 rw[Um];intro v hv;obtain⟨x,_,rfl⟩:=Qj.mp hv;rfl
end K21
end
section
namespace K21
open PySem L2 Wb
section
variable{P:Nj}{w:Nk}{K:Na}{mg:Nf}{base:Nm}
end
end K21
end
section
namespace Wb
section
variable{α:Type}[DecidableEq α]
def itr(rs:Rs α)(s:α×α):Nat→α×α
 |0=>s
 |n+1=>stp rs (itr rs s n)
def IsSt(rs:Rs α)(s:α×α):Prop:=∃p∈rs,p.1=s.2∧s.1∈p.2
def allSt(rs:Rs α):List (α×α):=rs.flatMap λp=>p.2.map λx=>(x,p.1)
def mem_allSt{rs:Rs α}{s:α×α}:s∈allSt rs↔IsSt rs s:=by
 unfold allSt IsSt
 rw[List.mem_flatMap]
 constructor
 ·rintro ⟨p,hp,h⟩
  obtain⟨x,hx,rfl⟩:=Qj.mp h
  exact⟨p,hp,rfl,hx⟩
 ·rintro ⟨p,hp,e,hx⟩
  exact⟨p,hp,Qj.mpr ⟨s.1,hx,by rw[e]⟩⟩
def Clo(rs:Rs α):Prop:=∀s,IsSt rs s→IsSt rs (stp rs s)
theorem itr_st{rs:Rs α}(c:Clo rs){s:α×α}(h:IsSt rs s):∀n,IsSt rs (itr rs s n)
 |0=>h
 |n+1=>c _ (itr_st c h n)
def run(rs:Rs α)(s:α×α)(n:Nat):List (α×α):=(List.range n).map (itr rs s)
def run_succ(rs:Rs α)(s:α×α)(n:Nat):run rs s (n+1)=run rs s n++[itr rs s n]:=by
 unfold run;rw[List.range_succ,List.map_append];rfl
def nodup_len{l m:List (α×α)}(nd:l.Nodup)(h:∀x∈l,x∈m):l.length≤m.length:=by
 induction l generalizing m with
 |nil=>exact Zn _
 |cons a t ih =>
  rw[Qy]at nd
  have ha:=h a Qe
  have:=ih (m:=m.erase a) nd.2 λx hx=>(List.mem_erase_of_ne (λe=>nd.1 (by rw[←e];exact hx))).mpr (h x (Qi _ hx))
  rw[List.length_erase_of_mem ha]at this
  have hp:0<m.length:=Kt ha
  rw[Zd];lia
end
end Wb
namespace K21
open PySem L2 Wb
section
variable{P:Nj}{w:Nk}{K:Na}{mg:Nf}{base:Nm}
def zc4.keep{H H':Hp}{as:Nl}{qs:Nu}(r:zc4 H as qs)(k:∀b x y,H b=some (.tup [x,y])→H' b=some (.tup [x,y])):zc4 H' as qs:=by
 induction r with
 |nil=>exact .nil
 |cons h t ih=>exact .cons (k _ _ _ h) ih
end
end K21
end
section
namespace Wb
section
variable{α:Type}[DecidableEq α]
structure Gen(G:Rs α→Prop):Prop where
 clo:∀rs,G rs→Clo rs
 nd:∀rs,G rs→(rs.map (·.1)).Nodup
 sub:∀rs,G rs→∀p∈rs,p.2.Nodup∧∀x∈p.2,x∈rs.map (·.1)
 sy:∀rs,G rs→∀p∈rs,∀x∈p.2,p.1∈row rs x
 nil:G []
 new:∀rs x,G rs→x∉rs.map (·.1)→G (rs++[(x,[])])
 leaf:∀rs x p c,G rs→x∉rs.map (·.1)→p∈rs→(∀y,c=some y→y∈p.2)→(c=none→p.2=[])→G (za5 (za5 (rs++[(x,[])]) p.1 (ins p.2 c x)) x [p.1])
 tie:∀rs c p n,G rs→p∈rs→c∈p.2→(itr rs (c,p.1) n).2≠p.1→(itr rs (c,p.1) n).2∉p.2 →
  G (za5 (za5 rs p.1 (ins p.2 (some c) (itr rs (c,p.1) n).2)) (itr rs (c,p.1) n).2 (ins (row rs (itr rs (c,p.1) n).2) (some (itr rs (c,p.1) n).1) p.1))
def zbq{l m:List α}(nd:l.Nodup)(h:∀x∈l,x∈m):l.length≤m.length:=by
 induction l generalizing m with
 |nil=>exact Zn _
 |cons a t ih =>
  rw[Qy]at nd
  have ha:=h a Qe
  have:=ih (m:=m.erase a) nd.2 λx hx=>(List.mem_erase_of_ne (λe=>nd.1 (by rw[←e];exact hx))).mpr (h x (Qi _ hx))
  rw[List.length_erase_of_mem ha]at this
  have hp:0<m.length:=Kt ha
  rw[Zd];lia
def Gen.rows{G:Rs α→Prop}(g:Gen G){rs:Rs α}(h:G rs):∀p∈rs,p.2.length≤rs.length:=λp hp=>by
 obtain⟨a,b⟩:=g.sub rs h p hp
 have:=zbq a b
 rwa[Qa]at this
def Gen.steps{G:Rs α→Prop}(g:Gen G){rs:Rs α}(h:G rs)(hl:rs.length≤40):(allSt rs).length≤1600:=by
 have key:∀(l:Rs α) (n:Nat),(∀p∈l,p.2.length≤n)→(allSt l).length≤l.length*n:=by
  intro l n
  induction l with
  |nil=>intro _;simp[allSt]
  |cons a t ih =>
   intro hh
   have h1:=ih λp hp=>hh p (Qi _ hp)
   have h2:=hh a Qe
   unfold allSt at h1 ⊢
   rw[List.flatMap_cons,Qp,Qa,Zd,Nat.succ_mul]
   lia
 have:=key rs rs.length (g.rows h)
 have:rs.length*rs.length≤40*40:=Nat.mul_le_mul hl hl
 exact Zj ‹_› ‹_›
end
end Wb
namespace K21
open PySem L2 Wb
def pot_ne{H:Hp}{p a:Nc}{b m:Int}{zs:Ng}(h:Pot H p b m)(ha:H a=some (.lst (zs.map V.str))):a≠p:=za8 ha h.1 (by
 intro z
 have z':zs.map V.str=[.int b,.int m]:=by injection z
 cases zs with
 |nil=>cases z'
 |cons x t=>rw[Qk]at z';injection z' with z1 _;cases z1)
def Pot.keep{H H':Hp}{p:Nc}{b m:Int}{xs:Nl}(h:Pot H p b m)(k:Keep xs H H')(hp:p∉xs):Pot H' p b m:=⟨k _ _ h.1 hp,h.2⟩
def za3{H H':Hp}{p:Nc}(h:∀c o,H c=some o→c≠p→H' c=some o):Keep [p] H H':=λc o e n=>h c o e λz=>n (by rw[z];exact Qb.mpr rfl)
section
variable{P:Nj}{w:Nk}{K:Na}{mg:Nf}{base:Nm}
def zhk{x:Str}{zs:Ng}:inV (.str x) (zs.map V.str)=decide (x∈zs):=by
 unfold inV
 rw[Yu,Yn,decide_eq_true_iff]
 constructor
 ·rintro ⟨v,hv,e⟩
  obtain⟨y,hy,rfl⟩:=Qj.mp hv
  have e':y=x:=eq_of_beq e
  rw[←e'];exact hy
 ·intro h
  exact⟨.str x,Qj.mpr ⟨x,h,rfl⟩,beq_self_eq_true x⟩
def zbi{c:Bool}{A B:Prop}(h:c=false)(b:B):if c=true then A else B:=by rw[h];exact iteF b
def zbm{c:Bool}{A B:Prop}(h:c=true)(a:A):if c=true then A else B:=by rw[h];exact iteT a
end
end K21
end
section
namespace K21
open PySem L2 Wb
def keys_strs(es:List Ent):((es.map λe=>((Sum.inr e.1:Key),V.ref e.2.2)).map λp=>kV p.1)=(es.map (·.1)).map V.str:=by
 rw[Zm,Zm];rfl
section
variable{P:Nj}{w:Nk}{K:Na}{mg:Nf}{base:Nm}
end
def zcv(z:Str):Prop:=1≤z.length∧z.length≤8∧∀c∈z.cps.toList,97≤c∧c≤122
def nodup_of_map{α β:Type}{f:α→β}{l:List α}(h:(l.map f).Nodup):l.Nodup:=by
 induction l with
 |nil=>exact Zq
 |cons a t ih =>
  rw[Qk,Qy]at h
  exact Qy.mpr ⟨λz=>h.1 (Qj.mpr ⟨a,z,rfl⟩),ih h.2⟩
def zhf{α β:Type}{f:α→β}{l:List α}(nd:l.Nodup)(h:∀a∈l,∀b∈l,f a=f b→a=b):(l.map f).Nodup:=by
 induction l with
 |nil=>exact Zq
 |cons a t ih =>
  rw[Qy]at nd
  rw[Qk,Qy]
  refine⟨λz=>?_,ih nd.2 λx hx y hy=>h x (Qi _ hx) y (Qi _ hy)⟩
  obtain⟨b,hb,e⟩:=Qj.mp z
  exact nd.1 (h b (Qi _ hb) a Qe e▸hb)
def zfr{β:Type}{f:Nat→β}{n:Nat}(h:∀a,a<n→∀b,b<n→f a=f b→a=b):((List.range n).map f).Nodup :=
 zhf Kp λa ha b hb=>h a (Ya.mp ha) b (Ya.mp hb)
def zc3:Str := "abcdefghijklmnopqrstuvwxyz"
def letters_at:∀i:Fin 26,zc3.cps.toList[i.1]?=some (97+i.1):=by decide +kernel
def zdl:zc3.length≤sizeLine:=by decide +kernel
def letter_at{j:Int}(h0:0≤j)(h1:j<26):atI zc3.cps.toList j=some (97+j.toNat):=by
 obtain⟨n,rfl⟩:=Zl h0
 exact zau (letters_at ⟨n,by exact zar8 ‹_›⟩)
section
variable{P:Nj}{w:Nk}{K:Na}{mg:Nf}{base:Nm}
end
def zav(k:Keep xs H H')(h:H' l=none)(hx:l∉xs):H l=none:=by
 cases z:H l with
 |none=>rfl
 |some o=>rw[k _ _ z hx]at h;cases h
section
variable{P:Nj}{w:Nk}{K:Na}{mg:Nf}{base:Nm}
end
end K21
end
section
namespace K21
open PySem L2 Wb Tm
def leS_anti(a b:Str)(h:leS a b)(g:leS b a):a=b:=by
 have e:a.cps.toList=b.cps.toList:=List.le_antisymm (List.not_lt.mp h) (List.not_lt.mp g)
 cases a;cases b
 congr 1
 exact Kr.mp e
end K21
end
section
namespace K21
open PySem L2 Wb
abbrev sWeb:Stmt:=top 23
structure TAt(H:Hp)(d:Nc)(es:List Ent):Prop where
 dc:H d=some (.dK (es.map λe=>((Sum.inr e.1:Key),V.ref e.2.2)))
 ro:∀e∈es,H e.2.2=some (.tup (e.2.1.map V.str))
 nd:(es.map (·.1)).Nodup
def TAt.keep(r:TAt H d es)(k:Keep xs H H')(hd:d∉xs)(h:∀e∈es,e.2.2∉xs):TAt H' d es:=⟨k _ _ r.dc hd,λe he=>k _ _ (r.ro e he) (h e he),r.nd⟩
structure WAt(H:Hp)(C x dx d:Nc)(es:List Ent):Prop where
 ob:H x=some (.ins C dx [("rounds",.ref d)])
 ta:TAt H d es
def WAt.keep(r:WAt H C x dx d es)(k:Keep xs H H')(hx:x∉xs)(hd:d∉xs)(h:∀e∈es,e.2.2∉xs):WAt H' C x dx d es :=
 ⟨k _ _ r.ob hx,r.ta.keep k hd h⟩
def refs_perm(h:ws.Perm (as.map V.ref)):∃bu:List Addr,ws=bu.map V.ref∧bu.Perm as:=by
 have key:∀ws:List V,(∀v∈ws,∃a,v=V.ref a)→∃bu:List Addr,ws=bu.map V.ref:=by
  intro ws
  induction ws with
  |nil=>intro _;exact⟨[],rfl⟩
  |cons v t ih =>
   intro hh
   obtain⟨a,rfl⟩:=hh v Qe
   obtain⟨bu,rfl⟩:=ih λv hv=>hh v (Qi _ hv)
   exact⟨a::bu,rfl⟩
 obtain⟨bu,rfl⟩:=key ws λv hv=>by
  obtain⟨a,_,rfl⟩:=Qj.mp (h.mem_iff.mp hv)
  exact⟨a,rfl⟩
 refine⟨bu,rfl,?_⟩
 have:=h.map (λv:V=>match v with | .ref a=>a | _=>0)
 rw[Zm,Zm]at this
 have e:∀l:List Addr,l.map ((λv:V=>match v with | .ref a=>a | _=>0)∘V.ref)=l:=λl=>List.map_id l
 rw[e,e]at this
 exact this
section
variable{P:Nj}{w:Nk}{K:Na}{mg:Nf}{base:Nm}
end
def za7:∀{as:List α} {bs:List β},Paired R as bs→∀{i:Nat} (hi:i<as.length),∃ap:i<bs.length,R as[i] bs[i]:=by
 intro as bs r
 induction r with
 |nil=>intro i hi;simp at hi
 | cons h t ih =>
  intro i hi
  cases i with
  |zero=>exact⟨by simp,h⟩
  |succ j =>
   obtain⟨a,b⟩:=ih (i:=j) (by simpa using hi)
   exact⟨by simpa using a,b⟩
section
variable{P:Nj}{w:Nk}{K:Na}{mg:Nf}{base:Nm}
end
end K21
end
section
namespace L2
open PySem
def zg8:PS X st (λ_ _ _=>False):=λ_ _ _ _ _ _ h=>h.elim
def pe_tyN(hg:Gl X x)(hm:X.mg x=none)(hv:bootBuiltins x=some (.type T))(hn:x ≠ "__name__" := by decide)(cK:(x==("__debug__" : Str))=false:=by decide):PE X (.Name x pos) (tC (.ty T)):=by
 intro a5 s σ H Q I h
 exact ld_blt I hg hm hv ⟨.ty T,H,I,rfl,h⟩ hn cK
end L2
namespace K21
open PySem L2 Wb
abbrev zdf:Stmt:=top 17
inductive IspIsName(vs:List V)(H:Hp)(Q:VK):Prop
 |mk (z:Str) (h0:vs=[.str z]) (h1:zcv z) (h2:∀H',Keep [] H H'→Q (.bl true) H'):IspIsName vs H Q
def spIsName:Sp:=λvs H Q _=>IspIsName vs H Q
abbrev zd5:Scope:=scOf (aOf 0 (aOf 1 (eOf (sAt zdf 1))))
def csIsName_k:zd5.kind=.function:=by rfl
def csIsName_c:∀y∈zd5.names,y.2≠.cell:=by decide +kernel
def csIsName_n:∀y∈zd5.names,y.2=.local→zd5.names.lookup y.1=some .local:=by decide +kernel
def csIsName_f:∀y∈zd5.names,y.2=.free→(zag zdf).names.lookup y.1=some .cell∨(zag zdf).names.lookup y.1=some .free:=by decide +kernel
def nd1:(["sign"]:List Str).Nodup:=by decide +kernel
section
variable{P:Nj}{w:Nk}{K:Na}{mg:Nf}{base:Nm}
def scIsName:zao ["thing"] ["thing"] (zag zdf):=fsk
def ok_isname(F:Fun K "is_name" "is_name" zdf f fd)(hML:mg "MOST_LETTERS" = some (.int 8 tk))(dj:mg "isinstance" = none)(pi:mg "str" = none)(a9:mg "len" = none)(cj:mg "all" = none):FnOk P w K mg base CX0 1 f fd ["thing"] spIsName:=by
 refine F.okL scIsName (λcdv A outer s H vs Q E hr h=>?_)
 obtain⟨z,rfl,hz,k⟩:=h
 have hu:=zb7 hr
 have aB  := sizeLine_eq
 refine⟨_,zae (zb2 (pt_not (pt_val (zaj call_isi_str (by rfl) dj Ud (zaa (pv 0) (zaa (pe_tyN (T := "str") rfl pi PyProof.Rows.boot_str) zaf))))) (zah zg8) za1)
  (zah (zbb (pe_and (pe_chain op_le op_le zai (zaj zbw (by rfl) a9 Zr (zaa (pv 0) zaf)) (pe_glob (v:=.int 8) rfl hML ⟨tk,rfl⟩))
   (pe_one (zaj (call_all rfl) (by rfl) cj PyProof.Rows.boot_all (zaa (pe_lc (M:=["sign"]) (ix:=[none]) ⟨csIsName_k,csIsName_c,csIsName_n,csIsName_f,rfl,by decide +kernel,λj i x h1 h2=>by
      match j,h1,h2 with
      |0,_,h2=>cases h2
      |n+1,h1,_=>cases h1⟩ rfl (pi_str (pv 0)) (λC a5 ex s H=>za9 0 nd1)
      (λC a5 ex s H=>zdh) (λC a5 ex s H=>pe_chain op_le_str op_le_str zc0 (pv 0) zc0)) zaf)))))),?_⟩
 obtain⟨hz1,mz,g8⟩:=hz
 have hz1':1≤z.cps.size:=hz1
 have hz2':z.cps.size≤8:=mz
 refine⟨_,rfl,z,rfl,_,rfl,zbi rfl ?_⟩
 refine⟨_,rfl,z,rfl,(by show z.cps.size≤sizeLine;lia),_,_,rfl,rfl,_,rfl,zbm (decide_eq_true (by show(1:Int)≤(z.cps.size:Int);exact zar9 ‹_›)) ?_⟩
 refine⟨_,_,rfl,rfl,_,rfl,zbm (decide_eq_true (by show(z.cps.size:Int)≤8;lia)) ?_⟩
 have asc:z.cps.all (· < 128)=true:=by
  rw[Array.all_eq_true]
  intro i hi
  have:=g8 z.cps[i] (by rw[Array.mem_toList_iff];exact Array.getElem_mem hi)
  exact decide_eq_true (by lia)
 refine⟨_,rfl,z,rfl,asc,λi m ys τ H1=>Aj5 (H1=H) (m=z.cps.size-i) (i≤z.cps.size) (ys=List.replicate i (V.bl true)) (Ex1 λx0=>τ=[x0]),⟨_,rfl,rfl,Zn _,rfl,none,rfl⟩,?_⟩
 rintro i m ys τ H1 ⟨rfl,rfl,hi,rfl,x0,rfl⟩
 by_cases aa:i<z.cps.size
 ·refine .inr ⟨aa,by rw [Xd];lia,?_⟩
  rintro y H' ⟨rfl,c,hc,rfl⟩
  obtain⟨h1,h2⟩:=g8 c (by rw[Array.mem_toList_iff];exact Array.mem_of_getElem? hc)
  have l1:(!decide ((⟨#[c]⟩:Str).cps.toList<("a" : Str).cps.toList))=true:=by
   rw[Je,decide_eq_false_iff_not,show("a" : Str).cps.toList=[97] from by decide +kernel]
   show ¬[c]<[97]
   intro h
   have:=List.cons_lt_cons_iff.mp h
   rcases this with q | ⟨_,q⟩
   ·exact zar10 ‹_› ‹_›
   ·exact Wk _ q
  have l2:(!decide (("z" : Str).cps.toList<(⟨#[c]⟩:Str).cps.toList))=true:=by
   rw[Je,decide_eq_false_iff_not,show("z" : Str).cps.toList=[122] from by decide +kernel]
   show ¬[122]<[c]
   intro h
   have:=List.cons_lt_cons_iff.mp h
   rcases this with q | ⟨_,q⟩
   ·exact zar10 ‹_› ‹_›
   ·exact Wk _ q
  refine⟨_,rfl,_,_,rfl,rfl,_,rfl,zbm l1 ?_⟩
  refine⟨_,_,rfl,rfl,_,?_,rfl,rfl,aa,?_,_,rfl⟩
  ·exact zar1 ‹_›
  ·rw[l2,List.replicate_succ']
 ·have e:i=z.cps.size:=by exact zar3 ‹_› ‹_›
  subst e
  refine .inl ⟨Qf _,λD hD=>?_⟩
  refine⟨D,List.replicate z.cps.size true,rfl,SqL.of (by rw[zac,List.map_replicate]),?_⟩
  have:(List.replicate z.cps.size true).all id=true:=by
   rw[Um];intro b hb;exact(List.mem_replicate.mp hb).2
  rw[this]
  exact k _ (Keep.new hD)
end
end K21
end
section
namespace L2
open PySem
def lc_at(T:St→Prop)(ys:List V)(hl:ys.length=xs.length)(ha:SqL K H a xs)(hn:xs.length≤sizeLine)(h0:T τ)(hs:∀(i:Nat) (hi:i<xs.length) (eI:i<ys.length),∀τ,T τ→∀k:V→St→Hp→Prop,(∀τ2,T τ2→k ys[i] τ2 H)→g xs[i] τ H λ τ2 H2=>te τ2 H2 λy H4=>k y τ2 H4)(q:∀D,H D=none→Q (.ref D) (upd H D (.lst ys))):rLC g tAll te Q (Itl K a) τ H:=by
 refine⟨λi m zs τ H1=>Aj5 (H1=H) (T τ) (m=xs.length-i) (i≤xs.length) (zs=ys.take i),⟨_,rfl,h0,rfl,Zn _,rfl⟩,?_⟩
 rintro i m zs τ H1 ⟨rfl,ht,rfl,hi,rfl⟩
 by_cases aa:i<xs.length
 ·refine .inr ⟨⟨xs,xs[i],ha,Qc aa⟩,by rw [Zg];lia,?_⟩
  rintro x H' ⟨rfl,hx⟩
  have cB:=hx xs ha
  rw[Qc aa]at cB
  have ic:xs[i]=x:=Qr cB
  rw[←ic]
  refine hs i aa (by exact zar6 ‹_› ‹_›) τ ht (λy τ2 H4=>∃m',m'<xs.length-i∧Aj5 (H4=H') (T τ2) (m'=xs.length-(i+1)) (i+1≤xs.length) (ys.take i++[y]=ys.take (i+1))) λ τ2 h2=>?_
  exact⟨_,by exact zar1 ‹_›,rfl,h2,rfl,aa,by rw[Ql (by exact zar6 ‹_› ‹_›:i<ys.length)]⟩
 ·have e:i=xs.length:=by exact zar3 ‹_› ‹_›
  refine .inl ⟨⟨xs,ha,by lia⟩,λD hD=>?_⟩
  rw[Qx (by lia)]
  exact q D hD
end L2
namespace K21
open PySem L2 Wb
structure RwAt(H:Hp)(l:Nc)(as:Nl)(es:List Ent):Prop where
 ls:H l=some (.lst (as.map V.ref))
 ts:Paired (λa (e:Ent)=>H a=some (.tup [.str e.1,.ref e.2.2])) as es
 ro:∀e∈es,H e.2.2=some (.lst (e.2.1.map V.str))
def RwAt.keep(r:RwAt H l as es)(k:Keep [] H H'):RwAt H' l as es :=
 ⟨k _ _ r.ls (by simp),Paired.imp' (λ_ _ h=>k _ _ h (by simp)) r.ts,λe he=>k _ _ (r.ro e he) (by simp)⟩
abbrev ze7:Stmt:=top 18
abbrev zdb:Stmt:=top 19
abbrev zg3:Stmt:=top 20
inductive zgr(vs:List V)(H:Hp)(Q:VK):Prop
 |mk (l:Nc) (as:Nl) (es:List Ent) (h0:vs=[.ref l]) (h1:RwAt H l as es) (h2:(∀e∈es,e.2.1.length≤100∧zcv e.1∧∀x∈e.2.1,zcv x)) (h3:∀H',Keep [] H H'→Q .non H'):zgr vs H Q
def spNoNames:Sp:=λvs H Q _=>zgr vs H Q
inductive IspTwice(vs:List V)(H:Hp)(Q:VK):Prop
 |mk (l:Nc) (as:Nl) (es:List Ent) (h0:vs=[.ref l]) (h1:RwAt H l as es) (h2:es.length≤60) (h3:(es.map (·.1)).Nodup) (h4:(∀e∈es,e.2.1.length≤100∧e.2.1.Nodup)) (h5:∀H',Keep [] H H'→Q .non H'):IspTwice vs H Q
def spTwice:Sp:=λvs H Q _=>IspTwice vs H Q
inductive IspOneWay(vs:List V)(H:Hp)(Q:VK):Prop
 |mk (l:Nc) (as:Nl) (es:List Ent) (h0:vs=[.ref l]) (h1:RwAt H l as es) (h2:(es.map (·.1)).Nodup) (h3:(∀e∈es,e.1∉e.2.1∧∀x∈e.2.1,∃e'∈es,e'.1=x∧e.1∈e'.2.1)) (h4:∀H',Keep [] H H'→Q .non H'):IspOneWay vs H Q
def spOneWay:Sp:=λvs H Q _=>IspOneWay vs H Q
section
variable{P:Nj}{w:Nk}{K:Na}{mg:Nf}{base:Nm}
def zdu:zao ["rows", "place", "around", "thing"] ["rows"] (zag ze7):=fsk
def ok_nonames(F:Fun K "refuse_no_names" "refuse_no_names" ze7 f fd)(FN:Fun K "is_name" "is_name" zdf fn fdn)(bN:Binds K fdn ["thing"] [])(mN:mg "is_name" = some (.ref fn))(GN:FnOk P w K mg base CX0 1 fn fdn ["thing"] spIsName):FnOk P w K mg base CX0 2 f fd ["rows"] spNoNames:=by
 refine F.okL zdu (λcdv A outer s H vs Q E hr h=>?_)
 obtain⟨l,as,es,rfl,R,hok,k⟩:=h
 have hu:=zb7 hr
 have aB  := sizeLine_eq
 refine⟨_,zah (zbd Zf rfl (zay (pv 0)) (pg_tup rfl (zbe (za9 1 zdu.nd) (zbe (za9 2 zdu.nd) zdj)))
  (zah (zbd Zf rfl (zay (zaq zfm (za4 (zaa (pv 1) zaf)) (pv 2))) (za9 3 zdu.nd)
   (zah (zb2 (pt_not (pt_val (zak GN hr rfl mN FN.kp bN .nil za0 (zaa (pv 3) zaf)))) (zah zg8) za1))))),?_⟩
 refine⟨_,rfl,l,rfl,⟨_,SqL.of R.ls⟩,zbn (xs:=as.map V.ref) (λi σ H'=>Aj2 (Keep [] H H') (Ex3 λx1 x2 x3=>σ=[some (.ref l),x1,x2,x3])) ⟨Keep.refl,none,none,none,rfl⟩ (λi σ H' _ hh=>SqL.of (hh.1 _ _ R.ls (by simp))) ?_ ?_⟩
 ·rintro i y σ H1 hx ⟨k1,x1,x2,x3,rfl⟩
  have hi:i<as.length:=by
   have:=(Ze.mp hx).1
   rwa[Qa]at this
  have i9:y=.ref as[i]:=by
   rw[Qu,Qc hi]at hx
   exact(Qr hx).symm
  subst i9
  obtain⟨ap,dD⟩:=za7 R.ts hi
  obtain⟨li,gM,bK⟩:=hok _ (Qm ap)
  have iz:=k1 _ _ (R.ro _ (Qm ap)) (by simp)
  refine⟨as[i],_,rfl,SqT.of (k1 _ _ dD (by simp)),rfl,_,_,rfl,_,_,rfl,rfl,?_⟩
  refine⟨_,rfl,(by show 1≤sizeLine;decide),λq hq=>?_⟩
  have nq:es[i].2.2≠q:=zab iz hq
  refine⟨_,rfl,q,es[i].2.2,_,_,rfl,rfl,zac,(by rw[zad nq];exact iz),(by rw[Qa];show 1+_≤sizeLine;lia),λq2 bw=>?_⟩
  have k2:Keep [] H (upd (upd H1 q (.lst [.str es[i].1])) q2 (.lst ([V.str es[i].1]++es[i].2.1.map V.str))):=(k1.trans (Keep.new hq)).trans (Keep.new bw)
  have iE:(upd (upd H1 q (.lst [.str es[i].1])) q2 (.lst ([V.str es[i].1]++es[i].2.1.map V.str))) q2=some (.lst ((es[i].1::es[i].2.1).map V.str)):=zac
  generalize upd (upd H1 q (.lst [.str es[i].1])) q2 (.lst ([V.str es[i].1]++es[i].2.1.map V.str))=H2 at k2 iE
  refine⟨q2,rfl,⟨_,SqL.of iE⟩,zbn (xs:=(es[i].1::es[i].2.1).map V.str) (λj σ H'=>Aj2 (Keep [] H2 H') (Ex3 λx1 x2 x3=>σ=[some (.ref l),x1,x2,x3])) ⟨Keep.refl,_,_,_,rfl⟩ (λj σ H' _ hh=>SqL.of (hh.1 _ _ iE (by simp))) ?_ ?_⟩
  ·rintro j y σ H3 hy ⟨k3,y1,y2,y3,rfl⟩
   obtain⟨z,hz,rfl⟩:=Qj.mp (Yl hy)
   have cL:zcv z:=by
    rcases Qh.mp hz with e | e
    ·rw[e];exact gM
    ·exact bK z e
   refine⟨_,rfl,z,rfl,cL,λH4 k4=>⟨_,rfl,zbi rfl ?_⟩⟩
   exact⟨k3.trans k4,_,_,_,rfl⟩
  ·rintro σ H3 ⟨k3,y1,y2,y3,rfl⟩
   exact⟨k2.trans k3,_,_,_,rfl⟩
 ·rintro σ H1 ⟨k1,x1,x2,x3,rfl⟩
  exact k H1 k1
abbrev csTwA:Scope:=scOf (eOf (sAt zdb 0))
abbrev csTwB:Scope:=scOf (aOf 1 (eOf (sAt zdb 1)))
def csTwA_k:csTwA.kind=.function:=by rfl
def csTwA_c:∀y∈csTwA.names,y.2≠.cell:=by decide +kernel
def csTwA_n:∀y∈csTwA.names,y.2=.local→csTwA.names.lookup y.1=some .local:=by decide +kernel
def csTwA_f:∀y∈csTwA.names,y.2=.free→(zag zdb).names.lookup y.1=some .cell∨(zag zdb).names.lookup y.1=some .free:=by decide +kernel
def csTwB_k:csTwB.kind=.function:=by rfl
def csTwB_c:∀y∈csTwB.names,y.2≠.cell:=by decide +kernel
def csTwB_n:∀y∈csTwB.names,y.2=.local→csTwB.names.lookup y.1=some .local:=by decide +kernel
def csTwB_f:∀y∈csTwB.names,y.2=.free→(zag zdb).names.lookup y.1=some .cell∨(zag zdb).names.lookup y.1=some .free:=by decide +kernel
def ndPA:(["place", "around"]:List Str).Nodup:=by decide +kernel
def scTwice:zao ["rows", "places", "names"] ["rows"] (zag zdb):=fsk
def noB(h1:sc.kind=.function)(h2:∀y∈sc.names,y.2≠.cell)(h3:∀y∈sc.names,y.2=.local→sc.names.lookup y.1=some .local)(h4:∀y∈sc.names,y.2=.free→X.env.scope.names.lookup y.1=some .cell∨X.env.scope.names.lookup y.1=some .free)(h5:n=M.length)(h6:M.Nodup):Blk X sc M (List.replicate n none):=⟨h1,h2,h3,h4,by rw [Xd,h5],h6,fun j i x _ h=>by
   have:=Yl h
   have:=(List.mem_replicate.mp this).2
   cases this⟩
def pg_tupK(hK:X.K=K)(hc:X.calm=true)(h:PGs X es t)(hn:(assignEach es X.env).length=n:=by rfl)(ak:(assignEach es X.env).findIdx? (·.1)=none:=by rfl):PG X (.Tuple es k pos) (gTup K n t):=hK▸pg_tup hc h hn ak
def ok_twice(F:Fun K "refuse_twice" "refuse_twice" zdb f fd)(a9:mg "len" = none)(pk:mg "set" = none):FnOk P w K mg base CX0 1 f fd ["rows"] spTwice:=by
 refine F.okL scTwice (λcdv A outer s H vs Q E hr h=>?_)
 obtain⟨l,as,es,rfl,R,eU,av,hok,k⟩:=h
 have hu:=zb7 hr
 have aB  := sizeLine_eq
 refine⟨_,zae (ps_lc (i:=1) (M:=["place", "around"]) (ix:=[none,none]) scTwice.nd rfl rfl (noB (n:=2) csTwA_k csTwA_c csTwA_n csTwA_f rfl ndPA) rfl (zay (pv 0))
   (λC a5 ex s H=>pg_tupK (K:=K) (n:=2) rfl rfl (zbe (za9 0 ndPA) (zbe (za9 1 ndPA) zdj)))
   (λC a5 ex s H=>zdh) (λC a5 ex s H=>pv 0) rfl)
  (zah (zbd Zf rfl (zay (zaq zfm (za4 (zaa (pv 1) zaf)) (pe_lc (M:=["place", "around"]) (ix:=[none,none]) (noB (n:=2) csTwB_k csTwB_c csTwB_n csTwB_f rfl ndPA) rfl (zay (pv 0))
   (λC a5 ex s H=>pg_tupK (K:=K) (n:=2) rfl rfl (zbe (za9 0 ndPA) (zbe (za9 1 ndPA) zdj)))
   (λC a5 ex s H=>zdh) (λC a5 ex s H=>pv 1)))) (za9 2 scTwice.nd)
   (zah (zb2 (zaw op_lt (zaj zht (by rfl) a9 Zr (zaa (zb4 (zhs rfl) (by rfl) pk PyProof.Rows.boot_set (zaa (pv 2) zaf)) zaf))
    (zaj zam (by rfl) a9 Zr (zaa (pv 2) zaf)) (zbp _)) (zah zg8) za1)))),?_⟩
 have dC:as.length=es.length:=Zz R.ts
 refine⟨_,rfl,l,rfl,⟨_,SqL.of R.ls⟩,lc_at (xs:=as.map V.ref) (λ τ=>∃x0 x1,τ=[x0,x1]) ((es.map (·.1)).map V.str) (by rw[Qa,Qa,Qa,dC]) (SqL.of R.ls) (by rw[Qa];lia) ⟨none,none,rfl⟩ ?_ (λD hD=>?_)⟩
 ·rintro i hi eI τ ⟨x0,x1,rfl⟩ kk hk
  rw[Qa]at hi
  obtain⟨ap,dD⟩:=za7 R.ts hi
  rw[Zs]
  refine⟨as[i],_,rfl,SqT.of dD,rfl,_,_,rfl,_,_,rfl,rfl,_,rfl,?_⟩
  have e:((es.map (·.1)).map V.str)[i]=V.str es[i].1:=by rw[Zs,Zs]
  rw[e]at hk
  exact hk _ ⟨_,_,rfl⟩
 ·have k1:Keep [] H (upd H D (.lst ((es.map (·.1)).map V.str))):=Keep.new hD
  have hD1:(upd H D (.lst ((es.map (·.1)).map V.str))) D=some (.lst ((es.map (·.1)).map V.str)):=zac
  generalize upd H D (.lst ((es.map (·.1)).map V.str))=H1 at k1 hD1
  have R1:=R.keep k1
  refine⟨_,rfl,(by show 1≤sizeLine;decide),λq hq=>?_⟩
  have k2:Keep [] H1 (upd H1 q (.lst [.ref D])):=Keep.new hq
  have bw:(upd H1 q (.lst [.ref D])) q=some (.lst [.ref D]):=zac
  generalize upd H1 q (.lst [.ref D])=H2 at k2 bw
  have R2:=R1.keep k2
  refine⟨_,rfl,l,rfl,⟨_,SqL.of R2.ls⟩,lc_at (xs:=as.map V.ref) (λ τ=>∃x0 x1,τ=[x0,x1]) (es.map λe=>V.ref e.2.2) (by rw[Qa,Qa,dC]) (SqL.of R2.ls) (by rw[Qa];lia) ⟨none,none,rfl⟩ ?_ (λD2 rL=>?_)⟩
  ·rintro i hi eI τ ⟨x0,x1,rfl⟩ kk hk
   rw[Qa]at hi
   obtain⟨ap,dD⟩:=za7 R2.ts hi
   rw[Zs]
   refine⟨as[i],_,rfl,SqT.of dD,rfl,_,_,rfl,_,_,rfl,rfl,_,rfl,?_⟩
   rw[Zs]at hk
   exact hk _ ⟨_,_,rfl⟩
  ·have k3:Keep [] H2 (upd H2 D2 (.lst (es.map fun e=>V.ref e.2.2))):=Keep.new rL
   have gE:(upd H2 D2 (.lst (es.map λe=>V.ref e.2.2))) D2=some (.lst (es.map λe=>V.ref e.2.2)):=zac
   generalize upd H2 D2 (.lst (es.map λe=>V.ref e.2.2))=H3 at k3 gE
   refine⟨q,D2,_,_,rfl,rfl,k3 _ _ bw (by simp),gE,(by rw[Qa];show 1+_≤sizeLine;lia),λq4 mV=>?_⟩
   have k4:Keep [] H3 (upd H3 q4 (.lst ([V.ref D]++es.map λe=>V.ref e.2.2))):=Keep.new mV
   have iD:(upd H3 q4 (.lst ([V.ref D]++es.map λe=>V.ref e.2.2))) q4=some (.lst ([V.ref D]++es.map λe=>V.ref e.2.2)):=zac
   generalize upd H3 q4 (.lst ([V.ref D]++es.map λe=>V.ref e.2.2))=H4 at k4 iD
   have fB:Keep [] H H4:=((k1.trans k2).trans k3).trans k4
   refine⟨q4,rfl,⟨_,SqL.of iD⟩,zbn (xs:=[V.ref D]++es.map λe=>V.ref e.2.2) (λi σ H'=>Aj2 (Keep [] H4 H') (Ex2 λx1 x2=>σ=[some (.ref l),x1,x2])) ⟨Keep.refl,_,_,rfl⟩ (λi σ H' _ hh=>SqL.of (hh.1 _ _ iD (by simp))) ?_ ?_⟩
   ·rintro i y σ H5 hy ⟨k5,x1,x2,rfl⟩
    obtain⟨a,zs,rfl,ha,cL,g7⟩:∃(a:Nc) (zs:Ng),y=V.ref a∧H5 a=some (.lst (zs.map V.str))∧zs.Nodup∧zs.length≤100:=by
     rcases Qd.mp (Yl hy) with z | z
     ·refine ⟨D,es.map (·.1),Qb.mp z,?_,av,by rw [Qa];exact Zj eU (by decide)⟩
      exact k5 _ _ (k4 _ _ (k3 _ _ (k2 _ _ hD1 (by simp)) (by simp)) (by simp)) (by simp)
     ·obtain ⟨e,he,rfl⟩:=Qj.mp z
      exact⟨e.2.2,e.2.1,rfl,k5 _ _ (fB _ _ (R.ro e he) (by simp)) (by simp),(hok e he).2,(hok e he).1⟩
    refine⟨_,rfl,a,zs,rfl,SqL.of ha,cL,by lia,λt ht=>?_⟩
    have oy:a≠t:=zab ha ht
    refine⟨t,zs,rfl,zac,by lia,_,rfl,a,_,rfl,.inl (SqL.of (by rw[zad oy];exact ha)),_,_,rfl,rfl,_,rfl,zbi (decide_eq_false (by rw[Qa];lia)) ?_⟩
    exact⟨k5.trans (Keep.new ht),_,_,rfl⟩
   ·rintro σ H5 ⟨k5,x1,x2,rfl⟩
    exact k H5 (fB.trans k5)
end
end K21
end
section
namespace K21
open PySem L2 Wb
abbrev sLeast:Stmt:=top 22
inductive IspLeast(vs:List V)(H:Hp)(Q:VK):Prop
 |mk (a:Nc) (zs:Ng) (h0:vs=[.ref a]) (h1:H a=some (.lst (zs.map V.str))) (h2:zs.length≤100) (h3:∀(t:Nc) (j:Nat) (H':Hp),j≤zs.length→H' t=some (.tup ((zs.drop j++zs.take j).map V.str))→H t=none→Keep [] H H'→Q (.ref t) H'):IspLeast vs H Q
def spLeast:Sp:=λvs H Q _=>IspLeast vs H Q
def zgh{α β γ:Type}{R:α→γ→Prop}{f:β→γ}:∀{as:List α} {bs:List β},Paired (λa b=>R a (f b)) as bs→Paired R as (bs.map f):=by
 intro as bs r
 induction r with
 |nil=>exact .nil
 |cons h t ih=>exact .cons h ih
section
variable{P:Nj}{w:Nk}{K:Na}{mg:Nf}{base:Nm}
def zdt:zao ["rows", "rounds", "one", "around", "other"] ["rows"] (zag zg3):=fsk
def ok_oneway{f:Nc}{fd:Nt}(F:Fun K "refuse_one_way" "refuse_one_way" zg3 f fd)(bq:mg "dict" = none):FnOk P w K mg base CX0 1 f fd ["rows"] spOneWay:=by
 refine F.okL zdt (λcdv A outer s H vs Q E hr h=>?_)
 obtain⟨l,as,es,rfl,R,av,hok,k⟩:=h
 have hu:=zb7 hr
 have aB  := sizeLine_eq
 refine⟨_,zae (zat 1 zdt.nd (zb4 (zcf rfl) (by rfl) bq Jb (zaa (pv 0) zaf)))
  (zah (zbd Zf rfl (zay (pv 0)) (pg_tup rfl (zbe (za9 2 zdt.nd) (zbe (za9 3 zdt.nd) zdj)))
   (zah (zbd Zf rfl (zay (pv 3)) (za9 4 zdt.nd)
    (zah (zb2 (PW.pt (pw_or (zaw op_eq (pv 4) (pv 2) (zbp _)) (pw_or1 (zaw zc1 (pv 2) (pe_dget2 hu (pv 1) (pv 4) (za4 zaf) ⟨rfl,rfl,rfl,rfl⟩) rfl)))) (zah zg8) za1)))))),?_⟩
 have dO:(es.map λe:Ent=>(e.1,V.ref e.2.2)).map (·.1)=es.map (·.1):=by rw[Zm];rfl
 refine⟨_,rfl,l,as,es.map λe=>(e.1,V.ref e.2.2),rfl,R.ls,zgh R.ts,by rw[dO];exact av,λd hd=>?_⟩
 have pQ:((es.map λe:Ent=>(e.1,V.ref e.2.2)).map λp=>((Sum.inr p.1:Key),p.2))=es.map λe=>((Sum.inr e.1:Key),V.ref e.2.2):=by rw[Zm];rfl
 rw[pQ]
 have k1:Keep [] H (upd H d (.dK (es.map λe=>((Sum.inr e.1:Key),V.ref e.2.2)))):=Keep.new hd
 have nv:(upd H d (.dK (es.map λe=>((Sum.inr e.1:Key),V.ref e.2.2)))) d=some (.dK (es.map λe=>((Sum.inr e.1:Key),V.ref e.2.2))):=zac
 generalize upd H d (.dK (es.map λe=>((Sum.inr e.1:Key),V.ref e.2.2)))=H1 at k1 nv
 have R1:=R.keep k1
 refine⟨_,rfl,l,rfl,⟨_,SqL.of R1.ls⟩,zbn (xs:=as.map V.ref) (λi σ H'=>Aj2 (Keep [] H1 H') (Ex3 λx2 x3 x4=>σ=[some (.ref l),some (.ref d),x2,x3,x4])) ⟨Keep.refl,none,none,none,rfl⟩ (λi σ H' _ hh=>SqL.of (hh.1 _ _ R1.ls (by simp))) ?_ ?_⟩
 ·rintro i y σ H2 hx ⟨k2,x2,x3,x4,rfl⟩
  have hi:i<as.length:=by
   have:=(Ze.mp hx).1
   rwa[Qa]at this
  have i9:y=.ref as[i]:=by
   rw[Qu,Qc hi]at hx
   exact(Qr hx).symm
  subst i9
  obtain⟨ap,dD⟩:=za7 R1.ts hi
  obtain⟨gM,bK⟩:=hok _ (Qm ap)
  have iz:=k2 _ _ (R1.ro _ (Qm ap)) (by simp)
  refine⟨as[i],_,rfl,SqT.of (k2 _ _ dD (by simp)),rfl,_,_,rfl,_,_,rfl,rfl,?_⟩
  refine⟨_,rfl,es[i].2.2,rfl,⟨_,SqL.of iz⟩,zbn (xs:=es[i].2.1.map V.str) (λj σ H'=>Aj2 (Keep [] H2 H') (Ex1 λx4=>σ=[some (.ref l),some (.ref d),some (.str es[i].1),some (.ref es[i].2.2),x4])) ⟨Keep.refl,_,rfl⟩ (λj σ H' _ hh=>SqL.of (hh.1 _ _ iz (by simp))) ?_ ?_⟩
  ·rintro j y σ H3 hy ⟨k3,y4,rfl⟩
   obtain⟨z,hz,rfl⟩:=Qj.mp (Yl hy)
   obtain⟨e',bM,hez,aw⟩:=bK z hz
   have aE:z≠es[i].1:=λq=>gM (q▸hz)
   have lM:=k3 _ _ (k2 _ _ nv (by simp)) (by simp)
   refine⟨_,rfl,_,rfl,rfl,_,rfl,zbi (decide_eq_false (λq=>aE (by injection q))) ?_⟩
   refine⟨_,rfl,_,rfl,d,rfl,.inl ⟨_,.inl lM⟩,_,rfl,(by show 0≤sizeLine;decide),λq hq=>?_⟩
   have ndq:d≠q:=zab lM hq
   have rh:(upd H3 q (.lst [])) d=some (.dK (es.map λe=>((Sum.inr e.1:Key),V.ref e.2.2))):=by rw[zad ndq];exact lM
   have hr4:(upd H3 q (.lst [])) e'.2.2=some (.lst (e'.2.1.map V.str)):=by
    have h3:=k3 _ _ (k2 _ _ (R1.ro e' bM) (by simp)) (by simp)
    rw[zad (zab h3 hq)];exact h3
   have dg:=DGet.k (k:=Sum.inr z) rh
   rw[←hez,zen av bM,hez]at dg
   refine⟨_,dg,e'.2.2,_,rfl,.inl (SqL.of hr4),rfl,zd1 _,_,rfl,?_⟩
   refine zbi (by rw[if_pos rfl,zhk,decide_eq_true aw];rfl) ?_
   exact⟨k3.trans (Keep.new hq),_,rfl⟩
  ·rintro σ H3 ⟨k3,y4,rfl⟩
   exact⟨k2.trans k3,_,_,_,rfl⟩
 ·rintro σ H2 ⟨k2,x2,x3,x4,rfl⟩
  exact k H2 (k1.trans k2)
def scLeast:zao ["around", "at"] ["around"] (zag sLeast):=fsk
def ok_least(F:Fun K "from_least" "from_least" sLeast f fd)(cF:mg "min" = none)(oS:mg "tuple" = none):FnOk P w K mg base CX0 1 f fd ["around"] spLeast:=by
 refine F.okL scLeast (λcdv A outer s H vs Q E hr h=>?_)
 obtain⟨a,zs,rfl,ha,hz,k⟩:=h
 have aB  := sizeLine_eq
 refine⟨_,zae (zat 1 scLeast.nd (pe_ifExp (zdx (pv 0) (by intro _;rfl)) (zch Zc Uz Uy ze8 (pv 0) (zaa (zaj (zd7 rfl) (by rfl) cF Jg (zaa (pv 0) zaf)) zaf)) zai))
  (zah (zbb (zb4 zhr (by rfl) oS PyProof.Rows.boot_tuple (zaa (zaq zfm (zbt zcy (pv 0) (zb3 (pv 1)) zbx) (zbt zcy (pv 0) zbx (zb3 (pv 1)))) zaf)))),?_⟩
 have dz:(zs.map V.str).length=zs.length:=Qa ..
 refine⟨_,rfl,_,.inl ⟨_,SqL.of ha,rfl⟩,?_⟩
 by_cases oJ:zs=[]
 ·refine zbi (by rw [oJ];rfl) ?_
  have h0:0≤zs.length:=Zn _
  refine⟨_,rfl,_,rfl,_,rfl,a,_,rfl,SqL.of ha,λp1 h1=>?_⟩
  have n1:a≠p1:=zab ha h1
  refine⟨_,rfl,_,rfl,_,rfl,a,_,rfl,SqL.of (by rw[zad n1];exact ha),λp2 h2=>?_⟩
  have fX:p1≠p2:=zab (o:=_) zac h2
  refine⟨p1,p2,_,_,rfl,rfl,(by rw[zad fX];exact zac),zac,?_,λp3 h3=>?_⟩
  ·have q1:=zb5 (zs.map V.str) (some (0:Int)) none
   have q2:=zb5 (zs.map V.str) none (some (0:Int))
   rw[dz]at q1 q2
   show _+_≤sizeLine
   lia
  have ecut:cutV (zs.map V.str) (some (0:Int)) none++cutV (zs.map V.str) none (some (0:Int))=(zs.drop (0:Nat)++zs.take (0:Nat)).map V.str:=by
   show cutV (zs.map V.str) (some (((0:Nat)):Int)) none++cutV (zs.map V.str) none (some (((0:Nat)):Int))=_
   rw[zd4 (by rw[dz];exact h0),cut_to (by rw[dz];exact h0),Qt,Ur,Ua]
  rw[ecut]
  refine⟨p3,_,rfl,.inl ⟨SqL.of zac,λt ht=>?_⟩⟩
  have kk:Keep [] H _:=(((Keep.new h1).trans (Keep.new h2)).trans (Keep.new h3)).trans (Keep.new (o:=.tup ((zs.drop (0:Nat)++zs.take (0:Nat)).map V.str)) ht)
  exact k t (0:Nat) _ h0 zac (zav (xs:=[]) (((Keep.new h1).trans (Keep.new h2)).trans (Keep.new h3)) ht (by simp)) kk
 ·refine zbm (by cases hh:zs with
   |nil=>exact absurd hh oJ
   |cons _ _=>rfl) ?_
  refine⟨_,rfl,.inl ⟨rfl,_,SqL.of ha⟩,_,rfl,a,zs,rfl,SqL.of ha,oJ,λz ck _=>?_⟩
  obtain⟨i1,i2⟩:=index_of ck
  have hj:zs.idxOf z≤zs.length:=Wx (idx_lt ck)
  refine⟨a,_,_,_,rfl,rfl,ha,rfl,zd1 _,i1,i2,?_⟩
  refine⟨_,rfl,_,rfl,_,rfl,a,_,rfl,SqL.of ha,λp1 h1=>?_⟩
  have n1:a≠p1:=zab ha h1
  refine⟨_,rfl,_,rfl,_,rfl,a,_,rfl,SqL.of (by rw[zad n1];exact ha),λp2 h2=>?_⟩
  have fX:p1≠p2:=zab (o:=_) zac h2
  refine⟨p1,p2,_,_,rfl,rfl,(by rw[zad fX];exact zac),zac,?_,λp3 h3=>?_⟩
  ·have q1:=zb5 (zs.map V.str) (some ((zs.idxOf z):Int)) none
   have q2:=zb5 (zs.map V.str) none (some ((zs.idxOf z):Int))
   rw[dz]at q1 q2
   show _+_≤sizeLine
   lia
  have ecut:cutV (zs.map V.str) (some ((zs.idxOf z):Int)) none++cutV (zs.map V.str) none (some ((zs.idxOf z):Int))=(zs.drop (zs.idxOf z)++zs.take (zs.idxOf z)).map V.str:=by
   rw[zd4 (by rw[dz];exact hj),cut_to (by rw[dz];exact hj),Qt,Ur,Ua]
  rw[ecut]
  refine⟨p3,_,rfl,.inl ⟨SqL.of zac,λt ht=>?_⟩⟩
  have kk:Keep [] H _:=(((Keep.new h1).trans (Keep.new h2)).trans (Keep.new h3)).trans (Keep.new (o:=.tup ((zs.drop (zs.idxOf z)++zs.take (zs.idxOf z)).map V.str)) ht)
  exact k t (zs.idxOf z) _ hj zac (zav (xs:=[]) (((Keep.new h1).trans (Keep.new h2)).trans (Keep.new h3)) ht (by simp)) kk
end
end K21
end
section
namespace Wb
section lk
variable{β:Type}
def Lk(f:β→β):β→List β→β→Prop
 |s,[],e=>f s=e
 |s,x::t,e=>f s=x∧Lk f x t e
def lk_app:∀{A:List β} {s:β},Lk f s (A++x::B) e↔Lk f s A x∧Lk f x B e:=by
 intro A
 induction A with
 |nil=>intro s;exact Iff.rfl
 |cons a t ih =>
  intro s
  show f s=a∧Lk f a (t++x::B) e↔(f s=a∧Lk f a t x)∧Lk f x B e
  rw[ih,and_assoc]
def lk_congr:∀{t:List β} {s:β},(∀y,y=s∨y∈t→g y=f y)→Lk f s t e→Lk g s t e:=by
 intro t
 induction t with
 |nil=>intro s h k;exact(h s (.inl rfl)).trans k
 |cons a t ih =>
  intro s h k
  refine⟨(h s (.inl rfl)).trans k.1,ih (λy hy=>h y (.inr ?_)) k.2⟩
  rcases hy with z | z
  ·rw[z];exact Qe
  ·exact Qi _ z
def Cyc(f:β→β)(c:List β):Prop:=∃s t,c=s::t∧Lk f s t s
def zeh(h:Cyc f (A++x::B)):Lk f x (B++A) x:=by
 obtain⟨s,t,e,k⟩:=h
 cases A with
 |nil =>
  cases e
  rw[Zx];exact k
 |cons a A' =>
  cases e
  obtain⟨k1,k2⟩:=lk_app.mp k
  exact lk_app.mpr ⟨k2,k1⟩
def cyc_congr(h:∀y∈c,g y=f y)(k:Cyc f c):Cyc g c:=by
 obtain⟨s,t,e,k⟩:=k
 subst e
 exact⟨s,t,rfl,lk_congr (λy hy=>h y (Qh.mpr hy)) k⟩
end lk
section nx
variable{α:Type}[DecidableEq α]
def zbj{A B:List α}{w:α}(h:w∉A):(B++A++[w]).head?=some (nxt (A++w::B) w):=by
 have hi:(A++w::B).idxOf w=A.length:=by
  rw[List.idxOf_append,if_neg h,List.idxOf_cons_self];lia
 unfold nxt
 rw[hi,Qp,Zd]
 cases B with
 |nil =>
  have e:(A.length+1)%(A.length+(([]:List α).length+1))=0:=by simp
  rw[e]
  cases A with
  |nil=>rfl
  |cons a t=>rfl
 | cons b t =>
  have e:(A.length+1)%(A.length+((b::t).length+1))=A.length+1:=Nat.mod_eq_of_lt (by rw[Zd];lia)
  rw[e]
  have:(A++w::b::t).getD (A.length+1) w=b:=by
   rw[Qv,Uk (by exact Wg _ _)]
   have:A.length+1-A.length=1:=by lia
   rw[this];rfl
  rw[this];rfl
def zby{zs:List α}{c:α}(h:c∈zs)(nd:zs.Nodup):∃A B,zs=A++c::B∧c∉A∧c∉B:=by
 obtain⟨A,B,e⟩:=Wh h
 refine⟨A,B,e,?_,?_⟩
 ·rw [e,Qz] at nd
  exact λz=>nd.2.2 _ z _ Qe rfl
 ·rw [e,Qz,Qy] at nd
  exact nd.2.1.1
def zcj{A B:List α}{c n:α}(h:c∉A):ins (A++c::B) (some c) n=A++c::n::B:=by
 have hi:(A++c::B).idxOf c=A.length:=by
  rw[List.idxOf_append,if_neg h,List.idxOf_cons_self];lia
 show(A++c::B).take ((A++c::B).idxOf c+1)++n::(A++c::B).drop ((A++c::B).idxOf c+1)=_
 rw[hi]
 have e1:(A++c::B).take (A.length+1)=A++[c]:=by
  rw[List.take_append,Qx (by exact Wg _ _)]
  have:A.length+1-A.length=1:=by lia
  rw[this];rfl
 have e2:(A++c::B).drop (A.length+1)=B:=by
  rw[List.drop_append,List.drop_of_length_le (by exact Wg _ _)]
  have:A.length+1-A.length=1:=by lia
  rw[this];rfl
 rw[e1,e2,Qw];rfl
variable{zs:List α}{c n:α}
def mem_ins(hc:c∈zs)(nd:zs.Nodup){w:α}:w∈ins zs (some c) n↔w=n∨w∈zs:=by
 obtain⟨A,B,rfl,h1,h2⟩:=zby hc nd
 rw[zcj h1]
 simp only[Qd,Qh]
 constructor
 ·rintro (h | h | h | h)
  ·exact .inr (.inl h)
  ·exact .inr (.inr (.inl h))
  ·exact .inl h
  ·exact .inr (.inr (.inr h))
 ·rintro (h | h | h | h)
  ·exact .inr (.inr (.inl h))
  ·exact .inl h
  ·exact .inr (.inl h)
  ·exact .inr (.inr (.inr h))
def zhi(hc:c∈zs)(nd:zs.Nodup):(ins zs (some c) n).length=zs.length+1:=by
 obtain⟨A,B,rfl,h1,h2⟩:=zby hc nd
 rw[zcj h1]
 simp only[Qp,Zd];lia
def nd_ins(hc:c∈zs)(nd:zs.Nodup)(hn:n∉zs):(ins zs (some c) n).Nodup:=by
 obtain⟨A,B,rfl,h1,h2⟩:=zby hc nd
 rw[zcj h1]
 rw[Qz,Qy]at nd
 rw[Qd,Qh,not_or,not_or]at hn
 obtain⟨nA,⟨ncB,nB⟩,nAB⟩:=nd
 rw[Qz,Qy,Qy]
 refine⟨nA,⟨?_,hn.2.2,nB⟩,λa ha b hb=>?_⟩
 ·rw[Qh,not_or];exact⟨λe=>hn.2.1 e.symm,ncB⟩
 ·rcases Qh.mp hb with z | z
  ·rw[z];exact nAB a ha c Qe
  ·rcases Qh.mp z with y | y
   ·rw[y];exact λe=>hn.1 (e▸ha)
   ·exact nAB a ha b (Qi _ y)
def zfq(hc:c∈zs)(nd:zs.Nodup):nxt (ins zs (some c) n) c=n:=by
 obtain⟨A,B,rfl,h1,h2⟩:=zby hc nd
 rw[zcj h1]
 have k:=zbj (B:=n::B) h1
 exact(Qr k).symm
def zfp(hc:c∈zs)(nd:zs.Nodup)(hn:n∉zs):nxt (ins zs (some c) n) n=nxt zs c:=by
 obtain⟨A,B,rfl,h1,h2⟩:=zby hc nd
 rw[zcj h1]
 rw[Qd,Qh,not_or,not_or]at hn
 have e:A++c::n::B=(A++[c])++n::B:=by rw[Qw];rfl
 have hnA:n∉A++[c]:=by
  rw[Qd,not_or,Qb];exact⟨hn.1,hn.2.1⟩
 have k1:=zbj (B:=B) hnA
 have k2:=zbj (B:=B) h1
 rw[←e]at k1
 refine Qr (k1.symm.trans (Eq.trans ?_ k2))
 cases B with
 |cons b t=>rfl
 |nil=>cases A with
  |nil=>rfl
  |cons a t=>rfl
def zfo(hc:c∈zs)(nd:zs.Nodup)(hn:n∉zs){w:α}(hw:w∈zs)(oN:w≠c):nxt (ins zs (some c) n) w=nxt zs w:=by
 obtain⟨A,B,rfl,h1,h2⟩:=zby hc nd
 rw[zcj h1]
 rw[Qz,Qy]at nd
 obtain⟨nA,⟨ncB,nB⟩,nAB⟩:=nd
 rw[Qd,Qh,not_or,not_or]at hn
 rcases Qd.mp hw with h | h
 ·obtain ⟨A1,A2,rfl,g1,g2⟩:=zby h nA
  have k1:=zbj (A:=A1) (B:=A2++c::n::B) g1
  have k2:=zbj (A:=A1) (B:=A2++c::B) g1
  rw[Qw,Yf,Qw,Yf]
  refine Qr (k1.symm.trans (Eq.trans ?_ k2))
  cases A2<;>rfl
 ·rcases Qh.mp h with z | z
  ·exact absurd z oN
  ·obtain ⟨B1,B2,rfl,g1,g2⟩:=zby z nB
   have hwA:w∉A:=λq=>nAB _ q _ (Qi _ z) rfl
   have kF:w≠n:=λq=>hn.2.2 (q▸z)
   have m1:w∉A++c::n::B1:=by
    simp only[Qd,Qh,not_or];exact⟨hwA,oN,kF,g1⟩
   have m2:w∉A++c::B1:=by
    simp only[Qd,Qh,not_or];exact⟨hwA,oN,g1⟩
   have k1:=zbj (B:=B2) m1
   have k2:=zbj (B:=B2) m2
   have e1:A++c::n::(B1++w::B2)=(A++c::n::B1)++w::B2:=by rw[Qw];rfl
   have e2:A++c::(B1++w::B2)=(A++c::B1)++w::B2:=by rw[Qw];rfl
   rw[e1,e2]
   refine Qr (k1.symm.trans (Eq.trans ?_ k2))
   cases B2 with
   |cons b t=>rfl
   |nil=>cases A<;>rfl
def nxt_rot(nd:zs.Nodup)(k:Nat){w:α}(hw:w∈zs):nxt (zs.drop k++zs.take k) w=nxt zs w:=by
 obtain⟨A,B,rfl,h1,h2⟩:=zby hw nd
 have k2:=zbj (B:=B) h1
 by_cases hk:k≤A.length
 ·have e:(A++w::B).drop k++(A++w::B).take k=A.drop k++w::(B++A.take k):=by
   rw[List.drop_append,List.take_append]
   have:k-A.length=0:=by lia
   rw[this,List.drop_zero,List.take_zero,Zx,Qw];rfl
  have k1:=zbj (A:=A.drop k) (B:=B++A.take k) (λz=>h1 (Wj z))
  rw[e]
  refine Qr (k1.symm.trans (Eq.trans ?_ k2))
  rw[Qw B,Yp]
 ·have e:(A++w::B).drop k++(A++w::B).take k=(B.drop (k - A.length - 1)++A)++w::B.take (k - A.length - 1):=by
   rw[List.drop_append,List.take_append,List.drop_of_length_le (by lia),Qx (by lia)]
   have:k-A.length=(k-A.length-1)+1:=by lia
   conv=>lhs;rw[this]
   rw[List.drop_succ_cons,List.take_succ_cons,Ue,Qw]
  have k1:=zbj (A:=B.drop (k-A.length-1)++A) (B:=B.take (k-A.length-1)) (λz=>by
   rcases Qd.mp z with y | y
   ·exact h2 (Wj y)
   ·exact h1 y)
  rw[e]
  refine Qr (k1.symm.trans (Eq.trans ?_ k2))
  rw[←Qw,Yp]
end nx
section
variable{α:Type}[DecidableEq α]
def st(r:α→List α)(s:α×α):α×α:=(s.2,nxt (r s.2) s.1)
inductive Conn(r:α→List α)(x:α):α→Prop
 |refl:Conn r x x
 |step {y z:α}:Conn r x y→z∈r y→Conn r x z
def Conn.trans{r:α→List α}{x y z:α}(a:Conn r x y)(b:Conn r y z):Conn r x z:=by
 induction b with
 |refl=>exact a
 |step _ h ih=>exact .step ih h
def Conn.mono(h:∀x y,y∈r x→y∈r' x)(a:Conn r x y):Conn r' x y:=by
 induction a with
 |refl=>exact .refl
 |step _ hz ih=>exact .step ih (h _ _ hz)
def wt(ns:List α)(r:α→List α)(a7:α→α)(t:α):Int:=(ns.map λx=>if a7 x=t then 2+(if r x=[] then 2 else 0)-((r x).length:Int) else 0).sum
def ct(cs:List (List (α×α)))(a7:α→α)(t:α):Int:=(cs.map λc=>if(c.any λs=>decide (a7 s.1=t))=true then(2:Int) else 0).sum
structure Cert(ns:List α)(r:α→List α)(cs:List (List (α×α)))(a7:α→α):Prop where
 nd:ns.Nodup
 ro:∀x,x∉ns→r x=[]
 rn:∀x,(r x).Nodup
 ir:∀x,x∉r x
 sy:∀x y,y∈r x→x∈r y
 cf:cs.flatten.Nodup
 cm:∀s,s∈cs.flatten↔s.1∈r s.2
 cy:∀c∈cs,Cyc (st r) c
 ln:∀x∈ns,a7 x∈ns
 la:∀x y,y∈r x→a7 y=a7 x
 co:∀x∈ns,∀y∈ns,a7 x=a7 y→Conn r x y
 eu:∀x∈ns,wt ns r a7 (a7 x)+ct cs a7 (a7 x)=4
variable{ns:List α}{r r':α→List α}{cs:List (List (α×α))}{a7:α→α}
def Cert.inn(C:Cert ns r cs a7){x y:α}(h:y∈r x):x∈ns:=Kb λz=>by rw[C.ro x z]at h;cases h
def Cert.inn'(C:Cert ns r cs a7){x y:α}(h:y∈r x):y∈ns:=C.inn (C.sy x y h)
def sum_upd{g g':α→Int}:∀ {l:List α},l.Nodup→a∈l→(∀ x∈l,x≠a→g' x=g x)→(l.map g').sum=(l.map g).sum+(g' a - g a):=by
 intro l
 induction l with
 |nil=>intro _ h;cases h
 | cons b t ih =>
  intro nd h e
  rw[Qy]at nd
  rw[Qk,Qk,Zy,Zy]
  by_cases hb:b=a
  ·have:(t.map g').sum=(t.map g).sum:=by
    congr 1
    exact Yo λx hx=>e x (Qi _ hx) λz=>nd.1 (by rw[hb,←z];exact hx)
   rw[this,hb];lia
  ·have h':a∈t:=by
    rcases Qh.mp h with z | z
    ·exact absurd z.symm hb
    ·exact z
   rw[ih nd.2 h' λx hx=>e x (Qi _ hx),e b Qe hb];lia
def zc5{β:Type}{g g':β→Int}{l:List β}(h:∀x∈l,g' x=g x):(l.map g').sum=(l.map g).sum:=by
 congr 1;exact Yo h
def zhp(C:Cert ns r cs a7){N R:List (List (α×α))}{c0 news:List (α×α)}(hR:∀c∈R,c∈cs)(bo:cs.flatten.Perm (c0++R.flatten))(hN:N.flatten.Perm (news++c0))(av:news.Nodup)(bJ:∀s∈news,s.1∉r s.2)(gq:∀s:α×α,s.1∈r' s.2↔s∈news∨s.1∈r s.2)(hcy:∀c∈N,Cyc (st r') c)(ak:∀s:α×α,s.1∈r s.2→s∉c0→st r' s=st r s) :
  (N++R).flatten.Nodup∧(∀s,s∈(N++R).flatten↔s.1∈r' s.2)∧∀c∈N++R,Cyc (st r') c:=by
 have hp:(N++R).flatten.Perm (news++cs.flatten):=by
  rw[Jq]
  refine(List.Perm.append_right _ hN).trans ?_
  rw[Qw]
  exact Zv _ bo.symm
 refine⟨?_,λs=>?_,λc hc=>?_⟩
 ·rw [hp.nodup_iff,Qz]
  exact⟨av,C.cf,λa ha b hb e=>bJ a ha (by rw[e];exact(C.cm b).mp hb)⟩
 ·rw[hp.mem_iff,Qd,gq,C.cm]
 ·rcases Qd.mp hc with z | z
  ·exact hcy c z
  ·refine cyc_congr (fun y hy=>?_) (C.cy c (hR c z))
   have hyR:y∈R.flatten:=Yh.mpr ⟨c,z,hy⟩
   refine ak y ((C.cm y).mp (bo.mem_iff.mpr (Qn _ hyR))) λkB=>?_
   have:=bo.nodup_iff.mp C.cf
   rw[Qz]at this
   exact this.2.2 y kB y hyR rfl
def sum_zero{β:Type}{g:β→Int}:∀{l:List β},(∀x∈l,g x=0)→(l.map g).sum=0:=by
 intro l
 induction l with
 |nil=>intro _;rfl
 |cons a t ih =>
  intro h
  rw[Qk,Zy,h a Qe,ih λx hx=>h x (Qi _ hx)];rfl
def Cert.inc(C:Cert ns r cs a7){c:List (α×α)}(hc:c∈cs){s:α×α}(hs:s∈c):s.1∈r s.2:=(C.cm s).mp (Yh.mpr ⟨c,hc,hs⟩)
def ct_lab{ad:α→α}{t:α}(h:∀c∈cs,∀s∈c,ad s.1=a7 s.1):ct cs ad t=ct cs a7 t:=by
 refine zc5 λc hc=>?_
 have:(c.any λs=>decide (ad s.1=t))=c.any λs=>decide (a7 s.1=t):=by
  rw[Yu,Yn,Yn]
  constructor
  ·rintro⟨s,hs,e⟩;exact⟨s,hs,by rwa[h c hc s hs]at e⟩
  ·rintro⟨s,hs,e⟩;exact⟨s,hs,by rw[h c hc s hs];exact e⟩
 rw[this]
def cert_new(C:Cert ns r cs a7){x:α}(hx:x∉ns){ad:α→α}(hl:∀y∈ns,ad y=a7 y)(aX:ad x=x):Cert (ns++[x]) r cs ad:=by
 have hrx:r x=[]:=C.ro x hx
 have ne:∀{y},y∈ns→y≠x:=λ{y} hy e=>hx (e▸hy)
 have aw:∀c∈cs,∀s∈c,s.1∈ns:=λc hc s hs=>C.inn' (C.inc hc hs)
 have jW:∀t,ct cs ad t=ct cs a7 t:=λt=>ct_lab λc hc s hs=>hl _ (aw c hc s hs)
 have lx:∀y∈ns,a7 y≠x:=λy hy e=>hx (e▸C.ln y hy)
 have rj:ct cs a7 x=0:=sum_zero λc hc=>if_neg λz=>by
  obtain⟨s,hs,e⟩:=Yn.mp z
  exact lx _ (aw c hc s hs) (of_decide_eq_true e)
 have hw:∀t,wt (ns++[x]) r ad t=wt ns r a7 t+if x=t then 4 else 0:=λt=>by
  unfold wt
  rw[Qt,List.sum_append,Qk,Ks,Zy,List.sum_nil]
  congr 1
  ·exact zc5 λz hz=>by rw[hl z hz]
  ·rw[aX,hrx];simp
 refine⟨?_,λy hy=>C.ro y λz=>hy (Qo _ z),C.rn,C.ir,C.sy,C.cf,C.cm,C.cy,λy hy=>?_,λy z hz=>?_,λy hy z hz e=>?_,λy hy=>?_⟩
 ·rw [Qz]
  exact⟨C.nd,Qy.mpr ⟨by simp,Zq⟩,λa ha b hb=>by rw[Qb.mp hb];exact ne ha⟩
 ·rcases Qd.mp hy with h | h
  ·rw[hl y h];exact Qo _ (C.ln y h)
  ·rw[Qb.mp h,aX];exact Qn _ Qe
 ·rw[hl _ (C.inn' hz),hl _ (C.inn hz)];exact C.la y z hz
 ·rcases Qd.mp hy with h | h <;> rcases Qd.mp hz with g | g
  ·rw[hl _ h,hl _ g]at e;exact C.co y h z g e
  ·rw [hl _ h,Qb.mp g,aX] at e
   exact absurd e (lx y h)
  ·rw [hl _ g,Qb.mp h,aX] at e
   exact absurd e.symm (lx z g)
  ·rw[Qb.mp h,Qb.mp g];exact .refl
 ·rw [jW,hw]
  rcases Qd.mp hy with h | h
  ·rw [hl _ h,if_neg (fun z=>lx y h z.symm)]
   have:=C.eu y h;lia
  ·rw [Qb.mp h,aX,if_pos rfl,rj]
   have:wt ns r a7 x=0:=sum_zero λz hz=>if_neg (lx z hz)
   rw[this];rfl
end
section
variable{β:Type}
def zhh:∀{t:List β},g s'=f s→(∀y∈t,g y=f y)→Lk f s t e→Lk g s' t e:=by
 intro t
 cases t with
 |nil=>intro h _ k;exact h.trans k
 |cons a t =>
  intro h hh k
  exact⟨h.trans k.1,lk_congr (λy hy=>hh y (Qh.mpr hy)) k.2⟩
def lk_lab{γ:Type}{f:β→β}{lb:β→γ}{e:β}:∀{t:List β} {s:β},(∀y,y=s∨y∈t→lb (f y)=lb y)→Lk f s t e→∀y∈t,lb y=lb s:=by
 intro t
 induction t with
 |nil=>intro s _ _ y hy;cases hy
 | cons a t ih =>
  intro s h k y hy
  have ha:lb a=lb s:=by rw[←k.1];exact h s (.inl rfl)
  rcases Qh.mp hy with z | z
  ·rw[z];exact ha
  ·rw [← ha]
   exact ih (λy hy=>h y (.inr (Qh.mpr hy))) k.2 y z
def zhc{l m:List Int}(h:l.Perm m):l.sum=m.sum:=by
 induction h with
 |nil=>rfl
 |cons x _ ih=>rw[Zy,Zy,ih]
 |swap x y l=>rw[Zy,Zy,Zy,Zy];omega
 |trans _ _ a b=>exact a.trans b
end
section
variable{α:Type}[DecidableEq α]{ns:List α}{r r':α→List α}{cs:List (List (α×α))}{a7 ad:α→α}
def ct_perm{aQ:List (List (α×α))}(h:cs.Perm aQ)(t:α):ct cs a7 t=ct aQ a7 t:=zhc (h.map _)
def zei(c:List (α×α))(t:α):ct (c::cs) a7 t=(if(c.any λs=>decide (a7 s.1=t))=true then(2:Int) else 0)+ct cs a7 t:=by
 unfold ct;rw[List.map_cons,List.sum_cons]
def Cert.one_lab(C:Cert ns r cs a7){c:List (α×α)}(hc:c∈cs){s u:α×α}(hs:s∈c)(hu:u∈c):a7 u.1=a7 s.1:=by
 obtain⟨A,B,rfl⟩:=Wh hs
 have k:=zeh (C.cy _ hc)
 have hl:∀y,y=s∨y∈B++A→a7 (st r y).1=a7 y.1:=λy hy=>by
  have cM:y∈A++s::B:=by
   rcases hy with z | z
   ·rw[z];exact hs
   ·rcases Qd.mp z with q | q
    ·exact Qn _ (Qi _ q)
    ·exact Qo _ q
  exact(C.la _ _ (C.inc hc cM)).symm
 rcases Qd.mp hu with z | z
 ·exact lk_lab (lb:=λy:α×α=>a7 y.1) hl k u (Qn _ z)
 ·rcases Qh.mp z with q | q
  ·rw[q]
  ·exact lk_lab (lb:=λy:α×α=>a7 y.1) hl k u (Qo _ q)
def zel{c:List (α×α)}(h:∀s∈c,a7 s.1=u)(aE:c≠[]):(c.any λs=>decide (a7 s.1=t))=decide (u=t):=by
 rw[Yu,Yn,decide_eq_true_iff]
 constructor
 ·rintro⟨s,hs,e⟩;rw[←h s hs];exact of_decide_eq_true e
 ·intro e
  cases c with
  |nil=>exact absurd rfl aE
  |cons s _=>exact⟨s,Qe,decide_eq_true ((h s Qe).trans e)⟩
def zcm(hc:c∈cs):cs.flatten.Perm (c++(cs.erase c).flatten):=by
 have:=List.Perm.flatten (Ji hc)
 rwa[Kh]at this
def zex(C:Cert ns r cs a7)(hp:p∈ns)(hx:x∉ns)(h1:r' x=[p])(h3:∀ y,y≠x→y≠p→r' y=r y)(hm:∀ w,w∈r' p↔w=x∨w∈r p)(hn:(r' p).Nodup)(a9:(r' p).length=(r p).length+1)(hl:∀y∈ns,ad y=a7 y)(aX:ad x=a7 p)(hc:aQ.flatten.Nodup∧(∀s,s∈aQ.flatten↔s.1∈r' s.2)∧∀c∈aQ,Cyc (st r') c)(jW:∀t,ct aQ ad t=ct cs a7 t+if a7 p=t then(if r p=[] then 2 else 0) else 0):Cert (ns++[x]) r' aQ ad:=by
 have dy:p≠x:=λe=>hx (e▸hp)
 have hrx:r x=[]:=C.ro x hx
 have ne:∀{y},y∈ns→y≠x:=λ{y} hy e=>hx (e▸hy)
 have sub:∀z y,y∈r z→y∈r' z:=λz y hy=>by
  by_cases hz:z=p
  ·rw[hz]at hy ⊢;exact(hm y).mpr (.inr hy)
  ·rw[h3 z (ne (C.inn hy)) hz];exact hy
 have hw:∀t,wt (ns++[x]) r' ad t=wt ns r a7 t-if a7 p=t then(if r p=[] then 2 else 0) else 0:=λt=>by
  unfold wt
  rw[Qt,List.sum_append,Qk,Ks,Zy,List.sum_nil,aX,h1]
  have e1:(ns.map λy=>if ad y=t then(2:Int)+(if r' y=[] then 2 else 0)-((r' y).length:Int) else 0).sum=(ns.map λy=>if a7 y=t then(2:Int)+(if r' y=[] then 2 else 0)-((r' y).length:Int) else 0).sum :=
   zc5 λy hy=>by rw[hl y hy]
  rw[e1,sum_upd (g:=λy=>if a7 y=t then(2:Int)+(if r y=[] then 2 else 0)-((r y).length:Int) else 0) C.nd hp (λy hy aL=>by rw[h3 y (ne hy) aL])]
  have aE:r' p≠[]:=λe=>by rw[e]at a9;simp at a9
  by_cases ht:a7 p=t
  ·simp only [ht,if_true,aE,if_false,a9]
   by_cases kS:r p=[]
   ·simp[kS];omega
   ·simp[kS];omega
  ·simp only[ht,if_false];omega
 refine⟨?_,λy hy=>?_,λy=>?_,λy=>?_,λy z hz=>?_,hc.1,hc.2.1,hc.2.2,λy hy=>?_,λy z hz=>?_,λy hy z hz e=>?_,λy hy=>?_⟩
 ·rw [Qz]
  exact⟨C.nd,Qy.mpr ⟨by simp,Zq⟩,λa ha b hb=>by rw[Qb.mp hb];exact ne ha⟩
 ·rw [Qd,not_or,Qb] at hy
  rw[h3 y hy.2 (λe=>hy.1 (e▸hp))];exact C.ro y hy.1
 ·by_cases cA:y=x
  ·rw[cA,h1];exact Qy.mpr ⟨by simp,Zq⟩
  ·by_cases aL:y=p
   ·rw[aL];exact hn
   ·rw[h3 y cA aL];exact C.rn y
 ·by_cases cA:y=x
  ·rw[cA,h1,Qb];exact Zh dy
  ·by_cases aL:y=p
   ·rw[aL,hm,not_or];exact⟨dy,C.ir p⟩
   ·rw[h3 y cA aL];exact C.ir y
 ·by_cases cA:y=x
  ·rw [cA,h1,Qb] at hz
   rw[hz,cA];exact(hm x).mpr (.inl rfl)
  ·by_cases aL:y=p
   ·rw [aL] at hz ⊢
    rcases(hm z).mp hz with q | q
    ·rw[q,h1];exact Qe
    ·exact sub z p (C.sy p z q)
   ·rw [h3 y cA aL] at hz
    exact sub z y (C.sy y z hz)
 ·rcases Qd.mp hy with h | h
  ·rw[hl y h];exact Qo _ (C.ln y h)
  ·rw[Qb.mp h,aX];exact Qo _ (C.ln p hp)
 ·by_cases cA:y=x
  ·rw [cA,h1,Qb] at hz
   rw[hz,cA,aX,hl p hp]
  ·by_cases aL:y=p
   ·rw [aL] at hz ⊢
    rcases(hm z).mp hz with q | q
    ·rw[q,aX,hl p hp]
    ·rw[hl _ (C.inn' q),hl p hp];exact C.la p z q
   ·rw [h3 y cA aL] at hz
    rw[hl _ (C.inn' hz),hl _ (C.inn hz)];exact C.la y z hz
 ·have xp:Conn r' x p:=.step .refl (by rw [h1];exact Qe)
  rcases Qd.mp hy with h | h<;>rcases Qd.mp hz with g | g
  ·rw[hl _ h,hl _ g]at e;exact(C.co y h z g e).mono sub
  ·rw [hl _ h,Qb.mp g,aX] at e
   rw[Qb.mp g]
   exact .step ((C.co y h p hp e).mono sub) ((hm x).mpr (.inl rfl))
  ·rw [hl _ g,Qb.mp h,aX] at e
   rw[Qb.mp h]
   exact xp.trans ((C.co p hp z g e).mono sub)
  ·rw[Qb.mp h,Qb.mp g];exact .refl
 ·have key:∀ u∈ns,wt (ns++[x]) r' ad (a7 u)+ct aQ ad (a7 u)=4:=fun u hu=>by
   rw[hw,jW]
   have:=C.eu u hu;omega
  rcases Qd.mp hy with h | h
  ·rw[hl _ h];exact key y h
  ·rw[Qb.mp h,aX];exact key p hp
end
section
variable{α:Type}[DecidableEq α]{ns:List α}{r r':α→List α}{cs:List (List (α×α))}{a7 ad:α→α}
def nxt_one(p:α):nxt [p] p=p:=by
 unfold nxt
 simp
def leaf_mem(C:Cert ns r cs a7)(hp:p∈ns)(hx:x∉ns)(h1:r' x=[p])(h3:∀ y,y≠x→y≠p→r' y=r y)(hm:∀ w,w∈r' p↔w=x∨w∈r p) :
  ∀s:α×α,s.1∈r' s.2↔s∈[(x,p),(p,x)]∨s.1∈r s.2:=λs=>by
 obtain⟨a,b⟩:=s
 have dy:p≠x:=λe=>hx (e▸hp)
 show a∈r' b↔(a,b)∈[(x,p),(p,x)]∨a∈r b
 rw[Qh,Qb,Prod.mk.injEq,Prod.mk.injEq]
 by_cases ny:b=x
 ·subst ny
  rw[h1,C.ro b hx,Qb]
  constructor
  ·intro e;exact .inl (.inr ⟨e,rfl⟩)
  ·rintro ((⟨_,e⟩ | ⟨e,_⟩) | e)
   ·exact absurd e.symm dy
   ·exact e
   ·cases e
 ·by_cases gZ:b=p
  ·subst gZ
   rw[hm]
   constructor
   ·rintro (e | e)
    ·exact .inl (.inl ⟨e,rfl⟩)
    ·exact .inr e
   ·rintro ((⟨e,_⟩ | ⟨_,e⟩) | e)
    ·exact .inl e
    ·exact absurd e ny
    ·exact .inr e
  ·rw [h3 b ny gZ]
   constructor
   ·exact .inr
   ·rintro ((⟨_,e⟩ | ⟨_,e⟩) | e)
    ·exact absurd e gZ
    ·exact absurd e ny
    ·exact e
def leaf_nd(dy:p≠x):([(x,p),(p,x)]:List (α×α)).Nodup:=by
 rw[Qy,Qb]
 exact⟨λe=>dy (Uj e).1.symm,Qy.mpr ⟨by simp,Zq⟩⟩
def leaf_no(C:Cert ns r cs a7)(hx:x∉ns):∀s∈([(x,p),(p,x)]:List (α×α)),s.1∉r s.2:=λs hs h=>by
 rcases Qh.mp hs with e | e
 ·rw[e]at h;exact hx (C.inn' h)
 ·rw[Qb.mp e]at h;exact hx (C.inn h)
def cert_leaf0(C:Cert ns r cs a7)(hp:p∈ns)(hx:x∉ns)(mQ:r p=[])(h1:r' x=[p])(h2:r' p=[x])(h3:∀ y,y≠x→y≠p→r' y=r y)(hl:∀ y∈ns,ad y=a7 y)(aX:ad x=a7 p) :
  Cert (ns++[x]) r' ([(x,p),(p,x)]::cs) ad:=by
 have dy:p≠x:=λe=>hx (e▸hp)
 have hm:∀w,w∈r' p↔w=x∨w∈r p:=λw=>by rw[h2,mQ,Qb];simp
 refine zex C hp hx h1 h3 hm (by rw[h2];exact Qy.mpr ⟨by simp,Zq⟩) (by rw[h2,mQ];rfl) hl aX ?_ λt=>?_
 ·refine zhp (N:=[[(x,p),(p,x)]]) (R:=cs) (c0:=[]) (news:=[(x,p),(p,x)]) C (fun c h=>h) (by rw [Ue]) (by simp) (leaf_nd dy) (leaf_no C hx) (leaf_mem C hp hx h1 h3 hm) (fun c hc=>?_) fun s hs _=>?_
  ·rw [Qb.mp hc]
   refine⟨(x,p),[(p,x)],rfl,?_,?_⟩
   ·show (p,nxt (r' p) x)=(p,x)
    rw[h2,nxt_one]
   ·show (x,nxt (r' x) p)=(x,p)
    rw[h1,nxt_one]
  ·have pe:s.2≠x:=fun e=>hx (e ▸ C.inn hs)
   have aW:s.2≠p:=λe=>by rw[e,mQ]at hs;cases hs
   unfold st;rw[h3 s.2 pe aW]
 ·rw [zei,zel (u:=a7 p) (fun s hs=>?_) (by simp)]
  ·have:ct cs ad t=ct cs a7 t:=ct_lab fun c hc s hs=>hl _ (C.inn' (C.inc hc hs))
   rw[this]
   simp only[decide_eq_true_eq,mQ,if_true]
   lia
  ·rcases Qh.mp hs with e | e
   ·rw[e];exact aX
   ·rw[Qb.mp e];exact hl p hp
def cert_leaf(C:Cert ns r cs a7)(hp:p∈ns)(hx:x∉ns)(hc:c∈r p)(h1:r' x=[p])(h2:r' p=ins (r p) (some c) x)(h3:∀ y,y≠x→y≠p→r' y=r y)(hl:∀ y∈ns,ad y=a7 y)(aX:ad x=a7 p) :
  ∃aQ,Cert (ns++[x]) r' aQ ad:=by
 have dy:p≠x:=λe=>hx (e▸hp)
 have gH:x∉r p:=λh=>hx (C.inn' h)
 have hm:∀w,w∈r' p↔w=x∨w∈r p:=λw=>by rw[h2];exact mem_ins hc (C.rn p)
 obtain⟨c1,br,bQ⟩:=Yh.mp ((C.cm (c,p)).mpr hc)
 obtain⟨A,B,fS⟩:=Wh bQ
 have k:=zeh (fS▸C.cy c1 br)
 have old:∀y∈c1,y.1∈r y.2:=λy hy=>C.inc br hy
 have nd1:c1.Nodup:=by
  have:=(zcm br).nodup_iff.mp C.cf
  rw[Qz]at this
  exact this.1
 have ak:∀s:α×α,s.1∈r s.2→s≠(c,p)→st r' s=st r s:=λs hs aE=>by
  have pe:s.2≠x:=λe=>hx (e▸C.inn hs)
  by_cases aW:s.2=p
  ·unfold st
   rw[aW,h2]
   rw[aW]at hs
   rw[zfo hc (C.rn p) gH hs (λe=>aE (Ju e aW))]
  ·unfold st;rw[h3 s.2 pe aW]
 have inBA:∀y∈B++A,y∈c1∧y≠(c,p):=λy hy=>by
  rw[fS]at nd1 ⊢
  rw[Qz,Qy]at nd1
  rcases Qd.mp hy with z | z
  ·exact⟨Qn _ (Qi _ z),λe=>nd1.2.1.1 (e▸z)⟩
  ·exact⟨Qo _ z,λe=>nd1.2.2 y z (c,p) Qe e⟩
 refine⟨[(c,p)::(p,x)::(x,p)::(B++A)]++cs.erase c1,zex C hp hx h1 h3 hm (by rw[h2];exact nd_ins hc (C.rn p) gH) (by rw[h2];exact zhi hc (C.rn p)) hl aX ?_ λt=>?_⟩
 ·refine zhp (c0:=c1) (news:=[(x,p),(p,x)]) C (fun c h=>Xb h) (zcm br) ?_ (leaf_nd dy) (leaf_no C hx) (leaf_mem C hp hx h1 h3 hm) (fun c' bG=>?_) fun s hs hn=>ak s hs fun e=>hn (e ▸ bQ)
  ·rw [fS]
   refine Jo.mpr λa=>?_
   simp only[Kh,List.flatten_nil,Zx,Ki,Ky,List.count_nil]
   lia
  ·rw [Qb.mp bG]
   refine⟨(c,p),_,rfl,?_,?_,zhh (f:=st r) (s:=(c,p)) ?_ (λy hy=>ak y (old y (inBA y hy).1) (inBA y hy).2) k⟩
   ·show (p,nxt (r' p) c)=(p,x)
    rw[h2,zfq hc (C.rn p)]
   ·show (x,nxt (r' x) p)=(x,p)
    rw[h1,nxt_one]
   ·show (p,nxt (r' p) x)=(p,nxt (r p) c)
    rw[h2,zfp hc (C.rn p) gH]
 ·have aE:r p≠[]:=Uu hc
  have e2:ct cs a7 t=ct (c1::cs.erase c1) a7 t:=ct_perm (Ji br) t
  have e3:ct (cs.erase c1) ad t=ct (cs.erase c1) a7 t:=ct_lab λc h s hs=>hl _ (C.inn' (C.inc (Xb h) hs))
  have lc:∀s∈c1,a7 s.1=a7 p:=λs hs=>(C.one_lab br bQ hs).trans (C.la p c hc)
  rw[e2,zei,Xa,zei,e3,zel (u:=a7 p) lc (Uu bQ),zel (u:=a7 p) (λs hs=>?_) (by simp),if_neg aE]
  ·simp
  ·rcases Qh.mp hs with e | hs
   ·rw[e];exact(hl _ (C.inn' hc)).trans (C.la p c hc)
   ·rcases Qh.mp hs with e | hs
    ·rw[e];exact hl p hp
    ·rcases Qh.mp hs with e | hs
     ·rw[e];exact aX
     ·rw[hl _ (C.inn' (old s (inBA s hs).1))];exact lc s (inBA s hs).1
def cert_tie(C:Cert ns r cs a7)(br:c1∈cs)(bQ:(c,p)∈c1)(cZ:(a,o)∈c1)(jN:o≠p)(bJ:o∉r p)(h1:r' p=ins (r p) (some c) o)(h2:r' o=ins (r o) (some a) p)(h3:∀ y,y≠p→y≠o→r' y=r y) :
  ∃aQ,Cert ns r' aQ a7:=by
 have hc:c∈r p:=C.inc br bQ
 have ha:a∈r o:=C.inc br cZ
 have hp:p∈ns:=C.inn hc
 have ho:o∈ns:=C.inn ha
 have n8:p∉r o:=λh=>bJ (C.sy o p h)
 have jP:∀w,w∈r' p↔w=o∨w∈r p:=λw=>by rw[h1];exact mem_ins hc (C.rn p)
 have be:∀w,w∈r' o↔w=p∨w∈r o:=λw=>by rw[h2];exact mem_ins ha (C.rn o)
 have dZ:a7 o=a7 p:=by
  rw[←C.la o a ha,←C.la p c hc];exact C.one_lab br bQ cZ
 obtain⟨A,B,fS⟩:=Wh bQ
 have k:=zeh (fS▸C.cy c1 br)
 have old:∀y∈c1,y.1∈r y.2:=λy hy=>C.inc br hy
 have nd1:c1.Nodup:=by
  have:=(zcm br).nodup_iff.mp C.cf
  rw[Qz]at this
  exact this.1
 have px:(a,o)∈B++A:=by
  rw[fS]at cZ
  rcases Qd.mp cZ with z | z
  ·exact Qn _ z
  ·rcases Qh.mp z with q | q
   ·exact absurd (Uj q).2 jN
   ·exact Qo _ q
 obtain⟨A2,B2,ma⟩:=Wh px
 rw[ma]at k
 obtain⟨k1,k2⟩:=lk_app.mp k
 have pm:c1.Perm ((c,p)::(A2++(a,o)::B2)):=by
  rw[fS,←ma]
  refine Jo.mpr λa=>?_
  simp only[Ki,Ky]
  lia
 have dG:=pm.nodup_iff.mp nd1
 rw[Qy,Qz,Qy]at dG
 obtain⟨n1,n2,⟨n3,n4⟩,n5⟩:=dG
 have inA:∀y∈A2,y∈c1∧y≠(c,p)∧y≠(a,o):=λy hy=>⟨pm.mem_iff.mpr (Qi _ (Qo _ hy)),λe=>n1 (e▸Qo _ hy),λe=>n5 y hy (a,o) Qe e⟩
 have inB:∀y∈B2,y∈c1∧y≠(c,p)∧y≠(a,o):=λy hy=>⟨pm.mem_iff.mpr (Qi _ (Qn _ (Qi _ hy))),λe=>n1 (e▸Qn _ (Qi _ hy)),λe=>n3 (e▸hy)⟩
 have ak:∀s:α×α,s.1∈r s.2→s≠(c,p)→s≠(a,o)→st r' s=st r s:=λs hs gM bK=>by
  by_cases aW:s.2=p
  ·unfold st
   rw[aW,h1]
   rw[aW]at hs
   rw[zfo hc (C.rn p) bJ hs (λe=>gM (Ju e aW))]
  ·by_cases mK:s.2=o
   ·unfold st
    rw[mK,h2]
    rw[mK]at hs
    rw[zfo ha (C.rn o) n8 hs (λe=>bK (Ju e mK))]
   ·unfold st;rw[h3 s.2 aW mK]
 have sub:∀z y,y∈r z→y∈r' z:=λz y hy=>by
  by_cases hz:z=p
  ·rw[hz]at hy ⊢;exact(jP y).mpr (.inr hy)
  ·by_cases mz:z=o
   ·rw[mz]at hy ⊢;exact(be y).mpr (.inr hy)
   ·rw[h3 z hz mz];exact hy
 have gq:∀s:α×α,s.1∈r' s.2↔s∈[(o,p),(p,o)]∨s.1∈r s.2:=λs=>by
  obtain⟨u,b⟩:=s
  show u∈r' b↔(u,b)∈[(o,p),(p,o)]∨u∈r b
  rw[Qh,Qb,Prod.mk.injEq,Prod.mk.injEq]
  by_cases gZ:b=p
  ·subst gZ
   rw[jP]
   constructor
   ·rintro (e | e)
    ·exact .inl (.inl ⟨e,rfl⟩)
    ·exact .inr e
   ·rintro ((⟨e,_⟩ | ⟨_,e⟩) | e)
    ·exact .inl e
    ·exact absurd e.symm jN
    ·exact .inr e
  ·by_cases rq:b=o
   ·subst rq
    rw[be]
    constructor
    ·rintro (e | e)
     ·exact .inl (.inr ⟨e,rfl⟩)
     ·exact .inr e
    ·rintro ((⟨_,e⟩ | ⟨e,_⟩) | e)
     ·exact absurd e gZ
     ·exact .inl e
     ·exact .inr e
   ·rw [h3 b gZ rq]
    constructor
    ·exact .inr
    ·rintro ((⟨_,e⟩ | ⟨_,e⟩) | e)
     ·exact absurd e gZ
     ·exact absurd e rq
     ·exact e
 have nnd:([(o,p),(p,o)]:List (α×α)).Nodup:=by
  rw[Qy,Qb]
  exact⟨λe=>jN (Uj e).1,Qy.mpr ⟨by simp,Zq⟩⟩
 have eV:=zhp (N:=[(c,p)::(p,o)::B2,(a,o)::(o,p)::A2]) (R:=cs.erase c1) (c0:=c1) (news:=[(o,p),(p,o)]) (r':=r') C (λc h=>Xb h) (zcm br) (by
   refine List.Perm.trans ?_ (Zv _ pm.symm)
   refine Jo.mpr λa=>?_
   simp only[Kh,List.flatten_nil,Zx,Ki,Ky,List.count_nil]
   lia) nnd (λs hs h=>by
    rcases Qh.mp hs with e | e
    ·rw[e]at h;exact bJ h
    ·rw[Qb.mp e]at h;exact n8 h) gq (λc' bG=>by
   rcases Qh.mp bG with e | e
   ·rw [e]
    refine⟨(c,p),_,rfl,?_,zhh (f:=st r) (s:=(a,o)) ?_ (λy hy=>ak y (old y (inB y hy).1) (inB y hy).2.1 (inB y hy).2.2) k2⟩
    ·show (p,nxt (r' p) c)=(p,o)
     rw[h1,zfq hc (C.rn p)]
    ·show (o,nxt (r' o) p)=(o,nxt (r o) a)
     rw[h2,zfp ha (C.rn o) n8]
   ·rw [Qb.mp e]
    refine⟨(a,o),_,rfl,?_,zhh (f:=st r) (s:=(c,p)) ?_ (λy hy=>ak y (old y (inA y hy).1) (inA y hy).2.1 (inA y hy).2.2) k1⟩
    ·show (o,nxt (r' o) a)=(o,p)
     rw[h2,zfq ha (C.rn o)]
    ·show (p,nxt (r' p) o)=(p,nxt (r p) c)
     rw[h1,zfp hc (C.rn p) bJ]) λs hs hn=>ak s hs (λe=>hn (e▸bQ)) λe=>hn (e▸cZ)
 refine⟨_,C.nd,λy hy=>?_,λy=>?_,λy=>?_,λy z hz=>?_,eV.1,eV.2.1,eV.2.2,C.ln,λy z hz=>?_,λy hy z hz e=>(C.co y hy z hz e).mono sub,λy hy=>?_⟩
 ·rw[h3 y (λe=>hy (e▸hp)) (λe=>hy (e▸ho))];exact C.ro y hy
 ·by_cases aL:y=p
  ·rw[aL,h1];exact nd_ins hc (C.rn p) bJ
  ·by_cases cn:y=o
   ·rw[cn,h2];exact nd_ins ha (C.rn o) n8
   ·rw[h3 y aL cn];exact C.rn y
 ·by_cases aL:y=p
  ·rw[aL,jP,not_or];exact⟨Zh jN,C.ir p⟩
  ·by_cases cn:y=o
   ·rw[cn,be,not_or];exact⟨jN,C.ir o⟩
   ·rw[h3 y aL cn];exact C.ir y
 ·by_cases aL:y=p
  ·rw [aL] at hz ⊢
   rcases(jP z).mp hz with q | q
   ·rw[q];exact(be p).mpr (.inl rfl)
   ·exact sub z p (C.sy p z q)
  ·by_cases cn:y=o
   ·rw [cn] at hz ⊢
    rcases(be z).mp hz with q | q
    ·rw[q];exact(jP o).mpr (.inl rfl)
    ·exact sub z o (C.sy o z q)
   ·rw [h3 y aL cn] at hz
    exact sub z y (C.sy y z hz)
 ·by_cases aL:y=p
  ·rw [aL] at hz ⊢
   rcases(jP z).mp hz with q | q
   ·rw[q];exact dZ
   ·exact C.la p z q
  ·by_cases cn:y=o
   ·rw [cn] at hz ⊢
    rcases(be z).mp hz with q | q
    ·rw[q];exact dZ.symm
    ·exact C.la o z q
   ·rw [h3 y aL cn] at hz
    exact C.la y z hz
 ·have e2:ct cs a7 (a7 y)=ct (c1::cs.erase c1) a7 (a7 y):=ct_perm (Ji br) _
  have lc:∀s∈c1,a7 s.1=a7 p:=λs hs=>(C.one_lab br bQ hs).trans (C.la p c hc)
  have l1:∀s∈(c,p)::(p,o)::B2,a7 s.1=a7 p:=λs hs=>by
   rcases Qh.mp hs with e | hs
   ·rw[e];exact C.la p c hc
   ·rcases Qh.mp hs with e | hs
    ·rw[e]
    ·exact lc s (inB s hs).1
  have l2:∀s∈(a,o)::(o,p)::A2,a7 s.1=a7 p:=λs hs=>by
   rcases Qh.mp hs with e | hs
   ·rw[e];exact(C.la o a ha).trans dZ
   ·rcases Qh.mp hs with e | hs
    ·rw[e];exact dZ
    ·exact lc s (inA s hs).1
  have jW:ct ([(c,p)::(p,o)::B2,(a,o)::(o,p)::A2]++cs.erase c1) a7 (a7 y)=ct cs a7 (a7 y)+if a7 p=a7 y then 2 else 0:=by
   rw[e2,zei,Yf,zei,Yf,zei,Ue,zel lc (Uu bQ),zel l1 (by simp),zel l2 (by simp)]
   simp only[decide_eq_true_eq]
   split<;>lia
  have hw:wt ns r' a7 (a7 y)=wt ns r a7 (a7 y)-if a7 p=a7 y then 2 else 0:=by
   have aH:∀{zs:List α} {w n:α},w∈zs→zs.Nodup→ins zs (some w) n≠[]:=λ{zs w n} hw nd e=>by
    have:=zhi (n:=n) hw nd
    rw[e]at this;simp at this
   unfold wt
   have s1:=sum_upd (g:=λx=>if a7 x=a7 y then(2:Int)+(if r x=[] then 2 else 0)-((r x).length:Int) else 0)
    (g':=λx=>if x=p then(if a7 p=a7 y then(2:Int)+(if r' p=[] then 2 else 0)-((r' p).length:Int) else 0) else if a7 x=a7 y then(2:Int)+(if r x=[] then 2 else 0)-((r x).length:Int) else 0) C.nd hp (λx _ hx=>if_neg hx)
   have s2:=sum_upd (g:=λx=>if x=p then(if a7 p=a7 y then(2:Int)+(if r' p=[] then 2 else 0)-((r' p).length:Int) else 0) else if a7 x=a7 y then(2:Int)+(if r x=[] then 2 else 0)-((r x).length:Int) else 0)
    (g':=fun x=>if a7 x=a7 y then (2:Int)+(if r' x=[] then 2 else 0) - ((r' x).length:Int) else 0) C.nd ho (fun x _ hx=>by
     by_cases gH:x=p
     ·rw[if_pos gH,gH]
     ·rw[if_neg gH,h3 x gH hx])
   rw[s2,s1]
   simp only[if_true,jN,if_false,dZ,h1,h2,aH hc (C.rn p),aH ha (C.rn o),zhi hc (C.rn p),zhi ha (C.rn o),Uu hc,Uu ha]
   by_cases ht:a7 p=a7 y
   ·simp only[ht,if_true];lia
   ·simp only[ht,if_false];lia
  rw[jW,hw]
  have:=C.eu y hy
  lia
end
section
variable{α:Type}[DecidableEq α]
def Good(rs:Rs α):Prop:=∃cs a7,Cert (rs.map (·.1)) (row rs) cs a7
def cyc_next{β:Type}{f:β→β}{c:List β}(h:Cyc f c){s:β}(hs:s∈c):f s∈c:=by
 obtain⟨A,B,rfl⟩:=Wh hs
 have k:=zeh h
 cases e:B++A with
 |nil =>
  rw[e]at k
  rw[show f s=s from k];exact hs
 |cons a t =>
  rw[e]at k
  rw[k.1]
  have:a∈B++A:=by rw[e];exact Qe
  rcases Qd.mp this with z | z
  ·exact Qn _ (Qi _ z)
  ·exact Qo _ z
variable{rs:Rs α}
def zes(nd:(rs.map (·.1)).Nodup){p:α×List α}(h:p∈rs):row rs p.1=p.2:=by
 unfold row
 induction rs with
 |nil=>cases h
 | cons a t ih =>
  rw[Qk,Qy]at nd
  rcases Qh.mp h with z | z
  ·subst z;rw[Yz (by simp)];rfl
  ·rw [Wa]
   ·exact ih nd.2 z
   ·intro q
    exact nd.1 (by rw[of_decide_eq_true q];exact Qj.mpr ⟨p,z,rfl⟩)
def zec(h:x∉rs.map (·.1)):row rs x=[]:=by
 unfold row
 rw[List.find?_eq_none.mpr]
 ·rfl
 ·intro p hp q
  exact h (of_decide_eq_true q▸Qj.mpr ⟨p,hp,rfl⟩)
def zco(nd:(rs.map (·.1)).Nodup){s:α×α}:IsSt rs s↔s.1∈row rs s.2:=by
 constructor
 ·rintro ⟨p,hp,e,h⟩
  rw[←e,zes nd hp];exact h
 ·intro h
  by_cases hx:s.2∈rs.map (·.1)
  ·obtain ⟨p,hp,e⟩:=Qj.mp hx
   have e':p.1=s.2:=e
   rw[←e',zes nd hp]at h
   exact⟨p,hp,e',h⟩
  ·rw[zec hx]at h;cases h
def zci(x:α)(rr:List α):(za5 rs x rr).map (·.1)=rs.map (·.1):=by
 unfold za5
 rw[Zm]
 refine Yo λp _=>?_
 show(if p.1=x then(p.1,rr) else p).1=p.1
 split<;>rfl
def zb9{x:α}{rr:List α}(h:x∈rs.map (·.1)):row (za5 rs x rr) x=rr:=by
 unfold row za5
 induction rs with
 |nil=>cases h
 | cons a t ih =>
  rw[Qk]
  by_cases hx:a.1=x
  ·rw[if_pos hx,Yz (by simpa using hx)];rfl
  ·rw [if_neg hx,Wa (by simpa using hx)]
   refine ih ?_
   rw[Qk]at h
   rcases Qh.mp h with z | z
   ·exact absurd z.symm hx
   ·exact z
def zb1{x y:α}{rr:List α}(h:y≠x):row (za5 rs x rr) y=row rs y:=by
 unfold row za5
 induction rs with
 |nil=>rfl
 | cons a t ih =>
  rw[Qk]
  by_cases hy:a.1=y
  ·have hx:a.1≠x:=fun e=>h (hy ▸ e)
   rw[if_neg hx,Yz (by simpa using hy),Yz (by simpa using hy)]
  ·have h1:(if a.1=x then (a.1,rr) else a).1=a.1:=by split <;> rfl
   rw[Wa (by rw[h1];simpa using hy),Wa (by simpa using hy)]
   exact ih
def row_snoc{x:α}(h:x∉rs.map (·.1)):row (rs++[(x,[])])=row rs:=by
 funext y
 unfold row
 rw[List.find?_append]
 cases e:rs.find? λp=>decide (p.1=y) with
 |some p=>rfl
 |none =>
  rw[Option.none_or]
  by_cases hy:x=y
  ·rw[Yz (by simpa using hy)];rfl
  ·rw[Wa (by simpa using hy)];rfl
theorem zbf:Gen (Good (α:=α)) where
 clo:=λrs ⟨cs,a7,C⟩ s hs=>by
  obtain⟨c,hc,h⟩:=Yh.mp ((C.cm s).mpr ((zco C.nd).mp hs))
  exact(zco C.nd).mpr ((C.cm _).mp (Yh.mpr ⟨c,hc,cyc_next (C.cy c hc) h⟩))
 nd:=λrs ⟨cs,a7,C⟩=>C.nd
 sub:=λrs ⟨cs,a7,C⟩ p hp=>by
  have e:=zes C.nd hp
  exact⟨e▸C.rn p.1,λx hx=>C.inn' (x:=p.1) (by rw[e];exact hx)⟩
 sy:=λrs ⟨cs,a7,C⟩ p hp x hx=>C.sy p.1 x (by rw[zes C.nd hp];exact hx)
 nil:=by
  refine⟨[],id,⟨Zq,λ_ _=>rfl,λ_=>Zq,λ_ h=>?_,λ_ _ h=>?_,Zq,λs=>⟨λh=>?_,λh=>?_⟩,λc h=>?_,λ_ h=>?_,λ_ _ h=>?_,λ_ h=>?_,λ_ h=>?_⟩⟩
  ·exact absurd h (by simp[row])
  ·exact absurd h (by simp[row])
  ·cases h
  ·exact absurd h (by simp[row])
  ·cases h
  ·cases h
  ·exact absurd h (by simp[row])
  ·cases h
  ·cases h
 new:=λrs x ⟨cs,a7,C⟩ hx=>by
  refine⟨cs,λy=>if y=x then x else a7 y,?_⟩
  rw[row_snoc hx,Qt]
  exact cert_new C hx (λy hy=>if_neg (λe:y=x=>hx (e▸hy))) (if_pos rfl)
 leaf:=λrs x p c ⟨cs,a7,C⟩ hx hp hc gY=>by
  have gL:p.1∈rs.map (·.1):=Qj.mpr ⟨p,hp,rfl⟩
  have dy:p.1≠x:=λe=>hx (e▸gL)
  have e0:(za5 (za5 (rs++[(x,[])]) p.1 (ins p.2 c x)) x [p.1]).map (·.1)=rs.map (·.1)++[x]:=by rw[zci,zci,Qt];rfl
  have oK:x∈(za5 (rs++[(x,[])]) p.1 (ins p.2 c x)).map (·.1):=by rw[zci,Qt];exact Qn _ Qe
  have pO:p.1∈(rs++[(x,([]:List α))]).map (·.1):=by rw[Qt];exact Qo _ gL
  have r1:row (za5 (za5 (rs++[(x,[])]) p.1 (ins p.2 c x)) x [p.1]) x=[p.1]:=zb9 oK
  have r2:row (za5 (za5 (rs++[(x,[])]) p.1 (ins p.2 c x)) x [p.1]) p.1=ins p.2 c x:=by rw[zb1 dy,zb9 pO]
  have r3:∀y,y≠x→y≠p.1→row (za5 (za5 (rs++[(x,[])]) p.1 (ins p.2 c x)) x [p.1]) y=row rs y:=λy h1 h2=>by rw[zb1 h1,zb1 h2,row_snoc hx]
  have er:=zes C.nd hp
  have hl:∀y∈rs.map (·.1),(λy=>if y=x then a7 p.1 else a7 y) y=a7 y:=λy hy=>if_neg (λe:y=x=>hx (e▸hy))
  have aX:(λy=>if y=x then a7 p.1 else a7 y) x=a7 p.1:=if_pos rfl
  unfold Good
  rw[e0]
  cases c with
  |none =>
   have h0:=gY rfl
   refine⟨_,_,cert_leaf0 C gL hx (er.trans h0) r1 ?_ r3 hl aX⟩
   rw[r2,h0];rfl
  |some y =>
   have hy:=hc y rfl
   obtain⟨aQ,C'⟩:=cert_leaf C gL hx (c:=y) (by rw[er];exact hy) r1 (by rw[r2,er]) r3 hl aX
   exact⟨aQ,_,C'⟩
 tie:=λrs c p n ⟨cs,a7,C⟩ hp hc h1 h2=>by
  have er:=zes C.nd hp
  obtain⟨c1,br,bQ⟩:=Yh.mp ((C.cm (c,p.1)).mpr (by rw[er];exact hc))
  have cZ:∀n,itr rs (c,p.1) n∈c1:=λn=>by
   induction n with
   |zero=>exact bQ
   |succ n ih=>exact cyc_next (C.cy c1 br) ih
  have pj:=cZ n
  generalize itr rs (c,p.1) n=q at h1 h2 pj
  have gL:p.1∈rs.map (·.1):=Qj.mpr ⟨p,hp,rfl⟩
  have kT:q.2∈rs.map (·.1):=C.inn (C.inc br pj)
  unfold Good
  rw[zci,zci]
  obtain⟨aQ,C'⟩:=cert_tie (r':=row (za5 (za5 rs p.1 (ins p.2 (some c) q.2)) q.2 (ins (row rs q.2) (some q.1) p.1))) C br bQ (a:=q.1) (o:=q.2) pj h1 (by rw[er];exact h2)
   (by rw[zb1 (Zh h1),zb9 gL,er]) (by rw[zb9 (by rw[zci];exact kT)]) (λy h3 h4=>by rw[zb1 h4,zb1 h3])
  exact⟨aQ,a7,C'⟩
end
section
variable{α:Type}[DecidableEq α]{ns oq:List α}{r r':α→List α}{cs:List (List (α×α))}{a7:α→α}
def rot_perm(zs:List α)(k:Nat):(zs.drop k++zs.take k).Perm zs:=by
 refine Yw.trans ?_
 rw[Yp]
def zd6(C:Cert ns r cs a7)(hn:oq.Perm ns)(hr:∀x,∃k,r' x=(r x).drop k++(r x).take k):Cert oq r' cs a7:=by
 have hp:∀x,(r' x).Perm (r x):=λx=>by obtain⟨k,e⟩:=hr x;rw[e];exact rot_perm _ k
 have hm:∀{x y},y∈r' x↔y∈r x:=λ{x y}=>(hp x).mem_iff
 have ak:∀s:α×α,s.1∈r s.2→st r' s=st r s:=λs hs=>by
  obtain⟨k,e⟩:=hr s.2
  unfold st;rw[e,nxt_rot (C.rn _) k hs]
 have hw:∀t,wt oq r' a7 t=wt ns r a7 t:=λt=>by
  unfold wt
  rw[zhc (hn.map _)]
  refine zc5 λx _=>?_
  have h1:=(hp x).length_eq
  have h2:(r' x=[])=(r x=[]):=propext ⟨λe=>by rw[e]at h1;exact List.eq_nil_of_length_eq_zero h1.symm,λe=>by rw[e]at h1;exact List.eq_nil_of_length_eq_zero h1⟩
  simp only[h1,h2]
 refine⟨hn.nodup_iff.mpr C.nd,λx hx=>?_,λx=>(hp x).nodup_iff.mpr (C.rn x),λx h=>C.ir x (hm.mp h),λx y h=>hm.mpr (C.sy x y (hm.mp h)),C.cf,λs=>(C.cm s).trans hm.symm,λc hc=>?_,λx hx=>hn.mem_iff.mpr (C.ln x (hn.mem_iff.mp hx)),λx y h=>C.la x y (hm.mp h),λx hx y hy e=>?_,λx hx=>?_⟩
 ·have:=hp x
  rw[C.ro x (λz=>hx (hn.mem_iff.mpr z))]at this
  exact List.Perm.eq_nil this
 ·exact cyc_congr (λy hy=>ak y (C.inc hc hy)) (C.cy c hc)
 ·exact(C.co x (hn.mem_iff.mp hx) y (hn.mem_iff.mp hy) e).mono λ_ _ h=>hm.mpr h
 ·rw[hw];exact C.eu x (hn.mem_iff.mp hx)
end
end Wb
end
section
namespace K21
open PySem L2 Wb
abbrev sSteps:Stmt:=top 11
structure BAt(H:Hp)(b:Nc)(bs:List ((Str×Str)×Addr))(r:No):Prop where
 dc:H b=some (.dT (bs.map λe=>(kP e.1,V.ref e.2)))
 tp:∀e∈bs,H e.2=some (.tup [.str (st r e.1).1,.str (st r e.1).2])
 nd:(bs.map (·.1)).Nodup
def BAt.keep{H H':Hp}{b:Nc}{bs:List ((Str×Str)×Addr)}{r:No}{xs:Nl}(h:BAt H b bs r)(k:Keep xs H H')(hb:b∉xs)(ht:∀e∈bs,e.2∉xs):BAt H' b bs r :=
 ⟨k _ _ h.dc hb,λe he=>k _ _ (h.tp e he) (ht e he),h.nd⟩
def kP_inj{s u:Str×Str}(h:kP s=kP u):s=u:=by
 unfold kP at h
 injection h with h1 h2
 injection h2 with h2 _
 exact Ju (Ww h1) (Ww h2)
def valT_out{bs:List ((Str×Str)×Addr)}{s:Str×Str}(h:s∉bs.map (·.1)):valV (bs.map λe=>(kP e.1,V.ref e.2)) (kP s)=none:=by
 induction bs with
 |nil=>rfl
 |cons a t ih =>
  rw[Qk,Qh,not_or]at h
  rw[Qk,zbh]
  ·exact ih h.2
  ·intro q;exact h.1 (kP_inj q).symm
def valT_in{bs:List ((Str×Str)×Addr)}(nd:(bs.map (·.1)).Nodup){e:(Str×Str)×Addr}(h:e∈bs):valV (bs.map fun e=>(kP e.1,V.ref e.2)) (kP e.1)=some (.ref e.2):=by
 induction bs with
 |nil=>cases h
 | cons a t ih =>
  rw[Qk,Qy]at nd
  rw[Qk]
  rcases Qh.mp h with z | z
  ·subst z;exact zb8 rfl
  ·rw [zbh]
   ·exact ih nd.2 z
   ·intro q
    exact nd.1 (by rw[kP_inj q];exact Qj.mpr ⟨e,z,rfl⟩)
inductive IspSteps(vs:List V)(H:Hp)(Q:VK):Prop
 |mk (d:Nc) (es:List Ent) (h0:vs=[.ref d]) (h1:TAt H d es) (h2:es.length≤60) (h3:(∀e∈es,e.2.1.Nodup∧e.2.1.length≤100)) (h4:∀(b:Nc) (bs:List ((Str×Str)×Addr)) (H':Hp),BAt H' b bs (row (rsOf es))→(∀s,s∈bs.map (·.1)↔s.1∈row (rsOf es) s.2)→bs.length≤10000→H b=none→Keep [] H H'→Q (.ref b) H'):IspSteps vs H Q
def spSteps:Sp:=λvs H Q _=>IspSteps vs H Q
def pidx(n j:Nat):Nat:=if j=0 then n-1 else j-1
def atI_prev{zs:List V}{j:Nat}(hj:j<zs.length):atI zs ((j:Int)-1)=zs[pidx zs.length j]?:=by
 unfold pidx
 by_cases h:j=0
 ·subst h
  rw[if_pos rfl]
  unfold atI ixN
  have e1:¬(0:Int)≤((0:Nat):Int)-1:=by lia
  have e2:-(zs.length:Int)≤((0:Nat):Int)-1:=by lia
  rw[if_neg e1,if_pos e2]
  show zs[(((0:Nat):Int)-1+(zs.length:Int)).toNat]?=_
  congr 1;lia
 ·rw [if_neg h]
  have e:(j:Int)-1=((j-1:Nat):Int):=by lia
  rw[e,zau (Qc (by lia)),Qc (by lia)]
def idx_at{zs:Ng}(nd:zs.Nodup){i:Nat}(hi:i<zs.length):zs.idxOf zs[i]=i:=by
 have h1:zs.idxOf zs[i]<zs.length:=idx_lt (Qm hi)
 have h2:zs[zs.idxOf zs[i]]=zs[i]:=Jw h1
 exact(Yv nd).mp h2
def nxt_idx{zs:Ng}(nd:zs.Nodup){j:Nat}(hj:j<zs.length)(hp:pidx zs.length j<zs.length):nxt zs zs[pidx zs.length j]=zs[j]:=by
 unfold nxt
 rw[idx_at nd hp]
 have e:(pidx zs.length j+1)%zs.length=j:=by
  unfold pidx
  by_cases h:j=0
  ·rw [if_pos h,h]
   have:zs.length-1+1=zs.length:=by lia
   rw[this,Nat.mod_self]
  ·rw [if_neg h]
   have:j-1+1=j:=by lia
   rw[this,Nat.mod_eq_of_lt hj]
 rw[e,Qv,Qc hj];rfl
section
variable{P:Nj}{w:Nk}{K:Na}{mg:Nf}{base:Nm}
def zeb:zao ["rounds", "behind", "place", "around", "at", "to"] ["rounds"] (zag sSteps):=fsk
def ok_steps{f:Nc}{fd:Nt}(F:Fun K "steps_behind" "steps_behind" sSteps f fd)(lF:mg "enumerate" = none):FnOk P w K mg base CX0 1 f fd ["rounds"] spSteps:=by
 refine F.okL zeb (λcdv A outer s H vs Q E hr h=>?_)
 obtain⟨d,es,rfl,T,cg,hok,k⟩:=h
 have hu:=zb7 hr
 have aB  := sizeLine_eq
 refine⟨_,zae (zat 1 zeb.nd pe_dnewT)
  (zae (ps_thaw (zbd Zf rfl (zha (pv 0)) (za9 2 zeb.nd)
   (zae (zat 3 zeb.nd (zf7 hu (pv 0) (pv 2)))
   (zah (zbd Zf rfl (pi_enum rfl lF (zaa (pv 3) zaf)) (pg_tup rfl (zbe (za9 4 zeb.nd) (zbe (za9 5 zeb.nd) zdj)))
    (zah (zed hu (pv 1) (zfh (zaa (za6 ix_tup (pv 3) (zaq op_sub (pv 4) zai) (λ_ _=>rfl)) (zaa (pv 2) zaf))) (zfh (zaa (pv 2) (zaa (pv 5) zaf))) rfl)))))))
  (zah (zbb (pv 1)))),?_⟩
 refine λb hb=>?_
 have nfz:∀o' u',H d≠some (.frz o' u'):=λo' u' z=>by rw[T.dc]at z;cases z
 have nbd:d≠b:=zab T.dc hb
 have k1:Keep [] H (upd H b (.dT [])):=Keep.new hb
 have fQ:BAt (upd H b (.dT [])) b [] (row (rsOf es)):=⟨zac,λe he=>(by cases he),Zq⟩
 have T1:TAt (upd H b (.dT [])) d es:=T.keep k1 (by simp) (λ_ _=>by simp)
 generalize upd H b (.dT [])=H1 at k1 fQ T1
 have hbm:∀{H':Hp} {bs:List ((Str×Str)×Addr)},BAt H' b bs (row (rsOf es))→b≠d:=λ_=>Zh nbd
 refine⟨_,rfl,d,_,rfl,T1.dc,λo=>for_dict (λi σ H'=>Aj4 (Ex4 λx2 x3 x4 x5=>σ=[some (.ref d),some (.ref b),x2,x3,x4,x5]) (H' d=some (.frz o (.dK (es.map λe=>((Sum.inr e.1:Key),V.ref e.2.2))))) (Keep [d,b] H1 H') (Ex1 λbs=>Aj3 (BAt H' b bs (row (rsOf es))) (bs.length≤100*i) (∀s,s∈bs.map (·.1)↔s.2∈(es.take i).map (·.1)∧s.1∈row (rsOf es) s.2)))
  ⟨⟨_,_,_,_,rfl⟩,zac,Keep.wr (by simp),[],fQ.keep (xs:=[d]) (Keep.wr (by simp)) (by simpa using Zh nbd) (λe he=>by cases he),Zn _,λs=>⟨λh=>(by cases h),λh=>(by cases h.1)⟩⟩
  (λi σ H' _ hh=>hh.2) ?_ ?_⟩
 ·rintro i pr σ H2 dP ⟨⟨x2,x3,x4,x5,rfl⟩,hz,k2,bs,dq,gA,aA⟩
  have hi:i<es.length:=by
   have:=(Ze.mp dP).1
   rwa[Qa]at this
  have g1:pr=((Sum.inr es[i].1:Key),V.ref es[i].2.2):=by
   rw[Qu,Qc hi]at dP
   exact(Qr dP).symm
  subst g1
  have fM:es[i]∈es:=Qm hi
  obtain⟨av,hln⟩:=hok _ fM
  have pz:row (rsOf es) es[i].1=es[i].2.1:=zca T.nd fM
  have dJ:=T1.ro _ fM
  have nrd:es[i].2.2≠d:=za8 dJ T1.dc (by intro z;cases z)
  have nrb:es[i].2.2≠b:=za8 dJ fQ.dc (by intro z;cases z)
  have iA:=k2 _ _ dJ (by simp[nrd,nrb])
  refine⟨_,rfl,_,rfl,d,.ref es[i].2.2,rfl,.inl ⟨_,Sum.inr es[i].1,.inr ⟨o,hz⟩,rfl,(zen T.nd fM).symm⟩,?_⟩
  have c8:es[i].1∉(es.take i).map (·.1):=by
   have h1:(es.map (·.1)).take (i+1)=(es.map (·.1)).take i++[es[i].1]:=by
    rw[Ql (by rw[Qa];exact hi),Zs]
   have h2:((es.map (·.1)).take (i+1)).Nodup:=Wp (Kf _ _) T.nd
   rw[h1,Qz,←Ua]at h2
   exact λz=>h2.2.2 _ z _ (Qb.mpr rfl) rfl
  refine⟨_,rfl,es[i].2.2,rfl,⟨_,SqT.of iA⟩,for_enum (xs:=es[i].2.1.map V.str) (λj σ H'=>Aj4 (Ex2 λx4 x5=>σ=[some (.ref d),some (.ref b),some (.str es[i].1),some (.ref es[i].2.2),x4,x5]) (H' d=some (.frz o (.dK (es.map λe=>((Sum.inr e.1:Key),V.ref e.2.2))))) (Keep [d,b] H1 H') (Ex1 λbs=>Aj3 (BAt H' b bs (row (rsOf es))) (bs.length≤100*i+j) (∀s,s∈bs.map (·.1)↔(s.2∈(es.take i).map (·.1)∧s.1∈row (rsOf es) s.2)∨∃(m:Nat) (hm:m<j) (hp:pidx es[i].2.1.length m<es[i].2.1.length),s=(es[i].2.1[pidx es[i].2.1.length m],es[i].1))))
   ⟨⟨_,_,rfl⟩,hz,k2,bs,dq,gA,fun s=>(aA s).trans ⟨.inl,fun h=>by
    rcases h with z | ⟨m,hm,_⟩
    ·exact z
    ·exact absurd hm (Nat.not_lt_zero m)⟩⟩ (λj σ H' _ hh=>hh.3 _ _ dJ (by simp[nrd,nrb])) ?_ ?_⟩
  ·rintro j y t σ H3 hy ⟨⟨y4,y5,rfl⟩,g8,k3,jZ,jk,lP,eB⟩ ht
   have hj:j<es[i].2.1.length:=by
    have:=(Ze.mp hy).1
    rwa[Qa]at this
   have kA:y=.str es[i].2.1[j]:=by
    rw[Qu,Qc hj]at hy
    exact(Qr hy).symm
   subst kA
   have pN:pidx es[i].2.1.length j<es[i].2.1.length:=by unfold pidx;split<;>lia
   have pE:=k3 _ _ dJ (by simp[nrd,nrb])
   have k4:Keep [] H3 (upd H3 t (.tup [.int j,.str es[i].2.1[j]])):=Keep.new ht
   refine⟨t,_,rfl,SqT.of zac,rfl,_,_,rfl,_,_,rfl,rfl,?_⟩
   generalize upd H3 t (.tup [.int j,.str es[i].2.1[j]])=H4 at k4
   refine⟨_,rfl,_,rfl,(by show 2≤sizeLine;decide),λv hv=>?_⟩
   have k5:Keep [] H4 (upd H4 v (.tup [.str es[i].1,.str es[i].2.1[j]])):=Keep.new hv
   have hv5:(upd H4 v (.tup [.str es[i].1,.str es[i].2.1[j]])) v=some (.tup [.str es[i].1,.str es[i].2.1[j]]):=zac
   generalize upd H4 v (.tup [.str es[i].1,.str es[i].2.1[j]])=H5 at k5 hv5
   have fZ:Keep [] H3 H5:=k4.trans k5
   have pC:=fZ _ _ pE (by simp)
   have dB:atI (es[i].2.1.map V.str) ((j:Int)-1)=some (.str es[i].2.1[pidx es[i].2.1.length j]):=by
    rw[atI_prev (by rw[Qa];exact hj),Qa,Qu,Qc pN];rfl
   refine⟨_,rfl,_,rfl,_,rfl,_,_,rfl,rfl,es[i].2.2,_,_,_,rfl,rfl,SqT.of pC,dB,_,rfl,(by show 2≤sizeLine;decide),λq hq=>?_⟩
   have k6:Keep [] H5 (upd H5 q (.tup [.str es[i].2.1[pidx es[i].2.1.length j],.str es[i].1])):=Keep.new hq
   have gj:(upd H5 q (.tup [.str es[i].2.1[pidx es[i].2.1.length j],.str es[i].1])) q=some (.tup ((kP (es[i].2.1[pidx es[i].2.1.length j],es[i].1)).map kV)):=zac
   generalize upd H5 q (.tup [.str es[i].2.1[pidx es[i].2.1.length j],.str es[i].1])=H6 at k6 gj
   have oH:Keep [] H3 H6:=fZ.trans k6
   have nE:BAt H6 b jZ (row (rsOf es)):=jk.keep oH (by simp) (λ_ _=>by simp)
   have hv6:=k6 _ _ hv5 (by simp)
   have hz6:=oH _ _ g8 (by simp)
   refine⟨b,_,rfl,DPut.t nE.dc gj (by rw[Qa];lia),?_⟩
   have eM:(es[i].2.1[pidx es[i].2.1.length j],es[i].1)∉jZ.map (·.1):=λz=>by
    rcases(eB _).mp z with⟨z1,_⟩ | ⟨m,hm,hpm,e⟩
    ·exact c8 z1
    ·have e1:=(Uj e).1
     have e2:=(Yv av).mp e1
     unfold pidx at e2
     by_cases qv:j=0
     ·lia
     ·rw [if_neg qv] at e2
      by_cases fG:m=0
      ·rw[if_pos fG]at e2;lia
      ·rw[if_neg fG]at e2;lia
   have iF:putK (jZ.map λe=>(kP e.1,V.ref e.2)) (kP (es[i].2.1[pidx es[i].2.1.length j],es[i].1)) (.ref v)=(jZ++[((es[i].2.1[pidx es[i].2.1.length j],es[i].1),v)]).map λe=>(kP e.1,V.ref e.2):=by
    rw[zdw _ (valT_out eM),Qt];rfl
   have ak:st (row (rsOf es)) (es[i].2.1[pidx es[i].2.1.length j],es[i].1)=(es[i].1,es[i].2.1[j]):=by
    show(es[i].1,nxt (row (rsOf es) es[i].1) es[i].2.1[pidx es[i].2.1.length j])=_
    rw[pz,nxt_idx av hj pN]
   refine⟨⟨_,_,rfl⟩,by rw[zad nbd];exact hz6,(k3.trans (oH.sub (by simp))).trans (Keep.wr (by simp)),_,⟨by rw[zac,iF],λe he=>?_,?_⟩,?_,λs=>?_⟩
   ·rcases Qd.mp he with z | z
    ·have:=nE.tp e z
     rw[zad (za8 this nE.dc (by intro z;cases z))];exact this
    ·rw[Qb.mp z,ak,zad (za8 hv6 nE.dc (by intro z;cases z))];exact hv6
   ·rw [Qt,Qz]
    refine⟨jk.nd,Qy.mpr ⟨by simp,Zq⟩,λx hx y hy e=>?_⟩
    have cM:y=(es[i].2.1[pidx es[i].2.1.length j],es[i].1):=by simpa using hy
    exact eM (by rw[←cM,←e];exact hx)
   ·rw[Qp];show _+1≤_;exact zar4 ‹_›
   ·rw [Qt,Qd,eB]
    constructor
    ·rintro ((z | ⟨m,hm,hp,e⟩) | z)
     ·exact .inl z
     ·exact .inr ⟨m,by exact zar16 ‹_›,hp,e⟩
     ·exact .inr ⟨j,by exact Qf _,pN,by simpa using z⟩
    ·rintro (z | ⟨m,hm,hp,e⟩)
     ·exact .inl (.inl z)
     ·by_cases hmj:m < j
      ·exact .inl (.inr ⟨m,hmj,hp,e⟩)
      ·have:m=j:=by lia
       subst this
       exact .inr (by rw[e];exact Qe)
  ·rintro σ H3 ⟨⟨y4,y5,rfl⟩,g8,k3,jZ,jk,lP,eB⟩
   rw[Qa]at eB lP
   refine⟨⟨_,_,_,_,rfl⟩,g8,k3,jZ,jk,by lia,λs=>(eB s).trans ?_⟩
   have cN:(es.take (i+1)).map (·.1)=(es.take i).map (·.1)++[es[i].1]:=by rw[Ql hi,Qt];rfl
   rw[cN,Qd,Qb]
   constructor
   ·rintro (⟨z1,z2⟩ | ⟨m,hm,hp,e⟩)
    ·exact⟨.inl z1,z2⟩
    ·rw[e];exact⟨.inr rfl,by rw[pz];exact Qm hp⟩
   ·rintro ⟨z1 | z1,z2⟩
    ·exact .inl ⟨z1,z2⟩
    ·refine .inr ?_
     rw[z1,pz]at z2
     obtain⟨q,hq,e⟩:=Zo z2
     by_cases dY:q+1<es[i].2.1.length
     ·have kW:pidx es[i].2.1.length (q+1) < es[i].2.1.length:=by unfold pidx;rw [if_neg (by lia)];assumption
      refine⟨q+1,dY,kW,Ju ?_ z1⟩
      show s.1=es[i].2.1[pidx es[i].2.1.length (q+1)]
      rw[←e];congr 1
     ·have kW:pidx es[i].2.1.length 0 < es[i].2.1.length:=by unfold pidx;rw [if_pos rfl];lia
      refine⟨0,by lia,kW,Ju ?_ z1⟩
      show s.1=es[i].2.1[pidx es[i].2.1.length 0]
      rw[←e];congr 1
      unfold pidx;rw[if_pos rfl];lia
 ·rintro σ H2 ⟨⟨x2,x3,x4,x5,rfl⟩,hz,k2,bs,dq,gA,aA⟩
  rw[Qa]at aA gA
  rw[Qx (Qf _)]at aA
  refine⟨d,o,_,hz,nfz,?_⟩
  have kf:Keep [] H (upd H2 d (.dK (es.map λe=>((Sum.inr e.1:Key),V.ref e.2.2)))):=λc u ec _=>by
   have nc:c≠b:=zab ec hb
   by_cases aF:c=d
   ·subst aF
    rw[zac,←T.dc];exact ec
   ·rw [zad aF]
    exact k2 c u (k1 c u ec (by simp)) (by simp[aF,nc])
  refine⟨_,rfl,k b bs _ (dq.keep (xs:=[d]) (Keep.wr (by simp)) (by simpa using Zh nbd) (λe he=>by simpa using za8 (dq.tp e he) hz (by intro z;cases z))) (λs=>?_) (by lia) hb kf⟩
  rw[aA]
  constructor
  ·exact λh=>h.2
  ·intro h
   refine⟨?_,h⟩
   obtain⟨p,hp,e,_⟩:=(zco (rs:=rsOf es) (by unfold rsOf;rw[List.map_map];exact T.nd)).mpr h
   obtain⟨en,aq,rfl⟩:=Qj.mp hp
   exact Qj.mpr ⟨en,aq,e⟩
end
abbrev zeq:Stmt:=top 12
def zcw(H:Hp)(a:Nc)(h:Str):Prop:=∃t:List Str,H a=some (.lst ((h::t).map V.str))
def zeg(es:List Ent):List Str:=(es.filter λe=>e.2.1.isEmpty).map (·.1)
inductive IspFaces(vs:List V)(H:Hp)(Q:VK):Prop
 |mk (d:Nc) (es:List Ent) (cs:List (List (Str×Str))) (a7:Nw) (h0:vs=[.ref d]) (h1:TAt H d es) (h2:es.length≤60) (h3:(∀e∈es,e.2.1.length≤100)) (h4:Cert (es.map (·.1)) (row (rsOf es)) cs a7) (h5:∀(l:Nc) (as:Nl) (hd hc:Ng) (aQ:List (List (Str×Str))) (H':Hp),H' l=some (.lst (as.map V.ref))→as.length≤20000→Paired (zcw H') as hd→hd.Perm (zeg es++hc)→aQ.Perm cs→Paired (λh c=>∃s∈c,s.1=h) hc aQ→Keep [] H H'→Q (.ref l) H'):IspFaces vs H Q
def spFaces:Sp:=λvs H Q _=>IspFaces vs H Q
def pt_truthK{X:Cx}{K:Na}{a:Expr}{ta:TE}(hK:X.K=K)(ha:PE X a ta)(he:∀whole,isTrue a X.env whole=(do let v ←whole;standAt a.pos;holding [v] (truthy v))) :
  PT X a (λ σ H Q=>ta σ H λx H'=>RTr K x H' Q):=hK▸zdx ha he
abbrev zej:Scope:=scOf (eOf (sAt zeq 1))
def csFaces_k:zej.kind=.function:=by rfl
def csFaces_c:∀y∈zej.names,y.2≠.cell:=by decide +kernel
def csFaces_n:∀y∈zej.names,y.2=.local→zej.names.lookup y.1=some .local:=by decide +kernel
def csFaces_f:∀y∈zej.names,y.2=.free→(zag zeq).names.lookup y.1=some .cell∨(zag zeq).names.lookup y.1=some .free:=by decide +kernel
def csFaces_l:zej.names.lookup ("rounds" : Str)=some NameKind.free:=by decide +kernel
def ndF:(["place", "rounds"]:List Str).Nodup:=by decide +kernel
def valG_out{gs:Nu}{s:Str×Str}(h:s∉gs):valV (gs.map λs=>(kP s,V.bl true)) (kP s)=none:=by
 induction gs with
 |nil=>rfl
 |cons a t ih =>
  rw[Qh,not_or]at h
  rw[Qk,zbh]
  ·exact ih h.2
  ·intro q;exact h.1 (kP_inj q).symm
def valG_in{gs:Nu}{s:Str×Str}(h:s∈gs):valV (gs.map λs=>(kP s,V.bl true)) (kP s)=some (.bl true):=by
 induction gs with
 |nil=>cases h
 | cons a t ih =>
  rw[Qk]
  by_cases e:a=s
  ·exact zb8 (by rw[e])
  ·rw [zbh (fun q=>e (kP_inj q))]
   rcases Qh.mp h with z | z
   ·exact absurd z.symm e
   ·exact ih z
def lk_get{β:Type}{f:β→β}{e:β}:∀{t:List β} {s:β},Lk f s t e→∀k,k<(s::t).length→f ((s::t).getD k e)=(s::t).getD (k+1) e:=by
 intro t
 induction t with
 |nil =>
  intro s h k hk
  have:k=0:=by simp at hk;exact hk
  subst this;exact h
 | cons a t ih =>
  intro s h k hk
  cases k with
  |zero=>exact h.1
  |succ n =>
   have:=ih h.2 n (by simpa using hk)
   simpa using this
def zck{H H':Hp}{D g:Nc}{fa:Nl}{hd:Ng}{xs:Nl}(k:Keep xs H H')(h:Paired (zcw H) fa hd)(hx:∀a (h:Str) (t:Ng),H a=some (.lst ((h::t).map V.str))→a∉xs):Paired (zcw H') fa hd :=
 Paired.imp' (λa h ⟨t,e⟩=>⟨t,k _ _ e (hx a h t e)⟩) h
def zas{α β:Type}{R:α→β→Prop}:∀{as bu:List α} {bs fV:List β},Paired R as bs→Paired R bu fV→Paired R (as++bu) (bs++fV):=by
 intro as bu bs fV r r'
 induction r with
 |nil=>exact r'
 |cons h t ih=>exact .cons h ih
section
variable{P:Nj}{w:Nk}{K:Na}{mg:Nf}{base:Nm}
def zcz:zao ["rounds", "behind", "found", "gone", "first", "face", "step"] ["rounds"] (zag zeq):=fsk
def ok_faces{f fs:Nc}{fd fds:Nt}(F:Fun K "faces_of" "faces_of" zeq f fd)(FS:Fun K "steps_behind" "steps_behind" sSteps fs fds)(bS:Binds K fds ["rounds"] [])(mS:mg "steps_behind" = some (.ref fs))(GS:FnOk P w K mg base CX0 1 fs fds ["rounds"] spSteps)(aN:mg "sorted" = none):FnOk P w K mg base CX0 2 f fd ["rounds"] spFaces:=by
 refine F.okL zcz (λcdv A outer s H vs Q E hr h=>?_)
 obtain⟨d,es,cs,a7,rfl,T,cg,bi,C,k⟩:=h
 have hu:=zb7 hr
 have hu8:(A.deeper (PyProof.Rows.envOfC "faces_of" (zag zeq) s.heap.objs.size f cdv)).units+8<cLine:=Nat.lt_of_le_of_lt (Nat.add_le_add_left (by decide:8≤64) _) hr.units
 have aB  := sizeLine_eq
 refine⟨_,zae (zat 1 zcz.nd (zak GS hr rfl mS FS.kp bS .nil za0 (zaa (pv 0) zaf)))
  (zae (ps_thaw (ps_lc (i:=2) (M:=["place", "rounds"]) (ix:=[none,some 0]) zcz.nd rfl rfl ⟨csFaces_k,csFaces_c,csFaces_n,csFaces_f,rfl,by decide +kernel,λj i x h1 h2=>by
     match j,h1,h2 with
     |0,_,h2=>cases h2
     |1,h1,h2=>cases h1;cases h2;exact⟨rfl,csFaces_l⟩
     |n+2,h1,_=>cases h1⟩ rfl (zha (pv 0)) (λC a5 ex s H=>za9 0 ndF)
    (λC a5 ex s H=>zg7 (pt_not (pt_truthK (K:=K) rfl (zf7 (by exact hu) (pv 1) (pv 0)) (by intro _;rfl)))) (λC a5 ex s H=>za4 (zaa (pv 0) zaf)) rfl))
  (zae (zat 3 zcz.nd pe_dnewT)
  (zae (zbd Zf rfl (zay (zaj (zf9 rfl) (by rfl) aN Wi (zaa (pv 1) zaf))) (za9 4 zcz.nd)
   (zae (zat 5 zcz.nd (za4 zaf))
   (zae (zat 6 zcz.nd (pv 4))
   (zae (zc7 Zf (zet (zbv hu (pv 6) (pv 3)))
    (zae (zed hu (pv 3) (pv 6) zhd rfl)
    (zae (zax (zch Zc Zu Zt zbc (pv 5) (zaa (za6 ix_tup (pv 6) zai (λ_ _=>rfl)) zaf)))
    (zah (zat 6 zcz.nd (zf7 hu (pv 1) (pv 6)))))))
   (zah (zb2 (zdx (pv 5) (by intro _;rfl)) (zah (zax (zch Zc Zu Zt zbc (pv 2) (zaa (pv 5) zaf)))) za1))))))
  (zah (zbb (zaj (zek hu8) (by rfl) aN Wi (zaa (pv 2) zaf))))))),?_⟩
 have ag:∀e∈es,row (rsOf es) e.1=e.2.1:=λe he=>zca T.nd he
 refine⟨_,rfl,d,es,rfl,T,cg,λe he=>⟨ag e he▸C.rn e.1,bi e he⟩,λb bs H1 fQ aA gA hbfr k1=>?_⟩
 have T1:TAt H1 d es:=T.keep k1 (by simp) (λ_ _=>by simp)
 have nfz:∀o' u',H d≠some (.frz o' u'):=λo' u' z=>by rw[T.dc]at z;cases z
 refine⟨_,rfl,d,_,rfl,T1.dc,λo=>⟨λi m ys τ H2=>Aj6 (m=es.length-i) (i≤es.length) (Ex1 λx0=>τ=[x0,some (.ref d)]) (H2 d=some (.frz o (.dK (es.map λe=>((Sum.inr e.1:Key),V.ref e.2.2))))) (Keep [d] H1 H2) (Ex1 λ(as:Nl)=>Aj3 (ys=as.map V.ref) (as.length≤i) (Paired (zcw H2) as (zeg (es.take i)))),
  ⟨es.length,rfl,Zn _,⟨none,rfl⟩,zac,Keep.wr Qe,[],rfl,Zn _,.nil⟩,?_⟩⟩
 rintro i m ys τ H2 ⟨rfl,hi,⟨x0,rfl⟩,hz,k2,fa,rfl,eR,aO⟩
 by_cases aa:i<es.length
 ·refine .inr ⟨⟨hz,by rw [Qa];exact aa⟩,by rw [Qa];lia,?_⟩
  rintro y H' ⟨rfl,pr,e1,rfl⟩
  have g1:pr=((Sum.inr es[i].1:Key),V.ref es[i].2.2):=by
   rw[Qu,Qc aa]at e1
   exact(Qr e1).symm
  subst g1
  have fM:es[i]∈es:=Qm aa
  have hri:=T1.ro _ fM
  have nri:es[i].2.2≠d:=za8 hri T1.dc (by intro z;cases z)
  have iA:=k2 _ _ hri (by simpa using nri)
  have cN:es.take (i+1)=es.take i++[es[i]]:=Ql aa
  refine⟨_,rfl,_,rfl,d,.ref es[i].2.2,rfl,.inl ⟨_,Sum.inr es[i].1,.inr ⟨o,hz⟩,rfl,(zen T.nd fM).symm⟩,_,.inr (.inl ⟨_,SqT.of iA,rfl⟩),?_⟩
  have hem:(es[i].2.1.map V.str).isEmpty=es[i].2.1.isEmpty:=by cases es[i].2.1<;>rfl
  cases hb:es[i].2.1.isEmpty with
  | false =>
   refine zbi (by rw[hem,hb];rfl) ⟨_,?_,rfl,aa,⟨_,rfl⟩,hz,k2,fa,rfl,by exact zar16 ‹_›,?_⟩
   ·exact zar1 ‹_›
   ·unfold zeg
    rw[cN,Uw,Yj (by rw[hb];decide),Kx,Zx];exact aO
  | true =>
   refine zbm (by rw[hem,hb];rfl) ⟨_,rfl,(by show 1≤sizeLine;decide),λq hq=>⟨_,?_,rfl,aa,⟨_,rfl⟩,?_,k2.trans (Keep.new hq),fa++[q],?_,?_,?_⟩⟩
   ·exact zar1 ‹_›
   ·rw[zad (zab hz hq)];exact hz
   ·rw[Qt];rfl
   ·rw[Qp];show _+1≤_;exact zar4 ‹_›
   ·unfold zeg
    rw[cN,Uw,Yi (by rw[hb]),Kx,Qt]
    exact zas (zck (D:=d) (g:=d) (xs:=[]) (Keep.new hq) aO (λ_ _ _ _=>by simp)) (.cons ⟨[],zac⟩ .nil)
 ·have lu:i=es.length:=by exact zar3 ‹_› ‹_›
  subst lu
  rw[Qx (Qf _)]at aO
  refine .inl ⟨⟨hz,by rw[Qa];exact Qf _⟩,λD hD=>?_⟩
  have ndD:d≠D:=zab hz hD
  refine⟨d,o,_,(by rw[zad ndD];exact hz),nfz,?_⟩
  have k3:Keep [] H1 (upd (upd H2 D (.lst (fa.map V.ref))) d (.dK (es.map λe=>((Sum.inr e.1:Key),V.ref e.2.2)))):=λc u ec _=>by
   by_cases aF:c=d
   ·subst aF
    rw[zac,←T1.dc];exact ec
   ·have ec1:=k2 c u ec (by simpa using aF)
    rw[zad aF,zad (zab ec1 hD)];exact ec1
  have gE:(upd (upd H2 D (.lst (fa.map V.ref))) d (.dK (es.map λe=>((Sum.inr e.1:Key),V.ref e.2.2)))) D=some (.lst (fa.map V.ref)):=by rw[zad (Zh ndD)];exact zac
  have cC:Paired (zcw (upd (upd H2 D (.lst (fa.map V.ref))) d (.dK (es.map λe=>((Sum.inr e.1:Key),V.ref e.2.2))))) fa (zeg es):=Paired.imp' (λa h ⟨t,e⟩=>⟨t,by
   rw[zad (za8 e hz (by intro z;cases z)),zad (zab e hD)];exact e⟩) aO
  generalize upd (upd H2 D (.lst (fa.map V.ref))) d (.dK (es.map λe=>((Sum.inr e.1:Key),V.ref e.2.2)))=H3 at k3 gE cC
  have jk:BAt H3 b bs (row (rsOf es)):=fQ.keep k3 (by simp) (λ_ _=>by simp)
  refine λg hg=>?_
  have k4:Keep [] H3 (upd H3 g (.dT [])):=Keep.new hg
  have hg4:(upd H3 g (.dT [])) g=some (.dT []):=zac
  generalize upd H3 g (.dT [])=H4 at k4 hg4
  have hb4:BAt H4 b bs (row (rsOf es)):=jk.keep k4 (by simp) (λ_ _=>by simp)
  refine⟨_,rfl,b,_,bs.map (·.1),rfl,hb4.dc,(by rw[Zm,Zm];rfl),λl as ws hl ai pa=>?_⟩
  have k5:Keep [] H4 (upd H4 l (.lst (as.map V.ref))):=Keep.new hl
  have e7:(upd H4 l (.lst (as.map V.ref))) l=some (.lst (as.map V.ref)):=zac
  have ki:zc4 (upd H4 l (.lst (as.map V.ref))) as ws:=zc4.keep pa λc x y ec=>k5 _ _ ec (by simp)
  have nDl:D≠l:=zab (k4 _ _ gE (by simp)) hl
  generalize upd H4 l (.lst (as.map V.ref))=H5 at k5 e7 ki
  have fZ:Keep [] H3 H5:=k4.trans k5
  have l':=fZ _ _ gE (by simp)
  have lB:=k5 _ _ hg4 (by simp)
  have rB:BAt H5 b bs (row (rsOf es)):=hb4.keep k5 (by simp) (λ_ _=>by simp)
  have bZ:Paired (zcw H5) fa (zeg es):=zck (D:=d) (g:=d) fZ cC (λ_ _ _ _=>by simp)
  have jD:Keep [] H H5:=(k1.trans k3).trans fZ
  have nlg:l≠g:=za8 e7 lB (by intro z;cases z)
  have nDg:D≠g:=za8 l' lB (by intro z;cases z)
  have nbg:b≠g:=zab jk.dc hg
  have nbD:b≠D:=za8 rB.dc l' (by intro z;cases z)
  have dC:as.length=ws.length:=Zz ki
  have fC:ws.length≤10000:=by rw[ai.length_eq,Qa];exact gA
  have notDg:∀{H':Hp} {nU:Nl} {gs:Nu},H' D=some (.lst (nU.map V.ref))→H' g=some (.dT (gs.map λs=>(kP s,V.bl true)))→∀a (h:Str) (t:Ng),H' a=some (.lst ((h::t).map V.str))→a≠D∧a≠g:=λ{H' nU gs} e1 e2 a h t e =>
   ⟨za8 e e1 (by
    intro z
    have z':(h::t).map V.str=nU.map V.ref:=by injection z
    cases nU with
    |nil=>cases z'
    |cons x u=>rw[Qk,Qk]at z';injection z' with z1 _;cases z1),za8 e e2 (by intro z;cases z)⟩
  refine⟨l,rfl,⟨_,SqL.of e7⟩,zbn (xs:=as.map V.ref) (λi σ H'=>Aj3 (Ex3 λx4 x5 x6=>σ=[some (.ref d),some (.ref b),some (.ref D),some (.ref g),x4,x5,x6]) (Keep [D,g] H5 H') (Ex5 λ(gs:Nu) (dn rem:List (List (Str×Str))) (fa:Nl) (hc:Ng)=>Aj9 (H' g=some (.dT (gs.map λs=>(kP s,V.bl true)))) gs.Nodup (∀s,s∈gs↔s∈dn.flatten) (cs.Perm (dn++rem)) (∀s∈ws.take i,s∈gs) (H' D=some (.lst (fa.map V.ref))) (Paired (zcw H') fa (zeg es++hc)) (Paired (λh c=>∃s∈c,s.1=h) hc dn) (fa.length≤100+i)))
   ⟨⟨_,_,_,rfl⟩,Keep.refl,[],[],cs,fa,[],lB,Zq,λs=>Iff.rfl,List.Perm.refl _,λs hs=>(by cases hs),l',by rw[Zx];exact bZ,.nil,by omega⟩
   (λi σ H' _ hh=>SqL.of (hh.2 _ _ e7 (by simp[Zh nDl,nlg]))) ?_ ?_⟩
  ·rintro i y σ H6 hx ⟨⟨x4,x5,x6,rfl⟩,k6,gs,dn,rem,me,eY,qA,qy,iY,dA,mJ,fg,gn,aF,ce⟩
   have hi:i<as.length:=by
    have:=(Ze.mp hx).1
    rwa[Qa]at this
   have i9:y=.ref as[i]:=by
    rw[Qu,Qc hi]at hx
    exact(Qr hx).symm
   subst i9
   obtain⟨ap,jo⟩:=za7 ki hi
   have nag:as[i]≠g:=za8 jo lB (by intro z;cases z)
   have naD:as[i]≠D:=za8 jo l' (by intro z;cases z)
   have lU:=k6 _ _ jo (by simp[nag,naD])
   have hws:ws[i]∈ws:=Qm ap
   have hsi:ws[i].1∈row (rsOf es) ws[i].2:=(aA _).mp (ai.mem_iff.mp hws)
   have hwt:∀{nQ:Nu},(∀s∈gs,s∈nQ)→ws[i]∈nQ→∀s∈ws.take (i+1),s∈nQ:=λ{nQ} h1 h2 s hs=>by
    rw[Ql ap]at hs
    rcases Qd.mp hs with z | z
    ·exact h1 s (mJ s z)
    ·rw[Qb.mp z];exact h2
   refine⟨(by show 0≤sizeLine;decide),λfl eQ=>?_⟩
   have k7:Keep [] H6 (upd H6 fl (.lst [])):=Keep.new eQ
   have bp:(upd H6 fl (.lst [])) fl=some (.lst []):=zac
   have nfD:fl≠D:=Zh (zab fg eQ)
   have nfg:fl≠g:=Zh (zab qA eQ)
   have nafl:as[i]≠fl:=zab lU eQ
   generalize upd H6 fl (.lst [])=H7 at k7 bp
   have lA:=k7 _ _ qA (by simp)
   have jt:=k7 _ _ fg (by simp)
   have lT:=k7 _ _ lU (by simp)
   have jC:Keep [D,g] H5 H7:=k6.trans (k7.sub (by simp))
   have rA:BAt H7 b bs (row (rsOf es)):=rB.keep jC (by simp[nbD,nbg]) λe he=>by
    have h1:=rB.tp e he
    simp[za8 h1 l' (by intro z;cases z),za8 h1 lB (by intro z;cases z)]
   have nbfl:b≠fl:=za8 rA.dc bp (by intro z;cases z)
   have kU:Paired (zcw H7) me (zeg es++eY):=zck (D:=d) (g:=d) k7 gn (λ_ _ _ _=>by simp)
   refine⟨_,rfl,?_⟩
   by_cases eJ:ws[i]∈gs
   ·-- it is gone already
    refine⟨λm σ H'=>Aj2 (σ=[some (.ref d),some (.ref b),some (.ref D),some (.ref g),some (.ref as[i]),some (.ref fl),some (.ref as[i])]) (H'=H7),⟨0,rfl,rfl⟩,?_⟩
    rintro m σ H' ⟨rfl,rfl⟩
    have dg:=DGet.t (k:=kP ws[i]) lA lT
    rw[valG_in eJ]at dg
    refine⟨_,rfl,_,rfl,g,_,rfl,dg,_,rfl,zbi rfl ?_⟩
    refine⟨_,rfl,_,.inl ⟨_,SqL.of bp,rfl⟩,zbi rfl ?_⟩
    exact⟨⟨_,_,_,rfl⟩,jC,gs,dn,rem,me,eY,lA,qy,iY,dA,hwt (λ_ h=>h) eJ,jt,kU,aF,by exact zar16 ‹_›⟩
   ·-- a new cycle
    obtain⟨c,eV,pq⟩:=Yh.mp ((C.cm ws[i]).mpr hsi)
    obtain⟨A1,B1,fS⟩:=Wh pq
    have hlk:=zeh (fS▸C.cy c eV)
    generalize hL:ws[i]::(B1++A1)=L
    have nN:L.Perm c:=by
     rw[←hL,fS]
     refine Jo.mpr λa=>?_
     simp only[Ki,Ky];lia
    have bo:=(List.Perm.flatten dA).nodup_iff.mp C.cf
    rw[Jq,Qz]at bo
    have gW:c∈rem:=by
     rcases Qd.mp (dA.mem_iff.mp eV) with z | z
     ·exact absurd ((iY _).mpr (Yh.mpr ⟨c,z,pq⟩)) eJ
     ·exact z
    have hLg:∀s∈L,s∉gs:=λs hs hg=>by
     exact absurd rfl (bo.2.2 s ((iY s).mp hg) s (Yh.mpr ⟨c,gW,nN.mem_iff.mp hs⟩))
    have lY:L.Nodup:=by
     rw[nN.nodup_iff]
     have:=(zcm eV).nodup_iff.mp C.cf
     rw[Qz]at this
     exact this.1
    have lX:∀s∈L,s.1∈row (rsOf es) s.2:=λs hs=>C.inc eV (nN.mem_iff.mp hs)
    have hLpos:0<L.length:=by rw[←hL];simp
    have cj:gs++L |>.Nodup:=Qz.mpr ⟨qy,lY,λa ha b' nF e=>hLg b' nF (e▸ha)⟩
    have hsz:(gs++L).length≤10000:=by
     refine Zj (nodup_len cj (m:=bs.map (·.1)) λs hs=>?_) (by rw[Qa];exact gA)
     rcases Qd.mp hs with z | z
     ·obtain ⟨c',bG,cq⟩:=Yh.mp ((iY s).mp z)
      exact(aA s).mpr (C.inc (dA.mem_iff.mpr (Qo _ bG)) cq)
     ·exact(aA s).mpr (lX s z)
    rw[Qp]at hsz
    have qz:∀k (hk:k<L.length),st (row (rsOf es)) L[k]=L.getD (k+1) ws[i]:=λk hk=>by
     have:=lk_get hlk k (by rw[hL];exact hk)
     rw[hL,Qv,Qc hk]at this
     exact this
    refine⟨λm σ H'=>Ex2 λ(k:Nat) (t:Nc)=>Aj7 (m=L.length-k) (k≤L.length) (σ=[some (.ref d),some (.ref b),some (.ref D),some (.ref g),some (.ref as[i]),some (.ref fl),some (.ref t)]) (Keep [g,fl] H7 H') (H' g=some (.dT ((gs++L.take k).map λs=>(kP s,V.bl true)))) (H' fl=some (.lst (((L.take k).map (·.1)).map V.str))) (H' t=some (.tup [.str (L.getD k ws[i]).1,.str (L.getD k ws[i]).2])),
     ⟨_,0,as[i],rfl,Zn _,rfl,Keep.refl,by rw[List.take_zero,Zx];exact lA,bp,by rw[←hL];exact lT⟩,?_⟩
    rintro m σ H8 ⟨k8,t,rfl,hk8,rfl,mt,lw,eO,jL⟩
    have dg:=DGet.t (k:=kP (L.getD k8 ws[i])) lw jL
    by_cases di:k8<L.length
    ·have je:L.getD k8 ws[i]=L[k8]:=by rw [Qv,Qc di];rfl
     have cN:L.take (k8+1)=L.take k8++[L[k8]]:=Ql di
     have c8:L[k8]∉gs++L.take k8:=λz=>by
      rcases Qd.mp z with q | q
      ·exact hLg _ (Qm di) q
      ·have:=Wp (Kf (k8+1) L) lY
       rw[cN,Qz]at this
       exact this.2.2 _ q _ (Qb.mpr rfl) rfl
     rw[je]at jL dg
     rw[valG_out c8]at dg
     refine⟨_,rfl,_,rfl,g,_,rfl,dg,_,rfl,zbm rfl ?_⟩
     refine⟨_,λ σ' H' z=>z,?_⟩
     have lg:((gs++L.take k8).map λs=>(kP s,V.bl true)).length<sizeLine:=by
      rw[Qa,Qp,Zg];lia
     refine⟨_,rfl,_,rfl,g,_,rfl,DPut.t (k:=kP L[k8]) lw jL lg,?_⟩
     have iF:putK ((gs++L.take k8).map λs=>(kP s,V.bl true)) (kP L[k8]) (.bl true)=(gs++L.take (k8+1)).map λs=>(kP s,V.bl true):=by
      rw[zdw _ (valG_out c8),cN,←Qw,Qt (l₂:=[L[k8]])];rfl
     rw[iF]
     have ntg:t≠g:=za8 jL lw (by intro z;cases z)
     have ntfl:t≠fl:=za8 jL eO (by intro z;cases z)
     have k9:Keep [g,fl] H7 (upd H8 g (.dT ((gs++L.take (k8+1)).map λs=>(kP s,V.bl true)))):=mt.trans (Keep.wr (by simp))
     have hg9:(upd H8 g (.dT ((gs++L.take (k8+1)).map λs=>(kP s,V.bl true)))) g=some (.dT ((gs++L.take (k8+1)).map λs=>(kP s,V.bl true))):=zac
     have ja:(upd H8 g (.dT ((gs++L.take (k8+1)).map λs=>(kP s,V.bl true)))) fl=some (.lst (((L.take k8).map (·.1)).map V.str)):=by rw[zad nfg];exact eO
     have oZ:(upd H8 g (.dT ((gs++L.take (k8+1)).map λs=>(kP s,V.bl true)))) t=some (.tup [.str L[k8].1,.str L[k8].2]):=by rw[zad ntg];exact jL
     generalize upd H8 g (.dT ((gs++L.take (k8+1)).map λs=>(kP s,V.bl true)))=H9 at k9 hg9 ja oZ
     refine⟨_,rfl,.inl ⟨rfl,_,SqL.of ja⟩,_,rfl,t,_,_,_,rfl,rfl,SqT.of oZ,zau (j:=0) rfl,fl,_,_,rfl,rfl,ja,(by rw[Qa,Qa,Zg];lia),?_⟩
     have eS:((L.take k8).map (·.1)).map V.str++[V.str L[k8].1]=((L.take (k8+1)).map (·.1)).map V.str:=by rw[cN,Qt,Qt];rfl
     rw[eS]
     have jE:Keep [g,fl] H7 (upd H9 fl (.lst (((L.take (k8+1)).map (·.1)).map V.str))):=k9.trans (Keep.wr (by simp))
     have lC:(upd H9 fl (.lst (((L.take (k8+1)).map (·.1)).map V.str))) g=some (.dT ((gs++L.take (k8+1)).map λs=>(kP s,V.bl true))):=by rw[zad (Zh nfg)];exact hg9
     have gT:(upd H9 fl (.lst (((L.take (k8+1)).map (·.1)).map V.str))) fl=some (.lst (((L.take (k8+1)).map (·.1)).map V.str)):=zac
     have kN:(upd H9 fl (.lst (((L.take (k8+1)).map (·.1)).map V.str))) t=some (.tup [.str L[k8].1,.str L[k8].2]):=by rw[zad ntfl];exact oZ
     generalize upd H9 fl (.lst (((L.take (k8+1)).map (·.1)).map V.str))=jy at jE lC gT kN
     have jl:BAt jy b bs (row (rsOf es)):=rA.keep jE (by simp[nbg,nbfl]) λe he=>by
      have h1:=rA.tp e he
      simp[za8 h1 lA (by intro z;cases z),za8 h1 bp (by intro z;cases z)]
     obtain⟨e,he,hee⟩:=Qj.mp ((aA L[k8]).mpr (lX _ (Qm di)))
     have dg2:=DGet.t (k:=kP L[k8]) jl.dc kN
     rw[←hee,valT_in jl.nd he]at dg2
     have il:=jl.tp e he
     rw[hee,qz k8 di]at il
     refine⟨_,rfl,_,rfl,b,_,rfl,dg2,L.length-(k8+1),by exact zar1 ‹_›,k8+1,e.2,rfl,di,rfl,jE,lC,gT,il⟩
    ·have hk:k8=L.length:=by exact zar3 ‹_› ‹_›
     subst hk
     have je:L.getD L.length ws[i]=ws[i]:=by rw[Qv,Wq (Qf _)];rfl
     rw[Qx (Qf _)]at lw eO dg
     have hwL:ws[i]∈L:=by rw[←hL];exact Qe
     rw[je,valG_in (Qn _ hwL)]at dg
     refine⟨_,rfl,_,rfl,g,_,rfl,dg,_,rfl,zbi rfl ?_⟩
     have aE:((L.map (·.1)).map V.str).isEmpty=false:=by rw[←hL];rfl
     refine⟨_,rfl,_,.inl ⟨_,SqL.of eO,rfl⟩,zbm (by rw[aE];rfl) ?_⟩
     have hD8:=mt _ _ jt (by simp[nDg,Zh nfD])
     refine⟨_,rfl,.inl ⟨rfl,_,SqL.of hD8⟩,_,rfl,D,_,_,rfl,rfl,hD8,(by rw[Qa];lia),?_⟩
     have k9:Keep [D,g] H5 (upd H8 D (.lst (me.map V.ref++[.ref fl]))):=by
      refine Keep.trans (λc' u' ec bG=>?_) (Keep.wr (by simp))
      have h7:=jC c' u' ec bG
      refine mt c' u' h7 ?_
      have ncg:c'≠g:=λz=>bG (by simp[z])
      have ncf:c'≠fl:=λz=>by
       have:=k6 c' u' ec bG
       rw[z,eQ]at this;cases this
      simp[ncg,ncf]
     refine⟨⟨_,_,_,rfl⟩,k9,gs++L,dn++[c],rem.erase c,me++[fl],eY++[ws[i].1],by rw[zad (Zh nDg)];exact lw,cj,λs=>?_,?_,hwt (λs hs=>Qo _ hs) (Qn _ hwL),by rw[zac,Qt];rfl,?_,zas aF (.cons ⟨ws[i],pq,rfl⟩ .nil),by rw[Qp];show _+1≤_;exact zar4 ‹_›⟩
     ·rw[Qd,iY,Jq,Qd,Kh,List.flatten_nil,Zx,nN.mem_iff]
     ·refine dA.trans ?_
      rw[Qw]
      exact Zv _ (Ji gW)
     ·rw [← Qw]
      refine zas (Paired.imp' (λa h ⟨t,e⟩=>⟨t,?_⟩) kU) (.cons ⟨(B1++A1).map (·.1),?_⟩ .nil)
      ·have n1:=notDg jt lA a h t e
       have naf:a≠fl:=za8 e bp (by intro z;injection z with z;cases z)
       rw[zad n1.1]
       exact mt _ _ e (by simp[n1.2,naf])
      ·rw[zad nfD,eO,←hL];rfl
  ·rintro σ H6 ⟨⟨x4,x5,x6,rfl⟩,k6,gs,dn,rem,me,eY,qA,qy,iY,dA,mJ,fg,gn,aF,ce⟩
   rw[Qa,dC,Qx (Qf _)]at mJ
   have pF:rem=[]:=by
    cases rem with
    |nil=>rfl
    |cons c rem' =>
     have lO:c∈cs:=dA.mem_iff.mpr (Qn _ Qe)
     obtain⟨s0,t0,gY,_⟩:=C.cy c lO
     have aB:s0∈c:=by rw[gY];exact Qe
     have h1:s0∈ws:=ai.mem_iff.mpr ((aA s0).mpr (C.inc lO aB))
     have h2:=(iY s0).mp (mJ s0 h1)
     have h3:=(List.Perm.flatten dA).nodup_iff.mp C.cf
     rw[Jq,Qz]at h3
     exact absurd rfl (h3.2.2 s0 h2 s0 (Yh.mpr ⟨c,Qe,aB⟩))
   rw[pF,Zx]at dA
   refine⟨_,rfl,D,_,rfl,SqL.of fg,λv hv=>?_,λl7 ws7 cb iH=>?_⟩
   ·obtain ⟨a,ha,rfl⟩:=Qj.mp hv
    obtain⟨j,hj,rfl⟩:=Zo ha
    obtain⟨_,t,e⟩:=za7 gn hj
    exact⟨_,_,rfl,e⟩
   ·obtain ⟨as7,rfl,ba⟩:=refs_perm iH
    obtain⟨hd7,mX,bw⟩:=zdk ba gn
    refine k l7 as7 hd7 eY dn _ zac (by rw[ba.length_eq];rw[Qa]at ce;lia) (Paired.imp' (λa h ⟨t,e⟩=>⟨t,by rw[zad (zab e cb)];exact e⟩) bw) mX dA.symm aF ?_
    refine(λc u ec _=>?_)
    have nD:c≠D:=λz=>by
     by_cases zd:c=d
     ·exact ndD (zd▸z)
     ·have h2:=k2 c u (k1 c u ec (by simp)) (by simpa using zd)
      rw[z,hD]at h2;cases h2
    have nG:c≠g:=λz=>by
     have h1:=k3 c u (k1 c u ec (by simp)) (by simp)
     rw[z,hg]at h1;cases h1
    have:=k6 c u (jD c u ec (by simp)) (by simp[nD,nG])
    rw[zad (zab this cb)];exact this
end
abbrev sPiece:Stmt:=top 13
abbrev zg2:Stmt:=top 14
def marks(ks:Ng):List (Key×V):=ks.map λz=>((Sum.inr z:Key),V.bl true)
def zgu(h:x∉ks):valV (marks ks) (Sum.inr x)=none:=by
 unfold marks
 induction ks with
 |nil=>rfl
 |cons a t ih =>
  rw[Qh,not_or]at h
  rw[Qk,zbh]
  ·exact ih h.2
  ·intro q;exact h.1 (Ww q).symm
def valM_in(h:x∈ks):valV (marks ks) (Sum.inr x)=some (.bl true):=by
 unfold marks
 induction ks with
 |nil=>cases h
 | cons a t ih =>
  rw[Qk]
  by_cases e:a=x
  ·exact zb8 (by rw[e])
  ·rw [zbh (fun q=>e (Ww q))]
   rcases Qh.mp h with z | z
   ·exact absurd z.symm e
   ·exact ih z
def putM_new(h:x∉ks):putK (marks ks) (Sum.inr x) (.bl true)=marks (ks++[x]):=by
 rw[zdw _ (zgu h)];unfold marks;rw[List.map_append];rfl
def putM_old(h:x∈ks):putK (marks ks) (Sum.inr x) (.bl true)=marks ks:=by
 unfold putK marks
 rw[if_pos]
 ·rw [Zm]
  refine Yo λz _=>?_
  show(if(Sum.inr z:Key)=Sum.inr x then((Sum.inr z:Key),V.bl true) else(Sum.inr z,V.bl true))=_
  split<;>rfl
 ·exact Yn.mpr ⟨_,Qj.mpr ⟨x,h,rfl⟩,by simp⟩
def mkeys(ks:Ng):((marks ks).map λp=>kV p.1)=ks.map V.str:=by unfold marks;rw[List.map_map];rfl
inductive IspPiece(vs:List V)(H:Hp)(Q:VK):Prop
 |mk (d:Nc) (es:List Ent) (cs:List (List (Str×Str))) (a7:Nw) (x:Str) (h0:vs=[.ref d,.str x]) (h1:TAt H d es) (h2:es.length≤60) (h3:Cert (es.map (·.1)) (row (rsOf es)) cs a7) (h4:x∈es.map (·.1)) (h5:∀(l:Nc) (zs:Ng) (H':Hp),H' l=some (.lst (zs.map V.str))→zs.Nodup→zs.Pairwise leS→(∀y,y∈zs↔y∈es.map (·.1)∧a7 y=a7 x)→H l=none→Keep [] H H'→Q (.ref l) H'):IspPiece vs H Q
def spPiece:Sp:=λvs H Q _=>IspPiece vs H Q
def seqO(b:Bool)(xs:List V):HO:=bif b then .tup xs else .lst xs
structure GAt(b:Bool)(H:Hp)(d:Nc)(es:List Ent):Prop where
 dc:H d=some (.dK (es.map λe=>((Sum.inr e.1:Key),V.ref e.2.2)))
 ro:∀e∈es,H e.2.2=some (seqO b (e.2.1.map V.str))
 nd:(es.map (·.1)).Nodup
def GAt.keep(r:GAt b H d es)(k:Keep xs H H')(hd:d∉xs)(h:∀e∈es,e.2.2∉xs):GAt b H' d es:=⟨k _ _ r.dc hd,λe he=>k _ _ (r.ro e he) (h e he),r.nd⟩
def SqB(b:Bool)(K:Na)(H:Hp)(a:Nc)(xs:List V):Prop:=bif b then SqT K H a xs else SqL K H a xs
def ItB(b:Bool)(K:Na)(a:Nc):It:=bif b then Itt K a else Itl K a
def SqB.of{b:Bool}{K:Na}{H:Hp}{a:Nc}{xs:List V}(h:H a=some (seqO b xs)):SqB b K H a xs:=by
 cases b
 ·exact SqL.of h
 ·exact SqT.of h
def GAt.sq{b:Bool}{K:Na}{H:Hp}{d:Nc}{es:List Ent}{e:Ent}(r:GAt b H d es)(he:e∈es):SqB b K H e.2.2 (e.2.1.map V.str):=SqB.of (r.ro e he)
def iB(b:Bool)(K:Na)(tl:TE):TI:=λ σ H R=>tl σ H λx H1=>RI1 x (λa=>∃xs,SqB b K H1 a xs) λa=>R (ItB b K a) H1
def pi_b(b:Bool){X:Cx}{tg l:Expr}{tl:TE}(hl:PE X l tl):PI X tg l (iB b X.K tl):=by
 cases b
 ·exact zay hl
 ·exact pi_tup hl
def for_b(b:Bool){K:Na}{a:Nc}{xs:List V}{g:TG}{tb:TS}{D:Ends}{σ:St}{H:Hp}(Pv:Nat→St→Hp→Prop)(h0:Pv 0 σ H)(hl:∀i σ H,i≤xs.length→Pv i σ H→SqB b K H a xs)(hs:∀i x σ H,xs[i]?=some x→Pv i σ H→g x σ H λ σ2 H2=>tb {D with nx:=Pv (i+1),ct:=Pv (i+1),bk:=D.nx} σ2 H2)(hd:∀σ H,Pv xs.length σ H→D.nx σ H) :
  ∃W:Nat→Nat→St→Hp→Prop,(∃m,W 0 m σ H)∧∀i m σ H,W i m σ H →
   ((ItB b K a).stop i H∧D.nx σ H)∨((ItB b K a).go i H∧∃N:St→Hp→Prop,(∀σ' H',N σ' H'→∃m',m'<m∧W (i+1) m' σ' H')∧∀x H',(ItB b K a).yld i H x H'→g x σ H' λ σ2 H2=>tb {D with nx:=N,ct:=N,bk:=D.nx} σ2 H2):=by
 cases b
 ·exact zbn Pv h0 hl hs hd
 ·exact for_tup Pv h0 hl hs hd
inductive IspPieceG(b:Bool)(vs:List V)(H:Hp)(Q:VK):Prop
 |mk (d:Nc) (es:List Ent) (x:Str) (h0:vs=[.ref d,.str x]) (h1:GAt b H d es) (h2:es.length≤60) (h3:∀z y,y∈row (rsOf es) z→y∈es.map (·.1)) (h4:x∈es.map (·.1)) (h5:∀(l:Nc) (zs:Ng) (H':Hp),H' l=some (.lst (zs.map V.str))→zs.Nodup→zs.Pairwise leS→(∀y,y∈zs↔Conn (row (rsOf es)) x y)→H l=none→Keep [] H H'→Q (.ref l) H'):IspPieceG b vs H Q
def spPieceG(b:Bool):Sp:=λvs H Q _=>IspPieceG b vs H Q
section
variable{P:Nj}{w:Nk}{K:Na}{mg:Nf}{base:Nm}
def zff:zao ["rounds", "start", "reached", "waiting", "place", "other"] ["rounds", "start"] (zag sPiece):=fsk
def ok_pieceG(b:Bool){f:Nc}{fd:Nt}(F:Fun K "piece_from" "piece_from" sPiece f fd)(aN:mg "sorted" = none):FnOk P w K mg base CX0 1 f fd ["rounds", "start"] (spPieceG b):=by
 refine F.okL zff (λcdv A outer s H vs Q E hr h=>?_)
 obtain⟨d,es,x,rfl,T,cg,gy,hx,k⟩:=h
 have hu:=zb7 hr
 have aB  := sizeLine_eq
 refine⟨_,zae (zat 2 zff.nd (pe_disp (zg9 (pv 1) zhd pps_nil) rfl rfl (by decide) (by decide)))
  (zae (zat 3 zff.nd (za4 (zaa (pv 1) zaf)))
  (zae (zc7 Zf (zdx (pv 3) (by intro _;rfl))
   (zae (zat 4 zff.nd (pe_bm0 Zc PySem.F.slot_list_pop PySem.F.type_list_pop mt_pop (pv 3)))
   (zah (zbd Zf rfl (pi_b b (zf7 hu (pv 0) (pv 4))) (za9 5 zff.nd)
    (zah (zb2 (zet (zbv hu (pv 5) (pv 2)))
     (zae (zed hu (pv 2) (pv 5) zhd rfl)
     (zah (zax (zch Zc Zu Zt zbc (pv 3) (zaa (pv 5) zaf))))) za1))))))
  (zah (zbb (zaj (zcu rfl) (by rfl) aN Wi (zaa (pv 2) zaf)))))),?_⟩
 have ag:∀e∈es,row (rsOf es) e.1=e.2.1:=λe he=>zca T.nd he
 refine λre bj=>⟨_,rfl,zac,[(Sum.inr x,.bl true)],rfl,(by show 1≤15;decide),?_⟩
 have fG:(zev [] [((Sum.inr x:Key),V.bl true)])=marks [x]:=rfl
 rw[fG]
 have kre:Keep [] H (upd (upd H re (.dK [])) re (.dK (marks [x]))):=by rw[upd_upd];exact Keep.new bj
 have d8:(upd (upd H re (.dK [])) re (.dK (marks [x]))) re=some (.dK (marks [x])):=zac
 generalize upd (upd H re (.dK [])) re (.dK (marks [x]))=H1 at kre d8
 refine⟨_,rfl,(by show 1≤sizeLine;decide),λwa oO=>?_⟩
 have k2:Keep [] H (upd H1 wa (.lst [.str x])):=kre.trans (Keep.new oO)
 have ie:H wa=none:=zav (xs:=[]) kre oO (by simp)
 have kI:(upd H1 wa (.lst [.str x])) wa=some (.lst ([x].map V.str)):=zac
 have ms:re≠wa:=zab d8 oO
 have dN:(upd H1 wa (.lst [.str x])) re=some (.dK (marks [x])):=by rw[zad ms];exact d8
 generalize upd H1 wa (.lst [.str x])=H2 at k2 kI dN
 have T2:GAt b H2 d es:=T.keep k2 (by simp) (λ_ _=>by simp)
 have ox:d≠re:=zab T.dc bj
 have ndw:d≠wa:=zab T.dc ie
 have rowne:∀e∈es,e.2.2≠re∧e.2.2≠wa:=λe he=>⟨zab (T.ro e he) bj,zab (T.ro e he) ie⟩
 refine⟨λm σ H'=>Aj3 (Ex2 λx4 x5=>σ=[some (.ref d),some (.str x),some (.ref re),some (.ref wa),x4,x5]) (Keep [re,wa] H2 H') (Ex2 λ(ks wl:Ng)=>Aj9 (H' re=some (.dK (marks ks))) (H' wa=some (.lst (wl.map V.str))) ks.Nodup wl.Nodup (∀z∈wl,z∈ks) (∀z∈ks,z∈es.map (·.1)∧Conn (row (rsOf es)) x z) (x∈ks) (∀z∈ks,z∉wl→∀y∈row (rsOf es) z,y∈ks) (m=es.length+wl.length-ks.length)),
  ⟨_,⟨none,none,rfl⟩,Keep.refl,[x],[x],dN,kI,Qy.mpr ⟨by simp,Zq⟩,Qy.mpr ⟨by simp,Zq⟩,λz h=>h,λz h=>(by rw[Qb.mp h];exact⟨hx,.refl⟩),Qe,λz h h'=>absurd h h',rfl⟩,?_⟩
 rintro m σ H3 ⟨⟨x4,x5,rfl⟩,k3,ks,wl,bX,ij,gu,kF,mH,fI,jH,ji,rfl⟩
 have hkle:ks.length≤es.length:=by
  have:=zbq gu (m:=es.map (·.1)) λz hz=>(fI z hz).1
  rwa[Qa]at this
 have kG:wl.length≤ks.length:=zbq kF mH
 refine⟨_,rfl,_,.inl ⟨_,SqL.of ij,rfl⟩,?_⟩
 rcases List.eq_nil_or_concat wl with fC | ⟨ini,z,fC⟩
 ·-- all are reached
  subst fC
  refine zbi rfl ?_
  refine⟨_,rfl,re,_,ks,rfl,.inl bX,mkeys ks,λl zs hl ai aT=>?_⟩
  have kf:Keep [] H H3:=λc u ec _=>k3 c u (k2 c u ec (by simp)) (by simp[zab ec bj,zab ec ie])
  refine k l zs _ zac (ai.nodup_iff.mpr gu) (aT (by omega)) (λy=>?_) (zav kf hl (by simp)) (kf.trans (Keep.new hl))
  rw[ai.mem_iff]
  constructor
  ·exact λh=>(fI y h).2
  ·intro hc
   induction hc with
   |refl=>exact jH
   |step _ hz ih=>exact ji _ ih (by simp) _ hz
 ·rw [List.concat_eq_append] at fC
  subst fC
  refine zbm (by rw[Qt];cases ini<;>rfl) ?_
  refine⟨_,λ σ' H' zz=>zz,?_⟩
  have dv:z∈ks:=mH z (Qn _ Qe)
  obtain⟨en,aq,cL⟩:=Qj.mp (fI z dv).1
  have ku:en.1=z:=cL
  rw[Qz]at kF
  obtain⟨aw,_,r9⟩:=kF
  have hzi:z∉ini:=λq=>r9 z q z Qe rfl
  have dY:((ini++[z]).map V.str)[((ini++[z]).map V.str).length-1]?=some (.str z):=by
   rw[Qt,Qp,Uk (by simp)]
   simp
  have gw:((ini++[z]).map V.str).dropLast=ini.map V.str:=by rw[Qt];exact List.dropLast_concat
  refine⟨_,rfl,.inl ⟨rfl,_,SqL.of ij⟩,wa,_,_,rfl,rfl,ij,dY,?_⟩
  rw[gw]
  have k4:Keep [re,wa] H2 (upd H3 wa (.lst (ini.map V.str))):=k3.trans (Keep.wr (by simp))
  have kH:(upd H3 wa (.lst (ini.map V.str))) wa=some (.lst (ini.map V.str)):=zac
  have dM:(upd H3 wa (.lst (ini.map V.str))) re=some (.dK (marks ks)):=by rw[zad ms];exact bX
  generalize upd H3 wa (.lst (ini.map V.str))=H4 at k4 kH dM
  have T4:GAt b H4 d es:=T2.keep k4 (by simp[ox,ndw]) λe he=>by simp[(rowne e he).1,(rowne e he).2]
  have dg:DGet H4 d (.str z) (some (.ref en.2.2)):=by
   have:=DGet.k (k:=Sum.inr en.1) T4.dc
   rw[zen T4.nd aq,ku]at this
   exact this
  have hrz:row (rsOf es) z=en.2.1:=by rw[←ku];exact ag en aq
  refine⟨_,rfl,_,rfl,d,_,rfl,dg,en.2.2,rfl,⟨_,GAt.sq T4 aq⟩,for_b b (xs:=en.2.1.map V.str) (λj σ H'=>Aj3 (Ex1 λx5=>σ=[some (.ref d),some (.str x),some (.ref re),some (.ref wa),some (.str z),x5]) (Keep [re,wa] H2 H') (Ex1 λ(nw:Ng)=>Aj5 (H' re=some (.dK (marks (ks++nw)))) (H' wa=some (.lst ((ini++nw).map V.str))) ((ks++nw).Nodup) (∀y∈nw,y∈es.map (·.1)∧Conn (row (rsOf es)) x y) (∀y∈en.2.1.take j,y∈ks++nw)))
   ⟨⟨_,rfl⟩,k4,[],by rw[Zx];exact dM,by rw[Zx];exact kH,by rw[Zx];exact gu,λy hy=>(by cases hy),λy hy=>(by cases hy)⟩
   (λj σ H' _ hh=>(SqB.of (hh.2 _ _ (T2.ro en aq) (by simp[(rowne en aq).1,(rowne en aq).2])))) ?_ ?_⟩
  ·rintro j y σ H5 hy ⟨⟨y5,rfl⟩,k5,nw,bv,gf,cE,de,dH⟩
   have hj:j<en.2.1.length:=by
    have:=(Ze.mp hy).1
    rwa[Qa]at this
   have kA:y=.str en.2.1[j]:=by
    rw[Qu,Qc hj]at hy
    exact(Qr hy).symm
   subst kA
   have g9:en.2.1[j]∈row (rsOf es) z:=by rw[hrz];exact Qm hj
   have cN:en.2.1.take (j+1)=en.2.1.take j++[en.2.1[j]]:=Ql hj
   have hsz:(ks++nw).length≤es.length:=by
    have:=zbq cE (m:=es.map (·.1)) λq hq=>by
     rcases Qd.mp hq with h | h
     ·exact(fI q h).1
     ·exact(de q h).1
    rwa[Qa]at this
   have nY:=DGet.k (k:=Sum.inr en.2.1[j]) bv
   by_cases aw:en.2.1[j]∈ks++nw
   ·rw [valM_in aw] at nY
    refine⟨_,rfl,_,rfl,re,_,rfl,nY,_,rfl,zbi rfl ?_⟩
    refine⟨⟨_,rfl⟩,k5,nw,bv,gf,cE,de,λq hq=>?_⟩
    rw[cN]at hq
    rcases Qd.mp hq with h | h
    ·exact dH q h
    ·rw[Qb.mp h];exact aw
   ·rw [zgu aw] at nY
    refine⟨_,rfl,_,rfl,re,_,rfl,nY,_,rfl,zbm rfl ?_⟩
    refine⟨_,rfl,_,rfl,re,_,rfl,DPut.k (k:=Sum.inr en.2.1[j]) bv (by unfold marks;rw[List.length_map];lia),?_⟩
    rw[putM_new aw]
    have ig:(upd H5 re (.dK (marks (ks++nw++[en.2.1[j]])))) wa=some (.lst ((ini++nw).map V.str)):=by rw[zad (Zh ms)];exact gf
    have d7:(upd H5 re (.dK (marks (ks++nw++[en.2.1[j]])))) re=some (.dK (marks (ks++nw++[en.2.1[j]]))):=zac
    have k6:Keep [re,wa] H2 (upd H5 re (.dK (marks (ks++nw++[en.2.1[j]])))):=k5.trans (Keep.wr (by simp))
    generalize upd H5 re (.dK (marks (ks++nw++[en.2.1[j]])))=H6 at ig d7 k6
    rw[Qp]at hsz
    rw[Qp,Zd,Wv]at kG
    refine⟨_,rfl,.inl ⟨rfl,_,SqL.of ig⟩,_,rfl,wa,_,_,rfl,rfl,ig,(by rw[Qa,Qp];lia),?_⟩
    refine⟨⟨_,rfl⟩,k6.trans (Keep.wr (by simp)),nw++[en.2.1[j]],by rw[zad ms,←Qw];exact d7,by rw[zac,←Qw,Qt (l₂:=[en.2.1[j]])];rfl,?_,λq hq=>?_,λq hq=>?_⟩
    ·rw [← Qw,Qz]
     refine⟨cE,Qy.mpr ⟨by simp,Zq⟩,λa ha b hb e=>?_⟩
     rw[Qb.mp hb]at e
     exact aw (e▸ha)
    ·rcases Qd.mp hq with h | h
     ·exact de q h
     ·rw [Qb.mp h]
      exact⟨gy z _ g9,.step (fI z dv).2 g9⟩
    ·rw [cN] at hq
     rw[←Qw]
     rcases Qd.mp hq with h | h
     ·exact Qo _ (dH q h)
     ·exact Qn _ h
  ·rintro σ H5 ⟨⟨y5,rfl⟩,k5,nw,bv,gf,cE,de,dH⟩
   rw[Qa,Qx (Qf _)]at dH
   have hsz:(ks++nw).length≤es.length:=by
    have:=zbq cE (m:=es.map (·.1)) λq hq=>by
     rcases Qd.mp hq with h | h
     ·exact(fI q h).1
     ·exact(de q h).1
    rwa[Qa]at this
   have dR:=cE
   rw[Qz]at dR
   refine⟨es.length+(ini++nw).length-(ks++nw).length,?_,⟨_,_,rfl⟩,k5,ks++nw,ini++nw,bv,gf,cE,?_,?_,?_,Qo _ jH,?_,rfl⟩
   ·rw [Qp] at hsz
    rw[Qp,Qp,Qp,Zd,Wv]
    rw[Qp,Zd,Wv]at kG
    lia
   ·rw [Qz]
    refine⟨aw,dR.2.1,λa ha b hb e=>dR.2.2 a (mH a (Qo _ ha)) b hb e⟩
   ·intro q hq
    rcases Qd.mp hq with h | h
    ·exact Qo _ (mH q (Qo _ h))
    ·exact Qn _ h
   ·intro q hq
    rcases Qd.mp hq with h | h
    ·exact fI q h
    ·exact de q h
   ·intro q hq kT y hy
    rw[Qd,not_or]at kT
    rcases Qd.mp hq with h | h
    ·by_cases hqz:q=z
     ·rw[hqz,hrz]at hy;exact dH y hy
     ·exact Qo _ (ji q h (by rw[Qd,not_or,Qb];exact⟨kT.1,hqz⟩) y hy)
    ·exact absurd h kT.2
def ok_piece(F:Fun K "piece_from" "piece_from" sPiece f fd)(aN:mg "sorted" = none):FnOk P w K mg base CX0 1 f fd ["rounds", "start"] spPiece :=
 (ok_pieceG true F aN).imp fun vs H Q E ⟨d,es,cs,a7,x,e,T,cg,C,hx,k⟩=>⟨d,es,x,e,⟨T.dc,T.ro,T.nd⟩,cg,fun z y h=>C.inn' h,hx,fun l zs H' h1 h2 h3 h4=>k l zs H' h1 h2 h3 fun y=>(h4 y).trans ⟨fun h=>by
  induction h with
  |refl=>exact⟨hx,rfl⟩
  |step _ g9 ih=>exact⟨C.inn' g9,(C.la _ _ g9).trans ih.2⟩,λh=>C.co x hx y h.1 h.2.symm⟩⟩
end
def IsPiece(ns:Ng)(a7:Nw)(zs:Ng):Prop:=zs.Nodup∧∃s∈ns,∀y,y∈zs↔y∈ns∧a7 y=a7 s
structure InRow(ns:Ng)(zss:List (List Str)):Prop where
 so:∀zs∈zss,zs.Pairwise leS
 hd:zss.Pairwise λa b=>∀x∈a.head?,∀y∈b.head?,leS x y
 al:∀y∈ns,∃zs∈zss,y∈zs
def zf4(H:Hp)(a:Nc)(zs:Ng):Prop:=H a=some (.lst (zs.map V.str))
inductive IspPieces(vs:List V)(H:Hp)(Q:VK):Prop
 |mk (d:Nc) (es:List Ent) (cs:List (List (Str×Str))) (a7:Nw) (h0:vs=[.ref d]) (h1:TAt H d es) (h2:es.length≤60) (h3:Cert (es.map (·.1)) (row (rsOf es)) cs a7) (h4:∀(l:Nc) (as:Nl) (zss:List (List Str)) (H':Hp),H' l=some (.lst (as.map V.ref))→Paired (zf4 H') as zss→(∀zs∈zss,IsPiece (es.map (·.1)) a7 zs)→InRow (es.map (·.1)) zss→Keep [] H H'→Q (.ref l) H'):IspPieces vs H Q
def spPieces:Sp:=λvs H Q _=>IspPieces vs H Q
section
variable{P:Nj}{w:Nk}{K:Na}{mg:Nf}{base:Nm}
def zc6:zao ["rounds", "found", "reached", "start", "piece", "place"] ["rounds"] (zag zg2):=fsk
def ok_pieces(F:Fun K "pieces_of" "pieces_of" zg2 f fd)(FP:Fun K "piece_from" "piece_from" sPiece fp fdp)(bP:Binds K fdp ["rounds", "start"] [])(mP:mg "piece_from" = some (.ref fp))(GP:FnOk P w K mg base CX0 1 fp fdp ["rounds", "start"] spPiece)(aN:mg "sorted" = none):FnOk P w K mg base CX0 2 f fd ["rounds"] spPieces:=by
 refine F.okL zc6 (λcdv A outer s H vs Q E hr h=>?_)
 obtain⟨d,es,cs,a7,rfl,T,cg,C,k⟩:=h
 have hu:=zb7 hr
 have aB  := sizeLine_eq
 refine⟨_,zae (zat 1 zc6.nd (za4 zaf))
  (zae (zat 2 zc6.nd pe_dnewK)
  (zae (zbd Zf rfl (zay (zaj (zcu rfl) (by rfl) aN Wi (zaa (pv 0) zaf))) (za9 3 zc6.nd)
   (zah (zb2 (zet (zbv hu (pv 3) (pv 2)))
    (zae (zat 4 zc6.nd (zak GP hr rfl mP FP.kp bP .nil za0 (zaa (pv 0) (zaa (pv 3) zaf))))
    (zae (zax (zch Zc Zu Zt zbc (pv 1) (zaa (pv 4) zaf)))
    (zah (zbd Zf rfl (zay (pv 4)) (za9 5 zc6.nd)
     (zah (zed hu (pv 2) (pv 5) zhd rfl)))))) za1)))
  (zah (zbb (pv 1))))),?_⟩
 refine⟨(by show 0≤sizeLine;decide),λfo cT re bj=>?_⟩
 have dL:H re=none:=zav (xs:=[]) (Keep.new cT) bj (by simp)
 have ow:fo≠re:=zab (o:=_) zac bj
 have k1:Keep [] H (upd (upd H fo (.lst [])) re (.dK [])):=(Keep.new cT).trans (Keep.new bj)
 have eN:(upd (upd H fo (.lst [])) re (.dK [])) fo=some (.lst []):=by rw[zad ow];exact zac
 have d8:(upd (upd H fo (.lst [])) re (.dK [])) re=some (.dK []):=zac
 generalize upd (upd H fo (.lst [])) re (.dK [])=H1 at k1 eN d8
 have T1:TAt H1 d es:=T.keep k1 (by simp) (λ_ _=>by simp)
 refine⟨_,rfl,d,_,es.map (·.1),rfl,.inl T1.dc,keys_strs es,λl ws hl ai aT=>?_⟩
 replace aT:=aT (by rw[Qa];omega)
 have k2:Keep [] H1 (upd H1 l (.lst (ws.map V.str))):=Keep.new hl
 have ax:(upd H1 l (.lst (ws.map V.str))) l=some (.lst (ws.map V.str)):=zac
 have nlf:l≠fo:=Zh (zab eN hl)
 generalize upd H1 l (.lst (ws.map V.str))=H2 at k2 ax
 have j8:=k2 _ _ eN (by simp)
 have dN:=k2 _ _ d8 (by simp)
 have nlr:l≠re:=za8 ax dN (by intro z;cases z)
 have T2:TAt H2 d es:=T1.keep k2 (by simp) (λ_ _=>by simp)
 have kk2:Keep [] H H2:=k1.trans k2
 have ndf:d≠fo:=zab T.dc cT
 have ox:d≠re:=zab T.dc dL
 have fC:ws.length=es.length:=by rw[ai.length_eq,Qa]
 refine⟨l,rfl,⟨_,SqL.of ax⟩,zd0 (zs:=ws) (λi σ H'=>Aj3 (Ex3 λx3 x4 x5=>σ=[some (.ref d),some (.ref fo),some (.ref re),x3,x4,x5]) (Keep [fo,re] H2 H') (Ex3 λ(as:Nl) (zss:List (List Str)) (ks:Ng)=>Aj8 (H' fo=some (.lst (as.map V.ref))) (H' re=some (.dK (marks ks))) (Paired (zf4 H') as zss) (∀zs∈zss,IsPiece (es.map (·.1)) a7 zs) (as.length≤i) ks.Nodup (∀z∈ks,z∈es.map (·.1)) (Aj7 (∀a∈as,a≠fo) (∀y∈ws.take i,y∈ks) (∀y∈ks,∃zs∈zss,y∈zs) (∀zs∈zss,∀y∈zs,y∈ks) (∀zs∈zss,∀x∈zs.head?,x∈ws.take i) (zss.Pairwise λa b=>∀x∈a.head?,∀y∈b.head?,leS x y) (∀zs∈zss,zs.Pairwise leS))))
  ⟨⟨_,_,_,rfl⟩,Keep.refl,[],[],[],j8,dN,.nil,λzs h=>(by cases h),Zn _,Zq,λz h=>(by cases h),λz h=>(by cases h),λz h=>(by cases h),λz h=>(by cases h),λz h=>(by cases h),λz h=>(by cases h),List.Pairwise.nil,λz h=>(by cases h)⟩ (λi σ H' _ hh=>SqL.of (hh.2 _ _ ax (by simp[nlf,nlr]))) ?_ ?_⟩
 ·rintro i hi σ H3 ⟨⟨x3,x4,x5,rfl⟩,k3,as,zss,ks,bE,bX,cC,iI,rD,gu,nj,gB,c1,c2,c6,c3,c4,c5⟩
  have dg:=DGet.k (k:=Sum.inr ws[i]) bX
  have T3:TAt H3 d es:=T2.keep k3 (by simp[ndf,ox]) λe he=>by
   have h1:=T.ro e he
   simp[zab h1 cT,zab h1 dL]
  by_cases aw:ws[i]∈ks
  ·rw [valM_in aw] at dg
   refine⟨_,rfl,_,rfl,re,_,rfl,dg,_,rfl,zbi rfl ?_⟩
   refine⟨⟨_,_,_,rfl⟩,k3,as,zss,ks,bE,bX,cC,iI,by exact zar16 ‹_›,gu,nj,gB,λy hy=>?_,c2,c6,λzs h x hx=>Ys (i:=i) (by rw[List.take_take,Nat.min_eq_left (Ja i)];exact c3 zs h x hx),c4,c5⟩
   rw[Ql hi]at hy
   rcases Qd.mp hy with h | h
   ·exact c1 y h
   ·rw[Qb.mp h];exact aw
  ·rw [zgu aw] at dg
   refine⟨_,rfl,_,rfl,re,_,rfl,dg,_,rfl,zbm rfl ?_⟩
   have gc:=ai.mem_iff.mp (Qm hi)
   refine⟨_,rfl,_,rfl,d,es,cs,a7,ws[i],rfl,T3,cg,C,gc,λp zs H4 bz cL kr ck pP k4=>?_⟩
   obtain⟨i7,qj⟩:∃i7,i7=ks:=⟨_,rfl⟩
   rw[←qj]at bX gu nj aw c1 c2 c6
   have cc:=k4 _ _ bE (by simp)
   have dM:=k4 _ _ bX (by simp)
   have npf:p≠fo:=Zh (zab bE pP)
   have npr:p≠re:=za8 bz dM (by intro z;cases z)
   refine⟨_,rfl,.inl ⟨rfl,_,SqL.of cc⟩,_,rfl,fo,_,_,rfl,rfl,cc,(by rw[Qa];lia),?_⟩
   have k5:Keep [fo,re] H2 (upd H4 fo (.lst (as.map V.ref++[.ref p]))):=(k3.trans (k4.sub (by simp))).trans (Keep.wr (by simp))
   have cJ:(upd H4 fo (.lst (as.map V.ref++[.ref p]))) fo=some (.lst ((as++[p]).map V.ref)):=by rw[zac,Qt];rfl
   have bv:(upd H4 fo (.lst (as.map V.ref++[.ref p]))) re=some (.dK (marks i7)):=by rw[zad (Zh ow)];exact dM
   have ay:(upd H4 fo (.lst (as.map V.ref++[.ref p]))) p=some (.lst (zs.map V.str)):=by rw[zad npf];exact bz
   have bZ:Paired (zf4 (upd H4 fo (.lst (as.map V.ref++[.ref p])))) (as++[p]) (zss++[zs]):=by
    refine zas ?_ (.cons ay .nil)
    have:∀{as:Nl} {zss:List (List Str)},Paired (zf4 H3) as zss→(∀a∈as,a≠fo)→Paired (zf4 (upd H4 fo (.lst (as.map V.ref++[.ref p])))) as zss:=λ{as zss} r ha=>by
     have h2:∀(L:List V),Paired (zf4 (upd H4 fo (.lst L))) as zss:=λL=>by
      induction r with
      |nil=>exact .nil
      |cons h t ih=>exact .cons (by unfold zf4;rw[zad (ha _ List.mem_cons_self)];exact k4 _ _ h (by simp)) (ih λa h=>ha a (List.mem_cons_of_mem _ h))
     exact h2 _
    exact this cC gB
   have lR:∀a∈as++[p],a≠fo:=λa ha=>by
    rcases Qd.mp ha with h | h
    ·exact gB a h
    ·rw[Qb.mp h];exact npf
   generalize upd H4 fo (.lst (as.map V.ref++[.ref p]))=H5 at k5 cJ bv ay bZ
   refine⟨_,rfl,p,rfl,⟨_,SqL.of ay⟩,zbn (xs:=zs.map V.str) (λj σ H'=>Aj3 (Ex1 λx5=>σ=[some (.ref d),some (.ref fo),some (.ref re),some (.str ws[i]),some (.ref p),x5]) (Keep [re] H5 H') (Ex1 λ(ks:Ng)=>Aj4 (H' re=some (.dK (marks ks))) ks.Nodup (∀z∈ks,z∈es.map (·.1)) (∀z,z∈ks↔z∈i7∨z∈zs.take j)))
    ⟨⟨_,rfl⟩,Keep.refl,i7,bv,gu,nj,λz=>⟨.inl,λh=>h.elim id λh=>(by cases h)⟩⟩ (λj σ H' _ hh=>SqL.of (hh.2 _ _ ay (by simpa using npr))) ?_ ?_⟩
   ·rintro j y σ H6 hy ⟨⟨y5,rfl⟩,k6,i6,d7,eD,eF,c9⟩
    have hj:j<zs.length:=by
     have:=(Ze.mp hy).1
     rwa[Qa]at this
    obtain⟨z,hz,rfl,ez⟩:∃z,z∈zs∧y=V.str z∧z=zs[j]:=by
     rw[Qu,Qc hj]at hy
     exact⟨zs[j],Qm hj,(Qr hy).symm,rfl⟩
    have step:∀q,(q∈i6∨q=z)↔q∈i7∨q∈zs.take (j+1):=λq=>by
     rw[c9,Ql hj,Qd,Qb,ez,or_assoc]
    have hsz:i6.length≤es.length:=by
     have:=zbq eD eF
     rwa[Qa]at this
    refine⟨_,rfl,_,rfl,re,_,rfl,DPut.k (k:=Sum.inr z) d7 (by unfold marks;rw[List.length_map];lia),⟨_,rfl⟩,k6.trans (Keep.wr (by simp)),?_⟩
    by_cases dv:z∈i6
    ·exact⟨i6,by rw[zac,putM_old dv],eD,eF,λq=>by rw[←step q];exact⟨.inl,λh=>h.elim id λe=>e▸dv⟩⟩
    ·refine ⟨i6++[z],by rw [zac,putM_new dv],?_,fun q hq=>?_,fun q=>by rw [← step q,Qd,Qb]⟩
     ·rw [Qz]
      refine⟨eD,Qy.mpr ⟨by simp,Zq⟩,λa ha b hb e=>?_⟩
      rw[Qb.mp hb]at e
      exact dv (e▸ha)
     ·rcases Qd.mp hq with h | h
      ·exact eF q h
      ·rw[Qb.mp h];exact((ck z).mp hz).1
   ·rintro σ H6 ⟨⟨y5,rfl⟩,k6,i6,d7,eD,eF,c9⟩
    rw[Qa,Qx (Qf _)]at c9
    have kE:ws[i]∈zs:=(ck _).mpr ⟨gc,rfl⟩
    have gS:zs.head?=some ws[i]:=by
     cases oI:zs with
     |nil=>rw[oI]at kE;cases kE
     | cons m t =>
      have hmz:m∈zs:=by rw[oI];exact Qe
      obtain⟨l6,gN⟩:=(ck m).mp hmz
      obtain⟨j,hj,ej⟩:=Zo (ai.mem_iff.mpr l6)
      have h1:leS m ws[i]:=by
       rw[oI]at kE kr
       rcases Qh.mp kE with q | q
       ·rw[q];exact λz=>Wk _ z
       ·exact(List.pairwise_cons.mp kr).1 _ q
      have cu:i≤j:=Nat.le_of_not_lt λaa=>by
       have fG:m∈i7:=c1 m (by rw[←ej,←Ug (j:=i) (h:=by rw[Zg];omega)];exact Qm _)
       obtain⟨fk,hz',qb⟩:=c2 m fG
       obtain⟨_,s,_,hs⟩:=iI fk hz'
       exact aw (c6 fk hz' _ ((hs _).mpr ⟨gc,gN.symm.trans ((hs m).mp qb).2⟩))
      have h2:leS ws[i] m:=by
       rcases Nat.lt_or_eq_of_le cu with q | q
       ·rw[←ej];exact Uo.mp aT i j hi hj q
       ·subst q;rw[ej];exact λz=>Wk _ z
      rw[leS_anti _ _ h1 h2];rfl
    have tk:ws.take (i+1)=ws.take i++[ws[i]]:=Ql hi
    refine⟨⟨_,_,_,rfl⟩,k5.trans (k6.sub (by simp)),as++[p],zss++[zs],i6,k6 _ _ cJ (by simpa using ow),d7,Paired.imp' (λa zs h=>k6 _ _ h (by simpa using za8 h bv (by intro z;cases z))) bZ,λq hq=>?_,by rw[Qp];show _+1≤_;exact zar4 ‹_›,eD,eF,lR,λy hy=>?_,λy hy=>?_,λq hq y hy=>?_,λq hq x hx=>?_,?_,λq hq=>?_⟩
    ·rcases Qd.mp hq with h | h
     ·exact iI q h
     ·rw[Qb.mp h];exact⟨cL,ws[i],gc,ck⟩
    ·rw [tk] at hy
     rcases Qd.mp hy with h | h
     ·exact(c9 y).mpr (.inl (c1 y h))
     ·rw[Qb.mp h];exact(c9 _).mpr (.inr kE)
    ·rcases (c9 y).mp hy with h | h
     ·obtain ⟨z,hz,kA⟩:=c2 y h
      exact⟨z,Qo _ hz,kA⟩
     ·exact⟨zs,Qn _ Qe,h⟩
    ·rcases Qd.mp hq with h | h
     ·exact(c9 y).mpr (.inl (c6 q h y hy))
     ·rw[Qb.mp h]at hy;exact(c9 y).mpr (.inr hy)
    ·rw [tk]
     rcases Qd.mp hq with h | h
     ·exact Qo _ (c3 q h x hx)
     ·rw [Qb.mp h,gS] at hx
      rw[←Qr hx];exact Qn _ Qe
    ·rw [List.pairwise_append]
     refine⟨c4,Yx _ _,λa ha b hb x hx y hy=>?_⟩
     rw[Qb.mp hb,gS]at hy
     rw[←Qr hy]
     obtain⟨j,hj,ej⟩:=Zo (c3 a ha x hx)
     rw[Zg]at hj
     rw[←ej,Ug]
     exact Uo.mp aT j i (by omega) hi (by omega)
    ·rcases Qd.mp hq with h | h
     ·exact c5 q h
     ·rw[Qb.mp h];exact kr
 ·rintro σ H3 ⟨⟨x3,x4,x5,rfl⟩,k3,as,zss,ks,bE,bX,cC,iI,rD,gu,nj,gB,c1,c2,c6,c3,c4,c5⟩
  rw[Qa,Qx (Qf _)]at c1
  refine⟨_,rfl,k fo as zss H3 bE cC iI ⟨c5,c4,λy hy=>c2 y (c1 y (ai.mem_iff.mpr hy))⟩ λc u ec _=>k3 c u (kk2 c u ec (by simp)) (by simp[zab ec cT,zab ec dL])⟩
end
end K21
end
section
namespace L2
open PySem
def lc_filt(T:St→Prop)(q:V→Bool)(ha:SqL K H a xs)(hn:xs.length≤sizeLine)(h0:T τ)(hs:∀x∈xs,∀τ,T τ→∀(k1:V→St→Hp→Prop) (k0:St→Hp→Prop),(q x=true→∀τ2,T τ2→k1 x τ2 H)→(q x=false→∀τ2,T τ2→k0 τ2 H)→g x τ H λ τ2 H2=>tc τ2 H2 λb H3=>if b=true then te τ2 H3 λy H4=>k1 y τ2 H4 else k0 τ2 H3)(hq:∀D,H D=none→Q (.ref D) (upd H D (.lst (xs.filter q)))):rLC g tc te Q (Itl K a) τ H:=by
 refine⟨λi m ys τ H1=>Aj5 (H1=H) (T τ) (m=xs.length-i) (i≤xs.length) (ys=(xs.take i).filter q),⟨_,rfl,h0,rfl,Zn _,rfl⟩,?_⟩
 rintro i m ys τ H1 ⟨rfl,ht,rfl,hi,rfl⟩
 by_cases aa:i<xs.length
 ·have eR:((xs.take i).filter q).length≤i:=Zj (List.length_filter_le _ _) (by rw [Zg];lia)
  refine .inr ⟨⟨xs,xs[i],ha,Qc aa⟩,by lia,?_⟩
  rintro x H' ⟨rfl,hx⟩
  have cB:=hx xs ha
  rw[Qc aa]at cB
  have ic:xs[i]=x:=Qr cB
  have cN:xs.take (i+1)=xs.take i++[x]:=by rw[Ql aa,ic]
  refine hs x (ic▸Qm aa) τ ht (λy τ2 H4=>∃m',m'<xs.length-i∧Aj5 (H4=H') (T τ2) (m'=xs.length-(i+1)) (i+1≤xs.length) ((xs.take i).filter q++[y]=(xs.take (i+1)).filter q))
   (λ τ2 H4=>∃m',m'<xs.length-i∧Aj5 (H4=H') (T τ2) (m'=xs.length-(i+1)) (i+1≤xs.length) ((xs.take i).filter q=(xs.take (i+1)).filter q)) (λpI τ2 h2=>?_) λpI τ2 h2=>?_
  ·exact⟨_,by exact zar1 ‹_›,rfl,h2,rfl,aa,by rw[cN,Uw,Yi pI,Kx]⟩
  ·exact⟨_,by exact zar1 ‹_›,rfl,h2,rfl,aa,by rw[cN,Uw,Yj (by rw[pI];decide),Kx,Zx]⟩
 ·have e:i=xs.length:=by exact zar3 ‹_› ‹_›
  subst e
  refine .inl ⟨⟨xs,ha,Qf _⟩,λD hD=>?_⟩
  rw[Qx (Qf _)]
  exact hq D hD
end L2
namespace K21
open PySem L2 Wb
def sum_filter{α:Type}{p:α→Bool}{f:α→Int}:∀l:List α,(l.map λx=>if p x=true then f x else 0).sum=((l.filter p).map f).sum:=by
 intro l
 induction l with
 |nil=>rfl
 |cons a t ih =>
  rw[Qk,Zy,ih]
  by_cases h:p a=true
  ·rw[if_pos h,Yi h,Qk,Zy]
  ·rw[if_neg h,Yj h];lia
def sum_parts{α:Type}{f:α→List Str}:∀l:List α,(l.map λx=>(2:Int)+(if f x=[] then 2 else 0)-((f x).length:Int)).sum=2*(l.length:Int)+2*((l.filter λx=>(f x).isEmpty).length:Int)-(((l.map λx=>(f x).length).sum:Nat):Int):=by
 intro l
 induction l with
 |nil=>rfl
 |cons a t ih =>
  rw[Qk,Zy,ih,Qk,Zy,Zd]
  by_cases h:f a=[]
  ·rw[Yi (by rw[h];rfl),Zd,if_pos h];lia
  ·rw[Yj (by rw[List.isEmpty_iff];exact h),if_neg h];lia
def sum_twos{α:Type}{p:α→Bool}:∀l:List α,(l.map λx=>if p x=true then(2:Int) else 0).sum=2*((l.filter p).length:Int):=by
 intro l
 induction l with
 |nil=>rfl
 |cons a t ih =>
  rw[Qk,Zy,ih]
  by_cases h:p a=true
  ·rw[if_pos h,Yi h,Zd];lia
  ·rw[if_neg h,Yj h];lia
def iso_eq{es:List Ent}(nd:(es.map (·.1)).Nodup):zeg es=(es.map (·.1)).filter λx=>(row (rsOf es) x).isEmpty:=by
 unfold zeg
 rw[List.filter_map]
 congr 1
 exact List.filter_congr λe he=>by
  show e.2.1.isEmpty=(row (rsOf es) e.1).isEmpty
  rw[zca nd he]
def piece_count{es:List Ent}{cs aQ:List (List (Str×Str))}{a7:Nw}(C:Cert (es.map (·.1)) (row (rsOf es)) cs a7){zs hd hc:Ng}(hz:IsPiece (es.map (·.1)) a7 zs)(hh:hd.Perm (zeg es++hc))(lN:aQ.Perm cs)(hp:Paired (fun h c=>∃ s∈c,s.1=h) hc aQ) :
  2*zs.length+2*(hd.filter λh=>decide (h∈zs)).length=(zs.map λx=>(row (rsOf es) x).length).sum+4:=by
 obtain⟨cL,s,hs,ck⟩:=hz
 have heu:=C.eu s hs
 have p1:((es.map (·.1)).filter λx=>decide (a7 x=a7 s)).Perm zs:=(Jv (Wp Jr C.nd) cL).mpr λy=>by
  rw[Ws,decide_eq_true_iff,ck]
 have e1:wt (es.map (·.1)) (row (rsOf es)) a7 (a7 s)=2*(zs.length:Int)+2*((zs.filter λx=>(row (rsOf es) x).isEmpty).length:Int)-(((zs.map λx=>(row (rsOf es) x).length).sum:Nat):Int):=by
  unfold wt
  have:=sum_filter (p:=λx=>decide (a7 x=a7 s)) (f:=λx=>(2:Int)+(if row (rsOf es) x=[] then 2 else 0)-((row (rsOf es) x).length:Int)) (es.map (·.1))
  simp only[decide_eq_true_eq]at this
  rw[this,zhc (p1.map _),sum_parts]
 have e2:ct cs a7 (a7 s)=2*((cs.filter λc=>c.any λu=>decide (a7 u.1=a7 s)).length:Int):=sum_twos _
 have e3:(hd.filter λh=>decide (h∈zs)).length=((zeg es).filter λh=>decide (h∈zs)).length+(hc.filter λh=>decide (h∈zs)).length:=by
  rw[(hh.filter _).length_eq,Uw,Qp]
 have e4:((zeg es).filter λh=>decide (h∈zs)).length=(zs.filter λx=>(row (rsOf es) x).isEmpty).length:=by
  refine List.Perm.length_eq ((Jv ?_ (Wp Jr cL)).mpr λy=>?_)
  ·rw [iso_eq C.nd]
   exact Wp Jr (Wp Jr C.nd)
  ·rw [iso_eq C.nd,Ws,Ws,Ws,decide_eq_true_iff]
   exact⟨λ⟨⟨_,a⟩,b⟩=>⟨b,a⟩,λ⟨a,b⟩=>⟨⟨((ck y).mp a).1,b⟩,a⟩⟩
 have e5:(hc.filter λh=>decide (h∈zs)).length=(aQ.filter λc=>c.any λu=>decide (a7 u.1=a7 s)).length:=by
  have aw:∀c∈aQ,c∈cs:=λc h=>lN.mem_iff.mp h
  clear lN e3 e4 hh
  induction hp with
  |nil=>rfl
  | cons h t ih =>
   rename_i h0 c0 _ _
   have iht:=ih λc hc=>aw c (Qi _ hc)
   obtain⟨u,hu,rfl⟩:=h
   have gY:=aw c0 Qe
   have hun:u.1∈es.map (·.1):=C.inn' (C.inc gY hu)
   by_cases hz:u.1∈zs
   ·have hl:=((ck _).mp hz).2
    have rF:(c0.any λu=>decide (a7 u.1=a7 s))=true:=Yn.mpr ⟨u,hu,decide_eq_true hl⟩
    rw[Yi (by simpa using hz),Yi (p:=λc:List (Str×Str)=>c.any λu=>decide (a7 u.1=a7 s)) rF,Zd,Zd,iht]
   ·rw [Yj (by simpa using hz),Yj,iht]
    intro q
    obtain⟨v,hv,e⟩:=Yn.mp q
    exact hz ((ck _).mpr ⟨hun,(C.one_lab gY hv hu).trans (of_decide_eq_true e)⟩)
 have e6:=(lN.filter λc=>c.any λu=>decide (a7 u.1=a7 s)).length_eq
 lia
def ix_listK(hK:X.K=K):IxR X (rIxL K):=hK▸zap
def op_in_seqK(hK:X.K=K):OpR X (compareOp .In) (rIn K false):=hK▸op_in_seq
def zhu(hK:X.K=K):zbz X (.builtin "len") (λxs H Q=>Ex2 λp ys=>Aj3 (xs=[.ref p]) (SqL K H p ys∨SqT K H p ys) (Q (.int ys.length) H)):=hK▸zam
abbrev zf6:Stmt:=top 21
inductive IspFlat(vs:List V)(H:Hp)(Q:VK):Prop
 |mk (d:Nc) (es:List Ent) (cs:List (List (Str×Str))) (a7:Nw) (h0:vs=[.ref d]) (h1:TAt H d es) (h2:es.length≤60) (h3:(∀e∈es,e.2.1.length≤100)) (h4:Cert (es.map (·.1)) (row (rsOf es)) cs a7) (h5:∀H',Keep [] H H'→Q .non H'):IspFlat vs H Q
def spFlat:Sp:=λvs H Q _=>IspFlat vs H Q
abbrev csFlA:Scope:=scOf (aOf 0 (aOf 0 (eOf (bAt (sAt zf6 1) 1))))
abbrev csFlB:Scope:=scOf (aOf 0 (eOf (bAt (sAt zf6 1) 2)))
def csFlA_k:csFlA.kind=.function:=by rfl
def csFlA_c:∀y∈csFlA.names,y.2≠.cell:=by decide +kernel
def csFlA_n:∀y∈csFlA.names,y.2=.local→csFlA.names.lookup y.1=some .local:=by decide +kernel
def csFlA_f:∀y∈csFlA.names,y.2=.free→(zag zf6).names.lookup y.1=some .cell∨(zag zf6).names.lookup y.1=some .free:=by decide +kernel
def csFlA_l:csFlA.names.lookup ("rounds" : Str)=some NameKind.free:=by decide +kernel
def csFlB_k:csFlB.kind=.function:=by rfl
def csFlB_c:∀y∈csFlB.names,y.2≠.cell:=by decide +kernel
def csFlB_n:∀y∈csFlB.names,y.2=.local→csFlB.names.lookup y.1=some .local:=by decide +kernel
def csFlB_f:∀y∈csFlB.names,y.2=.free→(zag zf6).names.lookup y.1=some .cell∨(zag zf6).names.lookup y.1=some .free:=by decide +kernel
def csFlB_l:csFlB.names.lookup ("piece" : Str)=some NameKind.free:=by decide +kernel
def ndFB:(["face", "piece"]:List Str).Nodup:=by decide +kernel
def inPc(H:Hp)(zs:Ng):V→Bool
 |.ref a=>match H a with
  |some (.lst (.str h::_))=>decide (h∈zs)
  |_=>false
 |_=>false
def inPc_ref(e:zcw H a h):inPc H zs (.ref a)=decide (h∈zs):=by
 obtain⟨t,e⟩:=e
 show(match H a with | some (.lst (.str h::_))=>decide (h∈zs) | _=>false)=_
 rw[e];rfl
def filt_len(r:Paired (zcw H) as hd):((as.map V.ref).filter (inPc H zs)).length=(hd.filter λh=>decide (h∈zs)).length:=by
 induction r with
 |nil=>rfl
 |cons h t ih =>
  rename_i a b _ _
  rw[Qk]
  have e:=inPc_ref (zs:=zs) h
  by_cases hz:b∈zs
  ·rw[Yi (by rw[e];simpa using hz),Yi (by simpa using hz),Zd,Zd,ih]
  ·rw[Yj (by rw[e];simpa using hz),Yj (by simpa using hz),ih]
def sum_cast(ns:List Nat):(ns.map λn:Nat=>(n:Int)).sum=((ns.sum:Nat):Int):=by
 induction ns with
 |nil=>rfl
 |cons a t ih=>rw[Qk,Zy,Zy,ih];lia
section
variable{P:Nj}{w:Nk}{K:Na}{mg:Nf}{base:Nm}
def zgf:zao ["rounds", "found", "piece", "many_places", "many_ties", "many_faces"] ["rounds"] (zag zf6):=fsk
def ok_flat(F:Fun K "refuse_not_flat" "refuse_not_flat" zf6 f fd)(FF:Fun K "faces_of" "faces_of" zeq ff fdf)(bF:Binds K fdf ["rounds"] [])(mF:mg "faces_of" = some (.ref ff))(GF:FnOk P w K mg base CX0 2 ff fdf ["rounds"] spFaces)(FP:Fun K "pieces_of" "pieces_of" zg2 fp fdp)(bP:Binds K fdp ["rounds"] [])(mP:mg "pieces_of" = some (.ref fp))(GP:FnOk P w K mg base CX0 2 fp fdp ["rounds"] spPieces)(a9:mg "len" = none)(ph:mg "sum" = none):FnOk P w K mg base CX0 3 f fd ["rounds"] spFlat:=by
 refine F.okL zgf (λcdv A outer s H vs Q E hr h=>?_)
 obtain⟨d,es,cs,a7,rfl,T,cg,bi,C,k⟩:=h
 have hu:=zb7 hr
 have aB  := sizeLine_eq
 refine⟨_,zae (zat 1 zgf.nd (zak GF hr rfl mF FF.kp bF .nil za0 (zaa (pv 0) zaf)))
  (zah (zbd Zf rfl (zay (zak GP hr rfl mP FP.kp bP .nil za0 (zaa (pv 0) zaf))) (zhb (i:=2) zgf.nd rfl (Or.inr rfl))
   (zae (zat 3 zgf.nd (zaj zam (by rfl) a9 Zr (zaa (pv 2) zaf)))
   (zae (zat 4 zgf.nd (zaq zfl (zaj (call_sum rfl) (by rfl) ph PyProof.Rows.boot_sum (zaa (pe_lc (M:=["place", "rounds"]) (ix:=[none,some 0]) ⟨csFlA_k,csFlA_c,csFlA_n,csFlA_f,rfl,by decide +kernel,λj i x h1 h2=>by
      match j,h1,h2 with
      |0,_,h2=>cases h2
      |1,h1,h2=>cases h1;cases h2;exact⟨rfl,csFlA_l⟩
      |n+2,h1,_=>cases h1⟩ rfl (zay (pv 2)) (λC a5 ex s H=>za9 0 ndF) (λC a5 ex s H=>zdh)
      (λC a5 ex s H=>zaj (zhu (K:=K) rfl) (by rfl) (by exact a9) Zr (zaa (zf7 (by exact hu) (pv 1) (pv 0)) zaf))) zaf)) zai))
   (zae (zat 5 zgf.nd (zaj zam (by rfl) a9 Zr (zaa (pe_lc (M:=["face", "piece"]) (ix:=[none,some 2]) ⟨csFlB_k,csFlB_c,csFlB_n,csFlB_f,rfl,by decide +kernel,λj i x h1 h2=>by
      match j,h1,h2 with
      |0,_,h2=>cases h2
      |1,h1,h2=>cases h1;cases h2;exact⟨rfl,csFlB_l⟩
      |n+2,h1,_=>cases h1⟩ rfl (zay (pv 1)) (λC a5 ex s H=>za9 0 ndFB)
      (λC a5 ex s H=>zg7 (zaw (op_in_seqK (K:=K) rfl) (za6 (ix_listK (K:=K) rfl) (pv 0) zai (λ_ _=>rfl)) (pv 1) rfl)) (λC a5 ex s H=>pv 0)) zaf)))
   (zah (zb2 (zaw op_ne (zaq zbk (pv 3) (pv 5)) (zaq zbk (pv 4) zai) (zbp _)) (zah zg8) za1)))))))  ,?_⟩
 refine⟨_,rfl,d,es,cs,a7,rfl,T,cg,bi,C,λfo fas hd hc aQ H1 eN hfal hhd hhp lN dA k1=>?_⟩
 have T1:TAt H1 d es:=T.keep k1 (by simp) (λ_ _=>by simp)
 refine⟨_,rfl,d,es,cs,a7,rfl,T1,cg,C,λl as zss H2 ax aO iI _ k2=>?_⟩
 have T2:TAt H2 d es:=T1.keep k2 (by simp) (λ_ _=>by simp)
 have j8:=k2 _ _ eN (by simp)
 have qw:Paired (zcw H2) fas hd:=zck (D:=d) (g:=d) k2 hhd (λ_ _ _ _=>by simp)
 refine⟨l,rfl,⟨_,SqL.of ax⟩,zbn (xs:=as.map V.ref) (λi σ H'=>Aj2 (Keep [] H2 H') (Ex4 λx2 x3 x4 x5=>σ=[some (.ref d),some (.ref fo),x2,x3,x4,x5])) ⟨Keep.refl,_,_,_,_,rfl⟩ (λi σ H' _ hh=>SqL.of (hh.1 _ _ ax (by simp))) ?_ ?_⟩
 ·rintro i y σ H3 hx ⟨k3,x2,x3,x4,x5,rfl⟩
  have hi:i<as.length:=by
   have:=(Ze.mp hx).1
   rwa[Qa]at this
  have i9:y=.ref as[i]:=by
   rw[Qu,Qc hi]at hx
   exact(Qr hx).symm
  subst i9
  obtain⟨ap,dD⟩:=za7 aO hi
  have mY:=iI _ (Qm ap)
  have jg:=piece_count C mY hhp lN dA
  generalize zss[i]=zs at dD mY jg
  have gD:H3 as[i]=some (.lst (zs.map V.str)):=k3 _ _ dD (by simp)
  have i8:∀z∈zs,∃e∈es,e.1=z:=λz hz=>by
   obtain⟨_,s,_,hm⟩:=mY
   exact Qj.mp ((hm z).mp hz).1
  have g7:zs.length≤100:=by
   have:=zbq mY.1 (m:=es.map (·.1)) λz hz=>by
    obtain⟨e,he,rfl⟩:=i8 z hz
    exact Qj.mpr ⟨e,he,rfl⟩
   rw[Qa]at this
   omega
  refine⟨_,rfl,as[i],_,rfl,.inl (SqL.of gD),?_⟩
  have T3:TAt H3 d es:=T2.keep k3 (by simp) (λ_ _=>by simp)
  refine⟨_,rfl,as[i],rfl,⟨_,SqL.of gD⟩,lc_at (xs:=zs.map V.str) (λ τ=>∃x0,τ=[x0,some (.ref d)]) ((zs.map λx=>((row (rsOf es) x).length:Int)).map V.int) (by rw[Qa,Qa,Qa]) (SqL.of gD) (by rw[Qa];lia) ⟨none,rfl⟩ ?_ (λD hD=>?_)⟩
  ·rintro j hj jR τ ⟨x0,rfl⟩ kk hk
   rw[Qa]at hj
   rw[Zs]
   obtain⟨en,aq,cQ⟩:=i8 _ (Qm hj)
   have dg:DGet H3 d (.str zs[j]) (some (.ref en.2.2)):=by
    have:=DGet.k (k:=Sum.inr en.1) T3.dc
    rw[zen T3.nd aq,cQ]at this
    exact this
   refine⟨_,rfl,_,rfl,d,_,rfl,dg,en.2.2,_,rfl,.inr (SqT.of (T3.ro en aq)),?_⟩
   have e:((zs.map λx=>((row (rsOf es) x).length:Int)).map V.int)[j]=V.int ((en.2.1.map V.str).length:Int):=by
    rw[Zs,Zs,←cQ,zca T3.nd aq,Qa]
   rw[e]at hk
   exact hk _ ⟨_,rfl⟩
  ·have k4:Keep [] H3 (upd H3 D (.lst ((zs.map fun x=>((row (rsOf es) x).length:Int)).map V.int))):=Keep.new hD
   have hD4:(upd H3 D (.lst ((zs.map λx=>((row (rsOf es) x).length:Int)).map V.int))) D=some (.lst ((zs.map λx=>((row (rsOf es) x).length:Int)).map V.int)):=zac
   generalize upd H3 D (.lst ((zs.map λx=>((row (rsOf es) x).length:Int)).map V.int))=H4 at k4 hD4
   refine⟨D,_,rfl,SqL.of hD4,by rw[Qa];lia,λn hn=>?_,?_⟩
   ·obtain ⟨z,hz,rfl⟩:=Qj.mp hn
    obtain⟨en,aq,cQ⟩:=i8 z hz
    have h1:=bi en aq
    rw[←cQ,zca T3.nd aq]
    lia
   ·have kO:(zs.map fun x=>((row (rsOf es) x).length:Int)).sum=(((zs.map fun x=>(row (rsOf es) x).length).sum:Nat):Int):=by
     rw[←sum_cast,Zm];rfl
    rw[kO]
    refine⟨_,_,rfl,rfl,⟨by decide,by decide⟩,?_⟩
    have cc:=k4 _ _ (k3 _ _ j8 (by simp)) (by simp)
    have rH:=k4 _ _ gD (by simp)
    have lv:Paired (zcw H4) fas hd:=zck (D:=d) (g:=d) (k3.trans k4) qw (λ_ _ _ _=>by simp)
    refine⟨_,rfl,fo,rfl,⟨_,SqL.of cc⟩,lc_filt (xs:=fas.map V.ref) (λ τ=>∃x0,τ=[x0,some (.ref as[i])]) (inPc H4 zs) (SqL.of cc) (by rw[Qa];lia) ⟨none,rfl⟩ ?_ (λD2 rL=>?_)⟩
    ·rintro x hx τ ⟨x0,rfl⟩ kk1 kk0 lp jQ
     obtain⟨a,ha,rfl⟩:=Qj.mp hx
     obtain⟨j,hj,rfl⟩:=Zo ha
     obtain⟨nr,dB⟩:=za7 lv hj
     have aw:=inPc_ref (zs:=zs) dB
     obtain⟨t,et⟩:=dB
     refine⟨_,rfl,fas[j],_,_,_,rfl,rfl,SqL.of et,zau (j:=0) rfl,_,rfl,as[i],_,rfl,.inl (SqL.of rH),rfl,zd1 zs,_,rfl,?_⟩
     cases hb:decide (hd[j]∈zs) with
     |true=>exact zbm (show inV _ _=true by rw[zhk];exact hb) ⟨_,rfl,lp (aw.trans hb) _ ⟨_,rfl⟩⟩
     |false=>exact zbi (show inV _ _=false by rw[zhk];exact hb) (jQ (aw.trans hb) _ ⟨_,rfl⟩)
    ·have k5:Keep [] H4 (upd H4 D2 (.lst ((fas.map V.ref).filter (inPc H4 zs)))):=Keep.new rL
     refine⟨D2,_,rfl,.inl (SqL.of zac),?_⟩
     rw[filt_len lv]
     refine⟨_,rfl,_,rfl,_,_,rfl,rfl,_,rfl,_,_,rfl,rfl,rfl,_,rfl,zbi ?_ ?_⟩
     ·rw [Bool.not_eq_false',decide_eq_true_iff]
      refine congrArg V.int ?_
      rw[Qa]
      lia
     ·exact⟨(k3.trans k4).trans k5,_,_,_,_,rfl⟩
 ·rintro σ H3 ⟨k3,x2,x3,x4,x5,rfl⟩
  exact k H3 ((k1.trans k2).trans k3)
end
end K21
end
section
namespace K21
open PySem L2 Wb
abbrev sInit:Stmt:=inClass sWeb 0
abbrev Turned:List Ent→List Ent→Prop:=Paired λt e=>t.1=e.1∧∃k,t.2.1=e.2.1.drop k++e.2.1.take k
inductive IspInit(C:Nc)(vs:List V)(H:Hp)(Q:VK):Prop
 |mk (x dx l:Nc) (as:Nl) (es:List Ent) (cs:List (List (Str×Str))) (a7:Nw) (h0:vs=[.ref x,.ref l]) (h1:H x=some (.ins C dx [])) (h2:RwAt H l as es) (h3:es.length≤40) (h4:(∀e∈es,zcv e.1)) (h5:Cert (es.map (·.1)) (row (rsOf es)) cs a7) (h6:∀(d:Addr) (ts es2:List Ent) (H':Hp),WAt H' C x dx d ts→es2.Perm es→Turned ts es2→Keep [x] H H'→Q .non H'):IspInit C vs H Q
def spInit(C:Nc):Sp:=λvs H Q _=>IspInit C vs H Q
def zbu(h:Turned ts es):ts.map (·.1)=es.map (·.1):=by
 induction h with
 |nil=>rfl
 |cons h t ih=>rw[Qk,Qk,h.1,ih]
def zgd(h:Turned ts es)(ht:t∈ts):∃e∈es,t.1=e.1∧∃k,t.2.1=e.2.1.drop k++e.2.1.take k:=by
 induction h with
 |nil=>cases ht
 | cons h _ ih =>
  rcases Qh.mp ht with z | z
  ·subst z;exact⟨_,Qe,h⟩
  ·obtain ⟨e,he,r⟩:=ih z
   exact⟨e,Qi _ he,r⟩
def zd9(h:Turned ts es2)(hp:es2.Perm es)(nd:(es.map (·.1)).Nodup):∀x,∃k,row (rsOf ts) x=(row (rsOf es) x).drop k++(row (rsOf es) x).take k:=λx=>by
 have dG:(ts.map (·.1)).Nodup:=by rw[zbu h];exact(hp.map _).nodup_iff.mpr nd
 by_cases hx:x∈ts.map (·.1)
 ·obtain ⟨t,ht,rfl⟩:=Qj.mp hx
  obtain⟨e,he,e1,k,e2⟩:=zgd h ht
  refine⟨k,?_⟩
  rw[zca dG ht,e1,zca nd (hp.mem_iff.mp he),e2]
 ·refine ⟨0,?_⟩
  have jI:x∉es.map (·.1):=λz=>hx (by rw[zbu h];exact(hp.map _).mem_iff.mpr z)
  have n1:x∉(rsOf ts).map (·.1):=by unfold rsOf;rw[List.map_map];exact hx
  have n2:x∉(rsOf es).map (·.1):=by unfold rsOf;rw[List.map_map];exact jI
  rw[zec n1,zec n2];rfl
abbrev csInit:Scope:=scOf (eOf (sAt sInit 3))
def csInit_k:csInit.kind=.function:=by rfl
def csInit_c:∀y∈csInit.names,y.2≠.cell:=by decide +kernel
def csInit_n:∀y∈csInit.names,y.2=.local→csInit.names.lookup y.1=some .local:=by decide +kernel
def csInit_f:∀y∈csInit.names,y.2=.free→(zag sInit).names.lookup y.1=some .cell∨(zag sInit).names.lookup y.1=some .free:=by decide +kernel
section
variable{P:Nj}{w:Nk}{K:Na}{mg:Nf}{base:Nm}
def scInit:zao ["self", "rows", "rounds"] ["self", "rows"] (zag sInit):=fsk
def ok_init(F:Fun K "__init__" "Web.__init__" sInit f fd)(cW:Cls K C)(nW:zdc K C "rounds")(FN:Fun K "refuse_no_names" "refuse_no_names" ze7 fn fdn)(bN:Binds K fdn ["rows"] [])(mN:mg "refuse_no_names" = some (.ref fn))(GN:FnOk P w K mg base CX0 2 fn fdn ["rows"] spNoNames)(FT:Fun K "refuse_twice" "refuse_twice" zdb ft fdt)(bT:Binds K fdt ["rows"] [])(mT:mg "refuse_twice" = some (.ref ft))(GT:FnOk P w K mg base CX0 1 ft fdt ["rows"] spTwice)(FO:Fun K "refuse_one_way" "refuse_one_way" zg3 fo fdo)(bO:Binds K fdo ["rows"] [])(mO:mg "refuse_one_way" = some (.ref fo))(GO:FnOk P w K mg base CX0 1 fo fdo ["rows"] spOneWay)(FL:Fun K "from_least" "from_least" sLeast fl fdl)(bL:Binds K fdl ["around"] [])(mL:mg "from_least" = some (.ref fl))(GL:FnOk P w K mg base CX0 1 fl fdl ["around"] spLeast)(FF:Fun K "refuse_not_flat" "refuse_not_flat" zf6 ff fdf)(bF:Binds K fdf ["rounds"] [])(mF:mg "refuse_not_flat" = some (.ref ff))(GF:FnOk P w K mg base CX0 3 ff fdf ["rounds"] spFlat)(aN:mg "sorted" = none):FnOk P w K mg base CX0 4 f fd ["self", "rows"] (spInit C):=by
 refine F.okL scInit (λcdv A outer s H vs Q E hr h=>?_)
 obtain⟨x,dx,l,as,es,cs,a7,rfl,hx,R,cg,hok,Ct,k⟩:=h
 have hu:=zb7 hr
 have aH:Room 1 _:=hr.mono (by decide)
 have dw:Room 2 _:=hr.mono (by decide)
 have aB  := sizeLine_eq
 refine⟨_,zae (zax (zak GN dw rfl mN FN.kp bN .nil za0 (zaa (pv 1) zaf)))
  (zae (zax (zak GT aH rfl mT FT.kp bT .nil za0 (zaa (pv 1) zaf)))
  (zae (zax (zak GO aH rfl mO FO.kp bO .nil za0 (zaa (pv 1) zaf)))
  (zae (ps_dc (i:=2) (M:=["place", "around"]) (ix:=[none,none]) scInit.nd rfl rfl (noB (n:=2) csInit_k csInit_c csInit_n csInit_f rfl ndPA) rfl
    (zay (zaj ze1 (by rfl) aN Wi (zaa (pv 1) zaf)))
    (λC a5 ex s H=>pg_tupK (K:=K) (n:=2) rfl rfl (zbe (za9 0 ndPA) (zbe (za9 1 ndPA) zdj)))
    (λC a5 ex s H=>zdh) (λC a5 ex s H=>pv 0) (λC a5 ex s H=>zak GL (by exact aH) rfl (by exact mL) FL.kp bL .nil za0 (zaa (pv 1) zaf)) rfl)
  (zae (zax (zak GF hr rfl mF FF.kp bF .nil za0 (zaa (pv 2) zaf)))
  (zah (ps_fld (pv 0) (pv 2) rfl)))))),?_⟩
 have av:(es.map (·.1)).Nodup:=Ct.nd
 have ag:∀e∈es,row (rsOf es) e.1=e.2.1:=λe he=>zca av he
 have hrn:∀e∈es,e.2.1.Nodup:=λe he=>ag e he▸Ct.rn e.1
 have dI:∀e∈es,∀y∈e.2.1,y∈es.map (·.1):=λe he y hy=>Ct.inn' (x:=e.1) (by rw[ag e he];exact hy)
 have bi:∀e∈es,e.2.1.length≤40:=λe he=>by
  have:=zbq (hrn e he) (dI e he)
  rw[Qa]at this
  exact Zj ‹_› ‹_›
 refine⟨_,rfl,l,as,es,rfl,R,λe he=>⟨Zj (bi e he) (by decide),hok e he,λy hy=>?_⟩,λH1 k1=>?_⟩
 ·obtain ⟨e',bM,rfl⟩:=Qj.mp (dI e he y hy)
  exact hok e' bM
 have R1:=R.keep k1
 refine⟨_,rfl,l,as,es,rfl,R1,by lia,av,λe he=>⟨Zj (bi e he) (by decide),hrn e he⟩,λH2 k2=>?_⟩
 have R2:=R1.keep k2
 refine⟨_,rfl,l,as,es,rfl,R2,av,λe he=>⟨?_,λy hy=>?_⟩,λH3 k3=>?_⟩
 ·rw[←ag e he];exact Ct.ir e.1
 ·obtain ⟨e',bM,cM⟩:=Qj.mp (dI e he y hy)
  have kC:e'.1=y:=cM
  refine⟨e',bM,kC,?_⟩
  rw[←ag e' bM,kC]
  exact Ct.sy e.1 y (by rw[ag e he];exact hy)
 have R3:=R2.keep k3
 have k03:Keep [] H H3:=(k1.trans k2).trans k3
 have dC:as.length=es.length:=Zz R3.ts
 refine⟨_,rfl,l,_,rfl,SqL.of R3.ls,λv hv=>?_,λv hv u hu e=>?_,λl2 wsV ax ai aT=>?_⟩
 ·obtain ⟨a,ha,rfl⟩:=Qj.mp hv
  obtain⟨i,hi,rfl⟩:=Zo ha
  obtain⟨ap,h⟩:=za7 R3.ts hi
  exact⟨_,_,_,rfl,h⟩
 ·obtain ⟨a,ha,rfl⟩:=Qj.mp hv
  obtain⟨b,hb,rfl⟩:=Qj.mp hu
  obtain⟨i,hi,rfl⟩:=Zo ha
  obtain⟨j,hj,rfl⟩:=Zo hb
  obtain⟨ap,h1⟩:=za7 R3.ts hi
  obtain⟨nr,h2⟩:=za7 R3.ts hj
  rw[zdv h1,zdv h2]at e
  have e':es[i].1=es[j].1:=by
   have q:es[i].1.cps.toList=es[j].1.cps.toList:=e
   generalize es[i].1=a1 at q ⊢
   generalize es[j].1=a2 at q ⊢
   cases a1;cases a2
   congr 1
   exact Kr.mp q
  have e2:(es.map (·.1))[i]'(by rw[Qa];exact ap)=(es.map (·.1))[j]'(by rw[Qa];exact nr):=by rw[Zs,Zs];exact e'
  have:=(Yv av).mp e2
  subst this
  rfl
 ·obtain ⟨fW,rfl,aD⟩:=refs_perm ai
  obtain⟨es2,dQ,oT⟩:=zdk aD R3.ts
  have k4:Keep [] H3 (upd H3 l2 (.lst (fW.map V.ref))):=Keep.new ax
  have lh:(upd H3 l2 (.lst (fW.map V.ref))) l2=some (.lst (fW.map V.ref)):=zac
  generalize upd H3 l2 (.lst (fW.map V.ref))=H4 at k4 lh
  have kK:Paired (λa (e:Ent)=>H4 a=some (.tup [.str e.1,.ref e.2.2])) fW es2:=Paired.imp' (λ_ _ h=>k4 _ _ h (by simp)) oT
  have pB:∀e∈es2,H4 e.2.2=some (.lst (e.2.1.map V.str)):=λe he=>k4 _ _ (R3.ro e (dQ.mem_iff.mp he)) (by simp)
  have l5:(es2.map (·.1)).Nodup:=(dQ.map _).nodup_iff.mpr av
  have rG:fW.length=es2.length:=Zz kK
  have hel2:es2.length=es.length:=dQ.length_eq
  refine⟨l2,rfl,⟨_,SqL.of lh⟩,λi m ys τ H'=>Aj5 (m=es2.length-i) (i≤es2.length) (Ex2 λx0 x1=>τ=[x0,x1]) (Keep [] H4 H') (Ex1 λ(ts:List Ent)=>Aj3 (ys=(ts.map λe=>((Sum.inr e.1:Key),V.ref e.2.2))) (∀e∈ts,H' e.2.2=some (.tup (e.2.1.map V.str))) (Turned ts (es2.take i))),
   ⟨es2.length,rfl,Zn _,⟨none,none,rfl⟩,Keep.refl,[],rfl,λe he=>(by cases he),.nil⟩,?_⟩
  rintro i m ys τ H5 ⟨rfl,hi,⟨x0,x1,rfl⟩,k5,ts,rfl,il,im⟩
  by_cases aa:i<es2.length
  ·have jK:=zbu im
   have gJ:ts.length≤i:=by
    have:=congrArg List.length jK
    rw[Qa,Qa,Zg]at this
    lia
   refine .inr ⟨⟨_,.ref fW[i],SqL.of (k5 _ _ lh (by simp)),by rw[Qu,Qc (by exact zar6 ‹_› ‹_›)];rfl⟩,by rw[Qa];lia,?_⟩
   rintro v H6 ⟨rfl,hv⟩
   have jJ:=hv _ (SqL.of (k5 _ _ lh (by simp)))
   rw[Qu,Qc (by exact zar6 ‹_› ‹_›)]at jJ
   obtain rfl:V.ref fW[i]=v:=Qr jJ
   obtain⟨ap,dD⟩:=za7 kK (by exact zar6 ‹_› ‹_›:i<fW.length)
   have fM:es2[i]∈es2:=Qm aa
   have iz:=k5 _ _ (pB _ fM) (by simp)
   have l4:es2[i].1∉ts.map (·.1):=by
    rw[jK]
    have h1:(es2.map (·.1)).take (i+1)=(es2.map (·.1)).take i++[es2[i].1]:=by
     rw[Ql (by rw[Qa];exact aa),Zs]
    have h2:((es2.map (·.1)).take (i+1)).Nodup:=Wp (Kf _ _) l5
    rw[h1,Qz,←Ua]at h2
    exact λz=>h2.2.2 _ z _ (Qb.mpr rfl) rfl
   refine⟨fW[i],_,rfl,SqT.of (k5 _ _ dD (by simp)),rfl,_,_,rfl,_,_,rfl,rfl,_,rfl,_,rfl,es2[i].2.2,es2[i].2.1,rfl,iz,Zj (bi _ (dQ.mem_iff.mp fM)) (by decide),λt j H7 hj ht7 htfr k7=>?_⟩
   refine⟨Sum.inr es2[i].1,rfl,es2.length-(i+1),by exact zar1 ‹_›,rfl,aa,⟨_,_,rfl⟩,k5.trans k7,ts++[(es2[i].1,es2[i].2.1.drop j++es2[i].2.1.take j,t)],put_new (r:=es2[i].2.1.drop j++es2[i].2.1.take j) l4,λe he=>?_,?_⟩
   ·rcases Qd.mp he with z | z
    ·exact k7 _ _ (il e z) (by simp)
    ·rw[Qb.mp z];exact ht7
   ·rw [Ql aa]
    exact zas im (.cons ⟨rfl,j,rfl⟩ .nil)
  ·have lu:i=es2.length:=by exact zar3 ‹_› ‹_›
   subst lu
   rw[Qx (Qf _)]at im
   refine .inl ⟨⟨_,SqL.of (k5 _ _ lh (by simp)),by rw[Qa,rG];exact Qf _⟩,λd hd=>?_⟩
   have k6:Keep [] H5 (upd H5 d (.dK (ts.map λe=>((Sum.inr e.1:Key),V.ref e.2.2)))):=Keep.new hd
   have lL:(upd H5 d (.dK (ts.map λe=>((Sum.inr e.1:Key),V.ref e.2.2)))) d=some (.dK (ts.map λe=>((Sum.inr e.1:Key),V.ref e.2.2))):=zac
   generalize upd H5 d (.dK (ts.map λe=>((Sum.inr e.1:Key),V.ref e.2.2)))=H6 at k6 lL
   have jK:=zbu im
   have T6:TAt H6 d ts:=⟨lL,λe he=>k6 _ _ (il e he) (by simp),by rw[jK];exact l5⟩
   have gJ:ts.length=es.length:=by
    have:=congrArg List.length jK
    rw[Qa,Qa,dQ.length_eq]at this
    exact this
   have C6:Cert (ts.map (·.1)) (row (rsOf ts)) cs a7:=zd6 Ct (by rw[jK];exact dQ.map _) (zd9 im dQ av)
   refine⟨_,rfl,d,ts,cs,a7,rfl,T6,by lia,λe he=>?_,C6,λH7 k7=>?_⟩
   ·obtain ⟨e',bM,_,kk,e2⟩:=zgd im he
    rw[e2,(rot_perm _ kk).length_eq]
    exact Zj (bi e' (dQ.mem_iff.mp bM)) (by decide)
   ·have k07:Keep [] H H7:=(((k03.trans k4).trans k5).trans k6).trans k7
    have oM:=k07 _ _ hx (by simp)
    have T7:TAt H7 d ts:=T6.keep k7 (by simp) (λ_ _=>by simp)
    have nxd:d≠x:=za8 T7.dc oM (by intro z;cases z)
    refine⟨_,rfl,_,rfl,x,C,dx,[],rfl,oM,cW,nW,(by decide),?_⟩
    refine k d ts es2 _ ⟨zac,T7.keep (xs:=[x]) (Keep.wr (by simp)) (by simpa using nxd) λe he=>by simpa using za8 (T7.ro e he) oM (by intro z;cases z)⟩ dQ im ((k07.sub (by simp)).trans (Keep.wr (by simp)))
end
def zfi:∀{as:List α} {bs:List β} (n:Nat),Paired R as bs→Paired R (as.take n) (bs.take n):=by
 intro as bs n r
 induction r generalizing n with
 |nil=>rw[List.take_nil,List.take_nil];exact .nil
 |cons h t ih =>
  cases n with
  |zero=>exact .nil
  |succ k=>exact .cons h (ih k)
def zfj:∀{as:List α} {bs:List β} (n:Nat),Paired R as bs→Paired R (as.drop n) (bs.drop n):=by
 intro as bs n r
 induction r generalizing n with
 |nil=>rw[List.drop_nil,List.drop_nil];exact .nil
 |cons h t ih =>
  cases n with
  |zero=>exact .cons h t
  |succ k=>exact ih k
section
variable{P:Nj}{w:Nk}{K:Na}{mg:Nf}{base:Nm}
end
end K21
end
section
namespace L2
open PySem PySem.Spec PyProof.Rows
section
variable{X:Cx}
end
end L2
end
section
namespace Wb
section
variable{α:Type}[DecidableEq α]
variable{ns:List α}{r r':α→List α}{cs:List (List (α×α))}
end
section
variable{α:Type}[DecidableEq α]{ns:List α}{r r':α→List α}{cs:List (List (α×α))}
end
section
variable{α:Type}[DecidableEq α]{ns:List α}{r r':α→List α}{cs:List (List (α×α))}
end
section
variable{α:Type}[DecidableEq α]{ns:List α}{r r':α→List α}{cs:List (List (α×α))}
end
section
variable{α:Type}[DecidableEq α]{ns:List α}{r r':α→List α}{cs:List (List (α×α))}{a7:α→α}
end
end Wb
end
section
namespace HT
open PySem PyProof.Rows
section
open PySem.SeqAt
open PySem.AutoSeq1 (wpAny_loadPart')
open PySem.MeetsSeq PySem.MeetsSeq2 PySem.MeetsSeq3
end
section
variable{prog:Nj}{w:Nk}{A:Nn}{E:Nb}{s:Nh}
end
end HT
namespace PySem
section
variable{prog:Nj}{w:Nk}{A:Nn}{R:Nv}{I:Nc}{fp wr:Nl}{n:Nat}{P:Nat→Value→Prop}{St:Nat→Heap→Prop}
end
section
variable{prog:Nj}{w:Nk}{A:Nn}{E:Nb}{s:Nh}
end
end PySem
end
section
namespace L2
open PySem PySem.Spec PyProof.Rows
def zew(h1:leS x y)(h2:leS y x):x=y:=Tm.str_ext (List.le_antisymm (List.not_lt.mp h1) (List.not_lt.mp h2))
section
variable{X:Cx}
end
section
variable{X:Cx}{a5:Nd}{σ:St}{H:Hp}{s:Nh}
def dict_hits(I:Inv X a5 σ H s)(h1:Rd H a (.dK kvs))(h2:Rd H b (.dK cz))(pm:kvs.Perm cz)(nd:(kvs.map (·.1)).Nodup)(fl:∀p∈kvs,zcx p.2=true) :
  ∃vs hV,(a==sysModules)=false∧(b==sysModules)=false∧s.heap.DictOf (zan X.prog X.w) a vs∧s.heap.DictOf (zan X.prog X.w) b hV∧vs.length=hV.length∧PySem.W.KeqHits A s hV vs true:=by
 obtain⟨z,lo,vs,ep,rk,ha,hl⟩:=dk_at I h1
 obtain⟨z2,oB,hV,ep2,rk2,ha2,ax⟩:=dk_at I h2
 have dG:(cz.map (·.1)).Nodup:=(pm.map _).nodup_iff.mp nd
 have iX:∀(ks:List (Key×V)) (us:List (Key×Value)),KV ks us→(∀p∈ks,p∈kvs)→PySem.W.KeqHits A s hV us true:=by
  intro ks us r
  induction r with
  |nil=>intro _;exact .nil
  |@cons p q' ps qs e t ih =>
   intro hm
   have hp:(p.1,p.2)∈cz:=pm.mem_iff.mp (hm p Qe)
   obtain⟨y,e1,e2⟩:=KV.value rk2 dG hp
   have f:=fl p (hm p Qe)
   have hE:=eqAt_V (A:=A) (s:=s) e.2 e2 f f
   rw[eqV_self f]at hE
   obtain⟨k1,v1⟩:=q'
   have hk:p.1=k1:=e.1
   rw[hk]at e1
   exact PySem.W.KeqHits.hit (e:=true) (b:=true) e1 hE (ih λp hp=>hm p (Qi _ hp))
 have:=pm.length_eq
 exact⟨vs,hV,lo,oB,ha.dictOf,ha2.dictOf,by omega,iX kvs vs rk λp hp=>hp⟩
def op_ne_dictP(hu:X.A.units<cLine):OpR X (compareOp .NotEq) (λx y H Q=>Ex4 λa b kvs cz=>Aj8 (x=.ref a) (y=.ref b) (Rd H a (.dK kvs)) (Rd H b (.dK cz)) (kvs.Perm cz) ((kvs.map (·.1)).Nodup) (∀p∈kvs,zcx p.2=true) (Q (.bl false) H)):=by
 intro a5 s σ H x y v u Q I rx ry h
 obtain⟨a,b,kvs,cz,rfl,rfl,h1,h2,pm,nd,fl,q⟩:=h
 cases rx;cases ry
 obtain⟨vs,hV,lo,oB,da,db,hl,iX⟩:=dict_hits (A:=X.A.in1) I h1 h2 pm nd fl
 refine PySem.W.keq_ne lo oB da db hu (λ_=>iX) ⟨.bl false,H,I,?_,q⟩
 show Value.bool _=Value.bool false
 rw[hl]
 simp
end
end L2
end
section
namespace Wb
section
variable{α β:Type}[DecidableEq α][DecidableEq β]{ns:List α}{r:α→List α}{cs:List (List (α×α))}{f:α→β}
theorem idx_map(hf:∀x y,f x=f y→x=y)(w:α):∀zs:List α,(zs.map f).idxOf (f w)=zs.idxOf w
 |[]=>rfl
 |a::t=>by
  rw[Qk,Kw,Kw,idx_map hf w t]
  by_cases h:a=w
  ·rw[h,beq_self_eq_true,beq_self_eq_true]
  ·rw[beq_eq_false_iff_ne.mpr h,beq_eq_false_iff_ne.mpr λe=>h (hf _ _ e)]
def nxt_map(hf:∀x y,f x=f y→x=y)(zs:List α)(w:α):nxt (zs.map f) (f w)=f (nxt zs w):=by
 unfold nxt
 rw[idx_map hf,Qa,Qv,Qv,Qu]
 cases zs[(zs.idxOf w+1)%zs.length]?<;>rfl
def lk_map{γ δ:Type}{F:γ→γ}{G:δ→δ}{g:γ→δ}{e:γ}:∀{t:List γ} {s:γ},(∀y,y=s∨y∈t→G (g y)=g (F y))→Lk F s t e→Lk G (g s) (t.map g) (g e):=by
 intro t
 induction t with
 |nil=>intro s h k;exact(h s (.inl rfl)).trans (congrArg g k)
 |cons a t ih =>
  intro s h k
  exact⟨(h s (.inl rfl)).trans (congrArg g k.1),ih (λy hy=>h y (.inr (Qh.mpr hy))) k.2⟩
end
end Wb
end
section
namespace L2
open PySem PySem.Spec PyProof.Rows
def zbg.got{P:Nj}{w:Nk}{H:Hp}{h:Nm}{a:Nc}{o:HO}(x:zbg P w H h a o):∃u,h.get? a=some u:=by
 cases o with
 |lst xs=>obtain⟨_,_,_,_,e⟩:=x;exact⟨_,e⟩
 |tup xs=>obtain⟨_,_,_,u,e,_⟩:=x;exact⟨u,e⟩
 |dK kvs=>obtain⟨_,_,_,_,o,_,_,e,_⟩:=x;exact⟨_,e⟩
 |dT kvs=>obtain⟨_,_,_,_,o,_,_,e,_⟩:=x;exact⟨_,e⟩
 |set S n=>obtain⟨o,_,_,_,e,_⟩:=x;exact⟨_,e⟩
 |ins C dx fs=>obtain⟨_,_,_,e,_⟩:=x;exact⟨_,e⟩
 |own y=>obtain⟨_,e⟩:=x;exact⟨_,e⟩
 |xd fs=>obtain⟨_,⟨_,_,_,e,_⟩,_⟩:=x;exact⟨_,e⟩
 |rng lo hi=>obtain⟨_,_,_,e⟩:=x;exact⟨_,e⟩
 |frz ob u=>obtain⟨e,_⟩:=x;exact⟨_,e⟩
 |tbl ps=>exact⟨_,(show h.get? a=some _ from x)⟩
 |met f y=>exact⟨_,(show h.get? a=some _ from x)⟩
 |ext φ=>obtain⟨_,⟨_,e⟩,_⟩:=x;exact⟨_,e⟩
inductive CXr(P:Nj)(w:Nk)(outer:List Env)(H:Hp)(s:Nh)(E:XK)(e:Value)(s':Nh):Prop
 | mk (a:Nc) (cls a0:Value) (H':Hp) (B:Nm) (he:e=.ref a) (os:s'.os=s.os) (bare:AllBare s'.gens) (un:Un (frs outer) [] H H' s.heap s'.heap) (hok:HOk P w H' s'.heap)
   (hB:∀b o,s.heap.get? b=some o→b∉frs outer→∃u,B.get? b=some u) (hT:∀b o,H' b=some o→∃u,B.get? b=some u) (fl:Heap.FlyingW B outer a cls a0 s'.heap) (q:E cls none H'):CXr P w outer H s E e s'
def flyUn{P:Nj}{w:Nk}{l:List Env}{H H':Hp}{h g h' B base:Nm}(un:Un (frs l) [] H H' h g)(hok:HOk P w H' g)(hB:∀b o,h.get? b=some o→b∉frs l→∃u,B.get? b=some u)(hT:∀b o,H' b=some o→∃u,B.get? b=some u)(hg:B.StaysIn g)(hh:B.StaysIn h')(fr:g.FunFrames base l)(us:g.UpToSlots h'):Un (frs l) [] H H' h h'∧HOk P w H' h':=by
 have same:∀b o u,B.get? b=some u→g.get? b=some o→h'.get? b=some o:=λb o u e q=>by
  have:=hg b u e
  rw[q]at this;cases this
  exact hh b _ e
 refine⟨⟨λb o e n hb hx=>?_,λb o e n hb hx=>?_,un.free,λb o e hx=>?_,un.tups,un.frzs,un.tbls⟩,λb o e=>?_⟩
 ·obtain ⟨u,eu⟩:=hB b o e hb
  exact same b o u eu (un.keep b o e n hb hx)
 ·obtain ⟨sl,e1⟩:=un.slot b o e n hb hx
  obtain⟨_,o',am,hd⟩:=fr.mem hb
  obtain⟨jA,e2⟩:=us b _ e1 λvs z=>by rw[e1]at am;cases am;exact hd vs z
  exact⟨jA,e2⟩
 ·by_cases hb:b∈frs l
  ·obtain ⟨_,o',am,hd⟩:=fr.mem hb
   obtain⟨jA,e2⟩:=us b _ am hd
   exact⟨_,e2⟩
  ·obtain ⟨u,eu⟩:=hB b o e hb
   exact⟨u,hh b u eu⟩
 ·refine (hok b o e).stay (fun c v hc q=>?_) (fun _ q=>q) fun _ _ q=>q
  obtain⟨u,eu⟩:∃u,B.get? c=some u:=by
   rcases hc with rfl | hc
   ·exact hT _ _ e
   ·exact hT _ _ hc
  exact same c v u eu q
def Inv.fly{X:Cx}{a5:Nd}{σ:St}{H H':Hp}{s s':Nh}{B h':Nm}(I:Inv X a5 σ H s)(os:s'.os=s.os)(bare:AllBare s'.gens)(un:Un (frs X.stack) [] H H' s.heap s'.heap)(hok:HOk X.prog X.w H' s'.heap)(hB:∀b o,s.heap.get? b=some o→b∉frs X.stack→∃u,B.get? b=some u)(hT:∀b o,H' b=some o→∃u,B.get? b=some u)(hg:B.StaysIn s'.heap)(hh:B.StaysIn h')(fr:s'.heap.FunFrames B X.stack)(us:s'.heap.UpToSlots h') :
  Inv X a5 σ H' {s' with heap:=h'}:=by
 obtain⟨u,k⟩:=flyUn un hok hB hT hg hh fr us
 exact I.call' (s':={s' with heap:=h'}) (ch:=[]) os u k bare λb z=>absurd z (by simp)
def Inv.out{X:Cx}{a5:Nd}{σ:St}{H H':Hp}{s s':Nh}{B:Nm}{E:XK}{a:Nc}{cls a0:Value}(I:Inv X a5 σ H s)(jT:X.ex=[])(J:Inv X a5 σ H' s')(hB:∀b o,s.heap.get? b=some o→b∉frs X.stack→∃u,B.get? b=some u)(hT:∀b o,H' b=some o→∃u,B.get? b=some u)(fl:Heap.FlyingW B X.outer a cls a0 s'.heap)(q:E cls none H'):CXr X.prog X.w X.outer X.H₀ X.s₀ E (.ref a) s':=by
 refine⟨a,cls,a0,H',B,rfl,J.os,J.bare,by have:=J.base;rw[jT]at this;exact this,J.hok,λb o e hb=>?_,hT,fl,q⟩
 obtain⟨o',e'⟩:=I.base.there b o e (by rw[jT];simp)
 refine hB b o' e' λz=>?_
 rcases Qh.mp (I.stkSub b z) with r | r
 ·exact absurd (Zp (Qs e) I.ok.above) (by rw[r];exact Yc _)
 ·exact hb r
def PassesS(CX:CXT)(X:Cx)(E:St→XK):Prop:=∀(a5:Nd) (σ:St) (H:Hp) (s:Nh) (e:Value) (s':Nh),Inv X a5 σ H s→CX X.stack H s (E σ) e s'→X.xe e s'
section
variable{P:Nj}{w:Nk}{K:Na}{mg:Nf}{base:Nm}{N ps:Ng}{qual:Str}{scope:Scope}{f:Nc}{cd:Value}{A:Nn}{outer:List Env}{s:Nh}{H:Hp}{E:XK}
def raiseR{a5:Nd}{σ:St}{H1:Hp}{s1:Nh}{h1:Nm}{e:Nc}{cls:Value}{vs:Ni}(I:Inv (cxOf (CXr P w) P w K mg base N qual scope f cd A outer s H E) a5 σ H1 s1)(hx:Heap.MadeExcOf s1.heap h1 e cls vs)(q:E cls none H1) :
  (cxOf (CXr P w) P w K mg base N qual scope f cd A outer s H E).xe (.ref e) {s1 with heap:=h1}:=by
 have aw:∀b o,s1.heap.get? b=some o→b∉frs (envOfC qual scope s.heap.objs.size f cd::outer)→∃u,(PySem.W.hideAll s1.heap (frs (envOfC qual scope s.heap.objs.size f cd::outer))).get? b=some u:=λb o e nb=>⟨o,PySem.W.hideAll_get _ e nb⟩
 have ak:Heap.StaysIn (PySem.W.hideAll s1.heap (frs (envOfC qual scope s.heap.objs.size f cd::outer))) s1.heap:=λb o e=>PySem.W.of_hideAll _ e
 have cS:=PySem.W.funFrames_hide (as:=frs (envOfC qual scope s.heap.objs.size f cd::outer)) I.stack λenv he b hb=>List.mem_filterMap.mpr ⟨env,he,hb⟩
 have hT:∀b o,H1 b=some o→∃u,(PySem.W.hideAll s1.heap (frs (envOfC qual scope s.heap.objs.size f cd::outer))).get? b=some u:=λb o e=>by
  have aa:=I.hok.lt e
  obtain⟨u,hu⟩:∃u,s1.heap.get? b=some u:=(I.hok b o e).got
  exact aw b u hu λz=>by rw[I.stkFree b z]at e;cases e
 refine wpAny_leaves_madeW (base:=PySem.W.hideAll s1.heap (frs (envOfC qual scope s.heap.objs.size f cd::outer))) I.ok.frames rfl ak cS hx λh' t fl _ _ us=>?_
 refine I.out rfl (I.fly (s':=s1) rfl I.bare Un.refl I.hok aw hT ak fl.1 cS ((Heap.UpToSlots.of_keeps hx.keeps).trans us)) aw hT fl q
end
abbrev bmVE:List Value:=[.type "ValueError",.type "Exception",.type "BaseException",.type "object"]
structure Exc(K:Na)(C:Nc):Prop where
 inK:PySem.W.excIn K C bmVE "ValueError.__new__" = true
def exc_obj{K:Na}{h:Nm}{C:Nc}{bmB:Ni}{newId:String}(X:K.In h)(q:PySem.W.excIn K C bmB newId=true) :
  ∃bm N nm qn bs hdct sn sub ab col dd k0 k1 k2 k3 k5 mN,h.get? C=some (excClassObj nm qn C N bs bm hdct sn sub ab col dd k0 k1 k2 k3 k5 newId)∧h.Ns N mN∧mN "__init__" = none∧OwnTail h bmB bm:=by
 unfold PySem.W.excIn at q
 split at q
 ·rename_i dd cd sl ho
  split at q
  ·rename_i C' bm k0 k1 k2 k3 n k5 hm hs
   simp only[Jh,beq_iff_eq,Je]at q
   obtain⟨⟨⟨⟨⟨rfl,rfl⟩,lK⟩,ht⟩,hok⟩,ng⟩:=q
   obtain⟨nm,bs,mro,ns,qn,hd,sn,sub,ab,col,del⟩:=cd
   dsimp only at hm lK hok ng
   subst hm lK
   have hsl:sl=#[k0,k1,k2,k3,some (.builtin n),k5]:=by
    obtain⟨l⟩:=sl
    simp only at hs
    rw[hs]
   subst hsl
   exact⟨bm,ns,nm,qn,bs,hd,sn,sub,ab,col,dd,k0,k1,k2,k3,k5,_,X _ _ ho,.of_isNs (PySem.W.isNs_of_in X hok),PySem.W.nsMap_none_of_in X hok ng,PySem.W.tail_of_in X ht⟩
  ·cases q
 ·cases q
section
variable{P:Nj}{w:Nk}{K:Na}{mg:Nf}{base:Nm}{N ps:Ng}{qual:Str}{scope:Scope}{f:Nc}{cd:Value}{A:Nn}{outer:List Env}{s:Nh}{H:Hp}{E:XK}
def tRaise(C:Nc)(E:XK)(t:TA):TS:=λ_ σ H=>t σ H λvs H1=>Aj2 (vs.length≤sizeLine) (E (.ref C) none H1)
def ps_raise{x:Str}{C:Nc}{e₀:Expr}{rest:Np}{np cpos pos:Pos}{t:TA}(c:Exc K C)(hg:Gl (cxOf (CXr P w) P w K mg base N qual scope f cd A outer s H E) x)(hm:mg x=some (.ref C))(ha:PA (cxOf (CXr P w) P w K mg base N qual scope f cd A outer s H E) (e₀::rest) t)(cK:(x==("__debug__" : Str))=false:=by decide)(he:starEach (e₀::rest) (envOfC qual scope s.heap.objs.size f cd)=(false,eval e₀ (envOfC qual scope s.heap.objs.size f cd))::starEach rest (envOfC qual scope s.heap.objs.size f cd):=by rfl)(bn:(backTo cpos (starEach rest (envOfC qual scope s.heap.objs.size f cd))).any (·.1)=false:=by rfl) :
  PS (cxOf (CXr P w) P w K mg base N qual scope f cd A outer s H E) (.Raise (some (.Call (.Name x np) (e₀::rest) [] cpos)) none pos) (tRaise C E t):=by
 intro a5 s1 σ H1 D I h
 obtain⟨tl,N',nm,q,bs,hdct,sn,sub,ab,col,dd,k0,k1,k2,k3,k5,mN,hC,hN,ng,T⟩:=exc_obj I.ok.mod.kin c.inK
 refine wpAny_Raise_call_subT (C:=C) (nm:=nm) (q:=q) (N:=N') (bs:=bs) (bm:=tl) (hdct:=hdct) (sn:=sn) (sub:=sub) (ab:=ab) (col:=col) (dd:=dd) (k0:=k0) (k1:=k1) (k2:=k2) (k3:=k3) (k5:=k5)
  PySem.F.excBase_ValueError (mN:=mN) (T.hasType PySem.F.excBase_ValueError.hasBase) (I.ok.hd rfl) (by rw[show starEach (e₀::rest) (cxOf (CXr P w) P w K mg base N qual scope f cd A outer s H E).env=_ from he];show(false||(backTo cpos (starEach rest (cxOf (CXr P w) P w K mg base N qual scope f cd A outer s H E).env)).any (·.1))=false;rw[show(backTo cpos (starEach rest (cxOf (CXr P w) P w K mg base N qual scope f cd A outer s H E).env)).any (·.1)=false from bn];rfl) ng (zef I hg hm ⟨rfl,?_⟩ cK)
 have h2:=ha cpos a5 s1 σ H1 _ I h
 rw[show starEach (e₀::rest) (cxOf (CXr P w) P w K mg base N qual scope f cd A outer s H E).env=_ from he]at h2 ⊢
 exact Calls.evalArgs_plain (wpAny_mono h2 (λus s2 ⟨vs,H2,I2,r,hl,q2⟩=>⟨rfl,by rw[←r.length];exact hl,I2.bk _ _ hC,hN.keeps I2.bk,T.keeps I2.bk,λh' e hx=>raiseR I2 hx q2⟩) λ_ _ y=>y)
def Fun.okX{x qual:Str}{st:Stmt}{f:Nc}{fd:Nt}{N ps:Ng}{k:Nat}{sp:Sp}(F:Fun K x qual st f fd)(S:zao N ps (zag st))(len:∀vs H Q E,sp vs H Q E→vs.length=ps.length)(aV:∀ (cdv:Value) (A:Nn) (outer:List Env) (s:Nh) (H:Hp) (vs:List V) (Q:VK) (E:XK),Room k (A.deeper (envOfC qual (zag st) s.heap.objs.size f cdv))→sp vs H Q E →
   ∃t,PSs (cxOf (CXr P w) P w K mg base N qual (zag st) f cdv A outer s H E) (zbs st) t∧t {nx:=λ_ H'=>Q .non H',rt:=Q} (start N vs) H):FnOk P w K mg base (CXr P w) (k+1) f fd ps sp:=by
 obtain⟨oc,od,kV,doc,pm,an,cdv,ct,osl,rfl,lk,aF⟩:=F.ex
 exact fn_of lk aF S len λA outer s H vs Q E hr aW=>aV cdv A outer s H vs Q E hr aW
end
section
variable{X:Cx}{CX:CXT}{k:Nat}{f C:Nc}{fd:Nt}{ps:Ng}{sp:Sp}{dvs:List V}{ds:Ni}{E:St→XK}{x m:Str}{p pos apos:Pos}{e o:Expr}{es:Np}{ta:TE}{t:TA}
def run_fnS{a5:Nd}{σ:St}{H:Hp}{s:Nh}{Q:VK}{us:Ni}{vs:List V}(F:FnOk X.prog X.w X.K X.mg X.base CX k f fd ps sp)(hr:Room k X.A)(hb:Binds X.K fd ps ds)(hd:Vals dvs ds)(hx:PassesS CX X E)(I:Inv X a5 σ H s)(r:Vals vs us)(h:sp (vs++dvs) H Q (E σ)):wpAny (model X.prog X.w) X.A (call (.ref f) us) (EP X a5 σ Q) X.xe s:=by
 have r2:Vals (vs++dvs) (us++ds):=r.append hd
 have hl:(us++ds).length=ps.length:=by rw[←r2.length];exact F.len _ _ _ _ h
 refine wpAny_call (codeAny_mono (F.run X.A X.stack s H ⟨us,[]⟩ (us++ds) (vs++dvs) Q (E σ) hr I.env0 (hb s us I.kIn hl) r2 h) λr s' hq=>?_)
 cases r with
 |error e=>exact hx a5 σ H s e s' I hq
 |ok fl =>
  cases fl with
  |ret u=>exact I.after hq
  |next=>exact False.elim hq
  |brk=>exact False.elim hq
  |cont=>exact False.elim hq
def tCallS(sp:Sp)(dvs:List V)(E:St→XK)(t:TA):TE:=λ σ H Q=>t σ H λvs H1=>sp (vs++dvs) H1 Q (E σ)
def pe_callS(F:FnOk X.prog X.w X.K X.mg X.base CX k f fd ps sp)(hr:Room k X.A)(hg:Gl X x)(hm:X.mg x=some (.ref f))(hk:PySem.W.keepIn X.K (.ref f)=true)(hb:Binds X.K fd ps ds)(hd:Vals dvs ds)(hx:PassesS CX X E)(ha:PA X (e::es) t)(cK:(x==("__debug__" : Str))=false:=by decide)(he:starEach (e::es) X.env=(false,eval e X.env)::starEach es X.env:=by rfl)(bn:(backTo pos (starEach es X.env)).any (·.1)=false:=by rfl) :
  PE X (.Call (.Name x p) (e::es) [] pos) (tCallS sp dvs E t):=by
 intro a5 s σ H Q I h
 refine wpAny_Call_Name_kw (zef I hg hm ?_ cK)
 refine Jt (h₀:=X.base) I.ok.mod.kin hk (thn (ha pos a5 s σ H _ I h) λus s1 ⟨vs,H1,I1,r,q⟩=>⟨I1.kIn,?_⟩) he bn
 exact run_fnS F hr hb hd hx I1 r q
end
def ExO(a:Nc)(cls:Value):HO:=.ext λh=>∃o,h.get? a=some o∧o.cls=cls
def zdo{X:Cx}{a5:Nd}{σ:St}{H:Hp}{s:Nh}{M:Model}{A:Nn}{E:Nb}{i:Nat}{x:Str}{pos:Pos}{Q:Unit→Shared→Prop}(I:Inv X a5 σ H s)(hN:X.N.Nodup)(hi:X.N[i]?=some x)(hk:X.env.scope.names.lookup x=some .local)(h:∀s',Inv X a5 (σ.set i none) H s'→Q () s'):wpAny M A (do bindName X.env x .none;unbindBehindTheSuite X.env x pos) Q E s:=by
 obtain⟨m,hn,hl⟩:=id I.loc
 have jh:(X.env.scope.kind==.class||(X.env.scope.kind==.module&&X.env.locals != X.env.globals))=false:=by rw[I.ok.kind];rfl
 refine wpAny_nameGoes_keeps hk hn jh λh' v qa hs=>h _ ?_
 obtain⟨oL,_,_,hoL,_⟩:=id hn
 have neL:∀b o,X.s₀.heap.get? b=some o→b≠X.env.locals:=λb o e=>Zi (Zp (Qs e) I.ok.above)
 refine⟨I.ok,I.os,I.bare,⟨λb o e n hb hx=>(hs.2 b (neL b o e)).trans (I.base.keep b o e n hb hx),λb o e n hb hx=>?_,I.base.free,λb o e hx=>?_,I.base.tups,I.base.frzs,I.base.tbls⟩,⟨_,qa,λj y v' e1 e2 e3=>?_⟩,λy c e=>?_,I.free,I.freeC,λp hp=>?_,λb ob e=>?_,by simpa using I.len⟩
 ·obtain ⟨sl,e1⟩:=I.base.slot b o e n hb hx
  exact⟨sl,(hs.2 b (neL b o e)).trans e1⟩
 ·obtain ⟨o',e1⟩:=I.base.there b o e hx
  exact⟨o',(hs.2 b (neL b o e)).trans e1⟩
 ·have hj:j≠i:=fun z=>by
   subst z
   rw[List.getElem?_set]at e2
   split at e2
   ·split at e2<;>cases e2
   ·contradiction
  rw[List.getElem?_set_ne (Zh hj)]at e2
  obtain⟨u',r',q⟩:=hl j y v' e1 e2 e3
  refine⟨u',r',?_⟩
  rcases q with⟨k,e⟩ | ⟨k,c,e,z⟩
  ·refine .inl ⟨k,?_⟩
   have:y≠x:=λe=>hj (zhg hN e1 (e▸hi))
   simp[this,e]
  ·exact .inr ⟨k,c,e,z.sameBut hs (I.cne y c e)⟩
 ·obtain ⟨w',z⟩:=I.cell y c e
  exact⟨w',z.sameBut hs (I.cne y c e)⟩
 ·obtain ⟨e,n,ne,nf,d⟩:=I.pin p hp
  exact⟨(hs.2 p.1 ne).trans e,n,ne,nf,d⟩
 ·refine (I.hok b ob e).stay (fun c w' hc q=>(hs.2 c ?_).trans q) (fun _ q=>q) fun _ _ q=>q
  rintro rfl
  rcases hc with hc | hc
  ·rw[←hc,I.free]at e;cases e
  ·rw[I.free]at hc;cases hc
def Ends.off(i:Nat)(D:Ends):Ends:={nx:=λ σ H=>D.nx (σ.set i none) H,rt:=D.rt,bk:=λ σ H=>D.bk (σ.set i none) H,ct:=λ σ H=>D.ct (σ.set i none) H}
abbrev Cx.tried(X:Cx)(E:Nb)(pn:Nd):Cx:={X with xe:=E,pn:=pn}
abbrev Cx.suite(X:Cx)(a:Nc):Cx:={X with A:=X.A.mark (some (.ref a)),calm:=false,xe:=λ_ _=>False}
section
variable{X:Cx}{a5:Nd}{σ:St}{H:Hp}{s:Nh}{E:Nb}{a:Nc}
def Cx.Ok.tried(ok:X.Ok)(E:Nb)(pn:Nd):(X.tried E pn).Ok :=
 ⟨ok.mod,ok.kind,ok.glob,ok.blt,ok.above,ok.inj,ok.has,ok.cab,ok.hd,ok.frames,ok.stk,ok.exf,ok.bs,ok.bsz,ok.noex,ok.exfs,ok.funs,ok.frf⟩
def Inv.tried(I:Inv X a5 σ H s)(E:Nb):Inv (X.tried E (X.pn++a5)) [] σ H s :=
 ⟨I.ok.tried E _,I.os,I.bare,I.base,I.loc,I.cell,I.free,I.freeC,λp hp=>I.pin p (by rwa[Zx]at hp),I.hok,I.len⟩
def Inv.untried{pn:Nd}{pins':Nd}(ok:X.Ok)(I:Inv (X.tried E (X.pn++a5)) pins' σ H s):Inv X a5 σ H s :=
 ⟨ok,I.os,I.bare,I.base,I.loc,I.cell,I.free,I.freeC,λp hp=>I.pin p (Qo _ hp),I.hok,I.len⟩
def Inv.suite(I:Inv X a5 σ H s)(a:Nc):Inv (X.suite a) a5 σ H s :=
 ⟨⟨I.ok.mod,I.ok.kind,I.ok.glob,I.ok.blt,I.ok.above,I.ok.inj,I.ok.has,I.ok.cab,(λh=>nomatch h),I.ok.frames,I.ok.stk,I.ok.exf,I.ok.bs,I.ok.bsz,I.ok.noex,I.ok.exfs,I.ok.funs,I.ok.frf⟩,I.os,I.bare,I.base,I.loc,I.cell,I.free,I.freeC,I.pin,I.hok,I.len⟩
def Inv.unsuite(ok:X.Ok)(I:Inv (X.suite a) a5 σ H s):Inv X a5 σ H s :=
 ⟨ok,I.os,I.bare,I.base,I.loc,I.cell,I.free,I.freeC,I.pin,I.hok,I.len⟩
def Inv.track{o:HO}(J:Inv X a5 σ H s)(na:H a=none)(n0:X.s₀.heap.get? a=none)(nL:a≠X.env.locals)(nC:∀x c,X.env.cells.lookup x=some c→c≠a)(nP:∀p∈X.pn++a5,p.1≠a)(new:zbg X.prog X.w (upd H a o) s.heap a o):Inv X a5 σ (upd H a o) s:=by
 have ne:∀b u,H b=some u→b≠a:=λb u e z=>by rw[z,na]at e;cases e
 refine⟨J.ok,J.os,J.bare,⟨J.base.keep,J.base.slot,λb u e n hx=>?_,J.base.there,λb xs e=>?_,λb u v e=>?_,λb ps e=>?_⟩,J.loc,J.cell,?_,λx c e=>?_,λp hp=>?_,λb u e=>?_,J.len⟩
 ·rw[zad (λz=>by rw[z,n0]at e;cases e)];exact J.base.free b u e n hx
 ·have:=J.base.tups b xs e
  rw[zad (ne _ _ this)];exact this
 ·have:=J.base.frzs b u v e
  rw[zad (ne _ _ this)];exact this
 ·obtain ⟨m,this⟩:=J.base.tbls b ps e
  exact⟨m,by rw[zad (ne _ _ this)];exact this⟩
 ·rw[zad (Zh nL)];exact J.free
 ·rw[zad (nC x c e)];exact J.freeC x c e
 ·obtain ⟨h1,h2,h3⟩:=J.pin p hp
  exact⟨h1,by rw[zad (nP p hp)];exact h2,h3⟩
 ·by_cases hb:b=a
  ·subst hb
   rw[zac]at e;cases e;exact new
  ·rw [zad hb] at e
   exact(J.hok b u e).stay (λ_ _ _ q=>q) (λc q=>by rw[zad (ne _ _ q)];exact q) λc xs q=>by rw[zad (ne _ _ q)];exact q
def SP.off{D:Ends}{i:Nat}{x:Str}{pos:Pos}{f:Flow}{E:Nb}{M:Model}{A:Nn}(ok:X.Ok)(hN:X.N.Nodup)(hi:X.N[i]?=some x)(hk:X.env.scope.names.lookup x=some .local)(h:SP (X.suite a) a5 (D.off i) f s) :
  wpAny M A (do bindName X.env x .none;unbindBehindTheSuite X.env x pos) (λ_ s'=>SP X a5 D f s') E s:=by
 cases f with
 |next=>obtain⟨σ',H',I,q⟩:=h;exact zdo (I.unsuite ok) hN hi hk λs' I'=>⟨_,H',I',q⟩
 |brk=>obtain⟨σ',H',I,q⟩:=h;exact zdo (I.unsuite ok) hN hi hk λs' I'=>⟨_,H',I',q⟩
 |cont=>obtain⟨σ',H',I,q⟩:=h;exact zdo (I.unsuite ok) hN hi hk λs' I'=>⟨_,H',I',q⟩
 |ret u=>obtain⟨v,σ',H',I,r,q⟩:=h;exact zdo (I.unsuite ok) hN hi hk λs' I'=>⟨v,_,H',I',r,q⟩
def SP.untried{D:Ends}{f:Flow}(ok:X.Ok)(h:SP (X.tried E (X.pn++a5)) [] D f s):SP X a5 D f s:=by
 cases f with
 |next=>obtain⟨σ',H',I,q⟩:=h;exact⟨σ',H',I.untried (pn:=[]) ok,q⟩
 |brk=>obtain⟨σ',H',I,q⟩:=h;exact⟨σ',H',I.untried (pn:=[]) ok,q⟩
 |cont=>obtain⟨σ',H',I,q⟩:=h;exact⟨σ',H',I.untried (pn:=[]) ok,q⟩
 |ret u=>obtain⟨v,σ',H',I,r,q⟩:=h;exact⟨v,σ',H',I.untried (pn:=[]) ok,r,q⟩
def tTry(K:Na)(c:Value)(i:Nat)(EX:St→XK)(tb ts:TS):TS:=λD σ H=>Aj2 (tb D σ H) (∀(σ':St) (cls:Value) (H':Hp) (a:Nc),σ'.length=σ.length→EX σ' cls none H'→H' a=none →
 Aj2 (PySem.W.exmOne K cls c=some true) (ts (D.off i) (σ'.set i (some (.ref a))) (upd H' a (ExO a cls))))
def ps_try{body suite:List Stmt}{b₀:Stmt}{x n:Str}{np bY pos:Pos}{i:Nat}{c:Value}{EX:St→XK}{tb ts:TS}(ak:X.stack=X.env::X.outer)(jT:X.ex=[])(hfm:X.env.frame=some X.env.locals)(hb:∀(E':Nb) (pn:Nd),PassesS (CXr X.prog X.w) (X.tried E' pn) EX→PSs (X.tried E' pn) body tb)(hs:∀a,PSs (X.suite a) (b₀::suite) ts)(hN:X.N.Nodup)(hi:X.N[i]?=some n)(hk:X.env.scope.names.lookup n=some .local)(hg:Gl X x)(hm:X.mg x=some c)(cK:(x==("__debug__" : Str))=false:=by decide) :
  PS X (.Try body [.ExceptHandler (some (.Name x np)) (some n) (b₀::suite) bY] [] [] pos) (tTry X.K c i EX tb ts):=by
 intro a5 s σ H D I h
 obtain⟨h1,h2⟩:=h
 refine wpAny_Try_except ?_
 refine wpAny_mono (hb (λe s₁=>wpAny (model X.prog X.w) X.A (noteFrame e X.env) (λ_ s₂=>wpAny (model X.prog X.w) X.A (setFlight e none) (λ_ s₃=>wpAny (model X.prog X.w) X.A (handleBy e X.env [.ExceptHandler (some (.Name x np)) (some n) (b₀::suite) bY]) (SP X a5 D) X.xe s₃) X.xe s₂) X.xe s₁) (X.pn++a5) ?_ [] s σ H D (I.tried _) h1) (λfl s1 hq=>?_) λ_ _ z=>z
 ·intro pins' σ' H1 s1 e s' J hx
  obtain⟨a,cls,a0,H',B,rfl,os,bare,un,hok,hB,hT,fl,q⟩:=hx
  have J:Inv X a5 σ' H1 s1:=J.untried (pn:=[]) I.ok
  rw[ak]at fl
  have cS:X.A.frames=some (X.env::X.outer):=by rw[I.ok.frames,ak]
  refine wpAny_looks_onW cS hfm fl λh₄ held₄ us₄=>?_
  refine wpAny_landsW held₄ λh₅ fl₅ us₅=>?_
  have J₅:Inv X a5 σ' H' {s' with heap:=h₅}:=J.fly os bare un hok hB hT fl.1 fl₅.1 (by rw[ak];exact fl.2.2.1) (us₄.trans us₅)
  have na:H' a=none:=by
   cases z:H' a with
   |none=>rfl
   |some o=>obtain⟨u,hu⟩:=hT a o z;rw[fl.2.1]at hu;cases hu
  obtain⟨he,hsu⟩:=h2 σ' cls H' a (by rw[J.len,I.len]) q na
  refine wpAny_handleBy_cons (codeAny_handlers_test (zef (J₅.suite a) hg hm ?_ cK)) (by intro z;cases z)
  obtain⟨ob,hob,pY⟩:=fl₅.there
  have LT:PySem.W.Looks (model X.prog X.w) h₅ (typeOf (.ref a)) cls:=pY▸(PySem.W.Looks.ld hob).andThen .now
  refine(PySem.W.exm_one J₅.kIn LT he).here ?_
  refine codeAny_handlers_suite_as ?_
  refine lands_againW fl₅ λh₆ fl₆ us₆=>?_
  have J₆:Inv X a5 σ' H' {s' with heap:=h₆}:=J.fly os bare un hok hB hT fl.1 fl₆.1 (by rw[ak];exact fl.2.2.1) ((us₄.trans us₅).trans us₆)
  have n1:s1.heap.get? a=none:=by
   cases z:s1.heap.get? a with
   |none=>rfl
   | some o =>
    exfalso
    by_cases hf:a∈frs X.stack
    ·rw [ak] at hf
     obtain⟨_,o',am,hd⟩:=fl.2.2.1.mem hf
     obtain⟨oe,vs,hoe,_,pW,_⟩:=fl.first
     rw[am]at hoe;cases hoe
     exact hd vs pW
    ·obtain ⟨u,hu⟩:=hB a o z hf
     rw[fl.2.1]at hu;cases hu
  have J₇:Inv X a5 σ' (upd H' a (ExO a cls)) {s' with heap:=h₆}:=by
   obtain⟨o6,ho6,eY⟩:=fl₆.there
   refine J₆.track na ?_ ?_ (λy c e z=>?_) (λp hp z=>?_) ⟨⟨o6,ho6,eY⟩,⟨o6,ho6⟩,λg1 g2 ⟨o,ho,hc⟩ k=>⟨o,k o ho,hc⟩⟩
   ·cases z:X.s₀.heap.get? a with
    |none=>rfl
    |some o =>
     obtain⟨o',e⟩:=J.base.there a o z (by rw[jT];simp)
     rw[n1]at e;cases e
   ·rintro rfl
    obtain⟨m,⟨o,_,_,ho,_⟩,_⟩:=J.loc
    rw[n1]at ho;cases ho
   ·subst z
    obtain⟨v,o,ho,_⟩:=J.cell y c e
    rw[n1]at ho;cases ho
   ·subst z
    have:=(J.pin p hp).1
    rw[n1]at this;cases this
  refine zgw (v:=.ref a) J₇ hN hi (.inl hk) rfl (λs₈ I₈=>?_) (.inr hk)
  refine wpAny_mono (hs a a5 s₈ _ _ (D.off i) (I₈.suite a) hsu) (λf s₉ hq=>?_) λ_ _ z=>z.elim
  exact SP.off I.ok hN hi hk hq
 ·have hq:=SP.untried I.ok hq
  cases fl with
  |next=>exact wpAny_pure hq
  |brk=>exact hq
  |cont=>exact hq
  |ret u=>exact hq
end
end L2
end
section
namespace L2
open PySem PySem.Spec PyProof.Rows PySem.W PySem.Builtin PySem.Builtin.ObjectAttr PySem.Builtin.Getset_descriptor
structure ExI(K:Na)(D:Nc):Prop where
 ga:findIn K (.ref D) "__getattribute__" = some (some (.builtin "BaseException.__getattribute__"))
 nga:findIn K (.ref D) "__getattr__" = some none
 bx:mroIn K D (.type "BaseException")=some true
 at_:findIn K (.ref D) "__class__" = some (some (.builtin "object.__class__"))
 gs:specialIn K (.builtin "object.__class__") "__get__" = some (some (.builtin "getset_descriptor.__get__"))
 tk:takesIn K (.builtin "object.__class__")=some true
 ob:mroIn K D (.type "object")=some true
def ExI.cl{K:Na}{D:Nc}(c:ExI K D):(clsIn K D).isSome=true:=by
 have h:=c.ob
 unfold mroIn at h
 cases z:clsIn K D with
 |none=>rw[z]at h;cases h
 |some _=>rfl
abbrev ExAt(x:Nc)(cls:Value)(h:Nm):Prop:=∃o,h.get? x=some o∧o.cls=cls
def ExAt.type{M:Model}{x:Nc}{cls:Value}{h:Nm}(p:ExAt x cls h):Looks M h (typeOf (.ref x)) cls:=by
 obtain⟨o,ho,rfl⟩:=p
 exact(Looks.ld ho).andThen .now
section
variable{prog:Nj}{w:Nk}{A:Nn}{E:Nb}{s:Nh}{K:Na}{x D:Nc}
def ex_find{M:Model}{h:Nm}(c:ExI K D)(X:K.In h)(p:ExAt x (.ref D) h):Looks M h (find (.ref x) (.ref D) "__class__") (.bind (.builtin "getset_descriptor.__get__") (.builtin "object.__class__")):=by
 have L1:=looks_findIn (M:=M) X c.at_
 have L2:Looks M h (getOf (some (.builtin "object.__class__"))) (some (.builtin "getset_descriptor.__get__")):=looks_specialIn X c.gs
 have L3:=looks_takesIn (M:=M) X c.tk
 refine L1.andThen (L2.andThen ?_)
 exact(show Looks M h (dataDescriptor? (some (.builtin "object.__class__")) (some (.builtin "getset_descriptor.__get__"))) (some (.builtin "getset_descriptor.__get__",.builtin "object.__class__")) from L3.andThen .now).andThen (Looks.tag .now)
def ex_class_get{tp:Value}{R:Nv}(X:K.In s.heap)(p:ExAt x (.ref D) s.heap)(hm:mroIn K D (.type "object")=some true)(h:R (.ok (.ret (.ref D))) s):codeAny (model prog w) A (.call (.builtin "getset_descriptor.__get__") ⟨[.builtin "object.__class__",.ref x,tp],[]⟩) R s:=by
 obtain⟨hh,g,dr,t,os⟩:=s
 have L0:=p.type (M:=model prog w)
 have L1:=looks_mroIn (M:=model prog w) X hm
 refine codeAny_call_builtin KF.slot_gs.plain KF.entry_gs (KF.slot_gs.check _ _ _ _ _ _ _ _ KF.type_class (KF.args_gs _ _ _) ?_)
 unfold Builtin.«getset_descriptor.__get__» descrGet
 rw[dga_obj]
 refine wpAny_bind (wpAny_pure ?_)
 unfold descrGetter descrCheckInstance descrNameAndClass isInstance
 simp only[KF.owner_class]
 repeat lk
 refine⟨Code.quiet_builtin _ (by decide +kernel),codeAny_builtin KF.entry_class ?_⟩
 unfold Builtin.«object.__class__» shownTypeOf
 repeat lk
 exact h
def ex_check{M:Model}{nameV:Value}{Q:Unit→Shared→Prop}(c:ExI K D)(X:K.In s.heap)(p:ExAt x (.ref D) s.heap)(hq:Q () s):wpAny M A (checkBuiltinCall "BaseException.__getattribute__" ⟨[.ref x,nameV],[]⟩) Q E s:=by
 obtain⟨h,g,d,t,os⟩:=s
 have hk:builtinKind "BaseException.__getattribute__" = some .slot:=by decide +kernel
 have iy:splitId "BaseException.__getattribute__" = some ("BaseException", "__getattribute__"):=by decide +kernel
 have ha:=F.args_bexc_ga (.ref x) nameV
 have L0:=p.type (M:=M)
 have L1:=looks_mroIn (M:=M) X c.bx
 have LI:Looks M h (isInstance (.ref x) (.type "BaseException")) true:=L0.andThen L1
 simp only[checkBuiltinCall,hk,iy]
 refine wpAny_bind (LI.at ?_)
 repeat(first | lk | wp_step)
 exact hq
def ex_entry{tk:Tok}{Q:Fin→Shared→Prop}(c:ExI K D)(X:K.In s.heap)(p:ExAt x (.ref D) s.heap)(hq:Q (.done (.ret (.ref D))) s):wpAny (model prog w) A (Builtin.«object.__getattribute__» ⟨[.ref x,.str "__class__" tk],[]⟩) Q E s:=by
 have p':=p
 have X':=X
 obtain⟨h,g,d,t,os⟩:=s
 have L0:=p.type (M:=model prog w)
 have M1:=ex_find (M:=model prog w) c X p
 refine wpAny_bind (wpAny_pure (wpAny_bind (wpAny_pure (wpAny_bind (Looks.at L0 (wpAny_bind (M1.at ?_)))))))
 show wpAny _ _ (holding _ (call _ [_,.ref x,.ref D]) >>= ret) _ _ _
 exact wpAny_bind (wpAny_holding (wpAny_call (ex_class_get (s:=⟨h,g,d,t,os⟩) X p c.ob (wpAny_pure hq))))
def ex_class{Q:Option Value→Shared→Prop}(c:ExI K D)(X:K.In s.heap)(p:ExAt x (.ref D) s.heap)(h:Q (some (.ref D)) {s with toks:=s.toks+1}):wpAny (model prog w) A (getAttr? (.ref x) "__class__") Q E s:=by
 obtain⟨hh,g,d,t,os⟩:=s
 have L0:=p.type (M:=model prog w)
 have L1:=looks_findIn (M:=model prog w) X c.ga
 have L2:=looks_findIn (M:=model prog w) X c.nga
 have jI:(Value.builtin "BaseException.__getattribute__" == Value.builtin "object.__getattribute__")=false:=by decide +kernel
 have f3:=PySem.F.excAttr_ValueError.ga.bind (.ref x)
 unfold getAttr? getAttrBy? getAttrBy
 refine wpAny_bind (wpAny_mkText (wpAny_bind (wpAny_attempt (wpAny_holding (wpAny_bind (Looks.at L0 (wpAny_bind (L1.at ?_))))))))
 dsimp only
 rw[if_neg (by rw[jI,Bool.and_false];exact Za)]
 unfold getAttrByItsOwn hookBefore
 rw[if_pos (show onTheHeap (Value.ref D)=true from rfl)]
 refine wpAny_bind (Looks.at L2 (wpAny_bind (wpAny_attempt (wpAny_holding ?_))))
 unfold callGetattribute
 rw[if_neg (by exact Za)]
 unfold boundAndCalled
 rw[f3]
 refine wpAny_bind (wpAny_pure ?_)
 show wpAny _ _ (call (.builtin "BaseException.__getattribute__") [.ref x,.str "__class__" t]) _ _ _
 refine wpAny_call (codeAny_call_builtin PySem.F.excAttr_ValueError.ga.plain PySem.F.entry_bexc_ga (ex_check (s:=⟨hh,g,d,t+1,os⟩) c X p (ex_entry (s:=⟨hh,g,d,t+1,os⟩) c X p ?_)))
 show wpAny _ _ (handedOut (.ref D)) _ _ _
 exact handed_on rfl (wpAny_pure h)
end
theorem ex_kit{K:Na}{x D:Nc}(c:ExI K D):KitX K (.ref x) (.ref D) (ExAt x (.ref D)) where
 ty:=λ_ _ _ p=>p.type
 it:=λ_ _ X _=>by
  have gz:=c.cl
  unfold clsIn at gz
  split at gz
  ·rename_i c' d' cd' jA ho
   intro A' Q' E' s' k q
   unfold isType loadHead
   exact wpAny_bind (wpAny_loadPart (k _ _ (X _ _ ho)) (wpAny_pure q))
  ·cases gz
 ne:=λh tp dd a6 n sl X il=>by
  have gz:=c.cl
  refine Bool.eq_false_iff.mpr λq=>?_
  have e:D=tp:=Value.ref.inj (beq_iff_eq.mp q)
  subst e
  unfold clsIn at gz
  split at gz
  ·rename_i c' d' cd' jA ho
   have z:=(X _ _ ho).symm.trans il
   cases z
  ·cases gz
 ca:=λX p k=>ex_class c X p k
section
variable{X:Cx}
def ex_at{H:Hp}{h:Nm}{P:Nj}{w:Nk}{a:Nc}{cls:Value}(ok:HOk P w H h)(e:H a=some (ExO a cls)):ExAt a cls h:=by
 obtain⟨p,_⟩:=ok a _ e
 exact p
def call_isi_ex:zbz X (.builtin "isinstance") (λxs H Q=>Ex5 λ(a C:Nc) (c:V) (u:Value) (b:Bool)=>Aj6 (xs=[.ref a,c]) (H a=some (ExO a (.ref C))) (ExI X.K C) (∀u',RelV c u'→u'=u) (kitOne X.K (.ref C) u=some b) (Q (.bl b) H)):=by
 intro a5 s σ H xs us Q I r h
 obtain⟨a,C,c,u,b,rfl,ha,ci,hc,e,q⟩:=h
 obtain⟨u1,u2,rfl,r1,r2⟩:=vals2 r
 cases r1
 rw[hc _ r2]
 exact kia_one (ex_kit ci) I.kIn (ex_at I.hok ha) e (λz=>nomatch z) λtk=>⟨.bl b,H,I.tok tk,rfl,q⟩
end
section
variable{X:Cx}{k:Nat}{f:Nc}{fd:Nt}{ps:Ng}{sp:Sp}{dvs:List V}{ds:Ni}{x:Str}{p pos:Pos}{e:Expr}{es:Np}{t:TA}
end
end L2
end
section
namespace L2
open PySem PySem.Spec PyProof.Rows
section
variable{X:Cx}
def op_ne_bools(hu:X.A.units<cLine):OpR X (compareOp .NotEq) (λx y H Q=>Ex3 λl b (zs:List Bool)=>Aj5 (x=.ref l) (y=.ref b) (SqL X.K H l (List.map V.bl zs)) (SqL X.K H b (List.map V.bl zs)) (Q (.bl false) H)):=by
 intro a5 s σ H x y v u Q I rx ry h
 obtain⟨l,b,zs,rfl,rfl,h1,h2,q⟩:=h
 cases rx;cases ry
 obtain⟨a6,r,pl,_⟩:=I.list h1
 obtain⟨aK,r2,hZ,_⟩:=I.list h2
 have l1:=r.length
 have l2:=r2.length
 refine SeqAt.RcNeAt.lists (e:=λ_=>true) pl.isList hZ.isList (by rw[Qq,Qq];omega) hu (λj j1 j2=>?_) _ _ _ _ ⟨.bl false,H,I,?_,q⟩
 ·have a1:j < (List.map V.bl zs).length:=by rw [l1];simpa using j1
  have a2:j<zs.length:=by simpa using a1
  have g:(List.map V.bl zs)[j]?=some (.bl zs[j]):=by simp[a2]
  obtain⟨u1,e1,rfl⟩:=r.get g
  obtain⟨u2,e2,rfl⟩:=r2.get g
  rw[Jj,Jj,(Ze.mp e1).2,(Ze.mp e2).2]
  have:=SeqAt.EqAt.bool_bool (A:=X.A.in1) (s:=s) zs[j] zs[j]
  rw[beq_self_eq_true]at this
  exact this
 ·show Value.bool _=Value.bool false
  simp
end
end L2
end
section
namespace K21
open PySem L2 Wb
abbrev sPot:Stmt:=top 25
abbrev zer:Stmt:=top 26
abbrev qG:Str := "_law_digit"
inductive IspPot(K:Na)(vs:List V)(H:Hp)(Q:VK):Prop
 |mk (a:Nc) (ns:List Int) (j:Nat) (h0:vs=[.ref a,.int j]) (h1:SqL K H a (ns.map V.int)) (h2:j≤1000) (h2':ns.length≤1000) (h3:∀(l:Nc) (b m:Int) (H':Hp),H l=none→Pot H' l b m→Keep [] H H'→Q (.ref l) H'):IspPot K vs H Q
def spPot(K:Na):Sp:=λvs H Q _=>IspPot K vs H Q
def sq_keep(h:SqL K H a xs)(k:Keep [] H H'):SqL K H' a xs:=h.imp (λr=>r.imp (λe=>k _ _ e (by simp)) λ⟨o,e⟩=>⟨o,k _ _ e (by simp)⟩) id
section
variable{P:Nj}{w:Nk}{K:Na}{mg:Nf}{base:Nm}
def scDigit:zao [qP,qM, "_law_digit_here"] [qP,qM] (zag zer):=fsk
def ok_digit(F:Fun K qG qG zer f fd):FnOk P w K mg base CX0 1 f fd [qP,qM] zge:=by
 refine F.okL scDigit (λcdv A outer s H vs Q E hr h=>?_)
 obtain⟨p,b,m,n,rfl,⟨hp,hb,hm,be⟩,hn,bK,k⟩:=h
 have i0:atI [V.int b,V.int m] ((0:Nat):Int)=some (.int b):=zau rfl
 have i1:atI [V.int b,V.int m] ((1:Nat):Int)=some (.int m):=zau rfl
 refine⟨_,zae (zb2 (zaw op_gt (za6 zap (pv 0) zai (λ_ _=>rfl)) zai (zbp _))
  (zae (zat 2 scDigit.nd (zaq zcc (za6 zap (pv 0) zai (λ_ _=>rfl)) (pv 1)))
  (zae (ps_asg (zaq zfl (za6 zap (pv 0) zai (fun _ _=>rfl)) (pv 1)) (pg_sub (pv 0) zai set_list))
   (zah (zbb (pv 2))))) za1)
  (zae (ps_asg (zaq zcc (zaq zbk (zaq zfk (za6 zap (pv 0) zai (λ_ _=>rfl)) zai) zai) zai) (pg_sub (pv 0) zai set_list))
  (zah (zbb (zaq zcc (zaq zfl (zaq zcc (zaq zfk (za6 zap (pv 0) zai (λ_ _=>rfl)) (za6 zap (pv 0) zai (λ_ _=>rfl))) zai) zai) (pv 1))))),?_⟩
 refine⟨_,rfl,p,_,_,_,rfl,rfl,SqL.of hp,i0,_,_,rfl,rfl,_,rfl,?_⟩
 refine ite2 (λbY=>?_) (λhneg=>?_)
 ·have jX:0 < b:=of_decide_eq_true bY
  refine⟨_,rfl,p,_,_,_,rfl,rfl,SqL.of hp,i0,_,rfl,_,_,rfl,rfl,hn,?_⟩
  refine⟨_,rfl,p,_,_,_,rfl,rfl,SqL.of hp,i0,_,rfl,_,_,rfl,rfl,⟨hn,bK⟩,_,rfl,p,_,0,0,rfl,rfl,hp,rfl,_,rfl,?_⟩
  refine k (b%n) (b/n) m _ (Jn _ (by lia)) (Ux _ hn) ⟨zac,Int.ediv_nonneg hb (by lia),hm,be⟩ λc o e hc=>?_
  rw[zad hc]
  exact e
 ·have i1':∀ x:Int,atI [V.int b,V.int x] ((1:Nat):Int)=some (.int x):=fun x=>zau rfl
  have r0:0≤(m*48271+12289)%2147483629:=Jn _ (by decide)
  have r1:(m*48271+12289)%2147483629<2147483629:=Ux _ (by decide)
  refine⟨_,rfl,p,_,_,_,rfl,rfl,SqL.of hp,i1,_,_,rfl,rfl,.inl ⟨by lia,by lia⟩,_,_,rfl,rfl,_,_,rfl,rfl,(by show(0:Int)<2147483629;decide),_,rfl,p,_,1,1,rfl,rfl,hp,rfl,?_⟩
  refine⟨_,rfl,p,_,_,_,rfl,rfl,SqL.of zac,i1' _,_,rfl,p,_,_,_,rfl,rfl,SqL.of zac,i1' _,_,_,rfl,rfl,.inl ⟨by lia,by lia⟩,_,_,rfl,rfl,(by show(0:Int)<2147483587;decide),_,_,rfl,rfl,⟨by decide,by decide⟩,_,rfl,_,_,rfl,rfl,hn,?_⟩
  refine k _ b ((m*48271+12289)%2147483629) _ (Jn _ (by lia)) (Ux _ hn) ⟨zac,hb,r0,by lia⟩ λc o e hc=>?_
  rw[zad hc]
  exact e
def scPot:zao [qS, "_law_k", "_law_cell"] [qS, "_law_k"] (zag sPot):=fsk
def ok_pot(F:Fun K "_law_pot" "_law_pot" sPot f fd)(a9:mg "len" = none)(cF:mg "min" = none)(iM:mg "max" = none)(dS:mg "list" = none):FnOk P w K mg base CX0 1 f fd [qS, "_law_k"] (spPot K):=by
 refine F.okL scPot (λcdv A outer s H vs Q E hr h=>?_)
 obtain⟨a,ns,j,rfl,hS,hj,n6,k⟩:=h
 have aB  := sizeLine_eq
 refine⟨_,zae (zat 2 scPot.nd (za6 zap (zaq zfm (zb4 zey (by rfl) dS PyProof.Rows.boot_list (zaa (pv 0) zaf)) (za4 (zaa zai zaf)))
   (zaj (call_min2 rfl) (by rfl) cF Jg (zaa (pv 1) (zaa (zaj zam (by rfl) a9 Zr (zaa (pv 0) zaf)) zaf))) (λ_ _=>rfl)))
  (zah (zbb (za4 (zaa (zaj (call_max2 rfl) (by rfl) iM PyProof.Rows.boot_max (zaa zai (zaa (zaq op_sub (pv 2) (zaq op_pow zai zai)) zaf)))
   (zaa (zaq zcc (zaq zbk (zaq zbk (zaq zfk (zaq zcc (pv 2) zai) zai) (zaq zfk zai (pv 1))) zai) zai) zaf))))),?_⟩
 refine⟨_,rfl,a,_,rfl,.inl hS,λp1 h1=>?_⟩
 refine⟨(by show 1≤sizeLine;decide),λp2 h2=>?_⟩
 have fX:p1≠p2:=zab (o:=_) zac h2
 refine⟨p1,p2,_,_,rfl,rfl,(by rw[zad fX];exact zac),zac,by rw[Qa];show _+1≤_;omega,λp3 h3=>?_⟩
 have k3:Keep [] H (upd (upd (upd H p1 (.lst (ns.map V.int))) p2 (.lst [.int 0])) p3 (.lst (ns.map V.int++[.int 0]))):=((Keep.new h1).trans (Keep.new h2)).trans (Keep.new h3)
 have S3:=sq_keep hS k3
 have l3:(upd (upd (upd H p1 (.lst (ns.map V.int))) p2 (.lst [.int 0])) p3 (.lst (ns.map V.int++[.int 0]))) p3=some (.lst ((ns++[0]).map V.int)):=by rw[zac,Qt];rfl
 refine⟨_,rfl,_,rfl,a,_,rfl,.inl S3,j,ns.length,by rw[Qa],?_⟩
 generalize upd (upd (upd H p1 (.lst (ns.map V.int))) p2 (.lst [.int 0])) p3 (.lst (ns.map V.int++[.int 0]))=H3 at S3 k3 l3
 obtain⟨i,hi,e⟩:∃i:Nat,i<(ns++[0]).length∧(if(ns.length:Int)<(j:Int) then(ns.length:Int) else(j:Int))=(i:Int):=by
  rw[Qp]
  split
  ·exact⟨ns.length,Ym _,rfl⟩
  ·exact⟨j,by show j<ns.length+1;omega,rfl⟩
 rw[e]
 have g:((ns++[0]).map V.int)[i]?=some (.int (ns++[0])[i]):=by rw[Qu,Qc hi];rfl
 refine⟨p3,_,_,_,rfl,rfl,SqL.of l3,zau g,?_⟩
 generalize(ns++[0])[i]=c
 have q0:0≤c%2147483629:=Jn _ (by decide)
 have q1:c%2147483629<2147483629:=Ux _ (by decide)
 refine⟨_,rfl,_,_,rfl,rfl,⟨by decide,by decide,by decide⟩,_,_,rfl,rfl,_,_,rfl,?_⟩
 refine⟨_,rfl,_,_,rfl,rfl,(by show(0:Int)<2147483629;decide),_,_,rfl,rfl,.inl ⟨by lia,by lia⟩,_,rfl,_,_,rfl,rfl,.inl ⟨by decide,by decide⟩,_,_,rfl,rfl,_,_,rfl,rfl,_,_,rfl,rfl,(by show(0:Int)<2147483629;decide),(by show 2≤sizeLine;decide),λl hl=>?_⟩
 refine k l _ _ _ (zav k3 hl (by simp)) ⟨zac,?_,Jn _ (by decide),Int.lt_trans (Ux _ (by decide)) (by decide)⟩ (k3.trans (Keep.new hl))
 split
 ·omega
 ·decide
end
end K21
end
section
namespace L2
open PySem PySem.Spec PyProof.Rows
abbrev iV(n:Nat):V:=.int (n:Int)
section
variable{X:Cx}
def op_ne_pairsN(hu:X.A.units<cLine):OpR X (compareOp .NotEq) (λx y H Q=>Ex4 λ(a b:Nc) (q r:Nat×Nat)=>Aj5 (x=.ref a) (y=.ref b) (H a=some (.tup [iV q.1,iV q.2])) (H b=some (.tup [iV r.1,iV r.2])) (Q (.bl (!decide (q=r))) H)):=by
 intro a5 s σ H x y v u Q I rx ry h
 obtain⟨a,b,q,r,rfl,rfl,ha,hb,k⟩:=h
 cases rx;cases ry
 obtain⟨_,a6,r1,p⟩:=I.hok a _ ha
 obtain⟨_,aK,r2,p2⟩:=I.hok b _ hb
 obtain⟨u1,u2,rfl,⟨t1,rfl⟩,⟨t2,rfl⟩⟩:=vals2 r1
 obtain⟨w1,w2,rfl,⟨t3,rfl⟩,⟨t4,rfl⟩⟩:=vals2 r2
 refine SeqAt.RcNeAt.tuples (e:=λj=>if j=0 then(q.1:Int)==(r.1:Int) else(q.2:Int)==(r.2:Int)) p p2 hu (λj j1 j2=>?_) _ _ _ _ ⟨.bl (!decide (q=r)),H,I,?_,k⟩
 ·have j1':j < 2:=by simpa using j1
  match j,j1' with
  |0,_=>exact SeqAt.EqAt.int_int (q.1:Int) t1 (r.1:Int) t3
  |1,_=>exact SeqAt.EqAt.int_int (q.2:Int) t2 (r.2:Int) t4
 ·show Value.bool _=Value.bool _
  congr 1
  have:decide (q=r)=(((q.1:Int)==(r.1:Int))&&((q.2:Int)==(r.2:Int))):=by
   rw[Yu]
   simp[Prod.ext_iff]
   omega
  rw[this]
  show(!((List.range 2).all (λj=>if j=0 then(q.1:Int)==(r.1:Int) else(q.2:Int)==(r.2:Int))&&true))=_
  rw[show List.range 2=[0,1] from rfl]
  simp
end
end L2
namespace Wb
section
variable{α:Type}[DecidableEq α]
theorem zfx(rs:Rs α)(s:α×α):∀n,itr rs s (n+1)=itr rs (stp rs s) n
 |0=>rfl
 |n+1=>congrArg (stp rs) (zfx rs s n)
theorem lk_itr:∀{t:List (α×α)} {s:α×α},Lk (st (row rs)) s t e→run rs s (t.length+1)=s::t∧itr rs s (t.length+1)=e
 |[],s,k=>⟨rfl,k⟩
 |y::t,s,k=>by
  obtain⟨h1,h2⟩:=lk_itr k.2
  have hs:stp rs s=y:=k.1
  refine⟨?_,by rw[Zd,zfx,hs];exact h2⟩
  unfold run at h1 ⊢
  rw[Zd,List.range_succ_eq_map,Qk,Zm,←h1]
  refine congrArg (s::·) (Yo λn _=>?_)
  show itr rs s (n+1)=_
  rw[zfx,hs]
def good_round{rs:Rs α}(h:Good rs){s:α×α}(hs:IsSt rs s):∃L,itr rs s (L+1)=s∧(run rs s (L+1)).Nodup:=by
 obtain⟨cs,a7,C⟩:=h
 obtain⟨c,hc,h⟩:=Yh.mp ((C.cm s).mpr ((zco C.nd).mp hs))
 obtain⟨A,B,e⟩:=Wh h
 have k:=C.cy c hc
 rw[e]at k
 obtain⟨h1,h2⟩:=lk_itr (zeh k)
 refine⟨_,h2,?_⟩
 rw[h1]
 have hn:c.Nodup:=(List.pairwise_flatten.mp C.cf).1 c hc
 rw[e]at hn
 have:=(Yw (l₁:=A) (l₂:=s::B)).nodup_iff.mp hn
 exact this
def round_ne{rs:Rs α}{s:α×α}{L n:Nat}(nd:(run rs s (L+1)).Nodup)(h0:0<n)(h:n≤L):itr rs s n≠s:=λe=>by
 unfold run at nd
 have:=(Yv (i:=n) (j:=0) (h₀:=by rw[Qa,Yr];omega) (h₁:=by rw[Qa,Yr];omega) nd).mp (by
  rw[Zs,Zs,Uv,Uv];exact e)
 omega
end
def rsN(rr:List (List Nat)):Rs Nat:=(List.range rr.length).map λk=>(k,rr.getD k [])
def zc2(rr:List (List Nat)):(rsN rr).map (·.1)=List.range rr.length:=by
 unfold rsN
 rw[Zm]
 exact(Yo λ_ _=>rfl).trans (List.map_id _)
def nd_N(rr:List (List Nat)):((rsN rr).map (·.1)).Nodup:=by rw[zc2];exact Kp
def zf8{rr:List (List Nat)}{k:Nat}(h:k<rr.length):(k,rr[k])∈rsN rr:=by
 unfold rsN
 exact Qj.mpr ⟨k,Ya.mpr h,by rw[Qv,Qc h];rfl⟩
def row_N{rr:List (List Nat)}{k:Nat}(h:k<rr.length):row (rsN rr) k=rr[k]:=zes (nd_N rr) (zf8 h)
def row_No{rr:List (List Nat)}{k:Nat}(h:¬k<rr.length):row (rsN rr) k=[]:=zec (by rw[zc2];exact λz=>h (Ya.mp z))
def set_N(rr:List (List Nat))(k:Nat)(r:List Nat):za5 (rsN rr) k r=rsN (rr.set k r):=by
 unfold za5 rsN
 rw[Zm,Wu]
 refine Yo λj hj=>?_
 have jR:=Ya.mp hj
 show(if j=k then(j,r) else(j,rr.getD j []))=(j,(rr.set k r).getD j [])
 rw[Qv,Qv,List.getElem?_set]
 by_cases e:j=k
 ·subst e
  rw[if_pos rfl,if_pos rfl,if_pos jR];rfl
 ·rw[if_neg e,if_neg (Zh e)]
def snoc_N(rr:List (List Nat)):rsN (rr++[[]])=rsN rr++[(rr.length,[])]:=by
 unfold rsN
 rw[Qp,Zd,Wv,Kv,Qt]
 congr 1
 ·refine Yo fun j hj=>?_
  rw[Qv,Qv,List.getElem?_append_left (Ya.mp hj)]
 ·show [(rr.length,(rr++[[]]).getD rr.length [])]=_
  rw[Qv,Uk (Qf _),Nat.sub_self];rfl
end Wb
namespace K21
open PySem L2 Wb
abbrev zg4:Stmt:=top 29
abbrev zgz:Stmt:=top 30
structure NAt(H:Hp)(l:Nc)(as:Nl)(rr:List (List Nat)):Prop where
 ls:H l=some (.lst (as.map V.ref))
 ro:Paired (λa r=>H a=some (.lst (r.map iV))) as rr
 nd:as.Nodup
def NAt.len(R:NAt H l as rr):as.length=rr.length:=Zz R.ro
def NAt.row(R:NAt H l as rr){k:Nat}(h:k<as.length)(h':k<rr.length):H as[k]=some (.lst (rr[k].map iV)):=let⟨_,z⟩:=za7 R.ro h;z
def NAt.keep(R:NAt H l as rr)(k:Keep xs H H')(hl:l∉xs)(ha:∀a∈as,a∉xs):NAt H' l as rr:=by
 refine⟨k _ _ R.ls hl,?_,R.nd⟩
 have:=R.ro
 clear R
 induction this with
 |nil=>exact .nil
 |cons r t ih=>exact .cons (k _ _ r (ha _ Qe)) (ih λa h=>ha a (Qi _ h))
def NAt.k0(R:NAt H l as rr)(k:Keep [] H H'):NAt H' l as rr:=R.keep k (by simp) λ_ _=>by simp
def NAt.apart(R:NAt H l as rr):l∉as:=λh=>by
 obtain⟨k,hk,e⟩:=Zo h
 have h1:=R.row hk (by rw[←R.len];exact hk)
 rw[e,R.ls]at h1
 have h2:as.map V.ref=(rr[k]'(by rw[←R.len];exact hk)).map iV:=by injection h1 with z;injection z
 cases as with
 |nil=>simp at hk
 |cons a t =>
  generalize(rr[k]'(by rw[←R.len];exact hk))=r at h2
  cases r with
  |nil=>cases h2
  |cons y s=>rw[Qk,Qk]at h2;injection h2 with z1 _;cases z1
def zfz{zs:List Nat}{x:Nat}(h:x∈zs):(∃ z,(zs.map iV)[zs.idxOf x]?=some z∧eqV z (iV x)=true)∧∀ m z,m < zs.idxOf x→(zs.map iV)[m]?=some z→eqV z (iV x)=false:=by
 have aa:zs.idxOf x<zs.length:=Ub.mpr h
 refine⟨⟨iV x,?_,beq_self_eq_true (x:Int)⟩,λm z hm e=>?_⟩
 ·rw[Qu,Qc aa,Jw];rfl
 ·rw [Qu] at e
  have be:m<zs.length:=Yy hm aa
  rw[Qc be]at e
  cases e
  show((zs[m]:Int)==(x:Int))=false
  refine beq_eq_false_iff_ne.mpr λq=>?_
  have q:zs[m]=x:=Int.ofNat.inj q
  have aE:∀(l:List Nat) (j:Nat) (hj:j<l.length),l[j]=x→l.idxOf x≤j:=by
   intro l
   induction l with
   |nil=>intro j hj;simp at hj
   | cons a t ih =>
    intro j hj e
    rw[Kw]
    cases j with
    |zero =>
     have e':a=x:=e
     rw[e'];simp
    | succ i =>
     have:=ih i (by simpa using hj) (by simpa using e)
     by_cases h:a=x
     ·rw[h];simp
     ·have hb:(a == x)=false:=beq_eq_false_iff_ne.mpr h
      rw[hb];simp;assumption
  have:=aE zs m be q
  omega
def zd2(zs:List Nat):(zs.map iV).all zcx=true:=by
 rw[Um];intro v hv;obtain⟨x,_,rfl⟩:=Qj.mp hv;rfl
inductive IspBehind(vs:List V)(H:Hp)(Q:VK):Prop
 |mk (a:Nc) (zs:List Nat) (x:Nat) (h0:vs=[.ref a,iV x]) (h1:H a=some (.lst (zs.map iV))) (h2:x∈zs) (h3:zs.length≤900) (h4:Q (iV (nxt zs x)) H):IspBehind vs H Q
def spBehind:Sp:=λvs H Q _=>IspBehind vs H Q
abbrev zbr(H:Hp)(as:Nl)(qs:List (Nat×Nat)):Prop:=Paired (λa q=>H a=some (.tup [iV q.1,iV q.2])) as qs
def zbr.keep(r:zbr H as qs)(k:∀b x y,H b=some (.tup [x,y])→H' b=some (.tup [x,y])):zbr H' as qs:=Paired.imp' (λa q h=>k _ _ _ h) r
def zbr.snoc(r:zbr H as qs)(h:H a=some (.tup [iV q.1,iV q.2])):zbr H (as++[a]) (qs++[q]):=by
 induction r with
 |nil=>exact .cons h .nil
 |cons r t ih=>exact .cons r ih
inductive IspSteps0(vs:List V)(H:Hp)(Q:VK):Prop
 |mk (l:Nc) (as:Nl) (rr:List (List Nat)) (s:Nat×Nat) (h0:vs=[.ref l,iV s.1,iV s.2]) (h1:NAt H l as rr) (h2:IsSt (rsN rr) s) (h3:Good (rsN rr)) (h4:rr.length≤40)
  (h6:∀(t:Nc) (ps:Nl) (n:Nat) (H':Hp),H t=none→H' t=some (.lst (ps.map V.ref))→zbr H' ps (run (rsN rr) s (n+1))→(run (rsN rr) s (n+1)).Nodup→n+1≤1600→Keep [] H H'→Q (.ref t) H'):IspSteps0 vs H Q
def spSteps0:Sp:=λvs H Q _=>IspSteps0 vs H Q
section
variable{P:Nj}{w:Nk}{K:Na}{mg:Nf}{base:Nm}
def scBehind:zao ["_law_around", "_law_one"] ["_law_around", "_law_one"] (zag zg4):=fsk
def ok_behind(F:Fun K "_law_behind" "_law_behind" zg4 f fd)(a9:mg "len" = none):FnOk P w K mg base CX0 1 f fd ["_law_around", "_law_one"] spBehind:=by
 refine F.okL scBehind (λcdv A outer s H vs Q E hr h=>?_)
 obtain⟨a,zs,x,rfl,ha,hx,hz,k⟩:=h
 have hu:=zb7 hr
 refine⟨_,zah (zbb (za6 zap (pv 0) (zaq zcc (zaq zbk (zch Zc Uz Uy ze8 (pv 0) (zaa (pv 1) zaf)) zai)
  (zaj zam (by rfl) a9 Zr (zaa (pv 0) zaf))) (λ_ _=>rfl))),?_⟩
 obtain⟨i1,i2⟩:=zfz hx
 have bY:0<zs.length:=Kt hx
 have hm:(zs.idxOf x+1)%zs.length<zs.length:=Wo _ bY
 have g:(zs.map iV)[(zs.idxOf x+1)%zs.length]?=some (iV (nxt zs x)):=by
  rw[Qu,Qc hm]
  unfold nxt
  simp[List.getD,hm]
 have e1:((zs.idxOf x:Nat):Int)+1=((zs.idxOf x+1:Nat):Int):=by lia
 have g2:atI (zs.map iV) ((((zs.idxOf x:Nat):Int)+1)%((zs.map iV).length:Int))=some (iV (nxt zs x)):=by
  rw[e1,Qa,←Int.natCast_emod]
  exact zau g
 refine⟨_,rfl,_,rfl,.inl ⟨rfl,_,SqL.of ha⟩,_,rfl,a,_,_,_,rfl,rfl,ha,rfl,zd2 zs,i1,i2,_,_,rfl,rfl,_,rfl,a,_,rfl,.inl (SqL.of ha),_,_,rfl,rfl,?_,a,_,_,_,rfl,rfl,SqL.of ha,g2,k⟩
 rw[Qa];exact zar9 ‹_›
def ze5:zao [qR, "_law_p", "_law_q", "_law_found", "_law_here"] [qR, "_law_p", "_law_q"] (zag zgz):=fsk
def ok_steps0(F:Fun K "_law_steps" "_law_steps" zgz f fd)(FB:Fun K "_law_behind" "_law_behind" zg4 fb fdb)(bB:Binds K fdb ["_law_around", "_law_one"] [])(mB:mg "_law_behind" = some (.ref fb))(GB:FnOk P w K mg base CX0 1 fb fdb ["_law_around", "_law_one"] spBehind) :
  FnOk P w K mg base CX0 2 f fd [qR, "_law_p", "_law_q"] spSteps0:=by
 refine F.okL ze5 (λcdv A outer s H vs Q E hr h=>?_)
 obtain⟨d,ra,rr,st,rfl,R,ak,hG,cg,k⟩:=h
 have hu:=zb7 hr
 refine⟨_,zae (zat 3 ze5.nd (za4 (zaa (zfh (zaa (pv 1) (zaa (pv 2) zaf))) zaf)))
  (zae (zat 4 ze5.nd (zfh (zaa (pv 2) (zaa (zak GB hr rfl mB FB.kp bB .nil za0 (zaa (za6 zap (pv 0) (pv 2) (λ_ _=>rfl)) (zaa (pv 1) zaf))) zaf))))
  (zae (zc7 Zf (zaw (op_ne_pairsN (Yy (Ym _) hu)) (pv 4) (za6 zap (pv 3) zai (fun _ _=>rfl)) rfl)
   (zae (zax (zch Zc Zu Zt zbc (pv 3) (zaa (pv 4) zaf)))
   (zah (zat 4 ze5.nd (zfh (zaa (za6 ix_tup (pv 4) zai (λ_ _=>rfl)) (zaa (zak GB hr rfl mB FB.kp bB .nil za0 (zaa (za6 zap (pv 0) (za6 ix_tup (pv 4) zai (λ_ _=>rfl)) (λ_ _=>rfl)) (zaa (za6 ix_tup (pv 4) zai (λ_ _=>rfl)) zaf))) zaf)))))))
  (zah (zbb (pv 3))))),?_⟩
 obtain⟨L,hL,nd⟩:=good_round hG ak
 have gy:=zbf.clo _ hG
 have iQ:(rsN rr).length=rr.length:=by unfold rsN;rw[List.length_map,List.length_range]
 have hLb:L+1≤1600:=by
  have:=nodup_len nd (m:=allSt (rsN rr)) λx hx=>by
   obtain⟨i,_,rfl⟩:=Qj.mp hx
   exact mem_allSt.mpr (itr_st gy ak i)
  unfold Wb.run at this
  rw[Qa,Yr]at this
  exact Zj this (zbf.steps hG (by rw[iQ];exact cg))
 have at':∀q:Nat×Nat,IsSt (rsN rr) q→∃(h:q.2<rr.length) (h':q.2<ra.length),q.1∈rr[q.2]∧rr[q.2].length≤900∧stp (rsN rr) q=(q.2,nxt rr[q.2] q.1):=λq hq=>by
  have h1:=(zco (nd_N rr)).mp hq
  by_cases h:q.2<rr.length
  ·rw [row_N h] at h1
   refine⟨h,by rw[R.len];exact h,h1,?_,by unfold stp;rw[row_N h]⟩
   have:=zbf.rows hG _ (zf8 h)
   rw[iQ]at this
   exact Zj this (by omega)
  ·rw[row_No h]at h1;cases h1
 have i0:∀x y:V,atI [x,y] ((0:Nat):Int)=some x:=λx y=>zau rfl
 have i1:∀x y:V,atI [x,y] ((1:Nat):Int)=some y:=λx y=>zau rfl
 have aB  := sizeLine_eq
 refine⟨_,rfl,_,rfl,(by show 2≤sizeLine;decide),λt0 ht0=>⟨(by show 1≤sizeLine;decide),λl hl=>?_⟩⟩
 have k1:Keep [] H (upd (upd H t0 (.tup [iV st.1,iV st.2])) l (.lst [.ref t0])):=(Keep.new ht0).trans (Keep.new hl)
 have ntl:t0≠l:=zab (o:=_) zac hl
 have iq:(upd (upd H t0 (.tup [iV st.1,iV st.2])) l (.lst [.ref t0])) t0=some (.tup [iV st.1,iV st.2]):=by rw[zad ntl];exact zac
 have bA:(upd (upd H t0 (.tup [iV st.1,iV st.2])) l (.lst [.ref t0])) l=some (.lst [.ref t0]):=zac
 have fl:H l=none:=zav (xs:=[]) (Keep.new ht0) hl (by simp)
 generalize upd (upd H t0 (.tup [iV st.1,iV st.2])) l (.lst [.ref t0])=H1 at k1 iq bA
 have R1:=R.k0 k1
 obtain⟨g1,g2,g3,g4,g5⟩:=at' st ak
 refine⟨_,rfl,_,rfl,_,rfl,d,_,_,_,rfl,rfl,SqL.of R1.ls,zau (by rw[Qu,Qc g2];rfl),_,rfl,_,rr[st.2],st.1,rfl,R1.row g2 g1,g3,g4,(by show 2≤sizeLine;decide),λt ht=>?_⟩
 have e5:[iV st.2,iV (nxt rr[st.2] st.1)]=[iV (itr (rsN rr) st 1).1,iV (itr (rsN rr) st 1).2]:=by show _=[iV (stp (rsN rr) st).1,iV (stp (rsN rr) st).2];rw[g5]
 rw[e5]
 have nlt:l≠t:=zab bA ht
 refine⟨λm σ H2=>Ex3 λ(n:Nat) (t:Nc) (as:Nl)=>Aj8 (m=L-n) (n≤L) (σ=[some (.ref d),some (iV st.1),some (iV st.2),some (.ref l),some (.ref t)]) (Keep [l] H1 H2) (H2 l=some (.lst ((t0::as).map V.ref))) (zbr H2 (t0::as) (run (rsN rr) st (n+1))) (H2 t=some (.tup [iV (itr (rsN rr) st (n+1)).1,iV (itr (rsN rr) st (n+1)).2])) (as.length=n),
  ⟨_,0,t,[],rfl,Zn _,rfl,Keep.new ht,by rw[zad nlt];exact bA,.cons (by rw[zad (zab iq ht)];exact iq) .nil,zac,rfl⟩,?_⟩
 rintro m σ H2 ⟨n,t,as,rfl,hn,rfl,k2,ax,pa,p9,dC⟩
 have pc:=k2 _ _ iq (by simpa using ntl)
 refine⟨_,rfl,_,rfl,l,_,_,_,rfl,rfl,SqL.of ax,(show atI ((t0::as).map V.ref) ((0:Nat):Int)=some (.ref t0) from zau rfl),t,t0,itr (rsN rr) st (n+1),st,rfl,rfl,p9,pc,_,rfl,?_⟩
 by_cases he:n=L
 ·subst he
  refine zbi (by rw[decide_eq_true hL];rfl) ?_
  exact⟨_,rfl,k l (t0::as) n H2 fl ax pa nd hLb λc o ec _=>k2 c o (k1 _ _ ec (by simp)) (by simpa using zab ec fl)⟩
 ·refine zbm (by rw [decide_eq_false (round_ne nd (Nat.succ_pos n) (by omega))];rfl) ?_
  have om:t≠l:=za8 p9 ax (by intro z;cases z)
  refine⟨_,λ σ' H' z=>z,?_⟩
  refine⟨_,rfl,.inl ⟨rfl,_,SqL.of ax⟩,_,rfl,l,_,_,rfl,rfl,ax,by rw[Qa,Zd];omega,?_⟩
  have k3:Keep [l] H1 (upd H2 l (.lst ((t0::as).map V.ref++[V.ref t]))):=k2.trans (Keep.wr Qe)
  have kM:(upd H2 l (.lst ((t0::as).map V.ref++[V.ref t]))) t=some (.tup [iV (itr (rsN rr) st (n+1)).1,iV (itr (rsN rr) st (n+1)).2]):=by rw[zad om];exact p9
  have li:(upd H2 l (.lst ((t0::as).map V.ref++[V.ref t]))) l=some (.lst ((t0::(as++[t])).map V.ref)):=by rw[zac,←Yf,Qt];rfl
  have pa3:zbr (upd H2 l (.lst ((t0::as).map V.ref++[V.ref t]))) (t0::(as++[t])) (run (rsN rr) st (n+1+1)):=by
   rw[run_succ,←Yf]
   refine zbr.snoc (zbr.keep pa λb x y eb=>?_) kM
   rw[zad (za8 eb ax (by intro z;cases z))];exact eb
  generalize upd H2 l (.lst ((t0::as).map V.ref++[V.ref t]))=H3 at k3 kM li pa3
  have nra:∀a∈ra,a≠l:=λa ha=>by
   obtain⟨j,hj,rfl⟩:=Zo ha
   exact zab (R.row hj (by rw[←R.len];exact hj)) fl
  have R3:NAt H3 d ra rr:=R1.keep k3 (by simpa using zab R.ls fl) λa ha=>by simpa using nra a ha
  obtain⟨g1,g2,g3,g4,g5⟩:=at' (itr (rsN rr) st (n+1)) (itr_st gy ak _)
  refine⟨_,rfl,t,_,_,_,rfl,rfl,SqT.of kM,i1 _ _,_,rfl,_,rfl,t,_,_,_,rfl,rfl,SqT.of kM,i1 _ _,d,_,_,_,rfl,rfl,SqL.of R3.ls,zau (by rw[Qu,Qc g2];rfl),_,rfl,t,_,_,_,rfl,rfl,SqT.of kM,i0 _ _,_,rr[(itr (rsN rr) st (n+1)).2],(itr (rsN rr) st (n+1)).1,rfl,R3.row g2 g1,g3,g4,(by show 2≤sizeLine;decide),λt' pd=>?_⟩
  have e6:[iV (itr (rsN rr) st (n+1)).2,iV (nxt rr[(itr (rsN rr) st (n+1)).2] (itr (rsN rr) st (n+1)).1)]=[iV (itr (rsN rr) st (n+1+1)).1,iV (itr (rsN rr) st (n+1+1)).2]:=by show _=[iV (stp (rsN rr) (itr (rsN rr) st (n+1))).1,iV (stp (rsN rr) (itr (rsN rr) st (n+1))).2];rw[g5]
  rw[e6]
  have nl':l≠t':=zab li pd
  exact⟨L-(n+1),by omega,n+1,t',as++[t],rfl,by omega,rfl,k3.trans (Keep.new pd),by rw[zad nl'];exact li,zbr.keep pa3 λb x y eb=>by rw[zad (zab eb pd)];exact eb,zac,by rw[Qp,dC];rfl⟩
end
end K21
end
section
namespace K21
open PySem L2 Wb
abbrev sTie:Stmt:=top 31
def inV_nat{x:Nat}{zs:List Nat}:inV (iV x) (zs.map iV)=decide (x∈zs):=by
 unfold inV
 rw[Yu,Yn,decide_eq_true_iff]
 constructor
 ·rintro ⟨v,hv,e⟩
  obtain⟨z,hz,rfl⟩:=Qj.mp hv
  have e:((z:Int)==(x:Int))=true:=e
  have:z=x:=Int.ofNat.inj (eq_of_beq e)
  rw[←this];exact hz
 ·intro h
  exact⟨_,Qj.mpr ⟨x,h,rfl⟩,beq_self_eq_true (x:Int)⟩
def NAt.mem(R:NAt H l as rr)(ha:a∈as):∃r:List Nat,H a=some (.lst (r.map iV)):=by
 obtain⟨j,hj,rfl⟩:=Zo ha
 exact⟨_,R.row hj (by rw[←R.len];exact hj)⟩
def NAt.set(R:NAt H l as rr){k:Nat}(h:k < as.length)(r:List Nat):NAt (upd H as[k] (.lst (r.map iV))) l as (rr.set k r):=by
 have hl:l≠as[k]:=λz=>R.apart (z▸Qm h)
 refine⟨by rw[zad hl];exact R.ls,?_,R.nd⟩
 have av:=R.nd
 have hr:=R.ro
 clear R hl
 induction hr generalizing k with
 |nil=>simp at h
 | cons r1 t ih =>
  rename_i a r0 bu cX
  rw[Qy]at av
  cases k with
  | zero =>
   refine .cons zac ?_
   show Paired _ bu cX
   refine Paired.imp' (λb r' hb=>hb) ?_
   clear ih
   have key:∀{xs:Nl} {ys:List (List Nat)},Paired (λa r=>H a=some (.lst (r.map iV))) xs ys→a∉xs→Paired (λb r'=>(upd H a (.lst (r.map iV))) b=some (.lst (r'.map iV))) xs ys:=by
    intro xs ys hp
    induction hp with
    |nil=>intro _;exact .nil
    |cons q t' ih' =>
     intro hn
     rw[Qh,not_or]at hn
     exact .cons (by rw[zad (Zh hn.1)];exact q) (ih' hn.2)
   exact key t av.1
  |succ j =>
   have hj:j<bu.length:=by simpa using h
   refine .cons ?_ (ih (k:=j) hj av.2)
   show(upd H bu[j] _) a=_
   rw[zad (λz=>av.1 (by rw[z];exact Qm hj))];exact r1
def pot_l(h:Pot H p b m)(R:NAt H l as rr):l≠p:=za8 R.ls h.1 (by
 intro z
 have z':as.map V.ref=[.int b,.int m]:=by injection z
 cases as with
 |nil=>cases z'
 |cons x t=>rw[Qk]at z';injection z' with z1 _;cases z1)
def zbr.mem(r:zbr H as qs)(ha:a∈as):∃q∈qs,H a=some (.tup [iV q.1,iV q.2]):=by
 induction r with
 |nil=>cases ha
 | cons r t ih =>
  rcases Qh.mp ha with e | e
  ·exact⟨_,Qe,e▸r⟩
  ·obtain ⟨q,h1,h2⟩:=ih e
   exact⟨q,Qi _ h1,h2⟩
inductive IspTieD(vs:List V)(H:Hp)(Q:VK):Prop
 |mk (p l:Nc) (b m:Int) (as:Nl) (rr:List (List Nat)) (h0:vs=[.ref p,.ref l]) (h1:Pot H p b m) (h2:NAt H l as rr) (h3:Good (rsN rr)) (h4:0<rr.length) (h5:rr.length≤40) (aO:p∉as)
  (h6:∀(b' m':Int) (cX:List (List Nat)) (H':Hp),cX.length=rr.length→Good (rsN cX)→Pot H' p b' m'→NAt H' l as cX→Keep (p::as) H H'→Q .non H'):IspTieD vs H Q
def spTieD:Sp:=λvs H Q _=>IspTieD vs H Q
section
variable{P:Nj}{w:Nk}{K:Na}{mg:Nf}{base:Nm}
def scTie:zao [qP,qR, "_law_one", "_law_ahead", "_law_steps_here", "_law_first", "_law_p", "_law_q"] [qP,qR] (zag sTie):=fsk
def ok_tie(F:Fun K "_law_tie" "_law_tie" sTie f fd)(FT:Fun K qG qG zer ft fdt)(bT:Binds K fdt [qP,qM] [])(mT:mg qG=some (.ref ft))(GT:FnOk P w K mg base CX0 1 ft fdt [qP,qM] zge)(FS:Fun K "_law_steps" "_law_steps" zgz fs fds)(bS:Binds K fds [qR, "_law_p", "_law_q"] [])(mS:mg "_law_steps" = some (.ref fs))(GS:FnOk P w K mg base CX0 2 fs fds [qR, "_law_p", "_law_q"] spSteps0)(a9:mg "len" = none):FnOk P w K mg base CX0 3 f fd [qP,qR] spTieD:=by
 refine F.okL scTie (λcdv A outer s H vs Q E hr h=>?_)
 obtain⟨p,l,b,m,as,rr,rfl,hp,R,hG,bY,bi,aO,k⟩:=h
 have hu:=zb7 hr
 have gh:=Uf hu
 have aH:Room 1 _:=hr.mono (by decide)
 have aB  := sizeLine_eq
 refine⟨_,zae (zat 2 scTie.nd (zak GT aH rfl mT FT.kp bT .nil za0 (zaa (pv 0) (zaa (zaj zam (by rfl) a9 Zr (zaa (pv 1) zaf)) zaf))))
  (zae (zb2 (zaw (op_eq_nil gh) (za6 zap (pv 1) (pv 2) (λ_ _=>rfl)) (za4 zaf) (zbp _)) (zah ps_retN) za1)
  (zae (zat 3 scTie.nd (za6 zap (za6 zap (pv 1) (pv 2) (λ_ _=>rfl)) (zak GT aH rfl mT FT.kp bT .nil za0 (zaa (pv 0) (zaa (zaj zam (by rfl) a9 Zr (zaa (za6 zap (pv 1) (pv 2) (λ_ _=>rfl)) zaf)) zaf))) (λ_ _=>rfl)))
  (zae (zat 4 scTie.nd (zak GS hr rfl mS FS.kp bS .nil za0 (zaa (pv 1) (zaa (pv 3) (zaa (pv 2) zaf)))))
  (zae (zat 5 scTie.nd (zak GT aH rfl mT FT.kp bT .nil za0 (zaa (pv 0) (zaa (zaj zam (by rfl) a9 Zr (zaa (pv 4) zaf)) zaf))))
  (zah (zbd Zf rfl (zay (zaq zfm (zbt zcy (pv 4) (zb3 (pv 5)) zbx) (zbt zcy (pv 4) zbx (zb3 (pv 5))))) (pg_tup rfl (zbe (za9 6 scTie.nd) (zbe (za9 7 scTie.nd) zdj)))
   (zah (zb2 (PW.pt (pw_and (zaw op_ne (pv 7) (pv 2) (zbp _)) (zg6 (zaw zc1 (pv 7) (za6 zap (pv 1) (pv 2) (fun _ _=>rfl)) rfl))))
    (zae (zax (zch Zc Kl Kk zfs (za6 zap (pv 1) (pv 2) (λ_ _=>rfl)) (zaa (zaq zbk (zch Zc Uz Uy ze8 (za6 zap (pv 1) (pv 2) (λ_ _=>rfl)) (zaa (pv 3) zaf)) zai) (zaa (pv 7) zaf))))
    (zae (zax (zch Zc Kl Kk zfs (za6 zap (pv 1) (pv 7) (λ_ _=>rfl)) (zaa (zaq zbk (zch Zc Uz Uy ze8 (za6 zap (pv 1) (pv 7) (λ_ _=>rfl)) (zaa (pv 6) zaf)) zai) (zaa (pv 2) zaf))))
    (zah ps_retN))) za1)))))))),?_⟩
 have iQ:(rsN rr).length=rr.length:=by unfold rsN;rw[List.length_map,List.length_range]
 have dC:=R.len
 have nlp:=pot_l hp R
 have nap:∀a∈as,a≠p:=λa ha z=>aO (z▸ha)
 have gN:(as.map V.ref).length=rr.length:=by rw[Qa];exact dC
 refine⟨_,rfl,_,rfl,l,_,rfl,.inl (SqL.of R.ls),p,b,m,_,rfl,hp,by omega,by omega,λj1 b1 m1 H1 qv hj1 bH oF=>?_⟩
 have k1:Keep [p] H H1:=za3 oF
 have R1:NAt H1 l as rr:=R.keep k1 (by simpa using nlp) λa ha=>by simpa using nap a ha
 obtain⟨one,rfl⟩:=Zl qv
 have ho:one<rr.length:=by omega
 have am:one<as.length:=by omega
 have a1:∀{c:Nat} (h:c<as.length),atI (as.map V.ref) (c:Int)=some (.ref as[c]):=λh=>zau (by rw[Qu,Qc h];rfl)
 refine⟨_,rfl,_,rfl,l,_,_,_,rfl,rfl,SqL.of R1.ls,a1 am,(by show 0≤sizeLine;decide),λq hq=>?_⟩
 have k2:Keep [p] H (upd H1 q (.lst [])):=k1.trans (Keep.new hq)
 have aD:Pot (upd H1 q (.lst [])) p b1 m1:=bH.keep (xs:=[]) (Keep.new hq) (by simp)
 have R2:NAt (upd H1 q (.lst [])) l as rr:=R1.k0 (Keep.new hq)
 refine⟨as[one],q,_,rfl,rfl,SqL.of (R2.row am ho),SqL.of zac,_,rfl,?_⟩
 generalize upd H1 q (.lst [])=H2 at k2 aD R2
 have ag:=R2.row am ho
 have md:∀(b' m':Int) (H':Hp),Pot H' p b' m'→Keep [p] H H'→Q .non H':=λb' m' H' c7 k'=>k b' m' rr H' rfl hG c7 (R.keep k' (by simpa using nlp) λa ha=>by simpa using nap a ha) (k'.sub (by simp))
 by_cases he:rr[one]=[]
 ·exact zbm (by rw[he];rfl) (md b1 m1 H2 aD k2)
 refine zbi (by cases z:rr[one] with | nil=>exact absurd z he | cons _ _=>rfl) ?_
 have g7:rr[one].length≤900:=by
  have:=zbf.rows hG _ (zf8 ho)
  rw[iQ]at this
  exact Zj this (by omega)
 have hzp:0<rr[one].length:=Uq.mpr he
 have hml1:(rr[one].map iV).length=rr[one].length:=Qa ..
 refine⟨_,rfl,_,rfl,l,_,_,_,rfl,rfl,SqL.of R2.ls,a1 am,_,rfl,_,rfl,_,rfl,l,_,_,_,rfl,rfl,SqL.of R2.ls,a1 am,as[one],_,rfl,.inl (SqL.of ag),p,b1,m1,_,rfl,aD,by omega,by omega,λj2 b3 m3 H3 iW qu bd mx=>?_⟩
 obtain⟨jn,rfl⟩:=Zl iW
 have nn:jn<rr[one].length:=by omega
 have k3:Keep [p] H H3:=k2.trans (za3 mx)
 have R3:NAt H3 l as rr:=R.keep k3 (by simpa using nlp) λa ha=>by simpa using nap a ha
 refine⟨as[one],_,_,iV rr[one][jn],rfl,rfl,SqL.of (R3.row am ho),zau (by rw[Qu,Qc nn];rfl),?_⟩
 have lV:rr[one][jn]∈rr[one]:=Qm nn
 generalize rr[one][jn]=ah at lV
 have ak:IsSt (rsN rr) (ah,one):=(zco (nd_N rr)).mpr (by show ah∈row (rsN rr) one;rw[row_N ho];exact lV)
 refine⟨_,rfl,_,rfl,_,rfl,l,as,rr,(ah,one),rfl,R3,ak,hG,bi,λt ps n H4 ft ht pa nd hn k4=>?_⟩
 have fB:Keep [p] H H4:=k3.trans (k4.sub (by simp))
 have bz:=bd.keep k4 (by simp)
 have bn:ps.length=n+1:=by
  have:=Zz pa
  unfold Wb.run at this
  rwa[Qa,Yr]at this
 have hml2:(ps.map V.ref).length=n+1:=by rw[Qa];exact bn
 have ntp:t≠p:=λz=>by rw[z,bd.1]at ft;cases ft
 refine⟨_,rfl,_,rfl,t,_,rfl,.inl (SqL.of ht),p,b3,m3,_,rfl,bz,by omega,by omega,λj5 b5 m5 H5 iT qq ay gG=>?_⟩
 obtain⟨jf,rfl⟩:=Zl iT
 have hjf:jf≤(ps.map V.ref).length:=by omega
 have k5:Keep [p] H H5:=fB.trans (za3 gG)
 have jM:=gG _ _ ht ntp
 have ki:zbr H5 ps (run (rsN rr) (ah,one) (n+1)):=zbr.keep pa λb' x' y' eb=>gG _ _ eb (za8 eb bz.1 (by intro z;cases z))
 refine⟨_,rfl,_,rfl,_,rfl,t,_,rfl,SqL.of jM,λs1 bQ=>?_⟩
 rw[zd4 hjf]
 have ht6:(upd H5 s1 (.lst ((ps.map V.ref).drop jf))) t=some (.lst (ps.map V.ref)):=by rw[zad (zab jM bQ)];exact jM
 refine⟨_,rfl,_,rfl,_,rfl,t,_,rfl,SqL.of ht6,λs2 cZ=>?_⟩
 rw[cut_to hjf]
 have oo:s1≠s2:=zab (o:=_) zac cZ
 refine⟨s1,s2,_,_,rfl,rfl,by rw[zad oo];exact zac,zac,by rw[Uc,Zg];omega,λs3 hs3=>?_⟩
 have k6:Keep [] H5 (upd (upd (upd H5 s1 (.lst ((ps.map V.ref).drop jf))) s2 (.lst ((ps.map V.ref).take jf))) s3 (.lst ((ps.map V.ref).drop jf++(ps.map V.ref).take jf))):=((Keep.new bQ).trans (Keep.new cZ)).trans (Keep.new hs3)
 have gi:(upd (upd (upd H5 s1 (.lst ((ps.map V.ref).drop jf))) s2 (.lst ((ps.map V.ref).take jf))) s3 (.lst ((ps.map V.ref).drop jf++(ps.map V.ref).take jf))) s3=some (.lst ((ps.map V.ref).drop jf++(ps.map V.ref).take jf)):=zac
 have hvs:∀v∈(ps.map V.ref).drop jf++(ps.map V.ref).take jf,∃a∈ps,v=.ref a:=λv hv=>by
  rcases Qd.mp hv with z | z
  ·obtain⟨a,ha,rfl⟩:=Qj.mp (Wj z);exact⟨a,ha,rfl⟩
  ·obtain⟨a,ha,rfl⟩:=Qj.mp (Ys z);exact⟨a,ha,rfl⟩
 generalize(ps.map V.ref).drop jf++(ps.map V.ref).take jf=vs at gi hvs k6
 generalize upd (upd (upd H5 s1 (.lst ((ps.map V.ref).drop jf))) s2 (.lst ((ps.map V.ref).take jf))) s3 (.lst vs)=H6 at k6 gi
 have oG:Keep [p] H H6:=k5.trans (k6.sub (by simp))
 have cr:=ay.keep k6 (by simp)
 have R6:NAt H6 l as rr:=R.keep oG (by simpa using nlp) λa ha=>by simpa using nap a ha
 have pa6:zbr H6 ps (run (rsN rr) (ah,one) (n+1)):=zbr.keep ki λb' x' y' eb=>k6 _ _ eb (by simp)
 have bV:=R6.row am ho
 refine⟨s3,rfl,⟨_,SqL.of gi⟩,zbn (xs:=vs) (λi σ H'=>Aj2 (Ex2 λx6 x7=>σ=[some (.ref p),some (.ref l),some (iV one),some (iV ah),some (.ref t),some (iV jf),x6,x7]) (H'=H6)) ⟨⟨_,_,rfl⟩,rfl⟩ (λi σ H' _ hh=>hh.2▸SqL.of gi) ?_ ?_⟩
 ·rintro i v σ H' hv ⟨⟨x6,x7,rfl⟩,rfl⟩
  obtain⟨a,ha,rfl⟩:=hvs v (Yl hv)
  obtain⟨⟨x,y⟩,hxy,hta⟩:=pa6.mem ha
  obtain⟨n',_,e'⟩:=Qj.mp hxy
  refine⟨a,_,rfl,SqT.of hta,rfl,_,_,rfl,_,_,rfl,rfl,?_⟩
  refine⟨_,rfl,_,rfl,rfl,_,rfl,?_⟩
  by_cases cn:y=one
  ·subst cn
   exact zbi (by simp) (iteF ⟨⟨_,_,rfl⟩,rfl⟩)
  refine zbm (by simpa using λz=>cn (by omega)) ?_
  refine⟨_,rfl,_,rfl,_,rfl,l,_,_,_,rfl,rfl,SqL.of R6.ls,a1 am,as[one],_,rfl,.inl (SqL.of bV),rfl,zd2 _,_,rfl,?_⟩
  rw[inV_nat]
  by_cases g9:y∈rr[one]
  ·exact zbi (by rw[decide_eq_true g9];rfl) ⟨⟨_,_,rfl⟩,rfl⟩
  refine zbm (by rw[decide_eq_false g9];rfl) ?_
  obtain⟨i1,i2⟩:=zfz lV
  have hi1:rr[one].idxOf ah<rr[one].length:=Ub.mpr lV
  refine⟨_,rfl,_,rfl,l,_,_,_,rfl,rfl,SqL.of R6.ls,a1 am,.inl ⟨rfl,_,SqL.of bV⟩,_,rfl,_,rfl,l,_,_,_,rfl,rfl,SqL.of R6.ls,a1 am,.inl ⟨rfl,_,SqL.of bV⟩,_,rfl,as[one],_,_,_,rfl,rfl,bV,rfl,zd2 _,i1,i2,_,_,rfl,rfl,_,rfl,as[one],_,_,rr[one].idxOf ah+1,rfl,by rw[show((rr[one].idxOf ah+1:Nat):Int)=(rr[one].idxOf ah:Int)+1 by lia],bV,by rw[Qa];omega,by rw[Qa];omega,?_⟩
  have iw:IsSt (rsN rr) (x,y):=e'▸itr_st (zbf.clo _ hG) ak n'
  have kD:=(zco (nd_N rr)).mp iw
  have hy:y<rr.length:=Kb λz=>by
   have gb:x∈row (rsN rr) y:=kD
   rw[row_No z]at gb;cases gb
  have cM:y<as.length:=by omega
  have kD:x∈rr[y]:=by
   have gb:x∈row (rsN rr) y:=kD
   rwa[row_N hy]at gb
  have hyl:rr[y].length≤900:=by
   have:=zbf.rows hG _ (zf8 hy)
   rw[iQ]at this
   exact Zj this (by omega)
  have e1:(rr[one].map iV).take (rr[one].idxOf ah+1)++iV y::(rr[one].map iV).drop (rr[one].idxOf ah+1)=(ins rr[one] (some ah) y).map iV:=by
   rw[←Ua,←Ur,←Qk,←Qt];rfl
  rw[e1]
  have R7:=R6.set am (ins rr[one] (some ah) y)
  have k7:Keep (p::as) H (upd H' as[one] (.lst ((ins rr[one] (some ah) y).map iV))):=(oG.sub (by simp)).trans (Keep.wr (Qi _ (Qm am)))
  have ba:Pot (upd H' as[one] (.lst ((ins rr[one] (some ah) y).map iV))) p b5 m5:=cr.keep (xs:=[as[one]]) (Keep.wr (by simp)) (by simpa using Zh (nap _ (Qm am)))
  generalize upd H' as[one] (.lst ((ins rr[one] (some ah) y).map iV))=H7 at R7 k7 ba
  have hy7:y<(rr.set one (ins rr[one] (some ah) y)).length:=by rw[Wu];exact hy
  have az:=R7.row cM hy7
  rw[Jp (Zh cn)]at az
  obtain⟨i3,i4⟩:=zfz kD
  have ap:rr[y].idxOf x<rr[y].length:=Ub.mpr kD
  refine⟨_,rfl,_,rfl,l,_,_,_,rfl,rfl,SqL.of R7.ls,a1 cM,.inl ⟨rfl,_,SqL.of az⟩,_,rfl,_,rfl,l,_,_,_,rfl,rfl,SqL.of R7.ls,a1 cM,.inl ⟨rfl,_,SqL.of az⟩,_,rfl,as[y],_,_,_,rfl,rfl,az,rfl,zd2 _,i3,i4,_,_,rfl,rfl,_,rfl,as[y],_,_,rr[y].idxOf x+1,rfl,by rw[show((rr[y].idxOf x+1:Nat):Int)=(rr[y].idxOf x:Int)+1 by lia],az,by rw[Qa];omega,by rw[Qa];omega,?_⟩
  have e2:(rr[y].map iV).take (rr[y].idxOf x+1)++iV one::(rr[y].map iV).drop (rr[y].idxOf x+1)=(ins rr[y] (some x) one).map iV:=by
   rw[←Ua,←Ur,←Qk,←Qt];rfl
  rw[e2]
  have hg:=zbf.tie (rsN rr) ah (one,rr[one]) n' hG (zf8 ho) lV (by rw[e'];exact cn) (by rw[e'];exact g9)
  rw[e']at hg
  have hg:Good (za5 (za5 (rsN rr) one (ins rr[one] (some ah) y)) y (ins (row (rsN rr) y) (some x) one)):=hg
  rw[row_N hy,set_N,set_N]at hg
  exact k b5 m5 _ _ (by rw[Wu,Wu]) hg (ba.keep (xs:=[as[y]]) (Keep.wr (by simp)) (by simpa using Zh (nap _ (Qm cM)))) (R7.set cM _) (k7.trans (Keep.wr (Qi _ (Qm cM))))
 ·rintro σ H' ⟨⟨x6,x7,rfl⟩,rfl⟩
  exact md b5 m5 H' cr oG
end
end K21
end
section
namespace Wb
def good_turn{α:Type}[DecidableEq α]{rs oh:Rs α}(h:Good rs)(hn:oh.map (·.1)=rs.map (·.1))(hr:∀x,∃k,row oh x=(row rs x).drop k++(row rs x).take k):Good oh:=by
 obtain⟨cs,a7,C⟩:=h
 exact⟨cs,a7,zd6 C (by rw[hn]) hr⟩
def idx_at{zs:List Nat}(nd:zs.Nodup){i:Nat}(h:i<zs.length):zs.idxOf zs[i]=i :=
 (Yv (h₀:=Ub.mpr (Qm h)) (h₁:=h) nd).mp (Jw _)
def leaf_N{rr:List (List Nat)}(hG:Good (rsN rr)){o j:Nat}(ho:o < rr.length)(hj:j≤rr[o].length) :
  Good (rsN (((rr++[[]]).set rr.length [o]).set o (rr[o].take j++rr.length::rr[o].drop j))):=by
 have hx:rr.length∉(rsN rr).map (·.1):=by rw[zc2];exact λz=>Yc _ (Ya.mp z)
 have bJ:rr.length≠o:=Yq ho
 have base:∀c,(∀y,c=some y→y∈rr[o])→(c=none→rr[o]=[])→Good (rsN (((rr++[[]]).set rr.length [o]).set o (ins rr[o] c rr.length))):=λc h1 h2=>by
  have:=zbf.leaf (rsN rr) rr.length (o,rr[o]) c hG hx (zf8 ho) h1 h2
  have this:Good (za5 (za5 (rsN rr++[(rr.length,[])]) o (ins rr[o] c rr.length)) rr.length [o]):=this
  rw[←snoc_N,set_N,set_N,List.set_comm _ _ (Zh bJ)]at this
  exact this
 by_cases hz:rr[o]=[]
 ·have:=base none (fun y z=>by cases z) fun _=>hz
  have e:rr[o].take j++rr.length::rr[o].drop j=ins rr[o] none rr.length:=by
   rw[hz];simp[ins]
  rw[e];exact this
 ·have nd:rr[o].Nodup:=(zbf.sub _ hG _ (zf8 ho)).1
  cases j with
  | succ i =>
   have hi:i<rr[o].length:=hj
   have:=base (some rr[o][i]) (λy z=>by cases z;exact Qm hi) λz=>by cases z
   have e:ins rr[o] (some rr[o][i]) rr.length=rr[o].take (i+1)++rr.length::rr[o].drop (i+1):=by
    show rr[o].take (rr[o].idxOf rr[o][i]+1)++rr.length::rr[o].drop (rr[o].idxOf rr[o][i]+1)=_
    rw[idx_at nd hi]
   rw[e]at this;exact this
  | zero =>
   have hp:0<rr[o].length:=Uq.mpr hz
   have hi:rr[o].length-1<rr[o].length:=by omega
   have hg:=base (some rr[o][rr[o].length-1]) (λy z=>by cases z;exact Qm hi) λz=>by cases z
   have e:ins rr[o] (some rr[o][rr[o].length-1]) rr.length=rr[o]++[rr.length]:=by
    show rr[o].take (rr[o].idxOf rr[o][rr[o].length-1]+1)++rr.length::rr[o].drop (rr[o].idxOf rr[o][rr[o].length-1]+1)=_
    rw[idx_at nd hi,show rr[o].length-1+1=rr[o].length by omega,List.take_length,List.drop_length]
   rw[e]at hg
   refine good_turn hg (by rw[zc2,zc2];simp) λx=>?_
   have bA:(((rr++[[]]).set rr.length [o]).set o (rr[o]++[rr.length])).length=rr.length+1:=by simp
   have ax:(((rr++[[]]).set rr.length [o]).set o (rr[o].take 0++rr.length::rr[o].drop 0)).length=rr.length+1:=by simp
   by_cases mG:x<rr.length+1
   ·rw [row_N (by rw [ax];exact mG),row_N (by rw [bA];exact mG)]
    by_cases jG:x=o
    ·subst jG
     rw[List.getElem_set_self,List.getElem_set_self]
     exact⟨rr[x].length,by rw[List.drop_left,List.take_left];rfl⟩
    ·rw [Jp (Zh jG),Jp (Zh jG)]
     exact⟨0,by simp⟩
   ·rw [row_No (by rw [ax];exact mG),row_No (by rw [bA];exact mG)]
    exact⟨0,rfl⟩
def new_N{rr:List (List Nat)}(hG:Good (rsN rr)):Good (rsN (rr++[[]])):=by
 rw[snoc_N]
 exact zbf.new _ _ hG (by rw[zc2];exact λz=>Yc _ (Ya.mp z))
def nil_N:Good (rsN []):=zbf.nil
end Wb
namespace K21
open PySem L2 Wb
abbrev zg0:Stmt:=top 32
def NAt.snoc(R:NAt H l as rr)(he:H e=some (.lst []))(aE:e∉as)(dW:l≠e):NAt (upd H l (.lst (as.map V.ref++[.ref e]))) l (as++[e]) (rr++[[]]):=by
 refine⟨by rw[zac,Qt];rfl,?_,?_⟩
 ·have rE:=R.apart
  have hr:=R.ro
  clear R
  induction hr with
  |nil=>exact .cons (by rw[zad (Zh dW)];exact he) .nil
  | cons r t ih =>
   rw[Qh,not_or]at rE aE
   refine .cons (by rw[zad (Zh rE.1)];exact r) ?_
   have key:∀{zs:List V} {xs:Nl} {ys:List (List Nat)},Paired (λa r=>H a=some (.lst (r.map iV))) xs ys→l∉xs→Paired (λa r=>(upd H l (.lst zs)) a=some (.lst (r.map iV))) (xs++[e]) (ys++[[]]):=by
    intro zs xs ys hp
    induction hp with
    |nil=>intro _;exact .cons (by rw[zad (Zh dW)];exact he) .nil
    |cons q t' ih' =>
     intro hn
     rw[Qh,not_or]at hn
     exact .cons (by rw[zad (Zh hn.1)];exact q) (ih' hn.2)
   exact key t rE.2
 ·rw [Qz]
  exact⟨R.nd,Qy.mpr ⟨by simp,Zq⟩,λa ha b hb z=>aE (by rw[←Qb.mp hb,←z];exact ha)⟩
inductive zgo(vs:List V)(H:Hp)(Q:VK):Prop
 |mk (p:Nc) (b m:Int) (n:Nat) (h0:vs=[.ref p,iV n]) (h1:Pot H p b m) (h2:n≤40)
  (h3:∀(l:Nc) (as:Nl) (rr:List (List Nat)) (b' m':Int) (H':Hp),NAt H' l as rr→Good (rsN rr)→rr.length≤40→Pot H' p b' m'→p∉as→H l=none→(∀a∈as,H a=none)→Keep [p] H H'→Q (.ref l) H'):zgo vs H Q
def spRoundsD:Sp:=λvs H Q _=>zgo vs H Q
section
variable{P:Nj}{w:Nk}{K:Na}{mg:Nf}{base:Nm}
def zdr:zao [qP, "_law_most",qR, "_law_k",qO] [qP, "_law_most"] (zag zg0):=fsk
def ok_rounds(F:Fun K "_law_rounds" "_law_rounds" zg0 f fd)(FT:Fun K qG qG zer ft fdt)(bT:Binds K fdt [qP,qM] [])(mT:mg qG=some (.ref ft))(GT:FnOk P w K mg base CX0 1 ft fdt [qP,qM] zge)(FI:Fun K "_law_tie" "_law_tie" sTie fi fdi)(bI:Binds K fdi [qP,qR] [])(mI:mg "_law_tie" = some (.ref fi))(GI:FnOk P w K mg base CX0 3 fi fdi [qP,qR] spTieD)(a9:mg "len" = none)(aZ:mg "range" = none):FnOk P w K mg base CX0 4 f fd [qP, "_law_most"] spRoundsD:=by
 refine F.okL zdr (λcdv A outer s H vs Q E hr h=>?_)
 obtain⟨p,b,m,n,rfl,hp,hn,k⟩:=h
 have hu:=zb7 hr
 have aH:Room 1 _:=hr.mono (by decide)
 have aB  := sizeLine_eq
 refine⟨_,zae (zat 2 zdr.nd (za4 zaf))
  (zae (zbd Zf rfl (zcg rfl aZ (zaa (zak GT aH rfl mT FT.kp bT .nil za0 (zaa (pv 0) (zaa (zaq zbk (pv 1) zai) zaf))) zaf)) (za9 3 zdr.nd)
   (zae (zax (zch Zc Zu Zt zbc (pv 2) (zaa (za4 zaf) zaf)))
   (zah (zb2 (PW.pt (pw_and (zaw op_gt (pv 3) zai (zbp _)) (zg6 (zaw op_gt (zak GT aH rfl mT FT.kp bT .nil za0 (zaa (pv 0) (zaa zai zaf))) zai (zbp _)))))
    (zae (zat 4 zdr.nd (zak GT aH rfl mT FT.kp bT .nil za0 (zaa (pv 0) (zaa (pv 3) zaf))))
    (zae (zax (zch Zc Zu Zt zbc (za6 zap (pv 2) (pv 3) (λ_ _=>rfl)) (zaa (pv 4) zaf)))
    (zah (zax (zch Zc Kl Kk zfs (za6 zap (pv 2) (pv 4) (λ_ _=>rfl)) (zaa (zak GT aH rfl mT FT.kp bT .nil za0 (zaa (pv 0) (zaa (zaq zbk (zaj zam (by rfl) a9 Zr (zaa (za6 zap (pv 2) (pv 4) (λ_ _=>rfl)) zaf)) zai) zaf))) (zaa (pv 3) zaf))))))) za1))))
  (zae (zbd Zf rfl (zcg rfl aZ (zaa (zak GT aH rfl mT FT.kp bT .nil za0 (zaa (pv 0) (zaa (za6 zap (za4 (zaa zai (zaa (zaq zbk (zaj zam (by rfl) a9 Zr (zaa (pv 2) zaf)) zai) (zaa (zaq zbk (zaq zfk zai (zaj zam (by rfl) a9 Zr (zaa (pv 2) zaf))) zai) zaf))))
     (zak GT aH rfl mT FT.kp bT .nil za0 (zaa (pv 0) (zaa zai zaf))) (λ_ _=>rfl)) zaf))) zaf)) (za9 3 zdr.nd)
   (zah (zax (zak GI hr rfl mI FI.kp bI .nil za0 (zaa (pv 0) (zaa (pv 2) zaf))))))
  (zah (zbb (pv 2))))),?_⟩
 refine⟨(by show 0≤sizeLine;decide),λl hl=>?_⟩
 have k1:Keep [p] H (upd H l (.lst [])):=Keep.new hl
 have bH:Pot (upd H l (.lst [])) p b m:=hp.keep (xs:=[]) (Keep.new hl) (by simp)
 have nlp:l≠p:=Zh (zab hp.1 hl)
 have R1:NAt (upd H l (.lst [])) l [] []:=⟨zac,.nil,Zq⟩
 generalize upd H l (.lst [])=H1 at k1 bH R1
 refine⟨_,rfl,_,rfl,_,_,rfl,rfl,p,b,m,_,rfl,bH,by omega,by omega,λj2 b2 m2 H2 iW qu aD ko=>?_⟩
 have k2:Keep [p] H H2:=k1.trans (za3 ko)
 have R2:NAt H2 l [] []:=R1.keep (za3 ko) (by simpa using nlp) λa ha=>by cases ha
 obtain⟨many,rfl⟩:=Zl iW
 have hmany:many≤40:=by omega
 refine⟨_,rfl,by omega,by omega,?_⟩
 refine zcl (lo:=0) (λi σ H'=>Aj3 (Ex2 λx3 x4=>σ=[some (.ref p),some (iV n),some (.ref l),x3,x4]) (Keep [p] H H') (Ex4 λ(as:Nl) (rr:List (List Nat)) (b' m':Int)=>Aj6 (NAt H' l as rr) (Good (rsN rr)) (rr.length=i) (Pot H' p b' m') (p∉as) (∀a∈as,H a=none)))
  ⟨⟨_,_,rfl⟩,k2,[],[],b2,m2,R2,nil_N,rfl,aD,by simp,λa ha=>by cases ha⟩ ?_ ?_
 ·rintro i σ H3 hi ⟨⟨x3,x4,rfl⟩,k3,as,rr,b3,m3,R3,lZ,bi,bd,aO,cS⟩
  have hi40:rr.length<40:=by omega
  refine⟨_,rfl,.inl ⟨rfl,_,SqL.of R3.ls⟩,(by show 0≤sizeLine;decide),λe he=>?_⟩
  have R4:NAt (upd H3 e (.lst [])) l as rr:=R3.k0 (Keep.new he)
  have he4:(upd H3 e (.lst [])) e=some (.lst []):=zac
  have dW:l≠e:=zab R3.ls he
  have aE:e∉as:=λz=>by
   obtain⟨r,hr⟩:=R3.mem z
   rw[he]at hr;cases hr
  have nep:e≠p:=Zh (zab bd.1 he)
  have feH:H e=none:=zav k3 he (by simpa using nep)
  have gN:(as.map V.ref).length=rr.length:=by rw[Qa];exact R3.len
  refine⟨l,_,_,rfl,rfl,R4.ls,by omega,?_⟩
  have R5:=R4.snoc he4 aE dW
  have k5:Keep [p] H (upd (upd H3 e (.lst [])) l (.lst (as.map V.ref++[.ref e]))):=λc u ec hc=>by
   have h1:=k3 c u ec hc
   rw[zad (λz=>by rw[z,hl]at ec;cases ec),zad (zab h1 he)];exact h1
  have ay:Pot (upd (upd H3 e (.lst [])) l (.lst (as.map V.ref++[.ref e]))) p b3 m3:=(bd.keep (xs:=[]) (Keep.new he) (by simp)).keep (xs:=[l]) (Keep.wr (by simp)) (by simpa using Zh nlp)
  generalize upd (upd H3 e (.lst [])) l (.lst (as.map V.ref++[.ref e]))=H5 at R5 k5 ay
  have bZ:p∉as++[e]:=λz=>by
   rcases Qd.mp z with y | y
   ·exact aO y
   ·exact nep (Qb.mp y).symm
  have aP:∀a∈as++[e],H a=none:=λa ha=>by
   rcases Qd.mp ha with y | y
   ·exact cS a y
   ·rw[Qb.mp y];exact feH
  have e7:(rr++[[]]).length=i+1:=by rw[Qp,bi];rfl
  have stop:∀(x3 x4:Option V) (b' m':Int) (H':Hp),Pot H' p b' m'→NAt H' l (as++[e]) (rr++[[]])→Keep [p] H H'→Aj3 (Ex2 λy3 y4=>[some (V.ref p),some (iV n),some (.ref l),x3,x4]=[some (V.ref p),some (iV n),some (.ref l),y3,y4]) (Keep [p] H H') (Ex4 λ(as:Nl) (rr:List (List Nat)) (b' m':Int)=>Aj6 (NAt H' l as rr) (Good (rsN rr)) (rr.length=i+1) (Pot H' p b' m') (p∉as) (∀a∈as,H a=none)):=λx3 x4 b' m' H' c7 R' k' =>
   ⟨⟨_,_,rfl⟩,k',_,_,b',m',R',new_N lZ,e7,c7,bZ,aP⟩
  refine⟨_,rfl,_,_,rfl,rfl,_,rfl,?_⟩
  by_cases hi0:i=0
  ·exact zbi (decide_eq_false (by omega)) (iteF (stop _ _ b3 m3 H5 ay R5 k5))
  refine zbm (decide_eq_true (by omega)) ?_
  refine⟨_,rfl,p,b3,m3,6,rfl,ay,by decide,by decide,λj6 b6 m6 H6 _ _ cr mw=>⟨_,_,rfl,rfl,_,rfl,?_⟩⟩
  have k6:Keep [p] H H6:=k5.trans (za3 mw)
  have cY:∀a∈as++[e],a≠p:=λa ha z=>bZ (z▸ha)
  have R6:NAt H6 l (as++[e]) (rr++[[]]):=R5.keep (za3 mw) (by simpa using nlp) λa ha=>by simpa using cY a ha
  cases decide (j6>0) with
  |false=>exact iteF (stop _ _ b6 m6 H6 cr R6 k6)
  | true =>
   refine iteT ?_
   refine⟨_,rfl,_,rfl,p,b6,m6,_,rfl,cr,by omega,by omega,λj7 b7 m7 H7 qo hj71 ba mv=>?_⟩
   obtain⟨ot,rfl⟩:=Zl qo
   have pS:ot<rr.length:=by omega
   have k7:Keep [p] H H7:=k6.trans (za3 mv)
   have R7:NAt H7 l (as++[e]) (rr++[[]]):=R6.keep (za3 mv) (by simpa using nlp) λa ha=>by simpa using cY a ha
   have dC:as.length=rr.length:=R3.len
   have lm:rr.length<(as++[e]).length:=by rw[Qp,dC];exact Ym _
   have hkR:rr.length<(rr++[[]]).length:=by rw[Qp];exact Ym _
   have a1:∀{c:Nat} (h:c<(as++[e]).length),atI ((as++[e]).map V.ref) (c:Int)=some (.ref (as++[e])[c]):=λh=>zau (by rw[Qu,Qc h];rfl)
   have ei:(0:Int)+(i:Int)=((rr.length:Nat):Int):=by omega
   have az:=R7.row lm hkR
   have e0:(rr++[[]])[rr.length]'hkR=[]:=by simp
   rw[e0]at az
   refine⟨_,rfl,_,rfl,l,_,_,.ref (as++[e])[rr.length],rfl,rfl,SqL.of R7.ls,(by rw[ei];exact a1 lm),.inl ⟨rfl,_,SqL.of az⟩,_,rfl,_,_,_,rfl,rfl,az,by decide,?_⟩
   have k8:Keep [p] H (upd H7 (as++[e])[rr.length] (.lst ([ot].map iV))):=λc u ec hc=>by
    rw[zad (λz=>by rw[z,aP _ (Qm lm)]at ec;cases ec)];exact k7 c u ec hc
   have R8:=R7.set lm [ot]
   have mZ:Pot (upd H7 (as++[e])[rr.length] (.lst ([ot].map iV))) p b7 m7:=ba.keep (xs:=[(as++[e])[rr.length]]) (Keep.wr (by simp)) (by simpa using Zh (cY _ (Qm lm)))
   rw[show List.map iV ([]:List Nat)++[V.int (ot:Int)]=[ot].map iV from rfl]
   generalize upd H7 (as++[e])[rr.length] (.lst ([ot].map iV))=H8 at k8 R8 mZ
   have cD:ot<(as++[e]).length:=by omega
   have pR:ot<((rr++[[]]).set rr.length [ot]).length:=by rw[Wu];omega
   have cO:=R8.row cD pR
   have e8:((rr++[[]]).set rr.length [ot])[ot]'pR=rr[ot]:=by
    rw[Jp (by omega),List.getElem_append_left pS]
   rw[e8]at cO
   have pU:rr[ot].length≤900:=by
    have:=zbf.rows lZ _ (zf8 pS)
    rw[show(rsN rr).length=rr.length by unfold rsN;rw[List.length_map,List.length_range]]at this
    exact Zj this (by omega)
   have hml8:(rr[ot].map iV).length=rr[ot].length:=Qa ..
   refine⟨_,rfl,_,rfl,l,_,_,_,rfl,rfl,SqL.of R8.ls,a1 cD,.inl ⟨rfl,_,SqL.of cO⟩,_,rfl,_,rfl,_,rfl,l,_,_,_,rfl,rfl,SqL.of R8.ls,a1 cD,_,_,rfl,.inl (SqL.of cO),_,_,rfl,rfl,p,b7,m7,_,rfl,mZ,by omega,by omega,λj9 b9 m9 H9 qm hj91 hp9 oE=>?_⟩
   obtain⟨jn,rfl⟩:=Zl qm
   have nn:jn≤rr[ot].length:=by omega
   have kQ:=oE _ _ cO (cY _ (Qm cD))
   refine⟨_,rfl,_,_,_,jn,rfl,rfl,kQ,by omega,by omega,?_⟩
   have R9:NAt H9 l (as++[e]) ((rr++[[]]).set rr.length [ot]):=R8.keep (za3 oE) (by simpa using nlp) λa ha=>by simpa using cY a ha
   have e9:(rr[ot].map iV).take jn++V.int (0+(i:Int))::(rr[ot].map iV).drop jn=(rr[ot].take jn++rr.length::rr[ot].drop jn).map iV:=by
    rw[ei,Qt,Qk,Ua,Ur]
   rw[e9]
   refine⟨⟨_,_,rfl⟩,λc u ec hc=>?_,as++[e],_,b9,m9,R9.set cD _,leaf_N lZ pS nn,by rw[Wu,Wu];exact e7,hp9.keep (xs:=[(as++[e])[ot]]) (Keep.wr (by simp)) (by simpa using Zh (cY _ (Qm cD))),bZ,aP⟩
   rw[zad (λz=>by rw[z,aP _ (Qm cD)]at ec;cases ec)]
   exact(k8.trans (za3 oE)) c u ec hc
 ·rintro σ H3 ⟨⟨x3,x4,rfl⟩,k3,as,rr,b3,m3,R3,lZ,bi,bd,aO,cS⟩
  have gN:(as.map V.ref).length=rr.length:=by rw[Qa];exact R3.len
  refine⟨_,rfl,_,rfl,l,_,rfl,.inl (SqL.of R3.ls),_,_,rfl,rfl,_,rfl,l,_,rfl,.inl (SqL.of R3.ls),_,_,rfl,rfl,.inl ⟨by decide,by decide⟩,_,_,rfl,rfl,(by show 3≤sizeLine;decide),λq hq=>?_⟩
  have k4:Keep [] H3 (upd H3 q (.lst [.int 1,.int (((as.map V.ref).length:Int)+1),.int (3*((as.map V.ref).length:Int)+1)])):=Keep.new hq
  have mV:(upd H3 q (.lst [.int 1,.int (((as.map V.ref).length:Int)+1),.int (3*((as.map V.ref).length:Int)+1)])) q=some (.lst [.int 1,.int (((as.map V.ref).length:Int)+1),.int (3*((as.map V.ref).length:Int)+1)]):=zac
  have nqp:q≠p:=Zh (zab bd.1 hq)
  generalize upd H3 q (.lst [.int 1,.int (((as.map V.ref).length:Int)+1),.int (3*((as.map V.ref).length:Int)+1)])=H4 at k4 mV
  have bz:=bd.keep k4 (by simp)
  refine⟨_,rfl,p,b3,m3,3,rfl,bz,by decide,by decide,λj5 b5 m5 H5 iT qq ay gG=>?_⟩
  have fF:=gG _ _ mV nqp
  obtain⟨v,hv,hv1,hv2,hv3⟩:∃v:Int,atI [V.int 1,V.int (((as.map V.ref).length:Int)+1),V.int (3*((as.map V.ref).length:Int)+1)] j5=some (.int v)∧0<v∧v≤121∧(rr.length=0→v=1):=by
   obtain⟨jn,rfl⟩:=Zl iT
   have:jn=0∨jn=1∨jn=2:=by omega
   rcases this with rfl | rfl | rfl
   ·exact⟨_,zau rfl,by decide,by decide,λ_=>rfl⟩
   ·exact⟨_,zau rfl,by omega,by omega,λz=>by omega⟩
   ·exact⟨_,zau rfl,by omega,by omega,λz=>by omega⟩
  refine⟨q,_,_,.int v,rfl,rfl,SqL.of fF,hv,p,b5,m5,v,rfl,ay,hv1,by omega,λj6 b6 m6 H6 qp hj61 cr mw=>?_⟩
  have k6:Keep [p] H3 H6:=(k4.sub (by simp)).trans ((za3 gG).trans (za3 mw))
  have nap:∀a∈as,a≠p:=λa ha z=>aO (z▸ha)
  have R6:NAt H6 l as rr:=R3.keep k6 (by simpa using nlp) λa ha=>by simpa using nap a ha
  obtain⟨jn,rfl⟩:=Zl qp
  refine⟨_,rfl,by omega,by omega,?_⟩
  refine zcl (lo:=0) (λi σ H'=>Aj3 (Ex2 λx3 x4=>σ=[some (.ref p),some (iV n),some (.ref l),x3,x4]) (Keep [p] H H') (Ex3 λ(cX:List (List Nat)) (b' m':Int)=>Aj4 (NAt H' l as cX) (Good (rsN cX)) (cX.length=rr.length) (Pot H' p b' m')))
   ⟨⟨_,_,rfl⟩,k3.trans k6,rr,b6,m6,R6,lZ,rfl,cr⟩ ?_ ?_
  ·rintro i σ H7 hi ⟨⟨y3,y4,rfl⟩,k7,cX,b7,m7,R7,rJ,cb,ba⟩
   refine⟨_,rfl,_,rfl,p,l,b7,m7,as,cX,rfl,ba,R7,rJ,by omega,by omega,aO,λb8 m8 rr8 H8 ni hG8 mZ R8 k8=>?_⟩
   refine⟨⟨_,_,rfl⟩,λc u ec hc=>k8 c u (k7 c u ec hc) λz=>?_,rr8,b8,m8,R8,hG8,ni.trans cb,mZ⟩
   rcases Qh.mp z with y | y
   ·exact hc (by rw[y];exact Qb.mpr rfl)
   ·rw[cS c y]at ec;cases ec
  ·rintro σ H7 ⟨⟨y3,y4,rfl⟩,k7,cX,b7,m7,R7,rJ,cb,ba⟩
   exact⟨_,rfl,k l as cX b7 m7 H7 R7 rJ (by omega) ba aO hl cS k7⟩
end
end K21
end
section
namespace L2
open PySem PySem.Spec PyProof.Rows
theorem picks_to(cs:List Nat):∀b:Nat,b≤cs.length→(List.range b).filterMap (cs[·]?)=cs.take b
 |0,_=>by simp
 |b+1,h=>by
  rw[Kv,List.filterMap_append,picks_to cs b (by omega),Ql (by omega)]
  simp[Qc (show b<cs.length by omega)]
def indices_to{b n:Nat}(h:b≤n):PySem.Builtin.Str.strSliceIndices none (some (b:Int)) 1 n=List.range b:=by
 have:=PySem.StrLaws.strSliceIndices_plain (a:=0) (b:=b) (len:=n) (Zn _) h
 have e:PySem.Builtin.Str.strSliceIndices none (some (b:Int)) 1 n=PySem.Builtin.Str.strSliceIndices (some ((0:Nat):Int)) (some (b:Int)) 1 n:=by
  unfold PySem.Builtin.Str.strSliceIndices
  simp
  rw[show max (0:Int) (min 0 (n:Int))=0 by omega]
 rw[e,this]
 simp
section
variable{X:Cx}
def sl_strP:SlR X (λx lo hi H Q=>Ex2 λ(z:Str) (j:Nat)=>Aj6 (x=.str z) (lo=none) (hi=some (j:Int)) (j≤z.length) (z.length≤sizeLine) (∀y:Str,y.cps.toList=z.cps.toList.take j→Q (.str y) H)):=by
 intro a5 s σ H x v vl vu lo hi sl Q I rx hs pl pu h
 obtain⟨z,j,rfl,rfl,rfl,hj,hz,q⟩:=h
 obtain⟨t,rfl⟩:=rx
 cases pl
 cases pu
 rename_i tj
 have hi:=indices_to hj
 have a9:z.cps.toList.length=z.length:=by simp[Str.length]
 refine⟨"str",_,PySem.F.slot_str_getitem.lookup,typeIs_str s z t,wpAny_getItem_str_slice (l:=none) (u:=some ((j:Int),tj)) (st:=none) hs rfl ?_⟩
 have e1:slicePicked z none (some ((j:Int),tj)) none=List.range j:=hi
 unfold sliceMade
 rw[e1]
 split
 ·rename_i hc
  have bG:j=z.length:=by simpa using hc
  exact⟨.str z,H,I,⟨t,rfl⟩,q z (by rw[bG,←a9,List.take_length])⟩
 ·refine ⟨?_,⟨.str _,H,I.tok _,⟨_,rfl⟩,q _ ?_⟩⟩
  ·show ((List.range j).filterMap (z.cps[·]?)).toArray.size≤sizeLine
   rw[Qq]
   exact Zj (List.length_filterMap_le ..) (by rw[Yr];exact Zj hj hz)
  ·show ((List.range j).filterMap (z.cps[·]?)).toArray.toList=_
   rw[List.toList_toArray]
   have:=picks_to z.cps.toList j (by rw[a9];exact hj)
   rw[←this]
   simp
end
end L2
end
section
namespace K21
open PySem L2 Wb
abbrev sCount:Stmt:=top 27
abbrev sNames:Stmt:=top 28
def cntF(ls:List Nat):Nat→Nat→List Nat
 |0,_=>[]
 |f+1,n=>if n=0 then[] else cntF ls f ((n-1)/ls.length)++[ls.getD ((n-1)%ls.length) 0]
theorem cntF_zero(ls:List Nat):∀f,cntF ls f 0=[]
 |0=>rfl
 |_+1=>rfl
inductive IspCount(vs:List V)(H:Hp)(Q:VK):Prop
 |mk (n:Nat) (ls:Str) (h0:vs=[iV n,.str ls]) (h1:n≤1000) (h2:2≤ls.length) (h3:ls.length≤1000) (h4:∀z:Str,z.cps.toList=cntF ls.cps.toList n n→Q (.str z) H):IspCount vs H Q
def spCount:Sp:=λvs H Q _=>IspCount vs H Q
def str_len(z:Str):z.cps.toList.length=z.length:=by simp[Str.length]
def zhm(a b:Str):(a++b).cps.toList=a.cps.toList++b.cps.toList:=by
 show(a.cps++b.cps).toList=_
 simp
def app_len(a b:Str):(a++b).length=a.length+b.length:=by
 rw[←str_len,←str_len,←str_len,zhm,Qp]
section
variable{P:Nj}{w:Nk}{K:Na}{mg:Nf}{base:Nm}
def zgy:zao ["_law_number", "_law_letters", "_law_name"] ["_law_number", "_law_letters"] (zag sCount):=fsk
def ok_count(F:Fun K "_law_counted" "_law_counted" sCount f fd)(a9:mg "len" = none):FnOk P w K mg base CX0 1 f fd ["_law_number", "_law_letters"] spCount:=by
 refine F.okL zgy (λcdv A outer s H vs Q E hr h=>?_)
 obtain⟨n,ls,rfl,hn,ax,li,k⟩:=h
 have aB:=sizeLine_eq
 refine⟨_,zae (zat 2 zgy.nd zc0)
  (zae (zc7 Zf (zaw op_gt (pv 0) zai (zbp _))
   (zae (zat 2 zgy.nd (zaq zee (za6 ix_str (pv 1) (zaq zcc (zaq op_sub (pv 0) zai) (zaj zbw (by rfl) a9 Zr (zaa (pv 1) zaf))) (λ_ _=>rfl)) (pv 2)))
   (zah (zat 0 zgy.nd (zaq zfl (zaq op_sub (pv 0) zai) (zaj zbw (by rfl) a9 Zr (zaa (pv 1) zaf)))))))
  (zah (zbb (pv 2)))),?_⟩
 have fH:=str_len ls
 refine⟨λm σ H'=>Ex3 λ(c f:Nat) (z:Str)=>Aj6 (m=c) (σ=[some (iV c),some (.str ls),some (.str z)]) (H'=H) (c≤f) (cntF ls.cps.toList f c++z.cps.toList=cntF ls.cps.toList n n) (z.length+c≤n),
  ⟨n,n,n, "",rfl,rfl,rfl,Qf _,by simp;rfl,by show 0+n≤n;omega⟩,?_⟩
 rintro m σ H' ⟨c,f,z,rfl,rfl,rfl,hcf,he,g7⟩
 refine⟨_,rfl,_,_,rfl,rfl,_,rfl,?_⟩
 by_cases h0:m=0
 ·subst h0
  refine zbi (decide_eq_false (by omega)) ?_
  rw[cntF_zero]at he
  exact⟨_,rfl,k z he⟩
 ·refine zbm (decide_eq_true (by omega)) ?_
  cases f with
  |zero=>omega
  | succ f =>
   have e1:(m:Int)-1=((m-1:Nat):Int):=by omega
   have qc:(m-1)%ls.length<ls.length:=Wo _ (by omega)
   have dB:atI ls.cps.toList (((m:Int)-1)%(ls.length:Int))=some (ls.cps.toList.getD ((m-1)%ls.length) 0):=by
    rw[e1,←Int.natCast_emod]
    refine zau ?_
    rw[Qv,Qc (by rw[fH];exact qc)];rfl
   refine⟨_,λ σ' H' z=>z,?_⟩
   refine⟨_,rfl,_,rfl,_,_,rfl,rfl,_,rfl,_,rfl,by omega,_,_,rfl,rfl,by show(0:Int)<(ls.length:Int);omega,_,_,_,rfl,rfl,by omega,dB,_,rfl,_,_,rfl,rfl,by show 1+z.length≤sizeLine;omega,?_⟩
   refine⟨_,rfl,_,_,rfl,rfl,_,rfl,_,rfl,by omega,_,_,rfl,rfl,⟨by omega,by omega⟩,?_⟩
   have e2:((m:Int)-1)/(ls.length:Int)=(((m-1)/ls.length:Nat):Int):=by rw[e1];exact(Int.natCast_ediv ..).symm
   have dW:(m-1)/ls.length≤m-1:=Nat.div_le_self _ _
   rw[e2]
   refine⟨(m-1)/ls.length,by omega,(m-1)/ls.length,f,_,rfl,rfl,rfl,by omega,?_,?_⟩
   ·rw [← he,zhm]
    show cntF _ f _++([_]++_)=(if m=0 then[] else cntF ls.cps.toList f ((m-1)/ls.cps.toList.length)++[ls.cps.toList.getD ((m-1)%ls.cps.toList.length) 0])++_
    rw[if_neg h0,fH,Qw]
   ·rw [app_len]
    show 1+z.length+(m-1)/ls.length≤n
    omega
end
def zcd(j:Nat):Str:=[("ab" : Str), "za", "xyz", "qn"].getD j "ab"
def nmF(way many first mi:Nat)(tl:List Nat)(k:Nat):List Nat :=
 if way=0∧many≤26 then[97+(first+mi*k)%676%26]
 else if way=1 then cntF (zcd (tl.length%4)).cps.toList (1+(first+mi*k)%97) (1+(first+mi*k)%97)
 else[97+(first+mi*k)%676/26,97+(first+mi*k)%676%26]++tl.take ((first+k)%(tl.length+1))
def cnt_nd:∀j<4,((List.range 97).map λi=>cntF (zcd j).cps.toList (1+i) (1+i)).Nodup:=by decide +kernel
def cnt_ok:∀j<4,∀i<97,1≤(cntF (zcd j).cps.toList (1+i) (1+i)).length∧(cntF (zcd j).cps.toList (1+i) (1+i)).length≤8∧∀c∈cntF (zcd j).cps.toList (1+i) (1+i),97≤c∧c≤122:=by decide +kernel
def cnt_inj{j a b:Nat}(hj:j<4)(ha:a<97)(hb:b<97)(h:cntF (zcd j).cps.toList (1+a) (1+a)=cntF (zcd j).cps.toList (1+b) (1+b)):a=b:=by
 refine(Yv (h₀:=by rw[Qa,Yr];exact ha) (h₁:=by rw[Qa,Yr];exact hb) (cnt_nd j hj)).mp ?_
 rw[Zs,Zs,Uv,Uv]
 exact h
def byS:List Nat:=[1,3,5,7,9,25,27,675]
def by_inj{b f a c:Nat}(hb:b∈byS)(ha:a<40)(hc:c<40)(h:(f+b*a)%676=(f+b*c)%676):a=c:=by
 simp[byS]at hb
 rcases hb with rfl | rfl | rfl | rfl | rfl | rfl | rfl | rfl<;>omega
def by_inj97{b f a c:Nat}(hb:b∈byS)(ha:a<40)(hc:c<40)(h:(f+b*a)%97=(f+b*c)%97):a=c:=by
 simp[byS]at hb
 rcases hb with rfl | rfl | rfl | rfl | rfl | rfl | rfl | rfl<;>omega
def by_inj26{b f a c:Nat}(hb:b∈byS)(ha:a<26)(hc:c<26)(h:(f+b*a)%676%26=(f+b*c)%676%26):a=c:=by
 simp[byS]at hb
 rcases hb with rfl | rfl | rfl | rfl | rfl | rfl | rfl | rfl<;>omega
def nm_inj{way many f b a c:Nat}{tl:List Nat}(hb:b∈byS)(hm:many≤40)(ha:a<many)(hc:c<many)(h:nmF way many f b tl a=nmF way many f b tl c):a=c:=by
 unfold nmF at h
 split at h
 ·rename_i z
  have h:97+(f+b*a)%676%26=97+(f+b*c)%676%26:=by injection h
  exact by_inj26 (f:=f) hb (by omega) (by omega) (by omega)
 ·split at h
  ·exact by_inj97 hb (by omega) (by omega) (cnt_inj (Wo _ (by decide)) (Wo _ (by decide)) (Wo _ (by decide)) h)
  ·rw [Yf,Yf,Yf,Yf] at h
   injection h with h1 h2
   injection h2 with h2 _
   exact by_inj (f:=f) hb (by omega) (by omega) (by omega)
def nm_ok{way many f b k:Nat}{tl:List Nat}(ht:tl.length≤6)(hc:∀c∈tl,97≤c∧c≤122):1≤(nmF way many f b tl k).length∧(nmF way many f b tl k).length≤8∧∀c∈nmF way many f b tl k,97≤c∧c≤122:=by
 unfold nmF
 split
 ·refine ⟨Qf _,by show 1≤8;decide,fun c h=>?_⟩
  rw[Qb.mp h];omega
 ·split
  ·exact cnt_ok _ (Wo _ (by decide)) _ (Wo _ (by decide))
  ·refine ⟨by simp,by simp [Zg];omega,fun c h=>?_⟩
   rw[Yf,Yf,Ue,Qh,Qh]at h
   rcases h with h | h | h
   ·omega
   ·omega
   ·exact hc c (Ys h)
def cnt_not:∀j<4,∀i<97,cntF (zcd j).cps.toList (1+i) (1+i)≠("nobody" : Str).cps.toList:=by decide +kernel
def nm_not{way many f b k:Nat}{tl:List Nat}(ht:∀ c t,tl=c::t→c=110):nmF way many f b tl k≠("nobody" : Str).cps.toList:=by
 have e:("nobody" : Str).cps.toList=[110,111,98,111,100,121]:=rfl
 unfold nmF
 split
 ·rw[e];simp
 ·split
  ·exact cnt_not _ (Wo _ (by decide)) _ (Wo _ (by decide))
  ·rw [e]
   intro h
   rw[Yf,Yf,Ue]at h
   injection h with _ h
   injection h with _ h
   cases tl with
   |nil=>simp at h
   | cons c t =>
    have:=ht c t rfl
    cases hk:(f+k)%((c::t).length+1) with
    |zero=>rw[hk]at h;simp at h
    |succ n =>
     rw[hk,List.take_succ_cons]at h
     injection h with h _
     omega
inductive IspNames(vs:List V)(H:Hp)(Q:VK):Prop
 |mk (p:Nc) (b m:Int) (n:Nat) (h0:vs=[.ref p,iV n]) (h1:Pot H p b m) (h2:n≤40) (h3:∀(l:Nc) (zs:Ng) (b' m':Int) (H':Hp),H' l=some (.lst (zs.map V.str))→zs.length=n→zs.Nodup→(∀z∈zs,zcv z∧z ≠ "nobody")→Pot H' p b' m'→H l=none→Keep [p] H H'→Q (.ref l) H'):IspNames vs H Q
def spNames:Sp:=λvs H Q _=>IspNames vs H Q
section
variable{P:Nj}{w:Nk}{K:Na}{mg:Nf}{base:Nm}
def zce:zao [qP,qM, "_law_letters", "_law_first", "_law_by", "_law_tail", "_law_way", "_law_found", "_law_k", "_law_at", "_law_name"] [qP,qM] (zag sNames):=fsk
def ok_names(F:Fun K "_law_names" "_law_names" sNames f fd)(FT:Fun K qG qG zer ft fdt)(bT:Binds K fdt [qP,qM] [])(mT:mg qG=some (.ref ft))(GT:FnOk P w K mg base CX0 1 ft fdt [qP,qM] zge)(FC:Fun K "_law_counted" "_law_counted" sCount fc fdc)(bC:Binds K fdc ["_law_number", "_law_letters"] [])(mC:mg "_law_counted" = some (.ref fc))(GC:FnOk P w K mg base CX0 1 fc fdc ["_law_number", "_law_letters"] spCount)(a9:mg "len" = none)(aZ:mg "range" = none):FnOk P w K mg base CX0 2 f fd [qP,qM] spNames:=by
 refine F.okL zce (λcdv A outer s H vs Q E hr h=>?_)
 obtain⟨p,b,m,n,rfl,hp,hn,k⟩:=h
 have aB:=sizeLine_eq
 refine⟨_,zae (zat 2 zce.nd zc0)
  (zae (zat 3 zce.nd (zak GT hr rfl mT FT.kp bT .nil za0 (zaa (pv 0) (zaa zai zaf))))
  (zae (zat 4 zce.nd (za6 zap (za4 (zaa zai (zaa zai (zaa zai (zaa zai (zaa zai (zaa zai (zaa zai (zaa zai zaf))))))))) (zak GT hr rfl mT FT.kp bT .nil za0 (zaa (pv 0) (zaa zai zaf))) (λ_ _=>rfl)))
  (zae (zat 5 zce.nd (zbt sl_strP zc0 zbx (zb3 (zak GT hr rfl mT FT.kp bT .nil za0 (zaa (pv 0) (zaa zai zaf))))))
  (zae (zat 6 zce.nd (zak GT hr rfl mT FT.kp bT .nil za0 (zaa (pv 0) (zaa zai zaf))))
  (zae (zat 7 zce.nd (za4 zaf))
  (zae (zbd Zf rfl (zcg rfl aZ (zaa (pv 1) zaf)) (za9 8 zce.nd)
   (zae (zat 9 zce.nd (zaq zcc (zaq zbk (pv 3) (zaq zfk (pv 4) (pv 8))) zai))
   (zah (zb2 (PW.pt (pw_and (zaw op_eq (pv 6) zai (zbp _)) (zg6 (zaw op_le (pv 1) zai (zbp _)))))
    (zah (zax (zch Zc Zu Zt zbc (pv 7) (zaa (za6 ix_str (pv 2) (zaq zcc (pv 9) zai) (λ_ _=>rfl)) zaf))))
    (zah (zb2 (zaw op_eq (pv 6) zai (zbp _))
     (zah (zax (zch Zc Zu Zt zbc (pv 7) (zaa (zak GC hr rfl mC FC.kp bC .nil za0 (zaa (zaq zbk zai (zaq zcc (zaq zbk (pv 3) (zaq zfk (pv 4) (pv 8))) zai)) (zaa (za6 zap (za4 (zaa zc0 (zaa zc0 (zaa zc0 (zaa zc0 zaf))))) (zaq zcc (zaj zbw (by rfl) a9 Zr (zaa (pv 5) zaf)) zai) (λ_ _=>rfl)) zaf))) zaf))))
     (zae (zat 10 zce.nd (zaq zee (za6 ix_str (pv 2) (zaq zfl (pv 9) zai) (λ_ _=>rfl)) (za6 ix_str (pv 2) (zaq zcc (pv 9) zai) (λ_ _=>rfl))))
     (zah (zax (zch Zc Zu Zt zbc (pv 7) (zaa (zaq zee (pv 10) (zbt sl_strP (pv 5) zbx (zb3 (zaq zcc (zaq zbk (pv 3) (pv 8)) (zaq zbk (zaj zbw (by rfl) a9 Zr (zaa (pv 5) zaf)) zai))))) zaf)))))))))))
  (zah (zbb (pv 7))))))))),?_⟩
 refine⟨_,rfl,p,b,m,676,rfl,hp,by decide,by decide,λd1 b1 m1 H1 ju rN bH oF=>?_⟩
 refine⟨(by show 8≤sizeLine;decide),λq hq=>?_⟩
 have k2:Keep [p] H (upd H1 q (.lst [.int 1,.int 3,.int 5,.int 7,.int 9,.int 25,.int 27,.int 675])):=(za3 oF).trans (Keep.new hq)
 have aD:Pot (upd H1 q (.lst [.int 1,.int 3,.int 5,.int 7,.int 9,.int 25,.int 27,.int 675])) p b1 m1:=bH.keep (xs:=[]) (Keep.new hq) (by simp)
 have bw:(upd H1 q (.lst [.int 1,.int 3,.int 5,.int 7,.int 9,.int 25,.int 27,.int 675])) q=some (.lst [.int 1,.int 3,.int 5,.int 7,.int 9,.int 25,.int 27,.int 675]):=zac
 have nqp:q≠p:=Zh (zab bH.1 hq)
 generalize upd H1 q (.lst [.int 1,.int 3,.int 5,.int 7,.int 9,.int 25,.int 27,.int 675])=H2 at k2 aD bw
 obtain⟨f,rfl⟩:=Zl ju
 refine⟨_,rfl,p,b1,m1,8,rfl,aD,by decide,by decide,λd3 b3 m3 H3 h30 h31 bd mx=>?_⟩
 have hq3:=mx _ _ bw nqp
 have k3:=k2.trans (za3 mx)
 obtain⟨bb,dB,nz⟩:∃bb:Nat,atI [V.int 1,V.int 3,V.int 5,V.int 7,V.int 9,V.int 25,V.int 27,V.int 675] d3=some (iV bb)∧bb∈byS:=by
  obtain⟨jn,rfl⟩:=Zl h30
  have hj:jn<8:=by omega
  have:∀j:Fin 8,∃bb∈byS,[V.int 1,V.int 3,V.int 5,V.int 7,V.int 9,V.int 25,V.int 27,V.int 675][j.1]?=some (iV bb):=by decide
  obtain⟨bb,h1,h2⟩:=this ⟨jn,hj⟩
  exact⟨bb,zau h2,h1⟩
 have hbb2:bb≤675:=by
  have:∀x∈byS,x≤675:=by decide
  exact this bb nz
 refine⟨q,_,_,iV bb,rfl,rfl,SqL.of hq3,dB,?_⟩
 refine⟨_,rfl,p,b3,m3,7,rfl,bd,by decide,by decide,λd4 b4 m4 H4 h40 h41 bz km=>?_⟩
 obtain⟨j4,rfl⟩:=Zl h40
 have k4:=k3.trans (za3 km)
 refine⟨_,rfl,_,j4,rfl,rfl,rfl,by show j4≤6;omega,by decide,λtl gJ=>?_⟩
 have oV:tl.cps.toList.length≤6:=by rw[gJ,Zg];omega
 have oU:∀c∈tl.cps.toList,97≤c∧c≤122:=λc hc=>by
  rw[gJ]at hc
  have:∀x∈("nqxbkw" : Str).cps.toList,97≤x∧x≤122:=by decide +kernel
  exact this c (Ys hc)
 have oW:∀c t,tl.cps.toList=c::t→c=110:=λc t ht=>by
  rw[gJ]at ht
  cases j4 with
  |zero=>cases ht
  |succ j =>
   rw[show("nqxbkw" : Str).cps.toList=110::[113,120,98,107,119] from rfl,List.take_succ_cons]at ht
   injection ht with h _
   exact h.symm
 have kL:=str_len tl
 refine⟨_,rfl,p,b4,m4,3,rfl,bz,by decide,by decide,λd5 b5 m5 H5 h50 h51 ay gG=>?_⟩
 obtain⟨wy,rfl⟩:=Zl h50
 have k5:=k4.trans (za3 gG)
 refine⟨(by show 0≤sizeLine;decide),λl hl=>?_⟩
 have k6:Keep [p] H (upd H5 l (.lst [])):=k5.trans (Keep.new hl)
 have nlp:l≠p:=Zh (zab ay.1 hl)
 have flH:H l=none:=zav k5 hl (by simpa using nlp)
 have cr:Pot (upd H5 l (.lst [])) p b5 m5:=ay.keep (xs:=[]) (Keep.new hl) (by simp)
 have iR:(upd H5 l (.lst [])) l=some (.lst (([]:List Str).map V.str)):=zac
 generalize upd H5 l (.lst [])=H6 at k6 cr iR
 refine⟨_,rfl,(n:Int),rfl,by omega,by omega,?_⟩
 rw[Uh]
 refine zcl (lo:=0) (λi σ H'=>Aj4 (Ex3 λx8 x9 j'=>σ=[some (.ref p),some (iV n),some (.str zc3),some (iV f),some (iV bb),some (.str tl),some (iV wy),some (.ref l),x8,x9,j']) (Keep [p] H H') (Pot H' p b5 m5) (Ex1 λzs:List Str=>Aj2 (H' l=some (.lst (zs.map V.str))) (zs.map (·.cps.toList)=(List.range i).map (nmF wy n f bb tl.cps.toList))))
  ⟨⟨_,_,_,rfl⟩,k6,cr,[],iR,rfl⟩ ?_ ?_
 ·rintro i σ H7 hi ⟨⟨x8,x9,j',rfl⟩,k7,ba,zs,cb,jF⟩
  have g7:zs.length=i:=by
   have:=congrArg List.length jF
   rwa[Qa,Qa,Yr]at this
  have fin:∀(y8 y9 y10:Option V) (z:Str) (H8:Hp),Keep [] H7 H8→z.cps.toList=nmF wy n f bb tl.cps.toList i→Aj4 (Ex3 λx8 x9 j'=>[some (V.ref p),some (iV n),some (.str zc3),some (iV f),some (iV bb),some (.str tl),some (iV wy),some (.ref l),y8,y9,y10]=[some (V.ref p),some (iV n),some (.str zc3),some (iV f),some (iV bb),some (.str tl),some (iV wy),some (.ref l),x8,x9,j']) (Keep [p] H (upd H8 l (.lst (zs.map V.str++[.str z])))) (Pot (upd H8 l (.lst (zs.map V.str++[.str z]))) p b5 m5) (Ex1 λfk:List Str=>Aj2 ((upd H8 l (.lst (zs.map V.str++[.str z]))) l=some (.lst (fk.map V.str))) (fk.map (·.cps.toList)=(List.range (i+1)).map (nmF wy n f bb tl.cps.toList))):=λy8 y9 y10 z H8 k8 hz =>
   ⟨⟨_,_,_,rfl⟩,λc u ec hc=>by rw[zad (zab ec flH)];exact k8 _ _ (k7 c u ec hc) (by simp),(ba.keep k8 (by simp)).keep (xs:=[l]) (Keep.wr (by simp)) (by simpa using Zh nlp),zs++[z],by rw[zac,Qt];rfl,by rw[Qt,jF,Kv,Qt,Qk,Qk,hz];rfl⟩
  have e9:((f:Int)+(bb:Int)*(0+(i:Int)))%676=(((f+bb*i)%676:Nat):Int):=by rw[Ku,←Int.natCast_mul,←Int.natCast_add];rfl
  have e97:((f:Int)+(bb:Int)*(0+(i:Int)))%97=(((f+bb*i)%97:Nat):Int):=by rw[Ku,←Int.natCast_mul,←Int.natCast_add];rfl
  refine⟨_,rfl,_,rfl,_,rfl,_,_,rfl,rfl,.inl ⟨by omega,by omega⟩,_,_,rfl,rfl,_,_,rfl,rfl,by decide,?_⟩
  rw[e9]
  have hat6:(f+bb*i)%676<676:=Wo _ (by decide)
  have qe:(((f+bb*i)%676:Nat):Int)%26=(((f+bb*i)%676%26:Nat):Int):=rfl
  have gO:atI zc3.cps.toList ((((f+bb*i)%676:Nat):Int)%26)=some (97+(f+bb*i)%676%26):=by
   rw[qe];exact letter_at (by omega) (by omega)
  refine⟨_,rfl,rfl,_,rfl,?_⟩
  have ck:(zs.map V.str).length<sizeLine:=by rw[Qa];omega
  by_cases hA:wy=0∧n≤26
  ·refine zbm (decide_eq_true (by rw [hA.1];rfl)) ⟨_,rfl,_,_,rfl,rfl,_,rfl,zbm (decide_eq_true (by omega)) ?_⟩
   refine⟨_,rfl,.inl ⟨rfl,_,SqL.of cb⟩,_,rfl,_,rfl,_,_,rfl,rfl,by decide,_,_,_,rfl,rfl,zdl,gO,l,_,_,rfl,rfl,cb,ck,?_⟩
   exact fin _ _ _ _ H7 Keep.refl (by unfold nmF;rw[if_pos hA])
  have hc:(wy=0∧¬n≤26)∨wy≠0:=by omega
  rcases hc with⟨hw,hn26⟩ | hw
  refine zbm (decide_eq_true (by rw[hw];rfl)) ⟨_,rfl,_,_,rfl,rfl,_,rfl,zbi (decide_eq_false (by omega)) ?_⟩
  rotate_left
  refine zbi (decide_eq_false (λz=>hw (by injection z;omega))) (iteF ?_)
  all_goals
   refine⟨_,rfl,rfl,_,rfl,?_⟩
   by_cases h1:wy=1
   ·refine zbm (decide_eq_true (by rw [h1];rfl)) ?_
    refine⟨_,rfl,.inl ⟨rfl,_,SqL.of cb⟩,_,rfl,_,rfl,_,rfl,_,_,rfl,rfl,.inl ⟨by omega,by omega⟩,_,_,rfl,rfl,_,_,rfl,rfl,by decide,_,_,rfl,rfl,(by show 4≤sizeLine;decide),λq8 hq8=>?_⟩
    have qt:tl.length%4<4:=Wo _ (by decide)
    have rC:atI [V.str "ab",V.str "za",V.str "xyz",V.str "qn"] ((tl.length:Int)%4)=some (.str (zcd (tl.length%4))):=by
     rw[show(tl.length:Int)%4=((tl.length%4:Nat):Int) from rfl]
     have:∀j:Fin 4,[V.str "ab",V.str "za",V.str "xyz",V.str "qn"][j.1]?=some (.str (zcd j.1)):=by decide
     exact zau (this ⟨_,qt⟩)
    have gP:∀j<4,2≤(zcd j).length∧(zcd j).length≤1000:=by decide +kernel
    have k8:Keep [] H7 (upd H7 q8 (.lst [.str "ab",.str "za",.str "xyz",.str "qn"])):=Keep.new hq8
    refine⟨_,rfl,tl,rfl,by omega,_,_,rfl,rfl,by decide,q8,_,_,.str (zcd (tl.length%4)),rfl,rfl,SqL.of zac,rC,1+(f+bb*i)%97,zcd (tl.length%4),by rw[e97];rfl,by have:=Wo (f+bb*i) (show 0<97 by decide);omega,(gP _ qt).1,(gP _ qt).2,λz hz=>?_⟩
    refine⟨l,_,_,rfl,rfl,k8 _ _ cb (by simp),ck,?_⟩
    exact fin _ _ _ z _ k8 (by unfold nmF;rw[if_neg hA,if_pos h1,kL];exact hz)
   ·refine zbi (decide_eq_false (fun z=>h1 (by injection z;omega))) ?_
    have qf:atI zc3.cps.toList ((((f+bb*i)%676:Nat):Int)/26)=some (97+(f+bb*i)%676/26):=by
     rw[show(((f+bb*i)%676:Nat):Int)/26=(((f+bb*i)%676/26:Nat):Int) from rfl];exact letter_at (by omega) (by omega)
    refine⟨_,rfl,_,rfl,_,_,rfl,rfl,⟨by decide,by decide⟩,_,_,_,rfl,rfl,zdl,qf,_,rfl,_,rfl,_,_,rfl,rfl,by decide,_,_,_,rfl,rfl,zdl,gO,_,_,rfl,rfl,by show 1+1≤sizeLine;decide,?_⟩
    have hjm:(f+i)%(tl.length+1)<tl.length+1:=Wo _ (Nat.succ_pos _)
    refine⟨_,rfl,.inl ⟨rfl,_,SqL.of cb⟩,_,rfl,_,rfl,_,rfl,_,rfl,_,_,rfl,rfl,_,rfl,tl,rfl,by omega,_,_,rfl,rfl,_,_,rfl,rfl,by show(0:Int)<(tl.length:Int)+1;omega,_,rfl,tl,(f+i)%(tl.length+1),rfl,rfl,by rw[Ku];rfl,by omega,by omega,λy hy=>?_⟩
    have hyl:y.length≤6:=by rw[←str_len,hy,Zg];omega
    refine⟨_,_,rfl,rfl,by rw[app_len];show 1+1+y.length≤sizeLine;omega,l,_,_,rfl,rfl,cb,ck,?_⟩
    exact fin _ _ _ _ H7 Keep.refl (by unfold nmF;rw[if_neg hA,if_neg h1,zhm,zhm,hy,kL];rfl)
 ·rintro σ H7 ⟨⟨x8,x9,j',rfl⟩,k7,ba,zs,cb,jF⟩
  have g7:zs.length=n:=by
   have:=congrArg List.length jF
   rwa[Qa,Qa,Yr]at this
  refine⟨_,rfl,k l zs b5 m5 H7 cb g7 ?_ (λz hz=>?_) ba flH k7⟩
  ·refine nodup_of_map (f:=fun z:Str=>z.cps.toList) ?_
   rw[jF]
   exact zfr λa ha c hc h=>nm_inj nz hn ha hc h
  ·have:z.cps.toList∈(List.range n).map (nmF wy n f bb tl.cps.toList):=by rw [← jF];exact Qj.mpr ⟨z,hz,rfl⟩
   obtain⟨j,_,e⟩:=Qj.mp this
   have:=nm_ok (way:=wy) (many:=n) (f:=f) (b:=bb) (k:=j) oV oU
   rw[e]at this
   have bJ:=nm_not (way:=wy) (many:=n) (f:=f) (b:=bb) (k:=j) oW
   rw[e]at bJ
   exact⟨⟨by rw[←str_len];exact this.1,by rw[←str_len];exact this.2.1,this.2.2⟩,λz=>bJ (by rw[z])⟩
end
end K21
end
section
namespace Wb
section
variable{α β:Type}[DecidableEq α][DecidableEq β]{ns:List α}{r:α→List α}{cs:List (List (α×α))}{f:α→β}{a7:α→α}{ad:β→β}
def cert_mapL(hf:∀ x y,f x=f y→x=y)(C:Cert ns r cs a7){r':β→List β}(hr:∀ x,r' (f x)=(r x).map f)(kS:∀ y,(∀ x,y≠f x)→r' y=[])(hl:∀ x∈ns,ad (f x)=f (a7 x)) :
  Cert (ns.map f) r' (cs.map λc=>c.map λs=>(f s.1,f s.2)) ad:=by
 have hm:∀{y z},z∈r' y→∃x w,y=f x∧z=f w∧w∈r x:=λ{y z} h=>by
  by_cases hy:∃x,y=f x
  ·obtain ⟨x,rfl⟩:=hy
   rw[hr]at h
   obtain⟨w,hw,rfl⟩:=Qj.mp h
   exact⟨x,w,rfl,rfl,hw⟩
  ·rw [kS y fun x e=>hy ⟨x,e⟩] at h
   cases h
 have hb:∀{x w},w∈r x→f w∈r' (f x):=λh=>by rw[hr];exact Qj.mpr ⟨_,h,rfl⟩
 have hg:∀s t:α×α,(f s.1,f s.2)=(f t.1,f t.2)→s=t:=λs t e=>Ju (hf _ _ (congrArg Prod.fst e)) (hf _ _ (congrArg Prod.snd e))
 have l6:∀{l:List α},l.Nodup→(l.map f).Nodup:=λnd=>Wy.mpr (nd.imp λh e=>h (hf _ _ e))
 have eR:(cs.map λc=>c.map λs=>(f s.1,f s.2)).flatten=cs.flatten.map λs=>(f s.1,f s.2):=List.map_flatten.symm
 refine⟨l6 C.nd,λy hy=>?_,λy=>?_,λy h=>?_,λx y h=>?_,?_,λs=>?_,λc hc=>?_,λx hx=>?_,λx y h=>?_,λx hx y hy e=>?_,λx hx=>?_⟩
 ·cases e:r' y with
  |nil=>rfl
  |cons z t =>
   obtain⟨x,w,rfl,_,hw⟩:=hm (y:=y) (z:=z) (by rw[e];exact Qe)
   exact absurd (Qj.mpr ⟨x,C.inn hw,rfl⟩) hy
 ·by_cases hy:∃ x,y=f x
  ·obtain ⟨x,rfl⟩:=hy
   rw[hr];exact l6 (C.rn x)
  ·rw[kS y λx e=>hy ⟨x,e⟩];exact Zq
 ·obtain ⟨x,w,e1,e2,hw⟩:=hm h
  have:=hf _ _ (e1.symm.trans e2)
  subst this
  exact C.ir _ hw
 ·obtain ⟨a,w,rfl,rfl,hw⟩:=hm h
  exact hb (C.sy _ _ hw)
 ·rw [eR]
  exact Wy.mpr (C.cf.imp λh e=>h (hg _ _ e))
 ·rw [eR]
  constructor
  ·intro h
   obtain⟨t,ht,rfl⟩:=Qj.mp h
   exact hb ((C.cm t).mp ht)
  ·intro h
   obtain⟨x,w,e1,e2,hw⟩:=hm h
   exact Qj.mpr ⟨(w,x),(C.cm (w,x)).mpr hw,Ju e2.symm e1.symm⟩
 ·obtain ⟨c0,gY,rfl⟩:=Qj.mp hc
  obtain⟨s,t,rfl,k⟩:=C.cy c0 gY
  refine⟨(f s.1,f s.2),_,rfl,lk_map (g:=λs:α×α=>(f s.1,f s.2)) (λy _=>?_) k⟩
  show(f y.2,nxt (r' (f y.2)) (f y.1))=(f y.2,f (nxt (r y.2) y.1))
  rw[hr,nxt_map hf]
 ·obtain ⟨x0,gI,rfl⟩:=Qj.mp hx
  rw[hl x0 gI]
  exact Qj.mpr ⟨_,C.ln x0 gI,rfl⟩
 ·obtain ⟨a,w,rfl,rfl,hw⟩:=hm h
  rw[hl w (C.inn' hw),hl a (C.inn hw),C.la a w hw]
 ·obtain ⟨x0,gI,rfl⟩:=Qj.mp hx
  obtain⟨y0,kB,rfl⟩:=Qj.mp hy
  rw[hl x0 gI,hl y0 kB]at e
  have:=C.co x0 gI y0 kB (hf _ _ e)
  clear hy kB e
  induction this with
  |refl=>exact .refl
  |step _ hz ih=>exact .step ih (hb hz)
 ·obtain ⟨x0,gI,rfl⟩:=Qj.mp hx
  rw[hl x0 gI]
  have e1:wt (ns.map f) r' ad (f (a7 x0))=wt ns r a7 (a7 x0):=by
   unfold wt
   rw[Zm]
   refine zc5 λx hx=>?_
   show(if ad (f x)=f (a7 x0) then _ else _)=_
   rw[hl x hx,hr,Qa]
   by_cases h:a7 x=a7 x0
   ·rw [if_pos (congrArg f h),if_pos h]
    simp only[List.map_eq_nil_iff]
   ·rw[if_neg (λe=>h (hf _ _ e)),if_neg h]
  have e2:ct (cs.map λc=>c.map λs=>(f s.1,f s.2)) ad (f (a7 x0))=ct cs a7 (a7 x0):=by
   unfold ct
   rw[Zm]
   refine zc5 λc hc=>?_
   show(if(List.any (c.map λs=>(f s.1,f s.2)) λs=>decide (ad s.1=f (a7 x0)))=true then _ else _)=_
   rw[List.any_map]
   have:(c.any ((λs:β×β=>decide (ad s.1=f (a7 x0)))∘λs=>(f s.1,f s.2)))=c.any λs=>decide (a7 s.1=a7 x0):=by
    rw[Yu,Yn,Yn]
    have aw:∀s∈c,s.1∈ns:=λs hs=>C.inn' ((C.cm s).mp (Yh.mpr ⟨c,hc,hs⟩))
    constructor
    ·rintro ⟨s,hs,e⟩
     have e':=of_decide_eq_true e
     have e':ad (f s.1)=f (a7 x0):=e'
     rw[hl _ (aw s hs)]at e'
     exact⟨s,hs,decide_eq_true (hf _ _ e')⟩
    ·rintro ⟨s,hs,e⟩
     have e':=of_decide_eq_true e
     exact⟨s,hs,decide_eq_true (by show ad (f s.1)=_;rw[hl _ (aw s hs),e'])⟩
   rw[this]
  rw[e1,e2]
  exact C.eu x0 gI
end
end Wb
end
section
namespace L2
open PySem PySem.Spec PyProof.Rows
section
variable{X:Cx}
theorem fm_some{β γ:Type}{f:β→Option γ}{g:β→γ}:∀{l:List β},(∀x∈l,f x=some (g x))→l.filterMap f=l.map g
 |[],_=>rfl
 |a::t,h=>by rw[List.filterMap_cons,h a Qe,Qk,fm_some λx hx=>h x (Qi _ hx)]
def pick_rev(a6:Ni):slicePick a6.toArray none none (some (-1))=a6.reverse.toArray:=by
 unfold slicePick sliceBounds
 simp only[Option.getD_some,show ¬((-1:Int)>0) by decide,if_false,Qq]
 congr 1
 unfold sliceRange
 simp only[show ¬((-1:Int)>0) by decide,if_false]
 have hc:(if((a6.length:Int)-1) > -1 then(((a6.length:Int)-1) - -1 - -1-1)/(- -1) else 0).toNat=a6.length:=by
  split
  ·rw[show(- (-1:Int))=1 from rfl,Int.ediv_one];omega
  ·omega
 rw[hc,List.filterMap_map]
 have hk:∀k∈List.range a6.length,((a6.toArray[·]?)∘λ(k:Nat)=>(((a6.length:Int)-1)+-1*(k:Int)).toNat) k=some (a6.reverse.getD k .none):=λk hk=>by
  have hk:=Ya.mp hk
  have e:(((a6.length:Int)-1)+-1*(k:Int)).toNat=a6.length-1-k:=by omega
  show a6.toArray[(((a6.length:Int)-1)+-1*(k:Int)).toNat]?=_
  rw[e,List.getElem?_toArray,Qv,List.getElem?_reverse hk]
  rw[Qc (by omega)]
  rfl
 rw[fm_some hk]
 apply List.ext_getElem
 ·simp
 ·intro i h1 h2
  have h3:i<a6.reverse.length:=h2
  rw[Zs,Uv,Qv,Qc h3]
  rfl
def pe_rev(he:PE X e te):PE X (.Subscript e (.Slice none none (some (.UnaryOp .USub (.Constant (.int 1) k p4) p3)) p2) pos) (λ σ H Q=>te σ H λx H1=>Ex2 λa xs=>Aj3 (x=.ref a) (SqL X.K H1 a xs) (∀p,H1 p=none→Q (.ref p) (upd H1 p (.lst xs.reverse)))):=by
 intro a5 s σ H Q I h
 refine Subscript_ (thn (he a5 s σ H _ I h) λv s1 ⟨x,H1,I1,r1,a,xs,ex,hx,q⟩=>?_)
 subst ex
 cases r1
 refine wpAny_Slice (thn (zbx (X:=X) a5 s1 σ H1 (λo H'=>o=none∧H'=H1) I1 ⟨rfl,rfl⟩) λvl s2 ⟨l,H2,I2,pl,el,eh⟩=>?_)
 subst el;subst eh
 refine thn (zbx (X:=X) a5 s2 σ H2 (λo H'=>o=none∧H'=H2) I2 ⟨rfl,rfl⟩) λvu s3 ⟨l,H3,I3,pu,el,eh⟩=>?_
 subst el;subst eh
 refine thn (zb3 (X:=X) (pe_un un_neg (zai (X:=X))) a5 s3 σ H3 (λo H'=>o=some (-1)∧H'=H3) I3 ⟨_,rfl,_,rfl,rfl,rfl⟩) λvs s4 ⟨l,H4,I4,ps,el,eh⟩=>?_
 subst el;subst eh
 have I5:Inv X a5 σ H4 {s4 with heap:=s4.heap.push {cls:=.type "slice",data:=.fields #[vl,vu,vs]}}:=I4.kept (t':=s4.toks) λb ob q=>Qg _ q
 obtain⟨a6,r,ht,hz⟩:=I5.list hx
 have a9:=r.length
 show wpAny (model X.prog X.w) X.A (subscriptTail e (.Slice none none (some (.UnaryOp .USub (.Constant (.int 1) k p4) p3)) p2) (.ref a) (.ref s4.heap.objs.size)) (EP X a5 σ Q) X.xe {s4 with heap:=s4.heap.push {cls:=.type "slice",data:=.fields #[vl,vu,vs]}}
 refine tail_any (ops:=[.ref a,.ref s4.heap.objs.size]) ht.isList.typeIs slot_list_getitem.lookup ?_ (by with_unfolding_all rfl)
 refine wpAny_getItem_list_slice ht.isList (Heap.IsSliceOf.new ..) pl pu ps (by decide) ?_ (by rw[Qq]<;>exact zdn ‹_› ‹_›)
 rw[pick_rev]
 refine⟨.ref _,_,I5.laid (t':=s4.toks) (o:=.lst xs.reverse) (λb ob q=>Qg _ q) (Qf _) ?_,rfl,q _ (I5.hok.fresh (Qf _))⟩
 exact⟨by rw[List.length_reverse];exact hz,_,0,r.reverse,Zb _ rfl⟩
inductive RrDClear(x:V)(vs:List V)(H:Hp)(Q:VK):Prop
 |mk (a:Nc) (kvs:List (Key×V)) (h0:x=.ref a) (h1:vs=[]) (h2:H a=some (.dK kvs)) (h3:Q .non (upd H a (.dK []))):RrDClear x vs H Q
def rDClear:V→List V→Hp→VK→Prop:=λx vs H Q=>RrDClear x vs H Q
def mt_dclear:MtM X "dict.clear" rDClear:=by
 intro a5 s σ H x vs v us Q I rx rv h
 obtain⟨a,kvs,rfl,rfl,e,q⟩:=h
 cases rx
 have oP:=rv.zero
 subst oP
 obtain⟨z,hd,vs,rel,dd⟩:=dk_of I.hok e
 refine call_meetsIn PySem.F.slot_dict_clear dd.typeIs PySem.F.entry_dict_clear (PySem.F.args_dict_clear_1 _) (meets_dict_clear (zan X.prog X.w) a) ⟨vs,dd,by rw[←rel.length];exact z,λh' fU hs=>?_⟩
 have he:∃q,h'.get? a=some q:=let⟨q,_,_,hq,_⟩:=fU;⟨q,hq⟩
 exact⟨.non,_,zhl (t':=s.toks) I (by rw[e];exact True.intro) hs he (dk_new (kvs:=[]) (Zn _) hd .nil fU),rfl,q⟩
end
def lc_map{K:Na}{g:TG}{te:TE}{Q:VK}{a:Nc}{τ:St}{H:Hp}{xs:List V}(T:St→Prop)(f:V→V)(ha:SqL K H a xs)(hn:xs.length≤sizeLine)(h0:T τ)(hs:∀x∈xs,∀τ,T τ→∀k:V→St→Hp→Prop,(∀τ2,T τ2→k (f x) τ2 H)→g x τ H λ τ2 H2=>te τ2 H2 λy H4=>k y τ2 H4)(q:∀D,H D=none→Q (.ref D) (upd H D (.lst (xs.map f)))):rLC g tAll te Q (Itl K a) τ H:=by
 refine⟨λi m ys τ H1=>Aj5 (H1=H) (T τ) (m=xs.length-i) (i≤xs.length) (ys=(xs.take i).map f),⟨_,rfl,h0,rfl,Zn _,rfl⟩,?_⟩
 rintro i m ys τ H1 ⟨rfl,ht,rfl,hi,rfl⟩
 by_cases aa:i<xs.length
 ·refine .inr ⟨⟨xs,xs[i],ha,Qc aa⟩,by rw [Qa,Zg];lia,?_⟩
  rintro x H' ⟨rfl,hx⟩
  have cB:=hx xs ha
  rw[Qc aa]at cB
  have ic:xs[i]=x:=Qr cB
  refine hs x (ic▸Qm aa) τ ht (λy τ2 H4=>∃m',m'<xs.length-i∧Aj5 (H4=H') (T τ2) (m'=xs.length-(i+1)) (i+1≤xs.length) ((xs.take i).map f++[y]=(xs.take (i+1)).map f)) λ τ2 h2=>?_
  exact⟨_,by exact zar1 ‹_›,rfl,h2,rfl,aa,by rw[Ql aa,Qt,ic];rfl⟩
 ·have e:i=xs.length:=by exact zar3 ‹_› ‹_›
  subst e
  refine .inl ⟨⟨xs,ha,Qf _⟩,λD hD=>?_⟩
  rw[Qx (Qf _)]
  exact q D hD
end L2
namespace K21
open PySem L2 Wb
def zgg{α β:Type}{R:α→β→Prop}{as:List α}{bs:List β}(h:Paired R as bs):Paired R as.reverse bs.reverse:=by
 induction h with
 |nil=>exact .nil
 |cons h t ih=>rw[Kg,Kg];exact zas ih (.cons h .nil)
end K21
namespace Wb
def zba(zs:List PySem.Str)(k:Nat):PySem.Str:=zs.getD k ⟨#[200+k]⟩
open K21 in
def nameN_inj{zs:List PySem.Str}(nd:zs.Nodup)(ok:∀ z∈zs,zcv z)(a b:Nat)(h:zba zs a=zba zs b):a=b:=by
 unfold zba at h
 rw[Qv,Qv]at h
 have bad:∀(i j:Nat) (hi:i<zs.length),zs[i]≠(⟨#[200+j]⟩:PySem.Str):=λi j hi e=>by
  have:=(ok _ (Qm hi)).2.2 (200+j) (by rw[e];exact Qe)
  omega
 by_cases ha:a<zs.length
 ·rw [Qc ha] at h
  by_cases hb:b<zs.length
  ·rw [Qc hb] at h
   exact(Yv nd).mp h
  ·rw [Wq (by omega)] at h
   exact absurd h (bad a b ha)
 ·rw [Wq (by omega)] at h
  by_cases hb:b<zs.length
  ·rw [Qc hb] at h
   exact absurd h.symm (bad b a hb)
  ·rw [Wq (by omega)] at h
   have h:(⟨#[200+a]⟩:PySem.Str)=⟨#[200+b]⟩:=h
   have:200+a=200+b:=by
    have:=congrArg (λz:PySem.Str=>z.cps.toList) h
    have:[200+a]=[200+b]:=this
    injection this
   omega
def nameN_lt{zs:List PySem.Str}{k:Nat}(h:k<zs.length):zba zs k=zs[k]:=by
 unfold zba
 rw[Qv,Qc h];rfl
def rsZ(rr:List (List Nat))(zs:List PySem.Str):Rs PySem.Str:=(List.range rr.length).map λk=>(zba zs k,(rr.getD k []).map (zba zs))
open K21 in
def good_Z{rr:List (List Nat)}{zs:List PySem.Str}(hG:Good (rsN rr))(nd:zs.Nodup)(ok:∀ z∈zs,zcv z):∃ cs a7,Cert ((List.range rr.length).map (zba zs)) (row (rsZ rr zs)) cs a7:=by
 obtain⟨cs,a7,C⟩:=hG
 rw[zc2]at C
 have inj:=nameN_inj nd ok
 have hn:(rsZ rr zs).map (·.1)=(List.range rr.length).map (zba zs):=by unfold rsZ;rw[List.map_map];rfl
 have av:((rsZ rr zs).map (·.1)).Nodup:=by
  rw[hn]
  exact Wy.mpr (Kp.imp λh e=>h (inj _ _ e))
 refine⟨_,λy=>zba zs (a7 (((List.range rr.length).find? λk=>decide (zba zs k=y)).getD 0)),cert_mapL (f:=zba zs) inj C (λx=>?_) (λy hy=>?_) λx hx=>?_⟩
 ·by_cases hx:x < rr.length
  ·rw [row_N hx]
   refine(zes av (p:=(zba zs x,(rr.getD x []).map (zba zs))) (Qj.mpr ⟨x,Ya.mpr hx,rfl⟩)).trans ?_
   rw[Qv,Qc hx];rfl
  ·rw [row_No hx]
   refine zec ?_
   rw[hn]
   intro z
   obtain⟨y,hy,e⟩:=Qj.mp z
   rw[inj _ _ e]at hy
   exact hx (Ya.mp hy)
 ·refine zec ?_
  rw[hn]
  intro z
  obtain⟨x,_,e⟩:=Qj.mp z
  exact hy x e.symm
 ·show zba zs (a7 _)=_
  have cB:x∈List.range rr.length:=hx
  have:((List.range rr.length).find? λk=>decide (zba zs k=zba zs x))=some x:=by
   cases h:(List.range rr.length).find? λk=>decide (zba zs k=zba zs x) with
   |none=>exact absurd (decide_eq_true rfl) (List.find?_eq_none.mp h x cB)
   |some k =>
    have:=List.find?_some h
    rw[inj _ _ (of_decide_eq_true this)]
  rw[this];rfl
end Wb
namespace K21
open PySem L2 Wb
abbrev sRows:Stmt:=top 33
abbrev sDrawn:Stmt:=top 34
inductive IspRowsD(vs:List V)(H:Hp)(Q:VK):Prop
 |mk (p l nl:Nc) (b m:Int) (as:Nl) (rr:List (List Nat)) (zs:Ng) (h0:vs=[.ref p,.ref l,.ref nl]) (h1:Pot H p b m) (h2:NAt H l as rr) (h3:Good (rsN rr)) (h4:rr.length≤40) (h5:H nl=some (.lst (zs.map V.str))) (h5':zs.length=rr.length) (h5n:zs.Nodup) (h5k:∀z∈zs,zcv z∧z ≠ "nobody") (aO:p∉as)
  (h6:∀(t:Nc) (bs:Nl) (es:List Ent) (cs:List (List (Str×Str))) (a7:Nw) (b' m':Int) (H':Hp),RwAt H' t bs es→Cert (es.map (·.1)) (row (rsOf es)) cs a7→es.length≤40→(∀e∈es,zcv e.1∧e.1 ≠ "nobody")→(∀e∈es,H e.2.2=none)→Pot H' p b' m'→Keep [p] H H'→Q (.ref t) H'):IspRowsD vs H Q
def spRowsD:Sp:=λvs H Q _=>IspRowsD vs H Q
abbrev csW:Scope:=scOf (eOf (bAt (sAt sRows 1) 0))
def csW_k:csW.kind=.function:=by rfl
def csW_c:∀y∈csW.names,y.2≠.cell:=by decide +kernel
def csW_n:∀y∈csW.names,y.2=.local→csW.names.lookup y.1=some .local:=by decide +kernel
def csW_f:∀y∈csW.names,y.2=.free→(zag sRows).names.lookup y.1=some .cell∨(zag sRows).names.lookup y.1=some .free:=by decide +kernel
def csW_l:csW.names.lookup (qN:Str)=some NameKind.free:=by decide +kernel
def ndW:([qO,qN]:List Str).Nodup:=by decide +kernel
abbrev TurnZ(rr:List (List Nat))(zs:Ng):List Ent→List Nat→Prop:=Paired λe k=>e.1=zba zs k∧∃j,e.2.1=((rr.getD k []).map (zba zs)).drop j++((rr.getD k []).map (zba zs)).take j
def names_Z(h:TurnZ rr zs es ks):es.map (·.1)=ks.map (zba zs):=by
 induction h with
 |nil=>rfl
 |cons h _ ih=>rw[Qk,Qk,ih,h.1]
def cert_Z{rr:List (List Nat)}{zs:Ng}{es:List Ent}{ks:List Nat}(hG:Good (rsN rr))(nd:zs.Nodup)(ok:∀z∈zs,zcv z)(h:TurnZ rr zs es ks)(hk:ks.Perm (List.range rr.length)):∃cs a7,Cert (es.map (·.1)) (row (rsOf es)) cs a7:=by
 obtain⟨cs,a7,C⟩:=good_Z hG nd ok
 refine⟨cs,a7,zd6 C (by rw[names_Z h];exact hk.map _) ?_⟩
 have e:rsZ rr zs=rsOf ((List.range rr.length).map λk=>((zba zs k,(rr.getD k []).map (zba zs),0):Ent)):=by unfold rsZ rsOf;rw[List.map_map];rfl
 rw[e]
 refine zd9 (es2:=ks.map λk=>((zba zs k,(rr.getD k []).map (zba zs),0):Ent)) ?_ (hk.map _) ?_
 ·clear hk e
  induction h with
  |nil=>exact .nil
  |cons h _ ih=>exact .cons h ih
 ·rw [Zm]
  exact Wy.mpr (Kp.imp λh e=>h (nameN_inj nd ok _ _ e))
section
variable{P:Nj}{w:Nk}{K:Na}{mg:Nf}{base:Nm}
def zep:zao [qP,qR,qN, "_law_rows_here", "_law_k", "_law_around", "_law_far"] [qP,qR,qN] (zag sRows):=fsk
def ok_rows(F:Fun K "_law_rows" "_law_rows" sRows f fd)(FT:Fun K qG qG zer ft fdt)(bT:Binds K fdt [qP,qM] [])(mT:mg qG=some (.ref ft))(GT:FnOk P w K mg base CX0 1 ft fdt [qP,qM] zge)(a9:mg "len" = none)(aZ:mg "range" = none):FnOk P w K mg base CX0 2 f fd [qP,qR,qN] spRowsD:=by
 refine F.okL zep (λcdv A outer s H vs Q E hr h=>?_)
 obtain⟨p,l,nl,b,m,as,rr,zs,rfl,hp,R,hG,bi,jO,g7,cL,dv,aO,k⟩:=h
 have hu:=zb7 hr
 have aB:=sizeLine_eq
 refine⟨_,zae (zat 3 zep.nd (za4 zaf))
  (zae (zbd Zf rfl (zcg rfl aZ (zaa (zaj zam (by rfl) a9 Zr (zaa (pv 1) zaf)) zaf)) (za9 4 zep.nd)
   (zae (ps_lc (i:=5) (M:=[qO,qN]) (ix:=[none,some 2]) zep.nd rfl rfl ⟨csW_k,csW_c,csW_n,csW_f,rfl,ndW,λj i x h1 h2=>by
      match j,h1,h2 with
      |0,_,h2=>cases h2
      |1,h1,h2=>cases h1;cases h2;exact⟨rfl,csW_l⟩
      |n+2,h1,_=>cases h1⟩ rfl (zay (za6 zap (pv 1) (pv 4) (λ_ _=>rfl))) (λC a5 ex s H=>za9 0 ndW)
      (λC a5 ex s H=>zdh) (λC a5 ex s H=>za6 (ix_listK (K:=K) rfl) (pv 1) (pv 0) (λ_ _=>rfl)) rfl)
   (zae (zat 6 zep.nd (zak GT hr rfl mT FT.kp bT .nil za0 (zaa (pv 0) (zaa (zaq zbk (zaj zam (by rfl) a9 Zr (zaa (pv 5) zaf)) zai) zaf))))
   (zah (zax (zch Zc Zu Zt zbc (pv 3) (zaa (zfh (zaa (za6 zap (pv 2) (pv 4) (λ_ _=>rfl)) (zaa (zaq zfm (zbt zcy (pv 5) (zb3 (pv 6)) zbx) (zbt zcy (pv 5) zbx (zb3 (pv 6)))) zaf))) zaf)))))))
  (zae (zat 6 zep.nd (zak GT hr rfl mT FT.kp bT .nil za0 (zaa (pv 0) (zaa (zaq zbk (zaj zam (by rfl) a9 Zr (zaa (pv 3) zaf)) zai) zaf))))
  (zae (zat 3 zep.nd (zaq zfm (zbt zcy (pv 3) (zb3 (pv 6)) zbx) (zbt zcy (pv 3) zbx (zb3 (pv 6)))))
  (zae (zb2 (zaw op_eq (zak GT hr rfl mT FT.kp bT .nil za0 (zaa (pv 0) (zaa zai zaf))) zai (zbp _)) (zah (zat 3 zep.nd (pe_rev (pv 3)))) za1)
  (zah (zbb (pv 3))))))),?_⟩
 have nlp:=pot_l hp R
 have nnp:nl≠p:=pot_ne hp jO
 have nap:∀a∈as,a≠p:=λa ha z=>aO (z▸ha)
 have gN:(as.map V.ref).length=rr.length:=by rw[Qa];exact R.len
 refine⟨(by show 0≤sizeLine;decide),λt ht=>?_⟩
 have k1:Keep [p] H (upd H t (.lst [])):=Keep.new ht
 have ntp:t≠p:=Zh (zab hp.1 ht)
 have bH:Pot (upd H t (.lst [])) p b m:=hp.keep (xs:=[]) (Keep.new ht) (by simp)
 have iq:(upd H t (.lst [])) t=some (.lst (([]:List Addr).map V.ref)):=zac
 generalize upd H t (.lst [])=H1 at k1 bH iq
 have R1:∀{H':Hp},Keep [p] H H'→NAt H' l as rr:=λkk=>R.keep kk (by simpa using nlp) λa ha=>by simpa using nap a ha
 have N1:∀{H':Hp},Keep [p] H H'→H' nl=some (.lst (zs.map V.str)):=λkk=>kk _ _ jO (by simpa using nnp)
 refine⟨_,rfl,l,_,rfl,.inl (SqL.of (R1 k1).ls),?_⟩
 refine⟨_,rfl,by omega,by omega,?_⟩
 refine zcl (lo:=0) (λi σ H'=>Aj3 (Ex3 λx4 x5 x6=>σ=[some (.ref p),some (.ref l),some (.ref nl),some (.ref t),x4,x5,x6]) (Keep [p] H H') (Ex4 λ(bs:Nl) (es:List Ent) (b' m':Int)=>Aj5 (RwAt H' t bs es) (TurnZ rr zs es (List.range i)) (Pot H' p b' m') (∀e∈es,H e.2.2=none) (∀e∈es,e.2.2≠t)))
  ⟨⟨_,_,_,rfl⟩,k1,[],[],b,m,⟨iq,.nil,λe he=>by cases he⟩,.nil,bH,(λe he=>by cases he),(λe he=>by cases he)⟩ ?_ ?_
 ·rintro i σ H2 hi ⟨⟨x4,x5,x6,rfl⟩,k2,bs,es,b2,m2,W2,T2,aD,gU,iL⟩
  have hi:i<rr.length:=by omega
  have hia:i<as.length:=by rw[R.len];exact hi
  have hR2:=R1 k2
  have hN2:=N1 k2
  have ag:=hR2.row hia hi
  have iu:∀x∈rr[i],x<rr.length:=λx hx=>by
   have:=(zbf.sub _ hG _ (zf8 hi)).2 x hx
   rw[zc2]at this
   exact Ya.mp this
  have iQ:(rsN rr).length=rr.length:=by unfold rsN;rw[List.length_map,List.length_range]
  have hrl2:rr[i].length≤900:=by
   have:=zbf.rows hG _ (zf8 hi)
   rw[iQ]at this
   exact Zj this (by omega)
  have a1:atI (as.map V.ref) (0+(i:Int))=some (.ref as[i]):=by rw[Ku];exact zau (by rw[Qu,Qc hia];rfl)
  have z1:∀{x:Nat},x<rr.length→atI (zs.map V.str) (x:Int)=some (.str (zba zs x)):=λ{x} hx=>zau (by rw[Qu,Qc (by omega),nameN_lt (by omega)];rfl)
  have hg:rr.getD i []=rr[i]:=by rw[Qv,Qc hi];rfl
  refine⟨_,rfl,_,rfl,l,_,_,_,rfl,rfl,SqL.of hR2.ls,a1,as[i],rfl,⟨_,SqL.of ag⟩,lc_map (xs:=rr[i].map iV) (λ τ=>∃x0,τ=[x0,some (.ref nl)]) (λx=>match x with | .int n=>.str (zba zs n.toNat) | v=>v) (SqL.of ag) (by rw[Qa];omega) ⟨none,rfl⟩ ?_ (λar har=>?_)⟩
  ·rintro x hx τ ⟨x0,rfl⟩ kk hk
   obtain⟨z,hz,rfl⟩:=Qj.mp hx
   exact⟨_,rfl,_,rfl,nl,_,_,_,rfl,rfl,SqL.of hN2,z1 (iu z hz),hk _ ⟨_,rfl⟩⟩
  have emap:(rr[i].map iV).map (λx=>match x with | .int n=>.str (zba zs n.toNat) | v=>v)=(rr[i].map (zba zs)).map V.str:=by rw[Zm,Zm];rfl
  rw[emap]
  have fH:(rr[i].map (zba zs)).length=rr[i].length:=Qa ..
  generalize eu:rr[i].map (zba zs)=ru at fH
  have k3:Keep [] H2 (upd H2 ar (.lst (ru.map V.str))):=Keep.new har
  have gC:(upd H2 ar (.lst (ru.map V.str))) ar=some (.lst (ru.map V.str)):=zac
  generalize upd H2 ar (.lst (ru.map V.str))=H3 at k3 gC
  have bd:=aD.keep k3 (by simp)
  have dz:(ru.map V.str).length=ru.length:=Qa ..
  refine⟨_,rfl,_,rfl,ar,_,rfl,.inl (SqL.of gC),_,_,rfl,rfl,p,b2,m2,_,rfl,bd,by omega,by omega,λj4 b4 m4 H4 iU qr bz km=>?_⟩
  have k4:=za3 km
  obtain⟨j,rfl⟩:=Zl iU
  have hj:j≤ru.length:=by omega
  have jm:=k4 _ _ gC (by simpa using pot_ne bd gC)
  have fB:Keep [p] H H4:=(k2.trans (k3.sub (by simp))).trans k4
  have W4:RwAt H4 t bs es:=⟨k4 _ _ (k3 _ _ W2.ls (by simp)) (by simpa using ntp),Paired.imp' (λa e h=>k4 _ _ (k3 _ _ h (by simp)) (by simpa using za8 h aD.1 (by intro z;cases z))) W2.ts,λe he=>k4 _ _ (k3 _ _ (W2.ro e he) (by simp)) (by simpa using pot_ne aD (W2.ro e he))⟩
  refine⟨_,rfl,.inl ⟨rfl,_,SqL.of W4.ls⟩,_,rfl,_,rfl,nl,_,_,_,rfl,rfl,SqL.of (N1 fB),by rw[Ku];exact z1 hi,_,rfl,_,rfl,_,rfl,ar,_,rfl,SqL.of jm,λq1 h1=>?_⟩
  have n1:ar≠q1:=zab jm h1
  refine⟨_,rfl,_,rfl,_,rfl,ar,_,rfl,SqL.of (by rw[zad n1];exact jm),λq2 h2=>?_⟩
  have fX:q1≠q2:=zab (o:=_) zac h2
  rw[zd4 (by rw[dz];exact hj),cut_to (by rw[dz];exact hj)]at *
  refine⟨q1,q2,_,_,rfl,rfl,(by rw[zad fX];exact zac),zac,by rw[Uc,Zg];omega,λq3 h3=>?_⟩
  rw[←Ur,←Ua,←Qt]at *
  have k5:Keep [] H4 (upd (upd (upd H4 q1 (.lst ((ru.drop j).map V.str))) q2 (.lst ((ru.take j).map V.str))) q3 (.lst ((ru.drop j++ru.take j).map V.str))):=((Keep.new h1).trans (Keep.new h2)).trans (Keep.new h3)
  have fF:(upd (upd (upd H4 q1 (.lst ((ru.drop j).map V.str))) q2 (.lst ((ru.take j).map V.str))) q3 (.lst ((ru.drop j++ru.take j).map V.str))) q3=some (.lst ((ru.drop j++ru.take j).map V.str)):=zac
  have f3:H4 q3=none:=zav ((Keep.new (xs:=[]) h1).trans (Keep.new h2)) h3 (by simp)
  generalize upd (upd (upd H4 q1 (.lst ((ru.drop j).map V.str))) q2 (.lst ((ru.take j).map V.str))) q3 (.lst ((ru.drop j++ru.take j).map V.str))=H5 at k5 fF
  have nq3t:q3≠t:=Zh (zab W4.ls f3)
  have fq3:H q3=none:=zav fB f3 (by simpa using Zh (zab bz.1 f3))
  refine⟨(by show 2≤sizeLine;decide),λc hc=>?_⟩
  have k6:Keep [] H4 (upd H5 c (.tup [.str (zba zs i),.ref q3])):=k5.trans (Keep.new hc)
  have eY:(upd H5 c (.tup [.str (zba zs i),.ref q3])) c=some (.tup [.str (zba zs i),.ref q3]):=zac
  have gj:(upd H5 c (.tup [.str (zba zs i),.ref q3])) q3=some (.lst ((ru.drop j++ru.take j).map V.str)):=by rw[zad (zab fF hc)];exact fF
  generalize upd H5 c (.tup [.str (zba zs i),.ref q3])=H6 at k6 eY gj
  have W6:=W4.keep k6
  have gA:bs.length=i:=by rw[Zz W6.ts,Zz T2,Yr]
  refine⟨t,_,_,rfl,rfl,W6.ls,by rw[Qa];omega,?_⟩
  have tupt:∀{a:Nc} {xs:List V},H6 a=some (.tup xs)→a≠t:=λ{a xs} e=>za8 e W6.ls (by intro z;cases z)
  have kt:Keep [p] H (upd H6 t (.lst (bs.map V.ref++[V.ref c]))):=λa u ea ha=>by
   rw[zad (zab ea ht)];exact k6 _ _ (fB a u ea ha) (by simp)
  refine⟨⟨_,_,_,rfl⟩,kt,bs++[c],es++[(zba zs i,ru.drop j++ru.take j,q3)],b4,m4,⟨by rw[zac,Qt];rfl,?_,λe' he=>?_⟩,?_,(bz.keep k6 (by simp)).keep (xs:=[t]) (Keep.wr (by simp)) (by simpa using Zh ntp),λe' he=>?_,λe' he=>?_⟩
  ·exact zas (Paired.imp' (λa e h=>by rw[zad (tupt h)];exact h) W6.ts) (.cons (by rw[zad (tupt eY)];exact eY) .nil)
  ·rcases Qd.mp he with z | z
   ·rw[zad (iL e' z)];exact W6.ro e' z
   ·rw[Qb.mp z];exact(zad nq3t).trans gj
  ·rw [Kv]
   exact zas T2 (.cons ⟨rfl,j,by rw[hg,eu]⟩ .nil)
  ·rcases Qd.mp he with z | z
   ·exact gU e' z
   ·rw[Qb.mp z];exact fq3
  ·rcases Qd.mp he with z | z
   ·exact iL e' z
   ·rw[Qb.mp z];exact nq3t
 ·rintro σ H2 ⟨⟨x4,x5,x6,rfl⟩,k2,bs,es,b2,m2,W2,T2,aD,gU,iL⟩
  have T2:TurnZ rr zs es (List.range rr.length):=by rw[gN]at T2;exact T2
  have eU:es.length=rr.length:=by rw[Zz T2,Yr]
  have gA:bs.length=rr.length:=by rw[Zz W2.ts,eU]
  have dz:(bs.map V.ref).length=rr.length:=by rw[Qa];exact gA
  refine⟨_,rfl,_,rfl,t,_,rfl,.inl (SqL.of W2.ls),_,_,rfl,rfl,p,b2,m2,_,rfl,aD,by omega,by omega,λj4 b4 m4 H4 iU qr bz km=>?_⟩
  have k4:=za3 km
  obtain⟨j,rfl⟩:=Zl iU
  have hj:j≤rr.length:=by omega
  have fB:Keep [p] H H4:=k2.trans k4
  have W4:RwAt H4 t bs es:=⟨k4 _ _ W2.ls (by simpa using ntp),Paired.imp' (λa e h=>k4 _ _ h (by simpa using za8 h aD.1 (by intro z;cases z))) W2.ts,λe he=>k4 _ _ (W2.ro e he) (by simpa using pot_ne aD (W2.ro e he))⟩
  refine⟨_,rfl,_,rfl,_,rfl,t,_,rfl,SqL.of W4.ls,λq1 h1=>?_⟩
  have n1:t≠q1:=zab W4.ls h1
  refine⟨_,rfl,_,rfl,_,rfl,t,_,rfl,SqL.of (by rw[zad n1];exact W4.ls),λq2 h2=>?_⟩
  have fX:q1≠q2:=zab (o:=_) zac h2
  rw[zd4 (by rw[dz];exact hj),cut_to (by rw[dz];exact hj)]at *
  refine⟨q1,q2,_,_,rfl,rfl,(by rw[zad fX];exact zac),zac,by rw[Uc,Zg];omega,λq3 h3=>?_⟩
  rw[←Ur,←Ua,←Qt]at *
  have k5:Keep [] H4 (upd (upd (upd H4 q1 (.lst ((bs.drop j).map V.ref))) q2 (.lst ((bs.take j).map V.ref))) q3 (.lst ((bs.drop j++bs.take j).map V.ref))):=((Keep.new h1).trans (Keep.new h2)).trans (Keep.new h3)
  have fF:(upd (upd (upd H4 q1 (.lst ((bs.drop j).map V.ref))) q2 (.lst ((bs.take j).map V.ref))) q3 (.lst ((bs.drop j++bs.take j).map V.ref))) q3=some (.lst ((bs.drop j++bs.take j).map V.ref)):=zac
  generalize upd (upd (upd H4 q1 (.lst ((bs.drop j).map V.ref))) q2 (.lst ((bs.take j).map V.ref))) q3 (.lst ((bs.drop j++bs.take j).map V.ref))=H5 at k5 fF
  have W5:RwAt H5 q3 (bs.drop j++bs.take j) (es.drop j++es.take j):=⟨fF,by
   have:=(W4.keep k5).ts
   exact zas (zfj j this) (zfi j this),λe he=>(W4.keep k5).ro e (by
    rcases Qd.mp he with z | z
    ·exact Wj z
    ·exact Ys z)⟩
  have T5:TurnZ rr zs (es.drop j++es.take j) ((List.range rr.length).drop j++(List.range rr.length).take j):=zas (zfj j T2) (zfi j T2)
  have P5:((List.range rr.length).drop j++(List.range rr.length).take j).Perm (List.range rr.length):=Yw.trans (by rw[Yp])
  have f5:∀e∈es.drop j++es.take j,H e.2.2=none:=λe he=>gU e (by
    rcases Qd.mp he with z | z
    ·exact Wj z
    ·exact Ys z)
  have e7:(es.drop j++es.take j).length=rr.length:=by rw[Qp,Uc,Zg];omega
  have ay:=bz.keep k5 (by simp)
  have jD:Keep [p] H H5:=fB.trans (k5.sub (by simp))
  generalize es.drop j++es.take j=jv at W5 T5 f5 e7
  generalize bs.drop j++bs.take j=bs5 at W5 fF
  generalize(List.range rr.length).drop j++(List.range rr.length).take j=ks at T5 P5
  have fin:∀(t':Nc) (fV:Nl) (fh:List Ent) (fA:List Nat) (b' m':Int) (H':Hp),RwAt H' t' fV fh→TurnZ rr zs fh fA→fA.Perm (List.range rr.length)→fh.length=rr.length→(∀e∈fh,H e.2.2=none)→Pot H' p b' m'→Keep [p] H H'→Q (.ref t') H':=λt' fV fh fA b' m' H' W' T' P' hl' f' c7 k'=>by
   obtain⟨cs,a7,C⟩:=cert_Z hG cL (λz hz=>(dv z hz).1) T' P'
   refine k t' fV fh cs a7 b' m' H' W' C (by omega) (λe he=>?_) f' c7 k'
   have:e.1∈fh.map (·.1):=Qj.mpr ⟨e,he,rfl⟩
   rw[names_Z T']at this
   obtain⟨x,hx,ex⟩:=Qj.mp this
   have hx:=Ya.mp (P'.mem_iff.mp hx)
   rw[←ex,nameN_lt (by omega)]
   exact dv _ (Qm _)
  refine⟨_,rfl,p,b4,m4,2,rfl,ay,by decide,by decide,λj7 b7 m7 H7 h70 h71 ba mv=>?_⟩
  have k7:=za3 mv
  have n3p:q3≠p:=za8 fF ay.1 (by
   intro z
   have z':bs5.map V.ref=[.int b4,.int m4]:=by injection z
   cases bs5 with
   |nil=>cases z'
   |cons a bu=>rw[Qk]at z';injection z' with z1 _;cases z1)
  have W7:RwAt H7 q3 bs5 jv:=⟨k7 _ _ W5.ls (by simpa using n3p),Paired.imp' (λa e h=>k7 _ _ h (by simpa using za8 h ay.1 (by intro z;cases z))) W5.ts,λe he=>k7 _ _ (W5.ro e he) (by simpa using pot_ne ay (W5.ro e he))⟩
  have jC:=jD.trans k7
  refine⟨rfl,_,rfl,?_⟩
  refine ite2 (λ_=>?_) (λ_=>?_)
  ·refine ⟨_,rfl,q3,_,rfl,SqL.of W7.ls,fun q4 h4=>?_⟩
   have kn:Keep [] H7 (upd H7 q4 (.lst (bs5.map V.ref).reverse)):=Keep.new h4
   exact⟨_,rfl,fin q4 bs5.reverse jv.reverse ks.reverse b7 m7 _ ⟨by rw[zac,List.map_reverse],zgg (W7.keep kn).ts,λe he=>(W7.keep kn).ro e (List.mem_reverse.mp he)⟩ (zgg T5) ((Jd ks).trans P5) (by rw[List.length_reverse];exact e7) (λe he=>f5 e (List.mem_reverse.mp he)) (ba.keep kn (by simp)) (jC.trans (kn.sub (by simp)))⟩
  ·exact⟨_,rfl,fin q3 bs5 jv ks b7 m7 H7 W7 T5 P5 e7 f5 ba jC⟩
end
end K21
end
section
namespace K21
open PySem L2 Wb
inductive IspDrawnD(vs:List V)(H:Hp)(Q:VK):Prop
 |mk (p:Nc) (b m:Int) (h0:vs=[.ref p]) (h1:Pot H p b m)
  (h2:∀(t:Nc) (bs:Nl) (es:List Ent) (cs:List (List (Str×Str))) (a7:Nw) (b' m':Int) (H':Hp),RwAt H' t bs es→Cert (es.map (·.1)) (row (rsOf es)) cs a7→es.length≤40→(∀e∈es,zcv e.1∧e.1 ≠ "nobody")→Pot H' p b' m'→Keep [p] H H'→Q (.ref t) H'):IspDrawnD vs H Q
def spDrawnD:Sp:=λvs H Q _=>IspDrawnD vs H Q
section
variable{P:Nj}{w:Nk}{K:Na}{mg:Nf}{base:Nm}
def scDrawn:zao [qP,qR] [qP] (zag sDrawn):=fsk
def ok_drawn(F:Fun K "_law_drawn" "_law_drawn" sDrawn f fd)(FT:Fun K qG qG zer ft fdt)(bT:Binds K fdt [qP,qM] [])(mT:mg qG=some (.ref ft))(GT:FnOk P w K mg base CX0 1 ft fdt [qP,qM] zge)(FR:Fun K "_law_rounds" "_law_rounds" zg0 fr fdr)(bR:Binds K fdr [qP, "_law_most"] [])(mR:mg "_law_rounds" = some (.ref fr))(GR:FnOk P w K mg base CX0 4 fr fdr [qP, "_law_most"] spRoundsD)(FW:Fun K "_law_rows" "_law_rows" sRows fw fdw)(bW:Binds K fdw [qP,qR,qN] [])(mW:mg "_law_rows" = some (.ref fw))(GW:FnOk P w K mg base CX0 2 fw fdw [qP,qR,qN] spRowsD)(FN:Fun K "_law_names" "_law_names" sNames fn fdn)(bN:Binds K fdn [qP,qM] [])(mN:mg "_law_names" = some (.ref fn))(GN:FnOk P w K mg base CX0 2 fn fdn [qP,qM] spNames)(a9:mg "len" = none):FnOk P w K mg base CX0 5 f fd [qP] spDrawnD:=by
 refine F.okL scDrawn (λcdv A outer s H vs Q E hr h=>?_)
 obtain⟨p,b,m,rfl,hp,k⟩:=h
 have aH:Room 1 _:=hr.mono (by decide)
 have dw:Room 2 _:=hr.mono (by decide)
 have aB:=sizeLine_eq
 refine⟨_,zae (zat 1 scDrawn.nd (zak GR hr rfl mR FR.kp bR .nil za0 (zaa (pv 0) (zaa (za6 zap (za4 (zaa zai (zaa zai (zaa zai (zaa zai zaf))))) (zak GT aH rfl mT FT.kp bT .nil za0 (zaa (pv 0) (zaa zai zaf))) (λ_ _=>rfl)) zaf))))
  (zah (zbb (zak GW dw rfl mW FW.kp bW .nil za0 (zaa (pv 0) (zaa (pv 1) (zaa (zak GN dw rfl mN FN.kp bN .nil za0 (zaa (pv 0) (zaa (zaj zam (by rfl) a9 Zr (zaa (pv 1) zaf)) zaf))) zaf)))))),?_⟩
 refine⟨_,rfl,(by show 4≤sizeLine;decide),λq hq=>?_⟩
 have k1:Keep [] H (upd H q (.lst [.int 12,.int 12,.int 16,.int 40])):=Keep.new hq
 have mX:(upd H q (.lst [.int 12,.int 12,.int 16,.int 40])) q=some (.lst [.int 12,.int 12,.int 16,.int 40]):=zac
 generalize upd H q (.lst [.int 12,.int 12,.int 16,.int 40])=H1 at k1 mX
 have bH:=hp.keep k1 (by simp)
 refine⟨_,rfl,p,b,m,4,rfl,bH,by decide,by decide,λj2 b2 m2 H2 h20 h21 aD ko=>?_⟩
 obtain⟨j,rfl⟩:=Zl h20
 have nqp:q≠p:=Zh (zab hp.1 hq)
 have bw:=ko _ _ mX nqp
 have k2:Keep [p] H H2:=(k1.sub (by simp)).trans (za3 ko)
 have hj:j<4:=by omega
 obtain⟨n,hn,dB⟩:∃n:Nat,n≤40∧atI [V.int 12,.int 12,.int 16,.int 40] (j:Int)=some (iV n):=by
  have:∀j:Fin 4,[V.int 12,.int 12,.int 16,.int 40][j.1]?=some (iV ([12,12,16,40].getD j.1 0))∧[12,12,16,40].getD j.1 0≤40:=by decide
  exact⟨_,(this ⟨j,hj⟩).2,zau (this ⟨j,hj⟩).1⟩
 refine⟨q,_,_,_,rfl,rfl,SqL.of bw,dB,p,b2,m2,n,rfl,aD,hn,λl as rr b3 m3 H3 R3 hG bi bd aO _ _ k3=>?_⟩
 have gN:(as.map V.ref).length=rr.length:=by rw[Qa];exact R3.len
 refine⟨_,rfl,_,rfl,_,rfl,_,rfl,l,_,rfl,.inl (SqL.of R3.ls),p,b3,m3,rr.length,by rw[gN];rfl,bd,bi,λnl zs b4 m4 H4 jO g7 cL dv bz _ k4=>?_⟩
 have nlp:=pot_l bd R3
 have R4:=R3.keep k4 (by simpa using nlp) λa ha z=>aO (by rw[Qb]at z;exact z▸ha)
 exact⟨p,l,nl,b4,m4,as,rr,zs,rfl,bz,R4,hG,bi,jO,g7,cL,dv,aO,λt bs es cs a7 b5 m5 H5 W C hl ok _ ay k5=>k t bs es cs a7 b5 m5 H5 W C hl ok ay (((k2.trans k3).trans k4).trans k5)⟩
end
end K21
end
section
namespace Wb
open PySem L2
structure zd8(r:No)(rt:Str)(ks:Ng)(par:Nq)(ds:Str→Nat):Prop where
 rk:rt∈ks
 r0:par rt=none
 d0:ds rt=0
 up:∀y∈ks,y≠rt→∃p,p∈ks∧par y=some p∧p∈r y∧ds y=ds p+1∧∀q∈ks,q∈r y→ds q+1=ds y→leS p q
 on:∀x∈ks,∀y∈r x,y∈ks∧ds y≤ds x+1
variable{r r':No}{rt:Str}{ks fA:Ng}{par cx:Nq}{ds fT:Str→Nat}
def zd8.le(hr:∀x y,y∈r x↔y∈r' x)(sy:∀x y,y∈r x→x∈r y)(a:zd8 r rt ks par ds)(b:zd8 r' rt fA cx fT):∀n y,y∈fA→fT y=n→y∈ks∧ds y≤n:=by
 intro n
 induction n using Nat.strongRecOn with
 | ind n ih =>
  intro y hy hn
  by_cases e:y=rt
  ·subst e
   exact⟨a.rk,by rw[a.d0];exact Zn _⟩
  ·obtain ⟨p,hp,_,dP,hd,_⟩:=b.up y hy e
   obtain⟨h1,h2⟩:=ih (fT p) (by omega) p hp rfl
   obtain⟨h3,h4⟩:=a.on p h1 y (sy _ _ ((hr y p).mpr dP))
   exact⟨h3,by omega⟩
def zd8.one(hr:∀x y,y∈r x↔y∈r' x)(sy:∀x y,y∈r x→x∈r y)(a:zd8 r rt ks par ds)(b:zd8 r' rt fA cx fT):∀y∈ks,y∈fA∧ds y=fT y∧par y=cx y:=by
 have sy':∀x y,y∈r' x→x∈r' y:=λx y h=>(hr y x).mp (sy _ _ ((hr x y).mpr h))
 have pH:∀x y,y∈r' x↔y∈r x:=λx y=>(hr x y).symm
 have r8:∀y∈ks,y∈fA∧ds y=fT y:=λy hy=>by
  obtain⟨h1,h2⟩:=b.le pH sy' a _ y hy rfl
  obtain⟨h3,h4⟩:=a.le hr sy b _ y h1 rfl
  exact⟨h1,by omega⟩
 intro y hy
 obtain⟨h1,h2⟩:=r8 y hy
 refine⟨h1,h2,?_⟩
 by_cases e:y=rt
 ·subst e
  rw[a.r0,b.r0]
 ·obtain ⟨p,hp,e1,dP,hd,hl⟩:=a.up y hy e
  obtain⟨p',c7,dE,pM,fO,hl'⟩:=b.up y h1 e
  have q1:=hl p' (a.le hr sy b _ p' c7 rfl).1 ((hr _ _).mpr pM) (by
   have:=(b.le pH sy' a _ p' (a.le hr sy b _ p' c7 rfl).1 rfl).2
   have:=(a.le hr sy b _ p' c7 rfl).2
   omega)
  have q2:=hl' p (r8 p hp).1 ((hr _ _).mp dP) (by rw[←(r8 p hp).2];omega)
  rw[e1,dE,zew q1 q2]
end Wb
end
section
namespace Wb
open PySem L2
variable{r:No}{rt:Str}{ks:Ng}{par:Nq}{ds:Str→Nat}
end Wb
end
section
namespace Wb
open PySem L2 K21
variable{ns:Ng}{r r':No}{a7:Nw}{rt:Str}{ks fA:Ng}{par cx:Nq}{ds fT:Str→Nat}{c:Str→Int}
end Wb
end
section
namespace Wb
open PySem L2 K21
structure BF(r:No)(rt:Str)(ks:Ng)(par:Nq)(ds:Str→Nat)(n:Nat)(lay:Ng):Prop where
 rk:rt∈ks
 r0:par rt=none
 d0:ds rt=0
 up:∀y∈ks,y≠rt→∃p,p∈ks∧par y=some p∧p∈r y∧ds y=ds p+1∧∀q∈ks,q∈r y→ds q+1=ds y→leS p q
 le:∀y∈ks,ds y≤n
 ly:∀y,y∈lay↔y∈ks∧ds y=n
 cl:∀x∈ks,ds x<n→∀y∈r x,y∈ks∧ds y≤ds x+1
 nd:ks.Nodup
variable{r:No}{rt:Str}{ks old fo S lay:Ng}{par cx:Nq}{ds fT:Str→Nat}{n:Nat}{don gF:Str→Str→Prop}
def BF.init(rt:Str):BF r rt [rt] (λ_=>none) (λ_=>0) 0 [rt] :=
 ⟨Qe,rfl,rfl,λy hy e=>absurd (Qb.mp hy) e,λ_ _=>Qf _,λy=>⟨λh=>⟨h,rfl⟩,λh=>h.1⟩,λ_ _ h=>absurd h (Nat.not_lt_zero _),Yx _ _⟩
def BF.tree(b:BF r rt ks par ds n []):zd8 r rt ks par ds :=
 ⟨b.rk,b.r0,b.d0,b.up,λx hx=>b.cl x hx (Nat.lt_of_le_of_ne (b.le x hx) λe=>by cases(b.ly x).mpr ⟨hx,e⟩)⟩
def BF.congr(b:BF r rt ks par ds n lay)(hp:∀y∈ks,cx y=par y)(hd:∀y∈ks,fT y=ds y):BF r rt ks cx fT n lay:=by
 refine⟨b.rk,(hp _ b.rk).trans b.r0,(hd _ b.rk).trans b.d0,λy hy e=>?_,λy hy=>by rw[hd y hy];exact b.le y hy,λy=>?_,λx hx h y hy=>?_,b.nd⟩
 ·obtain ⟨p,h1,h2,h3,h4,h5⟩:=b.up y hy e
  exact⟨p,h1,(hp y hy).trans h2,h3,by rw[hd y hy,hd p h1];exact h4,λq hq iC bw=>h5 q hq iC (by rw[hd q hq,hd y hy]at bw;exact bw)⟩
 ·rw [b.ly]
  exact⟨λh=>⟨h.1,by rw[hd y h.1];exact h.2⟩,λh=>⟨h.1,by rw[←hd y h.1];exact h.2⟩⟩
 ·rw [hd x hx] at h ⊢
  obtain⟨h1,h2⟩:=b.cl x hx h y hy
  exact⟨h1,by rw[hd y h1];exact h2⟩
structure BG(r:No)(rt:Str)(old fo:Ng)(par:Nq)(ds:Str→Nat)(n:Nat)(S:Ng)(don:Str→Str→Prop):Prop where
 bf:BF r rt old par ds n S
 f1:∀y∈fo,y∉old∧ds y=n+1∧∃p,p∈S∧par y=some p∧p∈r y∧∀q∈S,q∈r y→leS p q
 f2:fo.Nodup
 f3:∀x y,don x y→y∈old++fo
def BG.init(b:BF r rt old par ds n lay)(h:∀y,y∈S↔y∈lay)(hd:∀x y,¬don x y):BG r rt old [] par ds n S don :=
 ⟨⟨b.rk,b.r0,b.d0,b.up,b.le,λy=>(h y).trans (b.ly y),b.cl,b.nd⟩,λy hy=>(by cases hy),Zq,λx y h=>absurd h (hd x y)⟩
def BG.had(b:BG r rt old fo par ds n S don)(ho:o∈old++fo)(hd:∀x y,gF x y→don x y∨x=p∧y=o):BG r rt old fo par ds n S gF :=
 ⟨b.bf,b.f1,b.f2,λx y h=>(hd x y h).elim (b.f3 x y) λe=>e.2▸ho⟩
def BG.new(b:BG r rt old fo par ds n S don)(ho:o∉old++fo)(hp:p∈S)(hpo:p∈r o)(hl:∀q∈S,q∈r o→leS p q)(hd:∀x y,gF x y→don x y∨x=p∧y=o) :
  BG r rt old (fo++[o]) (λy=>if y=o then some p else par y) (λy=>if y=o then n+1 else ds y) n S gF:=by
 rw[Qd,not_or]at ho
 have ne:∀y∈old,y≠o:=λy hy e=>ho.1 (e▸hy)
 refine⟨b.bf.congr (λy hy=>if_neg (ne y hy)) (λy hy=>if_neg (ne y hy)),λy hy=>?_,?_,λx y h=>?_⟩
 ·rcases Qd.mp hy with z | z
  ·have e:y≠o:=fun e=>ho.2 (e ▸ z)
   obtain⟨h1,h2,p',h3,h4⟩:=b.f1 y z
   refine⟨h1,(if_neg e).trans h2,p',h3,?_⟩
   rw[if_neg e]
   exact h4
  ·have e:=Qb.mp z
   refine⟨by rw[e];exact ho.1,if_pos e,p,hp,if_pos e,by rw[e];exact hpo,by rw[e];exact hl⟩
 ·rw [Qz]
  exact⟨b.f2,Yx _ _,λa ha b' hb e=>ho.2 (by rw[←Qb.mp hb,←e];exact ha)⟩
 ·rw [← Qw]
  rcases hd x y h with z | z
  ·exact Qo _ (b.f3 x y z)
  ·rw[z.2];exact Qn _ Qe
def BG.done(b:BG r rt old fo par ds n S don)(hd:∀ x∈S,∀ y∈r x,don x y):BF r rt (old++fo) par ds (n+1) fo:=by
 have sO:∀x,x∈S→x∈old∧ds x=n:=λx hx=>(b.bf.ly x).mp hx
 refine⟨Qo _ b.bf.rk,b.bf.r0,b.bf.d0,λy hy e=>?_,λy hy=>?_,λy=>?_,λx hx aa y hy=>?_,?_⟩
 ·rcases Qd.mp hy with z | z
  ·obtain ⟨p,h1,h2,h3,h4,h5⟩:=b.bf.up y z e
   refine⟨p,Qo _ h1,h2,h3,h4,λq hq iC bw=>?_⟩
   rcases Qd.mp hq with u | u
   ·exact h5 q u iC bw
   ·have a1:=(b.f1 q u).2.1
    have a2:=b.bf.le y z
    omega
  ·obtain ⟨h1,h2,p,h3,h4,h5,h6⟩:=b.f1 y z
   refine⟨p,Qo _ (sO p h3).1,h4,h5,by rw[h2,(sO p h3).2],λq hq iC bw=>?_⟩
   rcases Qd.mp hq with u | u
   ·exact h6 q ((b.bf.ly q).mpr ⟨u,by omega⟩) iC
   ·have a1:=(b.f1 q u).2.1
    omega
 ·rcases Qd.mp hy with z | z
  ·exact Ke (b.bf.le y z)
  ·rw[(b.f1 y z).2.1];exact Qf _
 ·constructor
  ·exact λh=>⟨Qn _ h,(b.f1 y h).2.1⟩
  ·rintro ⟨h1,h2⟩
   rcases Qd.mp h1 with z | z
   ·have:=b.bf.le y z
    omega
   ·exact z
 ·have jG:x∈old:=by
   rcases Qd.mp hx with z | z
   ·exact z
   ·have:=(b.f1 x z).2.1
    omega
  by_cases h:ds x<n
  ·obtain ⟨h1,h2⟩:=b.bf.cl x jG h y hy
   exact⟨Qo _ h1,h2⟩
  ·have hxn:ds x=n:=by omega
   have h1:=b.f3 x y (hd x ((b.bf.ly x).mpr ⟨jG,hxn⟩) y hy)
   refine⟨h1,?_⟩
   rcases Qd.mp h1 with z | z
   ·have:=b.bf.le y z
    omega
   ·rw[(b.f1 y z).2.1,hxn];exact Qf _
 ·rw [Qz]
  exact⟨b.bf.nd,b.f2,λa ha b' hb e=>(b.f1 b' hb).1 (e▸ha)⟩
end Wb
end
section
namespace K21
open PySem L2 Wb
abbrev zg1:Stmt:=inClass sWeb 2
abbrev sTree:Stmt:=top 9
def dof(ks:Ng)(F:Str→V):List (Key×V):=ks.map λy=>((Sum.inr y:Key),F y)
def dof_out(h:x∉ks):valV (dof ks F) (Sum.inr x)=none:=by
 unfold dof
 induction ks with
 |nil=>rfl
 |cons a t ih =>
  rw[Qh,not_or]at h
  rw[Qk,zbh]
  ·exact ih h.2
  ·intro q;exact h.1 (Ww q).symm
def dof_in(h:x∈ks):valV (dof ks F) (Sum.inr x)=some (F x):=by
 unfold dof
 induction ks with
 |nil=>cases h
 | cons a t ih =>
  rw[Qk]
  by_cases e:a=x
  ·rw[zb8 (by rw[e]),e]
  ·rw [zbh (fun q=>e (Ww q))]
   rcases Qh.mp h with z | z
   ·exact absurd z.symm e
   ·exact ih z
def zf1(h:∀y∈ks,F y=G y):dof ks F=dof ks G:=Yo λy hy=>by rw[h y hy]
def dof_new(h:x∉ks):putK (dof ks F) (Sum.inr x) (F x)=dof (ks++[x]) F:=by
 rw[zdw _ (dof_out h)];unfold dof;rw[List.map_append];rfl
def dof_put(h:x∉ks)(v:V):putK (dof ks F) (Sum.inr x) v=dof (ks++[x]) λy=>if y=x then v else F y:=by
 rw[zf1 (G:=λy=>if y=x then v else F y) λy hy=>by rw[if_neg (λe=>h (by rw[←e];exact hy))]]
 have:=dof_new (F:=λy=>if y=x then v else F y) h
 rw[if_pos rfl]at this
 exact this
def dof_len(ks:Ng)(F:Str→V):(dof ks F).length=ks.length:=Qa ..
def Keep.fr(k:Keep [] H H')(h:H a=none):Keep [] H (upd H' a o):=λc u ec hc=>by rw[zad (zab ec h)];exact k c u ec hc
inductive zgp(C:Nc)(vs:List V)(H:Hp)(Q:VK):Prop
 |mk (x dx d:Nc) (es:List Ent) (e:Ent) (h0:vs=[.ref x,.str e.1]) (h1:WAt H C x dx d es) (h2:e∈es) (h3:∀l,H l=none→Q (.ref l) (upd H l (.lst (e.2.1.map V.str)))):zgp C vs H Q
def spRoundOf(C:Nc):Sp:=λvs H Q _=>zgp C vs H Q
def parV(par:Nq)(y:Str):V:=match par y with
 |none=>.non
 |some p=>.str p
inductive IspTree(C:Nc)(vs:List V)(H:Hp)(Q:VK):Prop
 |mk (x dx d:Nc) (es:List Ent) (rt:Str) (h0:vs=[.ref x,.str rt]) (h1:WAt H C x dx d es) (h2:es.length≤60) (h3:rt∈es.map (·.1)) (h4:∀a b,b∈row (rsOf es) a→a∈row (rsOf es) b) (h5:∀a b,b∈row (rsOf es) a→b∈es.map (·.1)) (h6:∀e∈es,e.2.1.length≤100)
  (h7:∀(l:Nc) (ks:Ng) (par:Nq) (ds:Str→Nat) (H':Hp),H' l=some (.dK (dof ks (parV par)))→zd8 (row (rsOf es)) rt ks par ds→ks.Nodup→(∀y∈ks,y∈es.map (·.1))→H l=none→Keep [] H H'→Q (.ref l) H'):IspTree C vs H Q
def spTree(C:Nc):Sp:=λvs H Q _=>IspTree C vs H Q
section
variable{P:Nj}{w:Nk}{K:Na}{mg:Nf}{base:Nm}
def scRoundOf:zao ["self", "place"] ["self", "place"] (zag zg1):=⟨rfl,rfl,rfl,by decide +kernel,rfl,by decide +kernel,by decide +kernel⟩
def ok_roundof(F:Fun K "round_of" "Web.round_of" zg1 f fd)(cW:Cls K C)(nW:zdc K C "rounds")(dS:mg "list" = none):FnOk P w K mg base CX0 1 f fd ["self", "place"] (spRoundOf C):=by
 refine F.ok scRoundOf (λvs H Q E h=>?_) (λcdv A outer s H vs Q E hr h=>?_)
 ·obtain ⟨x,dx,d,es,e,rfl,_⟩:=h
  rfl
 ·obtain ⟨x,dx,d,es,e,rfl,wt,he,k⟩:=h
  have hu:=zb7 hr
  refine⟨_,zae (zb2 (zet (zbv hu (pv 1) (pe_fld (pv 0) rfl))) (zah zg8) za1)
   (zah (zbb (zb4 zey (by rfl) dS PyProof.Rows.boot_list (zaa (pe_dget hu (pe_fld (pv 0) rfl) (pv 1) (λ_ _=>rfl)) zaf)))),?_⟩
  have g:=DGet.k (k:=Sum.inr e.1) wt.ta.dc
  rw[zen wt.ta.nd he]at g
  refine⟨_,rfl,_,rfl,x,C,dx,_,_,rfl,wt.ob,cW,nW,rfl,d,_,rfl,g,_,rfl,zbi rfl ?_⟩
  exact⟨_,rfl,x,C,dx,_,_,rfl,wt.ob,cW,nW,rfl,_,rfl,d,_,rfl,g,e.2.2,_,rfl,.inr (SqT.of (wt.ta.ro e he)),k⟩
def zeo:zao ["web", "root", "parents", "layer", "found", "place", "other"] ["web", "root"] (zag sTree):=⟨rfl,rfl,rfl,by decide +kernel,rfl,by decide +kernel,by decide +kernel⟩
def ok_tree(F:Fun K "tree" "tree" sTree f fd)(cW:Cls K C)(nW:zdc K C "rounds")(mR:Meth K C "round_of" fr)(bR:Binds K fdr ["self", "place"] [])(GR:FnOk P w K mg base CX0 1 fr fdr ["self", "place"] (spRoundOf C))(aN:mg "sorted" = none):FnOk P w K mg base CX0 2 f fd ["web", "root"] (spTree C):=by
 refine F.ok zeo (λvs H Q E h=>?_) (λcdv A outer s H vs Q E hr h=>?_)
 ·obtain ⟨x,dx,d,es,rt,rfl,_⟩:=h
  rfl
 ·obtain ⟨x,dx,d,es,rt,rfl,wt,cg,gK,sy,inn,bi,k⟩:=h
  have hu:=zb7 hr
  have aB:sizeLine=16777216:=sizeLine_eq
  refine⟨_,zae (zb2 (zet (zbv hu (pv 1) (pe_fld (pv 0) rfl))) (zah zg8) za1)
   (zae (zeu (i:=2) zeo.nd rfl (Or.inl rfl) (pe_disp (zg9 (pv 1) pe_non pps_nil) rfl rfl (by decide) (by decide)))
   (zae (zeu (i:=3) zeo.nd rfl (Or.inl rfl) (za4 (zaa (pv 1) zaf)))
   (zae (zc7 Zf (zdx (pv 3) (fun _=>rfl))
    (zae (zeu (i:=4) zeo.nd rfl (Or.inl rfl) (za4 zaf))
    (zae (zbd Zf rfl (zay (zaj ze0 (by rfl) aN Wi (zaa (pv 3) zaf))) (zhb (i:=5) zeo.nd rfl (Or.inl rfl))
     (zah (zbd Zf rfl (zay (pe_meth (pl:=_) (pv 0) cW mR GR hr bR .nil za0 (zaa (pv 5) zaf))) (zhb (i:=6) zeo.nd rfl (Or.inl rfl))
      (zah (zb2 (zet (zbv hu (pv 6) (pv 2)))
       (zae (zed hu (pv 2) (pv 6) (pv 5) rfl)
       (zah (zax (zch Zc Zu Zt zbc (pv 4) (zaa (pv 6) zaf))))) za1)))))
    (zah (zeu (i:=3) zeo.nd rfl (Or.inl rfl) (pv 4))))))
   (zah (zbb (pv 2)))))),?_⟩
  have av:(es.map (·.1)).Nodup:=wt.ta.nd
  have ag:∀e∈es,row (rsOf es) e.1=e.2.1:=λe he=>zca av he
  generalize row (rsOf es)=r at sy inn k ag
  generalize dh:es.map (·.1)=ns at av gK inn k
  have jO:ns.length=es.length:=by rw[←dh,Qa]
  obtain⟨e0,he0,her⟩:=Qj.mp (by rw[dh];exact gK:rt∈es.map (·.1))
  have r6:e0.1=rt:=her
  have g0:=DGet.k (k:=Sum.inr e0.1) wt.ta.dc
  rw[zen wt.ta.nd he0,r6]at g0
  refine⟨_,rfl,_,rfl,x,C,dx,_,_,rfl,wt.ob,cW,nW,rfl,d,_,rfl,g0,_,rfl,zbi rfl ?_⟩
  refine λpa aO=>⟨_,rfl,zac,[(Sum.inr rt,.non)],rfl,(by show 1≤15;decide),?_⟩
  have fG:(zev [] [((Sum.inr rt:Key),V.non)])=dof [rt] (parV λ_=>none):=rfl
  rw[fG]
  have k1:Keep [] H (upd (upd H pa (.dK [])) pa (.dK (dof [rt] (parV λ_=>none)))):=by rw[upd_upd];exact Keep.new aO
  have bH:(upd (upd H pa (.dK [])) pa (.dK (dof [rt] (parV λ_=>none)))) pa=some (.dK (dof [rt] (parV λ_=>none))):=zac
  generalize upd (upd H pa (.dK [])) pa (.dK (dof [rt] (parV λ_=>none)))=H1 at k1 bH
  refine⟨_,rfl,(by show 1≤sizeLine;decide),λl1 bA=>?_⟩
  have npl:pa≠l1:=zab bH bA
  refine⟨λm σ H'=>Ex7 λ(lay ks:Ng) (par:Nq) (ds:Str→Nat) (n:Nat) (la:Nc) (fo:Nc)=>Aj9 (m=2*(ns.length-ks.length)+(if lay=[] then 0 else 1)) (Ex3 λx4 x5 x6=>σ=[some (.ref x),some (.str rt),some (.ref pa),some (.ref la),x4,x5,x6]) (H' pa=some (.dK (dof ks (parV par)))) (H' la=some (.lst (lay.map V.str))) (BF r rt ks par ds n lay) (∀y∈ks,y∈ns) (la≠pa) lay.Nodup (Keep [] H H'),
   ⟨_,[rt],[rt],_,_,0,l1,l1,rfl,⟨none,none,none,rfl⟩,by rw[zad npl];exact bH,zac,BF.init rt,λy hy=>(by rw[Qb.mp hy];exact gK),Zh npl,Yx _ _,k1.trans (Keep.new bA)⟩,?_⟩
  rintro m σ H2 ⟨lay,ks,par,ds,n,la,_,rfl,⟨x4,x5,x6,rfl⟩,aD,cI,bf,aA,nlp,dX,k2⟩
  refine⟨_,rfl,_,.inl ⟨_,SqL.of cI,rfl⟩,?_⟩
  have fI:ks.length≤ns.length:=zbq bf.nd aA
  by_cases dW:lay=[]
  ·subst dW
   refine zbi rfl ⟨_,rfl,k pa ks par ds H2 aD bf.tree bf.nd aA aO k2⟩
  ·refine zbm (by cases lay with
    |nil=>exact absurd rfl dW
    |cons _ _=>rfl) ?_
   refine⟨_,λ σ' H' zz=>zz,?_⟩
   refine⟨(by show 0≤sizeLine;decide),λfo cT=>?_⟩
   have npf:pa≠fo:=zab aD cT
   have nlf:la≠fo:=zab cI cT
   have ffo:H fo=none:=zav k2 cT (by simp)
   have k3:Keep [] H (upd H2 fo (.lst [])):=k2.trans (Keep.new cT)
   have bd:(upd H2 fo (.lst [])) pa=some (.dK (dof ks (parV par))):=by rw[zad npf];exact aD
   have cH:(upd H2 fo (.lst [])) la=some (.lst (lay.map V.str)):=by rw[zad nlf];exact cI
   have bE:(upd H2 fo (.lst [])) fo=some (.lst (([]:List Str).map V.str)):=zac
   generalize upd H2 fo (.lst [])=H3 at k3 bd cH bE
   refine⟨_,rfl,la,lay,rfl,SqL.of cH,λls S nh nI hSs=>?_⟩
   have npls:pa≠ls:=zab bd nh
   have nfls:fo≠ls:=zab bE nh
   have k4:Keep [] H (upd H3 ls (.lst (S.map V.str))):=k3.trans (Keep.new nh)
   have iO:(upd H3 ls (.lst (S.map V.str))) ls=some (.lst (S.map V.str)):=zac
   have bz:(upd H3 ls (.lst (S.map V.str))) pa=some (.dK (dof (ks++[]) (parV par))):=by rw[zad npls,Zx];exact bd
   have cc:(upd H3 ls (.lst (S.map V.str))) fo=some (.lst (([]:List Str).map V.str)):=by rw[zad nfls];exact bE
   have fls:H ls=none:=zav k3 nh (by simp)
   generalize upd H3 ls (.lst (S.map V.str))=H4 at k4 iO bz cc
   have hSl:S.length≤60:=by
    rw[nI.length_eq]
    have:=zbq dX λy hy=>aA y ((bf.ly y).mp hy).1
    omega
   refine⟨ls,rfl,⟨_,SqL.of iO⟩,zd0 (zs:=S) (λi σ H'=>Ex3 λ(fl:Ng) (par:Nq) (ds:Str→Nat)=>Aj7 (Ex2 λx5 x6=>σ=[some (.ref x),some (.str rt),some (.ref pa),some (.ref la),some (.ref fo),x5,x6]) (H' pa=some (.dK (dof (ks++fl) (parV par)))) (H' fo=some (.lst (fl.map V.str))) (H' ls=some (.lst (S.map V.str))) (BG r rt ks fl par ds n S λx y=>x∈S.take i∧y∈r x) (∀y∈fl,y∈ns) (Keep [] H H'))
    ⟨[],par,ds,⟨_,_,rfl⟩,bz,cc,iO,BG.init bf (λy=>nI.mem_iff) (λx y h=>by cases h.1),λy hy=>(by cases hy),k4⟩ (λi σ H' _ hh=>by obtain⟨_,_,_,h⟩:=hh;exact SqL.of h.h3) ?_ ?_⟩
   ·rintro i hi σ H5 ⟨fl,i5,rR,⟨x5,x6,rfl⟩,ay,cJ,iN,bg,eR,k5⟩
    have jq:S[i]∈S:=Qm hi
    have nK:S[i]∈ns:=aA _ ((bf.ly _).mp (nI.mem_iff.mp jq)).1
    obtain⟨en,aq,eT⟩:=Qj.mp (by rw[dh];exact nK:S[i]∈es.map (·.1))
    have aI:en.1=S[i]:=eT
    have bj:r S[i]=en.2.1:=by rw[←aI];exact ag en aq
    have eU:=bi en aq
    have mo:WAt H5 C x dx d es:=wt.keep k5 (by simp) (by simp) (λ_ _=>by simp)
    refine⟨_,rfl,x,dx,_,rfl,mo.ob,rfl,_,rfl,x,dx,d,es,en,by rw[aI];rfl,mo,aq,λq hq=>?_⟩
    have fq:H q=none:=zav k5 hq (by simp)
    have npq:pa≠q:=zab ay hq
    have nfq:fo≠q:=zab cJ hq
    have nlq:ls≠q:=zab iN hq
    refine⟨q,rfl,⟨_,SqL.of zac⟩,zd0 (zs:=en.2.1) (λj σ H'=>Ex3 λ(fl:Ng) (par:Nq) (ds:Str→Nat)=>Aj8 (Ex1 λx6=>σ=[some (.ref x),some (.str rt),some (.ref pa),some (.ref la),some (.ref fo),some (.str S[i]),x6]) (H' pa=some (.dK (dof (ks++fl) (parV par)))) (H' fo=some (.lst (fl.map V.str))) (H' ls=some (.lst (S.map V.str))) (H' q=some (.lst (en.2.1.map V.str))) (BG r rt ks fl par ds n S λx y=>x∈S.take i∧y∈r x∨x=S[i]∧y∈en.2.1.take j) (∀y∈fl,y∈ns) (Keep [] H H'))
     ⟨fl,i5,rR,⟨_,rfl⟩,by rw[zad npq];exact ay,by rw[zad nfq];exact cJ,by rw[zad nlq];exact iN,zac,⟨bg.bf,bg.f1,bg.f2,λx y h=>h.elim (bg.f3 x y) λh=>by cases h.2⟩,eR,k5.trans (Keep.new hq)⟩ (λj σ H' _ hh=>by obtain⟨_,_,_,h⟩:=hh;exact SqL.of h.h4) ?_ ?_⟩
    ·rintro j hj σ H6 ⟨cv,aJ,rQ,⟨y6,rfl⟩,cr,gv,gr,gj,fj,ce,k6⟩
     have kX:en.2.1[j]∈r S[i]:=by rw[bj];exact Qm hj
     have tk:en.2.1.take (j+1)=en.2.1.take j++[en.2.1[j]]:=Ql hj
     generalize en.2.1[j]=o at kX tk
     have lI:∀x y,(x∈S.take i∧y∈r x∨x=S[i]∧y∈en.2.1.take (j+1))→(x∈S.take i∧y∈r x∨x=S[i]∧y∈en.2.1.take j)∨x=S[i]∧y=o:=λx y h=>by
      rcases h with h | ⟨h1,h2⟩
      ·exact .inl (.inl h)
      ·rw [tk] at h2
       rcases Qd.mp h2 with z | z
       ·exact .inl (.inr ⟨h1,z⟩)
       ·exact .inr ⟨h1,Qb.mp z⟩
     have g6:=DGet.k (k:=Sum.inr o) cr
     by_cases ho:o∈ks++cv
     ·rw [dof_in ho] at g6
      refine⟨_,rfl,_,rfl,pa,_,rfl,g6,_,rfl,zbi rfl ?_⟩
      exact⟨cv,aJ,rQ,⟨_,rfl⟩,cr,gv,gr,gj,fj.had ho lI,ce,k6⟩
     ·rw [dof_out ho] at g6
      have fH:(ks++cv).length≤ns.length:=zbq (by
       rw[Qz]
       exact⟨fj.bf.nd,fj.f2,λa ha b hb e=>(fj.f1 b hb).1 (e▸ha)⟩) λy hy=>(Qd.mp hy).elim (aA y) (ce y)
      refine⟨_,rfl,_,rfl,pa,_,rfl,g6,_,rfl,zbm rfl ?_⟩
      refine⟨_,rfl,_,rfl,_,rfl,pa,_,rfl,DPut.k (k:=Sum.inr o) cr (by rw[dof_len];omega),?_⟩
      have ed:putK (dof (ks++cv) (parV aJ)) (Sum.inr o) (V.str S[i])=dof (ks++(cv++[o])) (parV λy=>if y=o then some S[i] else aJ y):=by
       rw[dof_put ho,Qw]
       congr 1
       funext y
       unfold parV
       by_cases e:y=o
       ·rw[if_pos e];dsimp only;rw[if_pos e]
       ·rw[if_neg e];dsimp only;rw[if_neg e]
      rw[ed]
      have ou:fo≠pa:=Zh npf
      have iZ:(upd H6 pa (.dK (dof (ks++(cv++[o])) (parV λy=>if y=o then some S[i] else aJ y)))) fo=some (.lst (cv.map V.str)):=by rw[zad ou];exact gv
      have l9:(upd H6 pa (.dK (dof (ks++(cv++[o])) (parV λy=>if y=o then some S[i] else aJ y)))) ls=some (.lst (S.map V.str)):=by rw[zad (Zh npls)];exact gr
      have hq7:(upd H6 pa (.dK (dof (ks++(cv++[o])) (parV λy=>if y=o then some S[i] else aJ y)))) q=some (.lst (en.2.1.map V.str)):=by rw[zad (Zh npq)];exact gj
      have ba:(upd H6 pa (.dK (dof (ks++(cv++[o])) (parV λy=>if y=o then some S[i] else aJ y)))) pa=some (.dK (dof (ks++(cv++[o])) (parV λy=>if y=o then some S[i] else aJ y))):=zac
      have k7:Keep [] H (upd H6 pa (.dK (dof (ks++(cv++[o])) (parV λy=>if y=o then some S[i] else aJ y)))):=k6.fr aO
      generalize upd H6 pa (.dK (dof (ks++(cv++[o])) (parV λy=>if y=o then some S[i] else aJ y)))=H7 at iZ l9 hq7 ba k7
      refine⟨_,rfl,.inl ⟨rfl,_,SqL.of iZ⟩,_,rfl,fo,_,_,rfl,rfl,iZ,by rw[Qp]at fH;rw[Qa];omega,?_⟩
      refine⟨cv++[o],_,_,⟨_,rfl⟩,by rw[zad npf];exact ba,by rw[zac,Qt];rfl,by rw[zad (Zh nfls)];exact l9,by rw[zad (Zh nfq)];exact hq7,fj.new ho jq (sy _ _ kX) (λz hz kr=>?_) lI,λy hy=>?_,k7.fr ffo⟩
      ·obtain ⟨t,ht,rfl⟩:=Zo hz
       rcases Nat.lt_trichotomy t i with c | c | c
       ·refine absurd (fj.f3 S[t] o (.inl ⟨?_,sy _ _ kr⟩)) ho
        rw[←Ug (j:=i) (h:=by rw[Zg];omega)]
        exact Qm _
       ·subst c;exact λz=>Wk _ z
       ·exact Uo.mp (hSs (by rw[←nI.length_eq];omega)) i t hi ht c
      ·rcases Qd.mp hy with z | z
       ·exact ce y z
       ·rw[Qb.mp z];exact inn _ _ kX
    ·rintro σ H6 ⟨cv,aJ,rQ,⟨y6,rfl⟩,cr,gv,gr,gj,fj,ce,k6⟩
     refine⟨cv,aJ,rQ,⟨_,_,rfl⟩,cr,gv,gr,⟨fj.bf,fj.f1,fj.f2,λx y h=>fj.f3 x y ?_⟩,ce,k6⟩
     rw[Qa,Qx (Qf _)]
     rw[Ql hi]at h
     rcases Qd.mp h.1 with z | z
     ·exact .inl ⟨z,h.2⟩
     ·have e:=Qb.mp z
      exact .inr ⟨e,by rw[←bj,←e];exact h.2⟩
   ·rintro σ H5 ⟨fl,i5,rR,⟨x5,x6,rfl⟩,ay,cJ,iN,bg,eR,k5⟩
    have hb:=bg.done λx hx y hy=>⟨by rw[Qa,Qx (Qf _)];exact hx,hy⟩
    have fH:(ks++fl).length≤ns.length:=zbq hb.nd λy hy=>(Qd.mp hy).elim (aA y) (eR y)
    rw[Qp]at fH
    refine⟨_,rfl,_,?_,fl,ks++fl,i5,rR,n+1,fo,fo,rfl,⟨_,_,_,rfl⟩,ay,cJ,hb,λy hy=>(Qd.mp hy).elim (aA y) (eR y),Zh npf,bg.f2,k5⟩
    rw[if_neg dW,Qp]
    by_cases eS:fl=[]
    ·rw[if_pos eS,eS,Wv];omega
    ·rw [if_neg eS]
     have:=Uq.mpr eS
     omega
end
end K21
end
section
namespace Wb
open PySem L2
structure DF(r:No)(rt:Str)(ks:Ng)(ds:Str→Nat)(n:Nat)(lay:Ng):Prop where
 rk:rt∈ks
 d0:ds rt=0
 up:∀y∈ks,y≠rt→∃p,p∈ks∧p∈r y∧ds y=ds p+1
 le:∀y∈ks,ds y≤n
 ly:∀y,y∈lay↔y∈ks∧ds y=n
 cl:∀x∈ks,ds x<n→∀y∈r x,y∈ks∧ds y≤ds x+1
 nd:ks.Nodup
def DF.init{r:No}(rt:Str):DF r rt [rt] (λ_=>0) 0 [rt] :=
 ⟨Qe,rfl,λy hy e=>absurd (Qb.mp hy) e,λ_ _=>Qf _,λy=>⟨λh=>⟨h,rfl⟩,λh=>h.1⟩,λ_ _ h=>absurd h (Nat.not_lt_zero _),Yx _ _⟩
def DF.next{r:No}{rt:Str}{ks lay F:Ng}{ds:Str→Nat}{n:Nat}(b:DF r rt ks ds n lay)(sy:∀ a b,b∈r a→a∈r b)(hf:∀ y,y∈F↔y∉ks∧∃ x∈lay,y∈r x)(nd:F.Nodup) :
  DF r rt (ks++F) (λy=>if y∈F then n+1 else ds y) (n+1) F:=by
 have out:∀{y},y∈ks→y∉F:=λhy hF=>((hf _).mp hF).1 hy
 refine⟨Qo _ b.rk,by rw[if_neg (out b.rk)];exact b.d0,λy hy e=>?_,λy hy=>?_,λy=>?_,λx hx aa y hy=>?_,?_⟩
 ·rcases Qd.mp hy with z | z
  ·obtain ⟨p,h1,h2,h3⟩:=b.up y z e
   exact⟨p,Qo _ h1,h2,by rw[if_neg (out z),if_neg (out h1)];exact h3⟩
  ·obtain ⟨_,x,hx,cA⟩:=(hf y).mp z
   obtain⟨hx1,jI⟩:=(b.ly x).mp hx
   exact⟨x,Qo _ hx1,sy _ _ cA,by rw[if_pos z,if_neg (out hx1),jI]⟩
 ·show (if y∈F then n+1 else ds y)≤n+1
  by_cases z:y∈F
  ·rw[if_pos z];exact Qf _
  ·rw[if_neg z];exact Ke (b.le y ((Qd.mp hy).resolve_right z))
 ·show y∈F↔y∈ks++F∧(if y∈F then n+1 else ds y)=n+1
  by_cases z:y∈F
  ·rw[if_pos z];exact⟨λ_=>⟨Qn _ z,rfl⟩,λ_=>z⟩
  ·rw [if_neg z]
   refine⟨λh=>absurd h z,λ⟨h1,h2⟩=>?_⟩
   have:=b.le y ((Qd.mp h1).resolve_right z)
   omega
 ·have aa:(if x∈F then n+1 else ds x) < n+1:=aa
  have hxF:x∉F:=λz=>by rw[if_pos z]at aa;exact Yc _ aa
  have jH:=(Qd.mp hx).resolve_right hxF
  show y∈ks++F∧(if y∈F then n+1 else ds y)≤(if x∈F then n+1 else ds x)+1
  rw[if_neg hxF]at aa ⊢
  by_cases hk:y∈ks
  ·rw [if_neg (out hk)]
   refine⟨Qo _ hk,?_⟩
   by_cases hl:ds x<n
   ·exact(b.cl x jH hl y hy).2
   ·have:=b.le y hk
    omega
  ·have hn:ds x=n:=by
    by_cases hl:ds x<n
    ·exact absurd (b.cl x jH hl y hy).1 hk
    ·omega
   have hF:y∈F:=(hf y).mpr ⟨hk,x,(b.ly x).mpr ⟨jH,hn⟩,hy⟩
   rw[if_pos hF]
   exact⟨Qn _ hF,by omega⟩
 ·rw [Qz]
  exact⟨b.nd,nd,λa ha c hc e=>out ha (e▸hc)⟩
def Lst(r:No)(ds:Str→Nat)(y p:Str):Prop:=p∈r y∧ds p+1=ds y∧∀q∈r y,ds q+1=ds y→leS p q
def DF.on{r:No}{rt:Str}{ks:Ng}{ds:Str→Nat}{n:Nat}(b:DF r rt ks ds n []):∀x∈ks,∀y∈r x,y∈ks∧ds y≤ds x+1 :=
 λx hx=>b.cl x hx (Nat.lt_of_le_of_ne (b.le x hx) λe=>by cases(b.ly x).mpr ⟨hx,e⟩)
def DF.tree{r:No}{rt:Str}{ks:Ng}{ds:Str→Nat}{n:Nat}(b:DF r rt ks ds n [])(h:∀y∈ks,y≠rt→∃p,Lst r ds y p) :
  ∃par,zd8 r rt ks par ds∧par rt=none∧∀y∈ks,y≠rt→∀p,Lst r ds y p→par y=some p:=by
 classical
 have key:∀y (hy:y∈ks∧y≠rt),Lst r ds y (Classical.choose (h y hy.1 hy.2)):=λy hy=>Classical.choose_spec (h y hy.1 hy.2)
 refine⟨λy=>if hy:y∈ks∧y≠rt then some (Classical.choose (h y hy.1 hy.2)) else none,⟨b.rk,dif_neg λz=>z.2 rfl,b.d0,λy hy e=>?_,b.on⟩,dif_neg λz=>z.2 rfl,λy hy e p hp=>?_⟩
 ·obtain ⟨h1,h2,h3⟩:=key y ⟨hy,e⟩
  exact⟨_,(b.on y hy _ h1).1,dif_pos ⟨hy,e⟩,h1,h2.symm,λq _ iC hq=>h3 q iC hq⟩
 ·obtain ⟨h1,h2,h3⟩:=key y ⟨hy,e⟩
  refine(dif_pos ⟨hy,e⟩).trans ?_
  rw[zew (h3 p hp.1 hp.2.1) (hp.2.2 _ h1 h2)]
end Wb
namespace K21
open PySem L2 Wb
def eX:Stmt→Expr
 |.Expr e _=>e
 |_=>.Name "" ⟨0,0,0,0⟩
def bW:Stmt→List Stmt
 |.While _ b _ _=>b
 |_=>[]
def zhe{X:Cx}{K:Na}(hK:X.K=K):OpR X (compareOp .NotIn) (rIn K true):=hK▸zc1
structure RF(H:Hp)(d:Nc)(es:List Ent):Prop where
 dc:Rd H d (.dK (es.map λe=>((Sum.inr e.1:Key),V.ref e.2.2)))
 nd:(es.map (·.1)).Nodup
 ro:∀e∈es,H e.2.2=some (.lst (e.2.1.map V.str))
def RF.get(R:RF H d es)(he:e∈es):DGet H d (.str e.1) (some (.ref e.2.2)):=.inl ⟨_,Sum.inr e.1,R.dc,rfl,(zen R.nd he).symm⟩
def RF.keep(R:RF H d es)(k:Keep [] H H'):RF H' d es :=
 ⟨R.dc.imp (λe=>k _ _ e (by simp)) λ⟨o,e⟩=>⟨o,k _ _ e (by simp)⟩,R.nd,λe he=>k _ _ (R.ro e he) (by simp)⟩
structure WF(es:List Ent):Prop where
 sy:∀a b,b∈row (rsOf es) a→a∈row (rsOf es) b
 inn:∀a b,b∈row (rsOf es) a→b∈es.map (·.1)
 rl:∀e∈es,e.2.1.length≤100
 rn:∀e∈es,e.2.1.Nodup
 few:es.length≤40
abbrev zdg:Stmt:=top 35
inductive IspDepths(vs:List V)(H:Hp)(Q:VK):Prop
 |mk (d:Nc) (es:List Ent) (rt:Str) (h0:vs=[.ref d,.str rt]) (h1:RF H d es) (h2:WF es) (h3:rt∈es.map (·.1))
  (h4:∀(l:Nc) (ks:Ng) (ds:Str→Nat) (n:Nat) (H':Hp),H' l=some (.dK (dof ks λy=>iV (ds y)))→DF (row (rsOf es)) rt ks ds n []→(∀y∈ks,y∈es.map (·.1))→H l=none→Keep [] H H'→Q (.ref l) H'):IspDepths vs H Q
def spDepths:Sp:=λvs H Q _=>IspDepths vs H Q
abbrev csDe:Scope:=scOf (aOf 0 (eX ((bOf ((bW (sAt zdg 2)).getD 1 (.Pass ⟨0,0,0,0⟩))).getD 0 (.Pass ⟨0,0,0,0⟩))))
def csDe_k:csDe.kind=.function:=by rfl
def csDe_c:∀y∈csDe.names,y.2≠.cell:=by decide +kernel
def csDe_n:∀y∈csDe.names,y.2=.local→csDe.names.lookup y.1=some .local:=by decide +kernel
def csDe_f:∀y∈csDe.names,y.2=.free→(zag zdg).names.lookup y.1=some .cell∨(zag zdg).names.lookup y.1=some .free:=by decide +kernel
def csDe_l:csDe.names.lookup ("_law_found" : Str)=some NameKind.free:=by decide +kernel
def csDe_m:csDe.names.lookup ("_law_fresh" : Str)=some NameKind.free:=by decide +kernel
def ndDe:([qO, "_law_found", "_law_fresh"]:List Str).Nodup:=by decide +kernel
section
variable{P:Nj}{w:Nk}{K:Na}{mg:Nf}{base:Nm}
def zcn:zao [qR, "_law_root", "_law_found", "_law_layer", "_law_fresh", "_law_place"] [qR, "_law_root"] (zag zdg):=fsk
def ok_depths(F:Fun K "_law_depths" "_law_depths" zdg f fd):FnOk P w K mg base CX0 1 f fd [qR, "_law_root"] spDepths:=by
 refine F.okL zcn (λcdv A outer s H vs Q E hr h=>?_)
 obtain⟨d,es,rt,rfl,R,W,gK,k⟩:=h
 have hu:=zb7 hr
 have gh:=Uf hu
 have aB:=sizeLine_eq
 refine⟨_,zae (zeu (i:=2) zcn.nd rfl (Or.inr rfl) (pe_disp (zg9 (pv 1) zai pps_nil) rfl rfl (by decide) (by decide)))
  (zae (zat 3 zcn.nd (za4 (zaa (pv 1) zaf)))
  (zae (zc7 Zf (zaw (op_ne_nil gh) (pv 3) (za4 zaf) (zbp _))
   (zae (zeu (i:=4) zcn.nd rfl (Or.inr rfl) (za4 zaf))
   (zae (zbd Zf rfl (zay (pv 3)) (za9 5 zcn.nd)
    (zah (zax (zch Zc PySem.F.slot_list_extend PySem.F.type_list_extend mt_extend (pv 4) (zaa (pe_lc (M:=[qO, "_law_found", "_law_fresh"]) (ix:=[none,some 2,some 4]) ⟨csDe_k,csDe_c,csDe_n,csDe_f,rfl,ndDe,λj i x h1 h2=>by
       match j,h1,h2 with
       |0,_,h2=>cases h2
       |1,h1,h2=>cases h1;cases h2;exact⟨rfl,csDe_l⟩
       |2,h1,h2=>cases h1;cases h2;exact⟨rfl,csDe_m⟩
       |n+3,h1,_=>cases h1⟩ rfl (zay (zf7 hu (pv 0) (pv 5))) (λC a5 ex s H=>za9 0 ndDe)
       (λC a5 ex s H=>zg7 (PW.pt (pw_and (zet (zbv (by exact hu) (pv 0) (pv 1))) (zg6 (zaw (zhe (K:=K) rfl) (pv 0) (pv 2) rfl))))) (λC a5 ex s H=>pv 0)) zaf)))))
   (zae (zbd Zf rfl (zay (pv 4)) (za9 5 zcn.nd)
    (zah (zed hu (pv 2) (pv 5) (zaq zbk (zf7 hu (pv 2) (za6 zap (pv 3) zai (λ_ _=>rfl))) zai) rfl)))
   (zah (zat 3 zcn.nd (pv 4)))))))
  (zah (zbb (pv 2))))),?_⟩
 refine λfo cT=>⟨_,rfl,zac,[(Sum.inr rt,.int 0)],rfl,(by show 1≤15;decide),?_⟩
 have fG:(zev [] [((Sum.inr rt:Key),V.int 0)])=dof [rt] (λy=>iV ((λ_=>0:Str→Nat) y)):=rfl
 rw[fG]
 have k1:Keep [] H (upd (upd H fo (.dK [])) fo (.dK (dof [rt] λy=>iV ((λ_=>0:Str→Nat) y)))):=by rw[upd_upd];exact Keep.new cT
 have lE:(upd (upd H fo (.dK [])) fo (.dK (dof [rt] λy=>iV ((λ_=>0:Str→Nat) y)))) fo=some (.dK (dof [rt] λy=>iV ((λ_=>0:Str→Nat) y))):=zac
 generalize upd (upd H fo (.dK [])) fo (.dK (dof [rt] λy=>iV ((λ_=>0:Str→Nat) y)))=H1 at k1 lE
 have av:=R.nd
 have ag:∀e∈es,row (rsOf es) e.1=e.2.1:=λe he=>zca av he
 have sy:=W.sy
 have inn:=W.inn
 have cg:=W.few
 generalize row (rsOf es)=r at sy inn k ag
 generalize dh:es.map (·.1)=ns at av gK inn k
 have jO:ns.length=es.length:=by rw[←dh,Qa]
 refine⟨_,rfl,(by show 1≤sizeLine;decide),λl1 bA=>?_⟩
 have nfl:fo≠l1:=zab lE bA
 refine⟨λm σ H'=>Ex5 λ(lay ks:Ng) (ds:Str→Nat) (n:Nat) (la:Nc)=>Aj8 (m=2*(ns.length-ks.length)+(if lay=[] then 0 else 1)) (Ex2 λx4 x5=>σ=[some (.ref d),some (.str rt),some (.ref fo),some (.ref la),x4,x5]) (H' fo=some (.dK (dof ks λy=>iV (ds y)))) (H' la=some (.lst (lay.map V.str))) (DF r rt ks ds n lay) (∀y∈ks,y∈ns) lay.Nodup (Keep [] H H'),
  ⟨_,[rt],[rt],_,0,l1,rfl,⟨_,_,rfl⟩,by rw[zad nfl];exact lE,zac,DF.init rt,λy hy=>(by rw[Qb.mp hy];exact gK),Yx _ _,k1.trans (Keep.new bA)⟩,?_⟩
 rintro m σ H2 ⟨lay,ks,ds,n,la,rfl,⟨x4,x5,rfl⟩,gU,cI,df,aA,dX,k2⟩
 refine⟨_,rfl,(by show 0≤sizeLine;decide),λq hq=>?_⟩
 have nlq:la≠q:=zab cI hq
 refine⟨la,q,_,rfl,rfl,SqL.of (by rw[zad nlq];exact cI),SqL.of zac,_,rfl,?_⟩
 have k3:Keep [] H (upd H2 q (.lst [])):=k2.trans (Keep.new hq)
 have jS:(upd H2 q (.lst [])) fo=some (.dK (dof ks λy=>iV (ds y))):=by rw[zad (zab gU hq)];exact gU
 have cH:(upd H2 q (.lst [])) la=some (.lst (lay.map V.str)):=by rw[zad nlq];exact cI
 generalize upd H2 q (.lst [])=H3 at k3 jS cH
 have fI:ks.length≤ns.length:=zbq df.nd aA
 cases lay with
 |nil=>exact zbi rfl ⟨_,rfl,k fo ks ds n H3 jS df aA cT k3⟩
 |cons l0 lt =>
 refine zbm rfl ⟨_,λ σ' H' zz=>zz,?_⟩
 have qi:=(df.ly l0).mp Qe
 generalize gQ:l0::lt=lay at cH df dX
 have lj:l0∈lay:=by rw[←gQ];exact Qe
 have hlayl:lay.length≤40:=by
  have:=zbq dX λy hy=>aA y ((df.ly y).mp hy).1
  omega
 refine⟨(by show 0≤sizeLine;decide),λfr cS=>?_⟩
 have nff:fo≠fr:=zab jS cS
 have nlf:la≠fr:=zab cH cS
 have ffr:H fr=none:=zav k3 cS (by simp)
 have k4:Keep [] H (upd H3 fr (.lst [])):=k3.trans (Keep.new cS)
 have nu:(upd H3 fr (.lst [])) fo=some (.dK (dof ks λy=>iV (ds y))):=by rw[zad nff];exact jS
 have iP:(upd H3 fr (.lst [])) la=some (.lst (lay.map V.str)):=by rw[zad nlf];exact cH
 have lD:(upd H3 fr (.lst [])) fr=some (.lst (([]:List Str).map V.str)):=zac
 generalize upd H3 fr (.lst [])=H4 at k4 nu iP lD
 refine⟨_,rfl,la,rfl,⟨_,SqL.of iP⟩,zd0 (zs:=lay) (λi σ H'=>Ex1 λ(F:Ng)=>Aj7 (Ex1 λx5=>σ=[some (.ref d),some (.str rt),some (.ref fo),some (.ref la),some (.ref fr),x5]) (H' fo=some (.dK (dof ks λy=>iV (ds y)))) (H' la=some (.lst (lay.map V.str))) (H' fr=some (.lst (F.map V.str))) (∀y,y∈F↔y∉ks∧∃x∈lay.take i,y∈r x) F.Nodup (Keep [] H H'))
  ⟨[],⟨_,rfl⟩,nu,iP,lD,λy=>⟨λh=>(by cases h),λ⟨_,x,hx,_⟩=>(by cases hx)⟩,Zq,k4⟩ (λi σ H' _ hh=>by obtain⟨_,h⟩:=hh;exact SqL.of h.h2) ?_ ?_⟩
 ·rintro i hi σ H5 ⟨F,⟨y5,rfl⟩,jb,gt,aP,hF,ndF,k5⟩
  have jq:lay[i]∈lay:=Qm hi
  have hSk:=((df.ly _).mp jq).1
  have nK:=aA _ hSk
  have tk:lay.take (i+1)=lay.take i++[lay[i]]:=Ql hi
  generalize lay[i]=pl at jq hSk nK tk
  obtain⟨en,aq,eT⟩:=Qj.mp (by rw[dh];exact nK:pl∈es.map (·.1))
  have aI:en.1=pl:=eT
  have bj:r pl=en.2.1:=by rw[←aI];exact ag en aq
  have eU:=W.rl en aq
  have R5:=R.keep k5
  have g:=R5.get aq
  rw[aI]at g
  have hFn:F.length≤40:=by
   have:∀y∈F,y∈ns:=λy hy=>by
    obtain⟨_,x,_,hx⟩:=(hF y).mp hy
    exact inn _ _ hx
   have:=zbq ndF this
   omega
  refine⟨_,rfl,.inl ⟨rfl,_,SqL.of aP⟩,_,rfl,_,rfl,d,_,rfl,g,en.2.2,rfl,⟨_,SqL.of (R5.ro en aq)⟩,lc_filt (xs:=en.2.1.map V.str) (λ τ=>∃x0,τ=[x0,some (.ref fo),some (.ref fr)]) (λv=>match v with | .str z=>!decide (z∈ks) && !decide (z∈F) | _=>false) (SqL.of (R5.ro en aq)) (by rw[Qa];omega) ⟨none,rfl⟩ ?_ (λD hD=>?_)⟩
  ·rintro x hx τ ⟨x0,rfl⟩ kk1 kk0 lp jQ
   obtain⟨a,ha,rfl⟩:=Qj.mp hx
   have ga:=DGet.k (k:=Sum.inr a) jb
   by_cases lS:a∈ks
   ·rw [dof_in lS] at ga
    refine⟨_,rfl,_,rfl,fo,_,rfl,ga,_,rfl,zbi rfl (iteF (jQ ?_ _ ⟨_,rfl⟩))⟩
    show(!decide (a∈ks) && !decide (a∈F))=false
    rw[decide_eq_true lS];rfl
   ·rw [dof_out lS] at ga
    refine⟨_,rfl,_,rfl,fo,_,rfl,ga,_,rfl,zbm rfl ⟨_,rfl,_,rfl,fr,_,rfl,.inl (SqL.of aP),rfl,zd1 F,_,rfl,?_⟩⟩
    rw[zhk]
    by_cases nH:a∈F
    ·refine zbi (by rw [decide_eq_true nH];rfl) (jQ ?_ _ ⟨_,rfl⟩)
     show(!decide (a∈ks) && !decide (a∈F))=false
     rw[decide_eq_true nH,Bool.not_true,Bool.and_false]
    ·refine zbm (by rw [decide_eq_false nH];rfl) ⟨_,rfl,lp ?_ _ ⟨_,rfl⟩⟩
     show(!decide (a∈ks) && !decide (a∈F))=true
     rw[decide_eq_false lS,decide_eq_false nH];rfl
  ·have ef:(en.2.1.map V.str).filter (fun v=>match v with | .str z=>!decide (z∈ks) && !decide (z∈F) | _=>false)=(en.2.1.filter fun z=>!decide (z∈ks) && !decide (z∈F)).map V.str:=by
    rw[List.filter_map];rfl
   rw[ef]
   have hG:∀y,y∈en.2.1.filter (λz=>!decide (z∈ks) && !decide (z∈F))↔y∈en.2.1∧y∉ks∧y∉F:=λy=>by
    rw[Ws];simp
   have hGn:(en.2.1.filter λz=>!decide (z∈ks) && !decide (z∈F)).Nodup:=(W.rn en aq).filter _
   have hGl:(en.2.1.filter λz=>!decide (z∈ks) && !decide (z∈F)).length≤100:=Zj (List.length_filter_le ..) eU
   generalize(en.2.1.filter λz=>!decide (z∈ks) && !decide (z∈F))=G at hG hGn hGl
   have k6:Keep [] H (upd H5 D (.lst (G.map V.str))):=k5.trans (Keep.new hD)
   have fg:(upd H5 D (.lst (G.map V.str))) D=some (.lst (G.map V.str)):=zac
   have dm:(upd H5 D (.lst (G.map V.str))) fo=some (.dK (dof ks λy=>iV (ds y))):=by rw[zad (zab jb hD)];exact jb
   have cG:(upd H5 D (.lst (G.map V.str))) la=some (.lst (lay.map V.str)):=by rw[zad (zab gt hD)];exact gt
   have dl:(upd H5 D (.lst (G.map V.str))) fr=some (.lst (F.map V.str)):=by rw[zad (zab aP hD)];exact aP
   generalize upd H5 D (.lst (G.map V.str))=H6 at k6 fg dm cG dl
   refine⟨fr,D,_,_,rfl,rfl,dl,fg,by rw[Qa,Qa];omega,?_⟩
   refine⟨F++G,⟨_,rfl⟩,by rw[zad nff];exact dm,by rw[zad nlf];exact cG,by rw[zac,Qt],λy=>?_,?_,k6.fr ffr⟩
   ·rw [Qd,hF y,hG y,tk]
    constructor
    ·rintro (⟨h1,x,hx,hy⟩ | ⟨h1,h2,h3⟩)
     ·exact⟨h1,x,Qo _ hx,hy⟩
     ·exact⟨h2,pl,Qn _ Qe,by rw[bj];exact h1⟩
    ·rintro ⟨h1,x,hx,hy⟩
     by_cases hyF:y∈F
     ·exact .inl ((hF y).mp hyF)
     ·rcases Qd.mp hx with z | z
      ·exact .inl ⟨h1,x,z,hy⟩
      ·rw [Qb.mp z,bj] at hy
       exact .inr ⟨hy,h1,hyF⟩
   ·rw [Qz]
    exact⟨ndF,hGn,λa ha c hc e=>((hG c).mp hc).2.2 (e▸ha)⟩
 ·rintro σ H5 ⟨F,⟨y5,rfl⟩,jb,gt,aP,hF,ndF,k5⟩
  rw[Qa,Qx (Qf _)]at hF
  have df2:=df.next sy hF ndF
  have rK:∀y∈F,y∈ns:=λy hy=>by
   obtain⟨_,x,_,hx⟩:=(hF y).mp hy
   exact inn _ _ hx
  have ll:∀y∈ks++F,y∈ns:=λy hy=>(Qd.mp hy).elim (aA y) (rK y)
  have fH:=zbq df2.nd ll
  rw[Qp]at fH
  have rg:∀y∈ks,y∉F:=λy hy hz=>((hF y).mp hz).1 hy
  have dm:H5 fo=some (.dK (dof (ks++F.take 0) λy=>iV (if y∈F then n+1 else ds y))):=by
   rw[List.take_zero,Zx,jb,zf1 (G:=λy=>iV (if y∈F then n+1 else ds y)) λy hy=>by rw[if_neg (rg y hy)]]
  refine⟨_,rfl,fr,rfl,⟨_,SqL.of aP⟩,zd0 (zs:=F) (λi σ H'=>Aj5 (Ex1 λx5=>σ=[some (.ref d),some (.str rt),some (.ref fo),some (.ref la),some (.ref fr),x5]) (H' fo=some (.dK (dof (ks++F.take i) λy=>iV (if y∈F then n+1 else ds y)))) (H' la=some (.lst (lay.map V.str))) (H' fr=some (.lst (F.map V.str))) (Keep [] H H'))
   ⟨⟨_,rfl⟩,dm,gt,aP,k5⟩ (λi σ H' _ hh=>SqL.of hh.h3) ?_ ?_⟩
  ·rintro i hi σ H6 ⟨⟨y6,rfl⟩,dm,cG,dl,k6⟩
   have hFi:F[i]∈F:=Qm hi
   have tk:F.take (i+1)=F.take i++[F[i]]:=Ql hi
   have bJ:F[i]∉ks++F.take i:=λz=>by
    rcases Qd.mp z with z | z
    ·exact rg _ z hFi
    ·obtain ⟨j,hj,e⟩:=Zo z
     rw[Zg]at hj
     rw[Ug]at e
     have:=(Yv ndF).mp e
     omega
   have gl:=DGet.k (k:=Sum.inr l0) dm
   rw[dof_in (Qo _ qi.1),if_neg (rg _ qi.1),qi.2]at gl
   have dB:atI (lay.map V.str) 0=some (.str l0):=by rw[←gQ];exact zau (j:=0) rfl
   refine⟨_,rfl,_,rfl,la,_,_,_,rfl,rfl,SqL.of cG,dB,fo,_,rfl,gl,_,_,rfl,rfl,_,rfl,_,rfl,fo,_,rfl,DPut.k (k:=Sum.inr F[i]) dm (by rw[dof_len,Qp,Zg];omega),?_⟩
   have ed:putK (dof (ks++F.take i) λy=>iV (if y∈F then n+1 else ds y)) (Sum.inr F[i]) (V.int ((n:Int)+1))=dof (ks++F.take (i+1)) λy=>iV (if y∈F then n+1 else ds y):=by
    have:=dof_new (F:=λy=>iV (if y∈F then n+1 else ds y)) bJ
    rw[if_pos hFi]at this
    rw[tk,←Qw]
    exact this
   rw[ed]
   exact⟨⟨_,rfl⟩,zac,by rw[zad (za8 cG dm (by intro z;cases z))];exact cG,by rw[zad (Zh nff)];exact dl,k6.fr cT⟩
  ·rintro σ H6 ⟨⟨y6,rfl⟩,dm,cG,dl,k6⟩
   rw[Qa,Qx (Qf _)]at dm
   refine⟨_,rfl,_,?_,F,ks++F,_,n+1,fr,rfl,⟨_,_,rfl⟩,dm,dl,df2,ll,ndF,k6⟩
   rw[if_neg (show ¬(lay=([]:List Str)) from λz=>by rw[z]at lj;cases lj),Qp]
   by_cases eS:F=[]
   ·rw[if_pos eS,eS,Wv];omega
   ·rw [if_neg eS]
    have:=Uq.mpr eS
    omega
end
end K21
end
section
namespace L2
open PySem PySem.Spec PyProof.Rows
def pss_no{X:Cx}{l:List Stmt}:PSs X l (λ_ _ _=>False):=λ_ _ _ _ _ _ h=>h.elim
def zhv:zbz X (.builtin "isinstance") (λxs H Q=>Ex2 λ(a:Nc) (kvs:List (Key×V))=>Aj3 (xs=[.ref a,.ty "dict"]) (H a=some (.dK kvs)) (Q (.bl true) H)):=by
 intro a5 s σ H xs us Q I r h
 obtain⟨a,kvs,rfl,hl,q⟩:=h
 obtain⟨u,w',rfl,e0,e⟩:=vals2 r
 have e':w'=Value.type "dict" := e
 have e0':u=Value.ref a:=e0
 subst e' e0'
 obtain⟨z,hd,vs,rel,dd⟩:=dk_of I.hok hl
 obtain⟨ob,ho,hc⟩:=dd.typeIs (s:=s)
 exact IsiPair.dict_dict ho hc ⟨.bl true,H,I,rfl,q⟩
def zez{K:Na}(hK:X.K=K):zbz X (.builtin "isinstance") (λxs H Q=>Ex5 λ(a C:Nc) (c:V) (u:Value) (b:Bool)=>Aj6 (xs=[.ref a,c]) (H a=some (ExO a (.ref C))) (ExI K C) (∀u',RelV c u'→u'=u) (PySem.W.kitOne K (.ref C) u=some b) (Q (.bl b) H)):=hK▸call_isi_ex
end L2
namespace K21
open PySem L2 Wb PySem.W
abbrev zde:Stmt:=top 36
abbrev ze6:Stmt:=top 37
def PV(r:No)(rt:Str)(ds:Str→Nat)(y:Str)(v:V):Prop:=(y=rt∧v=.non)∨(y≠rt∧∃p,v=.str p∧Lst r ds y p)
inductive IspPar(vs:List V)(H:Hp)(Q:VK):Prop
 |mk (d u:Nc) (es:List Ent) (rt:Str) (ks:Ng) (ds:Str→Nat) (n:Nat) (pl:Str) (h0:vs=[.ref d,.ref u,.str pl]) (h1:RF H d es) (h2:WF es) (h3:Rd H u (.dK (dof ks λy=>iV (ds y)))) (h4:DF (row (rsOf es)) rt ks ds n []) (h5:pl∈ks) (h6:pl∈es.map (·.1))
  (h7:∀(v:V) (H':Hp),PV (row (rsOf es)) rt ds pl v→Keep [] H H'→Q v H'):IspPar vs H Q
def spPar:Sp:=λvs H Q _=>IspPar vs H Q
abbrev csPa:Scope:=scOf (eOf (sAt zde 0))
def csPa_k:csPa.kind=.function:=by rfl
def csPa_c:∀y∈csPa.names,y.2≠.cell:=by decide +kernel
def csPa_n:∀y∈csPa.names,y.2=.local→csPa.names.lookup y.1=some .local:=by decide +kernel
def csPa_f:∀y∈csPa.names,y.2=.free→(zag zde).names.lookup y.1=some .cell∨(zag zde).names.lookup y.1=some .free:=by decide +kernel
def csPa_l:csPa.names.lookup ("_law_depths_here" : Str)=some NameKind.free:=by decide +kernel
def csPa_m:csPa.names.lookup ("_law_place" : Str)=some NameKind.free:=by decide +kernel
def ndPa:([qO, "_law_depths_here", "_law_place"]:List Str).Nodup:=by decide +kernel
inductive IspTreeX(C cp:Nc)(vs:List V)(H:Hp)(E:XK):Prop
 |mk (x dx d:Nc) (es:List Ent) (s:Str) (h0:vs=[.ref x,.str s]) (h1:WAt H C x dx d es) (h2:s∉es.map (·.1)) (h3:E (.ref cp) none H):IspTreeX C cp vs H E
def spTreeX(C cp:Nc):Sp:=λvs H _ E=>IspTreeX C cp vs H E
structure Kd(K:Na)(cp he:Nc):Prop where
 ex:ExI K cp
 kh:kitOne K (.ref cp) (.ref he)=some true
 kv:kitOne K (.ref cp) (.type "ValueError")=some true
 em:exmOne K (.ref cp) (.ref cp)=some true
inductive zgq(C:Nc)(vs:List V)(H:Hp)(Q:VK):Prop
 |mk (x dx d:Nc) (es:List Ent) (s:Str) (h0:vs=[.ref x,.str s]) (h1:WAt H C x dx d es) (h2:s∉es.map (·.1)) (h3:∀l H',H' l=some (.lst ([true,true].map V.bl))→Keep [] H H'→Q (.ref l) H'):zgq C vs H Q
def spRefused(C:Nc):Sp:=λvs H Q _=>zgq C vs H Q
section
variable{P:Nj}{w:Nk}{K:Na}{mg:Nf}{base:Nm}
def scParent:zao [qR, "_law_depths_here", "_law_place", "_law_ahead"] [qR, "_law_depths_here", "_law_place"] (zag zde):=fsk
def ok_parent(F:Fun K "_law_parent_of" "_law_parent_of" zde f fd)(cF:mg "min" = none):FnOk P w K mg base CX0 1 f fd [qR, "_law_depths_here", "_law_place"] spPar:=by
 refine F.okL scParent (λcdv A outer s H vs Q E hr h=>?_)
 obtain⟨d,u,es,rt,ks,ds,n,pl,rfl,R,W,hU,df,bn,gL,k⟩:=h
 have hu:=zb7 hr
 have gh:=Uf hu
 have aB:=sizeLine_eq
 refine⟨_,zae (ps_lc (i:=3) (M:=[qO, "_law_depths_here", "_law_place"]) (ix:=[none,some 1,some 2]) scParent.nd rfl rfl ⟨csPa_k,csPa_c,csPa_n,csPa_f,rfl,ndPa,λj i x h1 h2=>by
     match j,h1,h2 with
     |0,_,h2=>cases h2
     |1,h1,h2=>cases h1;cases h2;exact⟨rfl,csPa_l⟩
     |2,h1,h2=>cases h1;cases h2;exact⟨rfl,csPa_m⟩
     |n+3,h1,_=>cases h1⟩ rfl (zay (zf7 hu (pv 0) (pv 2))) (λC a5 ex s H=>za9 0 ndPa)
    (λC a5 ex s H=>zg7 (zaw op_eq (zf7 (by exact hu) (pv 1) (pv 0)) (zaq op_sub (zf7 (by exact hu) (pv 1) (pv 2)) zai) (zbp _))) (λC a5 ex s H=>pv 0) rfl)
  (zae (zb2 (zaw (op_eq_nil gh) (pv 3) (za4 zaf) (zbp _)) (zah (zbb pe_non)) za1)
  (zah (zbb (zaj (zd7 rfl) (by rfl) cF Jg (zaa (pv 3) zaf))))),?_⟩
 obtain⟨en,aq,eT⟩:=Qj.mp gL
 have aI:en.1=pl:=eT
 have bj:row (rsOf es) pl=en.2.1:=by rw[←aI];exact zca R.nd aq
 have eU:=W.rl en aq
 have g:=R.get aq
 rw[aI]at g
 generalize row (rsOf es)=r at df k bj
 have gd:∀{y:Str},y∈ks→DGet H u (.str y) (some (iV (ds y))):=λ{y} hy=>.inl ⟨_,Sum.inr y,hU,rfl,(dof_in (F:=λy=>iV (ds y)) hy).symm⟩
 have aw:∀y∈en.2.1,y∈ks:=λy hy=>(df.on pl bn y (by rw[bj];exact hy)).1
 refine⟨_,rfl,_,rfl,d,_,rfl,g,en.2.2,rfl,⟨_,SqL.of (R.ro en aq)⟩,lc_filt (xs:=en.2.1.map V.str) (λ τ=>∃x0,τ=[x0,some (.ref u),some (.str pl)]) (λv=>match v with | .str z=>decide (ds z+1=ds pl) | _=>false) (SqL.of (R.ro en aq)) (by rw[Qa];omega) ⟨none,rfl⟩ ?_ (λD hD=>?_)⟩
 ·rintro x hx τ ⟨x0,rfl⟩ kk1 kk0 lp jQ
  obtain⟨a,ha,rfl⟩:=Qj.mp hx
  refine⟨_,rfl,_,rfl,u,_,rfl,gd (aw a ha),_,rfl,_,rfl,u,_,rfl,gd bn,_,_,rfl,rfl,rfl,_,rfl,?_⟩
  by_cases hz:ds a+1=ds pl
  ·exact zbm (decide_eq_true (by rw[show(ds pl:Int)-1=(ds a:Int) by omega])) ⟨_,rfl,lp (decide_eq_true hz) _ ⟨_,rfl⟩⟩
  ·exact zbi (decide_eq_false (λz=>hz (by injection z;omega))) (jQ (decide_eq_false hz) _ ⟨_,rfl⟩)
 ·have ef:(en.2.1.map V.str).filter (fun v=>match v with | .str z=>decide (ds z+1=ds pl) | _=>false)=(en.2.1.filter fun z=>decide (ds z+1=ds pl)).map V.str:=by
   rw[List.filter_map];rfl
  rw[ef]
  have hG:∀y,y∈en.2.1.filter (λz=>decide (ds z+1=ds pl))↔y∈en.2.1∧ds y+1=ds pl:=λy=>by
   rw[Ws,decide_eq_true_iff]
  generalize(en.2.1.filter λz=>decide (ds z+1=ds pl))=G at hG
  have k6:Keep [] H (upd H D (.lst (G.map V.str))):=Keep.new hD
  have fg:(upd H D (.lst (G.map V.str))) D=some (.lst (G.map V.str)):=zac
  generalize upd H D (.lst (G.map V.str))=H6 at k6 fg
  refine⟨_,rfl,(by show 0≤sizeLine;decide),λq hq=>?_⟩
  have nDq:D≠q:=zab fg hq
  have k7:Keep [] H (upd H6 q (.lst [])):=k6.trans (Keep.new hq)
  have jt:(upd H6 q (.lst [])) D=some (.lst (G.map V.str)):=by rw[zad nDq];exact fg
  refine⟨D,q,_,rfl,rfl,SqL.of jt,SqL.of zac,_,rfl,?_⟩
  generalize upd H6 q (.lst [])=H7 at k7 jt
  cases G with
  | nil =>
   refine zbm rfl (k _ _ (.inl ⟨?_,rfl⟩) k7)
   by_cases e:pl=rt
   ·exact e
   ·obtain ⟨p,_,h2,h3⟩:=df.up pl bn e
    rw[bj]at h2
    cases(hG p).mpr ⟨h2,h3.symm⟩
  |cons a t =>
   refine zbi rfl ⟨_,rfl,D,a::t,rfl,SqL.of jt,by simp,λz hz hl=>k _ _ (.inr ⟨λe=>?_,z,rfl,by rw[bj];exact((hG z).mp hz).1,((hG z).mp hz).2,λq hq bw=>hl q ((hG q).mpr ⟨by rw[←bj];exact hq,bw⟩)⟩) k7⟩
   have:=((hG a).mp Qe).2
   rw[e,df.d0]at this
   omega
def ok_treeX(F:Fun K "tree" "tree" sTree f fd)(cW:Cls K C)(nW:zdc K C "rounds")(cP:Exc K cp)(mP:mg "NoPlace" = some (.ref cp)) :
  FnOk P w K mg base (CXr P w) 1 f fd ["web", "root"] (spTreeX C cp):=by
 refine F.okX zeo (λvs H Q E h=>by cases h;subst_vars;rfl) (λcdv A outer s0 H vs Q E hr h=>?_)
 obtain⟨x,dx,d,es,s,rfl,wt,hs,q⟩:=h
 have hu:=zb7 hr
 refine⟨_,zae (zb2 (zet (zbv hu (pv 1) (pe_fld (pv 0) rfl))) (zah (ps_raise cP rfl mP (zaa zc0 zaf))) za1) pss_no,?_⟩
 have g:=DGet.k (k:=Sum.inr s) wt.ta.dc
 rw[val_out hs]at g
 exact⟨_,rfl,_,rfl,x,C,dx,_,_,rfl,wt.ob,cW,nW,rfl,d,_,rfl,g,_,rfl,zbm rfl ⟨by show 1≤sizeLine;decide,q⟩⟩
def zds:zao ["_law_web", "_law_name", "_law_told", "e"] ["_law_web", "_law_name"] (zag ze6):=fsk
def ok_refused(F:Fun K "_law_refused" "_law_refused" ze6 f fd)(kd:Kd K cp he)(mP:mg "NoPlace" = some (.ref cp))(mE:mg "HueError" = some (.ref he))(dj:mg "isinstance" = none)(hve:mg "ValueError" = none)(FT:Fun K "tree" "tree" sTree ft fdt)(bT:Binds K fdt ["web", "root"] [])(mT:mg "tree" = some (.ref ft))(GT:FnOk P w K mg base (CXr P w) 1 ft fdt ["web", "root"] (spTreeX C cp)) :
  FnOk P w K mg base CX0 2 f fd ["_law_web", "_law_name"] (spRefused C):=by
 refine F.okL zds (λcdv A outer s0 H vs Q E hr h=>?_)
 obtain⟨x,dx,d,es,s,rfl,wt,hs,kq⟩:=h
 refine⟨_,zae (zat 2 zds.nd (za4 zaf))
  (zae (ps_try (i:=3) (EX:=fun σ cls dd H'=>Aj3 (Ex1 fun l=>σ=[some (.ref x),some (.str s),l,none]) (cls=.ref cp) (Keep [] H H')) rfl rfl rfl
   (λE' pn hp=>zah (zax (pe_callS GT hr rfl mT FT.kp bT .nil hp (zaa (pv 0) (zaa (pv 1) zaf)))))
   (fun a=>zah (zat 2 zds.nd (za4 (zaa (zaj (zez (K:=K) rfl) (by rfl) dj Ud (zaa (pv 3) (zaa (pe_glob (v:=.ref he) (by rfl) mE rfl) zaf)))
    (zaa (zaj (zez (K:=K) rfl) (by rfl) dj Ud (zaa (pv 3) (zaa (pe_tyN (T := "ValueError") rfl hve PyProof.Rows.Boot.«ValueError») zaf))) zaf))))) zds.nd rfl rfl rfl mP)
  (zah (zbb (pv 2)))),?_⟩
 refine⟨(by show 0≤sizeLine;decide),λtl gJ=>?_⟩
 have k1:Keep [] H (upd H tl (.lst [])):=Keep.new gJ
 generalize upd H tl (.lst [])=H1 at k1
 have wt1:WAt H1 C x dx d es:=wt.keep k1 (by simp) (by simp) λ_ _=>by simp
 refine⟨⟨_,rfl,_,rfl,x,dx,d,es,s,rfl,wt1,hs,⟨_,rfl⟩,rfl,k1⟩,?_⟩
 rintro σ' cls H' a hl ⟨⟨l,rfl⟩,rfl,k2⟩ na
 have k4:Keep [] H (upd H' a (ExO a (.ref cp))):=k2.trans (Keep.new na)
 refine⟨kd.em,_,rfl,a,cp,.ref he,.ref he,true,rfl,zac,kd.ex,λ_ h=>h,kd.kh,_,rfl,a,cp,.ty "ValueError",.type "ValueError",true,rfl,zac,kd.ex,λ_ h=>h,kd.kv,(by show 2≤sizeLine;decide),λl hl=>⟨_,rfl,?_⟩⟩
 exact kq l _ zac (k4.trans (Keep.new hl))
end
end K21
end
section
namespace K21
open PySem L2 Wb PySem.W
abbrev zfg:Stmt:=top 38
inductive IspRight(C:Nc)(vs:List V)(H:Hp)(Q:VK):Prop
 |mk (x dx dd d:Nc) (ts es:List Ent) (rt:Str) (h0:vs=[.ref x,.ref d,.str rt]) (h1:WAt H C x dx dd ts) (h2:RF H d es) (h3:WF es) (h4:WF ts) (h5:∀a b,b∈row (rsOf es) a↔b∈row (rsOf ts) a) (h6:rt∈es.map (·.1)) (h7:rt∈ts.map (·.1))
  (h8:∀H',Keep [] H H'→Q (.bl true) H'):IspRight C vs H Q
def spRight(C:Nc):Sp:=λvs H Q _=>IspRight C vs H Q
abbrev csRi:Scope:=scOf (aOf 0 (eOf (sAt zfg 1)))
def csRi_k:csRi.kind=.function:=by rfl
def csRi_c:∀y∈csRi.names,y.2≠.cell:=by decide +kernel
def csRi_n:∀y∈csRi.names,y.2=.local→csRi.names.lookup y.1=some .local:=by decide +kernel
def csRi_f:∀y∈csRi.names,y.2=.free→(zag zfg).names.lookup y.1=some .cell∨(zag zfg).names.lookup y.1=some .free:=by decide +kernel
def csRi_l:csRi.names.lookup (qR:Str)=some NameKind.free:=by decide +kernel
def csRi_m:csRi.names.lookup ("_law_depths_here" : Str)=some NameKind.free:=by decide +kernel
def ndRi2:(["_law_place",qR, "_law_depths_here"]:List Str).Nodup:=by decide +kernel
section
variable{P:Nj}{w:Nk}{K:Na}{mg:Nf}{base:Nm}
def zfe:zao ["_law_web",qR, "_law_root", "_law_depths_here", "_law_due", "_law_k", "_law_found"] ["_law_web",qR, "_law_root"] (zag zfg):=fsk
def ok_right(F:Fun K "_law_right" "_law_right" zfg f fd)(dj:mg "isinstance" = none)(bq:mg "dict" = none)(aZ:mg "range" = none)(FT:Fun K "tree" "tree" sTree ft fdt)(bT:Binds K fdt ["web", "root"] [])(mT:mg "tree" = some (.ref ft))(GT:FnOk P w K mg base CX0 2 ft fdt ["web", "root"] (spTree C))(FD:Fun K "_law_depths" "_law_depths" zdg fe fde)(bD:Binds K fde [qR, "_law_root"] [])(mD:mg "_law_depths" = some (.ref fe))(GD:FnOk P w K mg base CX0 1 fe fde [qR, "_law_root"] spDepths)(FP:Fun K "_law_parent_of" "_law_parent_of" zde fp fdp)(bP:Binds K fdp [qR, "_law_depths_here", "_law_place"] [])(mP:mg "_law_parent_of" = some (.ref fp))(GP:FnOk P w K mg base CX0 1 fp fdp [qR, "_law_depths_here", "_law_place"] spPar) :
  FnOk P w K mg base CX0 3 f fd ["_law_web",qR, "_law_root"] (spRight C):=by
 refine F.okL zfe (λcdv A outer s H vs Q E hr h=>?_)
 obtain⟨x,dx,dd,d,ts,es,rt,rfl,wt,R,W,Wt,fE,gK,pA,k⟩:=h
 have hu:=zb7 hr
 have gh:=Uf hu
 have aH:Room 1 _:=hr.mono (by decide)
 have aB:=sizeLine_eq
 refine⟨_,zae (zeu (i:=3) zfe.nd rfl (Or.inr rfl) (zak GD aH rfl mD FD.kp bD .nil za0 (zaa (pv 1) (zaa (pv 2) zaf))))
  (zae (zat 4 zfe.nd (zb4 (zcf rfl) (by rfl) bq Jb (zaa (pe_thaw (pe_lc (M:=["_law_place",qR, "_law_depths_here"]) (ix:=[none,some 1,some 3]) ⟨csRi_k,csRi_c,csRi_n,csRi_f,rfl,ndRi2,λj i x h1 h2=>by
     match j,h1,h2 with
     |0,_,h2=>cases h2
     |1,h1,h2=>cases h1;cases h2;exact⟨rfl,csRi_l⟩
     |2,h1,h2=>cases h1;cases h2;exact⟨rfl,csRi_m⟩
     |n+3,h1,_=>cases h1⟩ rfl (zha (pv 3)) (λC a5 ex s H=>za9 0 ndRi2)
    (λC a5 ex s H=>zdh) (λC a5 ex s H=>zfh (zaa (pv 0) (zaa (zak GP (by exact aH) rfl (by exact mP) FP.kp bP .nil za0 (zaa (pv 1) (zaa (pv 2) (zaa (pv 0) zaf)))) zaf))))) zaf)))
  (zae (zbd Zf rfl (zcg rfl aZ (zaa zai zaf)) (za9 5 zfe.nd)
   (zae (zat 6 zfe.nd (zak GT hr rfl mT FT.kp bT .nil za0 (zaa (pv 0) (zaa (pv 2) zaf))))
   (zae (zb2 (PW.pt (pw_or (pt_not (pt_val (zaj zhv (by rfl) dj Ud (zaa (pv 6) (zaa (pe_tyN (T := "dict") rfl bq Jb) zaf))))) (pw_or1 (zaw (op_ne_dictP gh) (pv 6) (pv 4) (zbp _))))) (zah (zbb zhd)) za1)
   (zah (zax (pe_bm0 PySem.F.plainAttrs_dict PySem.F.slot_dict_clear PySem.F.type_dict_clear mt_dclear (pv 6)))))))
  (zah (zbb zhd)))),?_⟩
 refine⟨_,rfl,_,rfl,d,es,rt,rfl,R,W,gK,λu ks ds n H1 oQ df aA fu k1=>?_⟩
 have hks':∀y∈ks,y∈es.map (·.1):=aA
 have fI:ks.length≤40:=by
  have:=zbq df.nd aA
  rw[Qa]at this
  exact Zj this W.few
 have gw:(dof ks λy=>iV (ds y)).length=ks.length:=dof_len ..
 have nfz:∀o' u',H u≠some (.frz o' u'):=λo' u' z=>by rw[fu]at z;cases z
 have pH:∀{y:Str},y∈ks→PV (row (rsOf es)) rt ds y .non∨True:=λ_=>.inr trivial
 refine⟨_,rfl,u,_,rfl,oQ,λo=>⟨λi m ys τ H'=>Ex2 λ(as:Nl) (ps:List (Str×V))=>Aj9 (m=ks.length-i) (i≤ks.length) (ys=as.map V.ref) (Ex1 λx=>τ=[x,some (.ref d),some (.ref u)]) (H' u=some (.frz o (.dK (dof ks λy=>iV (ds y))))) (RowsAt H' as ps) (ps.map (·.1)=ks.take i) (∀p∈ps,PV (row (rsOf es)) rt ds p.1 p.2) (Keep [] H H'),
  ⟨ks.length,[],[],by simp,Zn _,rfl,⟨none,rfl⟩,zac,.nil,rfl,(λp hp=>by cases hp),k1.fr fu⟩,?_⟩⟩
 rintro i m1 ys τ H2 ⟨as,ps,rfl,hi,rfl,⟨x0,rfl⟩,hz,pG,dO,pL,k2⟩
 have dC:as.length=i:=by
  rw[Zz pG,←Qa (f:=(·.1)),dO,Zg];omega
 by_cases aa:i<ks.length
 ·refine .inr ⟨⟨hz,by rw [gw];exact aa⟩,by rw [Qa];omega,?_⟩
  rintro x H' ⟨rfl,pr,e1,rfl⟩
  have g1:pr=((Sum.inr ks[i]:Key),iV (ds ks[i])):=by
   unfold dof at e1
   rw[Qu,Qc aa]at e1
   exact(Qr e1).symm
  subst g1
  have qk:ks[i]∈ks:=Qm aa
  have tk:ks.take (i+1)=ks.take i++[ks[i]]:=Ql aa
  generalize ks[i]=pl at qk tk
  refine⟨_,rfl,_,rfl,_,rfl,_,rfl,d,u,es,rt,ks,ds,n,pl,rfl,R.keep k2,W,.inr ⟨o,hz⟩,df,qk,aA _ qk,λv H3 hv k3=>⟨(by show 2≤sizeLine;decide),λt ht=>?_⟩⟩
  have g8:=k3 _ _ hz (by simp)
  have nut:u≠t:=zab g8 ht
  exact⟨_,by exact zar1 ‹_›,as++[t],ps++[(pl,v)],rfl,aa,by rw[Qt];rfl,⟨_,rfl⟩,by rw[zad nut];exact g8,zas (Paired.imp' (λa p h=>by rw[zad (zab (k3 _ _ h (by simp)) ht)];exact k3 _ _ h (by simp)) pG) (.cons zac .nil),by rw[Qt,dO,tk];rfl,λp hp=>by
   rcases Qd.mp hp with z | z
   ·exact pL p z
   ·rw[Qb.mp z];exact hv,(k2.trans k3).trans (Keep.new ht)⟩
 ·have lu:i=ks.length:=by omega
  subst lu
  refine .inl ⟨⟨hz,by rw[gw];exact Qf _⟩,λD hD=>?_⟩
  rw[Qx (Qf _)]at dO
  have nuD:u≠D:=zab hz hD
  refine⟨u,o,_,(by rw[zad nuD];exact hz),nfz,?_⟩
  have k3:Keep [] H (upd (upd H2 D (.lst (as.map V.ref))) u (.dK (dof ks λy=>iV (ds y)))):=(k2.trans (Keep.new hD)).fr fu
  have gE:(upd (upd H2 D (.lst (as.map V.ref))) u (.dK (dof ks λy=>iV (ds y)))) D=some (.lst (as.map V.ref)):=by rw[zad (Zh nuD)];exact zac
  have kR:RowsAt (upd (upd H2 D (.lst (as.map V.ref))) u (.dK (dof ks λy=>iV (ds y)))) as ps:=Paired.imp' (λa p h=>by rw[zad (za8 h hz (by intro z;cases z)),zad (zab h hD)];exact h) pG
  generalize upd (upd H2 D (.lst (as.map V.ref))) u (.dK (dof ks λy=>iV (ds y)))=H3 at k3 gE kR
  refine⟨D,as,ps,rfl,gE,kR,by rw[dO];exact df.nd,λdu hdu=>?_⟩
  obtain⟨par,tr,kW,bH⟩:=df.tree λy hy e=>by
   have:y∈ps.map (·.1):=by rw[dO];exact hy
   obtain⟨p,hp,rfl⟩:=Qj.mp this
   rcases pL p hp with⟨h1,_⟩ | ⟨_,q,_,hq⟩
   ·exact absurd h1 e
   ·exact⟨q,hq⟩
  have eps:(ps.map λp=>((Sum.inr p.1:Key),p.2))=dof ks (parV par):=by
   rw[←dO]
   unfold dof
   rw[Zm]
   refine Yo λp hp=>?_
   have hpk:p.1∈ks:=by rw[←dO];exact Qj.mpr ⟨p,hp,rfl⟩
   show((Sum.inr p.1:Key),p.2)=(Sum.inr p.1,parV par p.1)
   unfold parV
   rcases pL p hp with⟨h1,h2⟩ | ⟨h1,q,h2,hq⟩
   ·rw[h1,kW,h2]
   ·rw[bH p.1 hpk h1 q hq,h2]
  rw[eps]
  have k4:Keep [] H (upd H3 du (.dK (dof ks (parV par)))):=k3.trans (Keep.new hdu)
  have lH:(upd H3 du (.dK (dof ks (parV par)))) du=some (.dK (dof ks (parV par))):=zac
  have fdu:H du=none:=zav k3 hdu (by simp)
  generalize upd H3 du (.dK (dof ks (parV par)))=H4 at k4 lH
  refine⟨(2:Int),rfl,by decide,by omega,?_⟩
  refine zcl (lo:=0) (λi σ H'=>Aj3 (Ex2 λx5 x6=>σ=[some (.ref x),some (.ref d),some (.str rt),some (.ref u),some (.ref du),x5,x6]) (H' du=some (.dK (dof ks (parV par)))) (Keep [] H H'))
   ⟨⟨_,_,rfl⟩,lH,k4⟩ ?_ ?_
  ·rintro i σ H5 hi ⟨⟨x5,x6,rfl⟩,jc,k5⟩
   have mo:WAt H5 C x dx dd ts:=wt.keep k5 (by simp) (by simp) λ_ _=>by simp
   refine⟨_,rfl,_,rfl,x,dx,dd,ts,rt,rfl,mo,Zj Wt.few (by decide),pA,Wt.sy,Wt.inn,Wt.rl,λl oC dF ds2 H6 iR tr2 dG _ fl k6=>?_⟩
   have one:=tr.one fE W.sy tr2
   have two:=tr2.one (λa b=>(fE a b).symm) Wt.sy tr
   have pm:(dof oC (parV dF)).Perm (dof ks (parV par)):=by
    rw[zf1 (G:=parV par) λy hy=>by unfold parV;rw[(two y hy).2.2]]
    unfold dof
    refine List.Perm.map _ ?_
    exact(Jv dG df.nd).mpr λa=>⟨λh=>(two a h).1,λh=>(one a h).1⟩
   have lG:=k6 _ _ jc (by simp)
   refine⟨_,rfl,l,_,rfl,iR,?_⟩
   have ndk:((dof oC (parV dF)).map (·.1)).Nodup:=by
    unfold dof
    rw[Zm]
    exact Wy.mpr (dG.imp λh e=>h (Ww e))
   have eR:∀p∈dof oC (parV dF),zcx p.2=true:=λp hp=>by
    unfold dof at hp
    obtain⟨y,_,rfl⟩:=Qj.mp hp
    show zcx (parV dF y)=true
    unfold parV
    cases dF y<;>rfl
   refine⟨true,rfl,iteF ⟨_,rfl,_,rfl,l,du,_,_,rfl,rfl,.inl iR,.inl lG,pm,ndk,eR,_,rfl,iteF ?_⟩⟩
   refine⟨_,rfl,.inr (.inr (.inl ⟨rfl,.inl ⟨_,iR⟩⟩)),l,_,rfl,rfl,iR,?_⟩
   have ndl:du≠l:=zab jc fl
   exact⟨⟨_,_,rfl⟩,by rw[zad ndl];exact lG,(k5.trans k6).fr (zav k5 fl (by simp))⟩
  ·rintro σ H5 ⟨⟨x5,x6,rfl⟩,jc,k5⟩
   exact k H5 k5
end
abbrev sLaw:Stmt:=top 39
inductive IspLaw(K:Na)(vs:List V)(H:Hp)(Q:VK):Prop
 |mk (a:Nc) (ns:List Int) (h0:vs=[.ref a]) (h1:SqL K H a (ns.map V.int)) (h2:ns.length≤63) (h3:∀H',Q (.bl true) H'):IspLaw K vs H Q
def spLaw(K:Na):Sp:=λvs H Q _=>IspLaw K vs H Q
def wf_of{es:List Ent}(C:Cert (es.map (·.1)) (row (rsOf es)) cs a7)(h:es.length≤40):WF es:=by
 have rn:∀e∈es,e.2.1.Nodup:=λe he=>by
  have:=C.rn e.1
  rw[zca C.nd he]at this;exact this
 refine⟨C.sy,λa b hb=>C.inn' hb,λe he=>?_,rn,h⟩
 have:∀y∈e.2.1,y∈es.map (·.1):=λy hy=>C.inn' (x:=e.1) (by rw[zca C.nd he];exact hy)
 have:=zbq (rn e he) this
 rw[Qa]at this
 omega
section
variable{P:Nj}{w:Nk}{K:Na}{mg:Nf}{base:Nm}
def scLaw:zao [qS, "_law_k", "_law_rows_here", "_law_web",qR, "_law_root"] [qS] (zag sLaw):=fsk
def ok_law(F:Fun K "law" "law" sLaw f fd)(FP:Fun K "_law_pot" "_law_pot" sPot fp fdp)(bP:Binds K fdp [qS, "_law_k"] [])(mP:mg "_law_pot" = some (.ref fp))(GP:FnOk P w K mg base CX0 1 fp fdp [qS, "_law_k"] (spPot K))(FD:Fun K "_law_drawn" "_law_drawn" sDrawn fd' fdd)(bD:Binds K fdd [qP] [])(mD:mg "_law_drawn" = some (.ref fd'))(GD:FnOk P w K mg base CX0 5 fd' fdd [qP] spDrawnD)(MW:Mk K C fi)(mW:mg "Web" = some (.ref C))(bI:Binds K fdi ["self", "rows"] [])(GI:FnOk P w K mg base CX0 4 fi fdi ["self", "rows"] (spInit C))(FU:Fun K "_law_refused" "_law_refused" ze6 fu fdu)(bU:Binds K fdu ["_law_web", "_law_name"] [])(mU:mg "_law_refused" = some (.ref fu))(GU:FnOk P w K mg base CX0 2 fu fdu ["_law_web", "_law_name"] (spRefused C))(FR:Fun K "_law_right" "_law_right" zfg fr fdr)(bR:Binds K fdr ["_law_web",qR, "_law_root"] [])(mR:mg "_law_right" = some (.ref fr))(GR:FnOk P w K mg base CX0 3 fr fdr ["_law_web",qR, "_law_root"] (spRight C))(bq:mg "dict" = none)(aZ:mg "range" = none)(a9:mg "len" = none)(cF:mg "min" = none)(iM:mg "max" = none):FnOk P w K mg base CX0 6 f fd [qS] (spLaw K):=by
 refine F.okL scLaw (λcdv A outer s0 H vs Q E hr h=>?_)
 obtain⟨a,ns,rfl,ha,n6,kq⟩:=h
 have hu:=zb7 hr
 have gh:=Uf hu
 have aH:Room 1 _:=hr.mono (by decide)
 have dw:Room 2 _:=hr.mono (by decide)
 have hr3:Room 3 _:=hr.mono (by decide)
 have aB:=sizeLine_eq
 refine⟨_,zae (zbd Zf rfl (zcg rfl aZ (zaa (zaj (call_max2 rfl) (by rfl) iM PyProof.Rows.boot_max (zaa zai (zaa (zaj (call_min2 rfl) (by rfl) cF Jg (zaa (zaj zam (by rfl) a9 Zr (zaa (pv 0) zaf)) (zaa zai zaf))) zaf))) zaf)) (za9 1 scLaw.nd)
   (zae (zat 2 scLaw.nd (zak GD hr rfl mD FD.kp bD .nil za0 (zaa (zak GP aH rfl mP FP.kp bP .nil za0 (zaa (pv 0) (zaa (pv 1) zaf))) zaf)))
   (zae (zat 3 scLaw.nd (pe_make MW GI hr rfl mW bI .nil za0 (zaa (pv 2) zaf)))
   (zae (zat 4 scLaw.nd (zb4 (zcf rfl) (by rfl) bq Jb (zaa (pv 2) zaf)))
   (zae (zb2 (zaw (op_ne_bools gh) (zak GU dw rfl mU FU.kp bU .nil za0 (zaa (pv 3) (zaa zc0 zaf))) (za4 (zaa zhd (zaa zhd zaf))) (zbp _)) (zah zg8) za1)
   (zah (ps_thaw (zbd Zf rfl (zha (pv 4)) (za9 5 scLaw.nd)
    (zah (zb2 (pt_not (pt_val (zak GR hr3 rfl mR FR.kp bR .nil za0 (zaa (pv 3) (zaa (pv 4) (zaa (pv 5) zaf)))))) (zah zg8) za1))))))))))
  (zah (zbb zhd)),?_⟩
 refine⟨_,rfl,a,_,rfl,.inl ha,_,_,rfl,_,_,rfl,_,rfl,?_,?_,?_⟩
 ·split<;>split<;>omega
 ·rw[Qa];split<;>split<;>omega
 refine zcl (lo:=0) (λi σ H'=>Aj2 (Keep [] H H') (Ex5 λx1 x2 x3 x4 x5=>σ=[some (.ref a),x1,x2,x3,x4,x5])) ⟨Keep.refl,_,_,_,_,_,rfl⟩ ?_ (λ σ H' hh=>kq _)
 rintro i σ H1 hi ⟨k1,x1,x2,x3,x4,x5,rfl⟩
 have hi8:i≤1000:=by
  rw[Qa]at hi
  split at hi<;>split at hi<;>omega
 have ei:(0:Int)+(i:Int)=(i:Int):=by omega
 rw[ei]
 refine⟨_,rfl,_,rfl,a,ns,i,rfl,sq_keep ha k1,hi8,by omega,λp b2 m2 H2 hpf aD k2=>?_⟩
 have fpH:H p=none:=zav k1 hpf (by simp)
 refine⟨p,b2,m2,rfl,aD,λt bs es cs a7 b3 m3 H3 RW Ct eU hok bd k3=>?_⟩
 have kk3:Keep [] H H3:=λc u ec _=>k3 c u (k2 _ _ (k1 c u ec (by simp)) (by simp)) (by simpa using zab ec fpH)
 refine⟨_,rfl,λx dx hx hdx aE=>?_⟩
 have k4:Keep [] H3 (upd (upd H3 dx (.own x)) x (.ins C dx [])):=λc u ec _=>by
  rw[zad (zab ec hx),zad (zab ec hdx)];exact ec
 have hx4:(upd (upd H3 dx (.own x)) x (.ins C dx [])) x=some (.ins C dx []):=zac
 generalize upd (upd H3 dx (.own x)) x (.ins C dx [])=H4 at k4 hx4
 refine⟨x,dx,t,bs,es,cs,a7,rfl,hx4,RW.keep k4,eU,λe he=>(hok e he).1,Ct,λd2 ts es2 H5 wt ay jM k5=>⟨rfl,?_⟩⟩
 have fZ:Keep [] H3 H5:=λc u ec _=>k5 c u (k4 c u ec (by simp)) (by simpa using zab ec hx)
 have o4:=RW.keep fZ
 have av:(es.map (·.1)).Nodup:=Ct.nd
 have dO:(es.map λe:Ent=>(e.1,V.ref e.2.2)).map (·.1)=es.map (·.1):=by rw[Zm];rfl
 refine⟨_,rfl,t,bs,es.map λe=>(e.1,V.ref e.2.2),rfl,o4.ls,zgh o4.ts,by rw[dO];exact av,λd hd=>?_⟩
 have pQ:((es.map λe:Ent=>(e.1,V.ref e.2.2)).map λp=>((Sum.inr p.1:Key),p.2))=es.map λe=>((Sum.inr e.1:Key),V.ref e.2.2):=by rw[Zm];rfl
 rw[pQ]
 have k6:Keep [] H5 (upd H5 d (.dK (es.map λe=>((Sum.inr e.1:Key),V.ref e.2.2)))):=Keep.new hd
 have lL:(upd H5 d (.dK (es.map λe=>((Sum.inr e.1:Key),V.ref e.2.2)))) d=some (.dK (es.map λe=>((Sum.inr e.1:Key),V.ref e.2.2))):=zac
 generalize upd H5 d (.dK (es.map λe=>((Sum.inr e.1:Key),V.ref e.2.2)))=H6 at k6 lL
 have jD:Keep [] H H5:=kk3.trans fZ
 have fdH:H d=none:=zav jD hd (by simp)
 have nfd:∀o' u',H d≠some (.frz o' u'):=λo' u' z=>by rw[fdH]at z;cases z
 have gp:(ts.map (·.1)).Perm (es.map (·.1)):=by rw[zbu jM];exact ay.map _
 have ag:=zd9 jM ay av
 have Ct2:=zd6 Ct gp ag
 have fE:∀a b,b∈row (rsOf es) a↔b∈row (rsOf ts) a:=λa b=>by
  obtain⟨j,e⟩:=ag a
  rw[e,Qd]
  constructor
  ·intro h
   rw[←Yp j (row (rsOf es) a)]at h
   exact(Qd.mp h).symm
  ·rintro (h | h)
   ·exact Wj h
   ·exact Ys h
 have gJ:ts.length=es.length:=by have:=gp.length_eq;rwa[Qa,Qa]at this
 have W:=wf_of Ct eU
 have Wt:=wf_of Ct2 (by omega)
 have wt6:WAt H6 C x dx d2 ts:=wt.keep k6 (by simp) (by simp) λ_ _=>by simp
 have pZ:("nobody" : Str)∉ts.map (·.1):=λz=>by
  obtain⟨e,he,ee⟩:=Qj.mp (gp.mem_iff.mp z)
  exact(hok e he).2 ee
 refine⟨_,rfl,x,dx,d2,ts, "nobody",rfl,wt6,pZ,λl7 H7 cb k7=>⟨(by show 2≤sizeLine;decide),λl8 ni=>?_⟩⟩
 have n78:l7≠l8:=zab cb ni
 have k8:Keep [] H6 (upd H7 l8 (.lst [.bl true,.bl true])):=k7.trans (Keep.new ni)
 refine⟨l7,l8,[true,true],rfl,rfl,SqL.of (by rw[zad n78];exact cb),SqL.of zac,_,rfl,iteF ?_⟩
 generalize upd H7 l8 (.lst [.bl true,.bl true])=H8 at k8
 have hd8:=k8 _ _ lL (by simp)
 have ro8:∀e∈es,H8 e.2.2=some (.lst (e.2.1.map V.str)):=λe he=>k8 _ _ (k6 _ _ (o4.ro e he) (by simp)) (by simp)
 have kk8:Keep [] H H8:=(jD.trans k6).trans k8
 have wt8:WAt H8 C x dx d2 ts:=wt6.keep k8 (by simp) (by simp) λ_ _=>by simp
 have ndx:x≠d:=zab wt.ob hd
 have dG:d2≠d:=zab wt.ta.dc hd
 refine⟨_,rfl,d,_,rfl,hd8,λo=>for_dict (λj σ H'=>Aj3 (Ex1 λx5=>σ=[some (.ref a),some (.int i),some (.ref t),some (.ref x),some (.ref d),x5]) (H' d=some (.frz o (.dK (es.map λe=>((Sum.inr e.1:Key),V.ref e.2.2))))) (Keep [d] H8 H'))
  ⟨⟨_,rfl⟩,zac,Keep.wr (by simp)⟩ (λj σ H' _ hh=>hh.2) ?_ ?_⟩
 ·rintro j pr σ H9 dP ⟨⟨y5,rfl⟩,my,k9⟩
  have hj:j<es.length:=by
   have:=(Ze.mp dP).1
   rwa[Qa]at this
  have g1:pr=((Sum.inr es[j].1:Key),V.ref es[j].2.2):=by
   rw[Qu,Qc hj]at dP
   exact(Qr dP).symm
  subst g1
  have jV:es[j]∈es:=Qm hj
  generalize es[j]=e at jV
  have aq:e.1∈es.map (·.1):=Qj.mpr ⟨e,jV,rfl⟩
  have wt9:WAt H9 C x dx d2 ts:=wt8.keep k9 (by simpa using ndx) (by simpa using dG) λe' bM=>by simpa using zab (wt.ta.ro e' bM) hd
  have R9:RF H9 d es:=⟨.inr ⟨o,my⟩,av,λe' bM=>k9 _ _ (ro8 e' bM) (by simpa using zab (o4.ro e' bM) hd)⟩
  exact⟨_,rfl,_,rfl,_,rfl,x,dx,d2,d,ts,es,e.1,rfl,wt9,R9,W,Wt,fE,aq,gp.mem_iff.mpr aq,λjy jE=>⟨true,rfl,iteF ⟨⟨_,rfl⟩,jE _ _ my (by simp),k9.trans (jE.sub (by simp))⟩⟩⟩
 ·rintro σ H9 ⟨⟨y5,rfl⟩,my,k9⟩
  refine⟨d,o,_,my,nfd,?_⟩
  refine⟨λc u ec _=>?_,_,_,_,_,_,rfl⟩
  rw[zad (zab ec fdH)]
  exact k9 _ _ (kk8 c u ec (by simp)) (by simpa using zab ec fdH)
end
end K21
end
section
namespace L2
open PySem
section
variable{K:Na}{x qual p1 p2 p3 p4 p5:Str}{st:Stmt}{f:Nc}{fd:Nt}(F:Fun K x qual st f fd)
include F
theorem Fun.b1(h:∀(kV doc pm:Value) (an:Option Addr) (cdv ct a1:Value),bindArgs (PySem.W.fnOf x qual (zcr st) (zbs st) (zag st) .none kV doc pm an cdv ct) ⟨[a1],[]⟩=pure [(p1,a1)]):Binds K fd [p1] [] :=
 F.binds λkV doc pm an cdv ct us hl=>by
  obtain _ | ⟨a1,_ | ⟨z,t⟩⟩:=us
  ·cases hl
  ·exact h kV doc pm an cdv ct a1
  ·cases hl
theorem Fun.b2(h:∀(kV doc pm:Value) (an:Option Addr) (cdv ct a1 a2:Value),bindArgs (PySem.W.fnOf x qual (zcr st) (zbs st) (zag st) .none kV doc pm an cdv ct) ⟨[a1,a2],[]⟩=pure [(p1,a1),(p2,a2)]):Binds K fd [p1,p2] [] :=
 F.binds λkV doc pm an cdv ct us hl=>by
  obtain _ | ⟨a1,_ | ⟨a2,_ | ⟨z,t⟩⟩⟩:=us
  ·cases hl
  ·cases hl
  ·exact h kV doc pm an cdv ct a1 a2
  ·cases hl
theorem Fun.b3(h:∀(kV doc pm:Value) (an:Option Addr) (cdv ct a1 a2 a3:Value),bindArgs (PySem.W.fnOf x qual (zcr st) (zbs st) (zag st) .none kV doc pm an cdv ct) ⟨[a1,a2,a3],[]⟩=pure [(p1,a1),(p2,a2),(p3,a3)]):Binds K fd [p1,p2,p3] [] :=
 F.binds λkV doc pm an cdv ct us hl=>by
  obtain _ | ⟨a1,_ | ⟨a2,_ | ⟨a3,_ | ⟨z,t⟩⟩⟩⟩:=us
  ·cases hl
  ·cases hl
  ·cases hl
  ·exact h kV doc pm an cdv ct a1 a2 a3
  ·cases hl
end
end L2
namespace K21
open PySem L2 Wb PyProof.Rows
theorem all_mk{l:PySem.W.OpenLaw}{w:Nk}{K:Na}{h:Nm}{mg:Nf}{fa C fL f0 f1 f2 f3 f4 f5 f6 f7 f8 f9 f10 f11 f12 f13 f14 f15 f16 f17 f18 f19 f20 f21 f22 f23 f24 g0 g1 c0 c1:Nc}(X:K.In h)(G:h.Ns mainGlobals mg)(hfa:mg "law" = some (.ref fa))(af0:PySem.W.nsIn K mainGlobals "steps_behind" = some (some (.ref f0)))(hf0:∃fd,Fun K "steps_behind" "steps_behind" sSteps f0 fd)(af1:PySem.W.nsIn K mainGlobals "faces_of" = some (some (.ref f1)))(lE:∃fd,Fun K "faces_of" "faces_of" zeq f1 fd)(af2:PySem.W.nsIn K mainGlobals "piece_from" = some (some (.ref f2)))(gU:∃fd,Fun K "piece_from" "piece_from" sPiece f2 fd)(af3:PySem.W.nsIn K mainGlobals "pieces_of" = some (some (.ref f3)))(jS:∃fd,Fun K "pieces_of" "pieces_of" zg2 f3 fd)(af4:PySem.W.nsIn K mainGlobals "tree" = some (some (.ref f4)))(nu:∃fd,Fun K "tree" "tree" sTree f4 fd)(af5:PySem.W.nsIn K mainGlobals "is_name" = some (some (.ref f5)))(jb:∃fd,Fun K "is_name" "is_name" zdf f5 fd)(af6:PySem.W.nsIn K mainGlobals "refuse_no_names" = some (some (.ref f6)))(dm:∃fd,Fun K "refuse_no_names" "refuse_no_names" ze7 f6 fd)(af7:PySem.W.nsIn K mainGlobals "refuse_twice" = some (some (.ref f7)))(hf7:∃fd,Fun K "refuse_twice" "refuse_twice" zdb f7 fd)(af8:PySem.W.nsIn K mainGlobals "refuse_one_way" = some (some (.ref f8)))(hf8:∃fd,Fun K "refuse_one_way" "refuse_one_way" zg3 f8 fd)(af9:PySem.W.nsIn K mainGlobals "refuse_not_flat" = some (some (.ref f9)))(hf9:∃fd,Fun K "refuse_not_flat" "refuse_not_flat" zf6 f9 fd)(sv:PySem.W.nsIn K mainGlobals "from_least" = some (some (.ref f10)))(qZ:∃fd,Fun K "from_least" "from_least" sLeast f10 fd)(su:PySem.W.nsIn K mainGlobals "_law_pot" = some (some (.ref f11)))(qY:∃fd,Fun K "_law_pot" "_law_pot" sPot f11 fd)(ss:PySem.W.nsIn K mainGlobals "_law_digit" = some (some (.ref f12)))(qX:∃fd,Fun K "_law_digit" "_law_digit" zer f12 fd)(sr:PySem.W.nsIn K mainGlobals "_law_counted" = some (some (.ref f13)))(qW:∃fd,Fun K "_law_counted" "_law_counted" sCount f13 fd)(sm:PySem.W.nsIn K mainGlobals "_law_names" = some (some (.ref f14)))(qV:∃fd,Fun K "_law_names" "_law_names" sNames f14 fd)(sk:PySem.W.nsIn K mainGlobals "_law_behind" = some (some (.ref f15)))(qU:∃fd,Fun K "_law_behind" "_law_behind" zg4 f15 fd)(sj:PySem.W.nsIn K mainGlobals "_law_steps" = some (some (.ref f16)))(qT:∃fd,Fun K "_law_steps" "_law_steps" zgz f16 fd)(si:PySem.W.nsIn K mainGlobals "_law_tie" = some (some (.ref f17)))(qQ:∃fd,Fun K "_law_tie" "_law_tie" sTie f17 fd)(sh:PySem.W.nsIn K mainGlobals "_law_rounds" = some (some (.ref f18)))(qL:∃fd,Fun K "_law_rounds" "_law_rounds" zg0 f18 fd)(sf:PySem.W.nsIn K mainGlobals "_law_rows" = some (some (.ref f19)))(qK:∃fd,Fun K "_law_rows" "_law_rows" sRows f19 fd)(se:PySem.W.nsIn K mainGlobals "_law_drawn" = some (some (.ref f20)))(qJ:∃fd,Fun K "_law_drawn" "_law_drawn" sDrawn f20 fd)(sd:PySem.W.nsIn K mainGlobals "_law_depths" = some (some (.ref f21)))(qI:∃fd,Fun K "_law_depths" "_law_depths" zdg f21 fd)(rZ:PySem.W.nsIn K mainGlobals "_law_parent_of" = some (some (.ref f22)))(qH:∃fd,Fun K "_law_parent_of" "_law_parent_of" zde f22 fd)(rY:PySem.W.nsIn K mainGlobals "_law_refused" = some (some (.ref f23)))(qF:∃fd,Fun K "_law_refused" "_law_refused" ze6 f23 fd)(rX:PySem.W.nsIn K mainGlobals "_law_right" = some (some (.ref f24)))(qE:∃fd,Fun K "_law_right" "_law_right" zfg f24 fd)(ag0:PySem.W.findIn K (.ref C) "__init__" = some (some (.ref g0)))(ig0:PySem.W.isFn K (.ref g0)=true)(kg0:PySem.W.keepIn K (.ref g0)=true)(hg0:∃fd,Fun K "__init__" "Web.__init__" sInit g0 fd)(ag1:PySem.W.findIn K (.ref C) "round_of" = some (some (.ref g1)))(ig1:PySem.W.isFn K (.ref g1)=true)(kg1:PySem.W.keepIn K (.ref g1)=true)(hg1:∃fd,Fun K "round_of" "Web.round_of" zg1 g1 fd){odfL anfL:Option Addr}{slfL:Array (Option Value)}{ocfL kVfL dcfL pmfL cdfL ctfL:Value}(afL:PySem.W.nsIn K mainGlobals "law" = some (some (.ref fL)))(lfL:K.lookup fL=some ⟨ocfL,odfL,.func (PySem.W.fnOf "law" "law" (zcr sLaw) (zbs sLaw) (zag sLaw) .none kVfL dcfL pmfL anfL cdfL ctfL),slfL⟩)(cfL:PySem.W.codeIn K cdfL "law" = true)(kfL:PySem.W.keepIn K (.ref fL)=true)(aC:PySem.W.nsIn K mainGlobals "Web" = some (some (.ref C))){tkM:Tok}(aM:PySem.W.nsIn K mainGlobals "MOST_LETTERS" = some (some (.int 8 tkM)))(pg:PySem.W.plainGet K C Str.empty=true)(jd:PySem.W.hasDictIn K C=true)(po:PySem.W.plainOver K C=true)(sa:PySem.W.findIn K (.ref C) "__setattr__" = some (some (.builtin "object.__setattr__")))(mk:PySem.W.makesIn K C=true)(kc:PySem.W.keepIn K (.ref C)=true)(nR:PySem.W.findIn K (.ref C) "rounds" = some none)(e_NoPlace:PySem.W.nsIn K mainGlobals "NoPlace" = some (some (.ref c0)))(e_HueError:PySem.W.nsIn K mainGlobals "HueError" = some (some (.ref c1)))(gs:PySem.W.specialIn K (.builtin "object.__class__") "__get__" = some (some (.builtin "getset_descriptor.__get__")))(tk:PySem.W.takesIn K (.builtin "object.__class__")=some true)(x0:PySem.W.excIn K c0 bmVE "ValueError.__new__" = true)(p0:PySem.W.findIn K (.ref c0) "__getattribute__" = some (some (.builtin "BaseException.__getattribute__")))(n0:PySem.W.findIn K (.ref c0) "__getattr__" = some none)(j0:PySem.W.mroIn K c0 (.type "BaseException")=some true)(q0:PySem.W.findIn K (.ref c0) "__class__" = some (some (.builtin "object.__class__")))(r0:PySem.W.mroIn K c0 (.type "object")=some true)(u0:PySem.W.kitOne K (.ref c0) (.ref c1)=some true)(v0:PySem.W.kitOne K (.ref c0) (.type "ValueError")=some true)(y0:PySem.W.exmOne K (.ref c0) (.ref c0)=some true)(z_len:PySem.W.nsIn K mainGlobals "len" = some none)(z_sorted:PySem.W.nsIn K mainGlobals "sorted" = some none)(z_range:PySem.W.nsIn K mainGlobals "range" = some none)(z_min:PySem.W.nsIn K mainGlobals "min" = some none)(z_max:PySem.W.nsIn K mainGlobals "max" = some none)(z_tuple:PySem.W.nsIn K mainGlobals "tuple" = some none)(z_list:PySem.W.nsIn K mainGlobals "list" = some none)(z_dict:PySem.W.nsIn K mainGlobals "dict" = some none)(z_set:PySem.W.nsIn K mainGlobals "set" = some none)(z_isinstance:PySem.W.nsIn K mainGlobals "isinstance" = some none)(z_str:PySem.W.nsIn K mainGlobals "str" = some none)(z_all:PySem.W.nsIn K mainGlobals "all" = some none)(z_sum:PySem.W.nsIn K mainGlobals "sum" = some none)(z_enumerate:PySem.W.nsIn K mainGlobals "enumerate" = some none)(z_ValueError:PySem.W.nsIn K mainGlobals "ValueError" = some none) :
  ∃fd:FuncData,(∀(s:Nh) (v:Value),BindsTo s fd ⟨[v],[]⟩ [("_law_script",v)])∧∀base:Heap,K.In base→base.Ns mainGlobals mg→FnOk l.prog w K mg base CX0 6 fa fd ["_law_script"] (spLaw K):=by
 have e:=hfa.symm.trans (Zk X G afL)
 cases e
 obtain⟨_,F0⟩:=hf0
 have b0:=F0.b1 (p1 := "rounds") λ_ _ _ _ _ _ _=>rfl
 have m0:=Zk X G af0
 obtain⟨_,F1⟩:=lE
 have b1:=F1.b1 (p1 := "rounds") λ_ _ _ _ _ _ _=>rfl
 have m1:=Zk X G af1
 obtain⟨_,F2⟩:=gU
 have b2:=F2.b2 (p1 := "rounds") (p2 := "start") λ_ _ _ _ _ _ _ _=>rfl
 have m2:=Zk X G af2
 obtain⟨_,F3⟩:=jS
 have b3:=F3.b1 (p1 := "rounds") λ_ _ _ _ _ _ _=>rfl
 have m3:=Zk X G af3
 obtain⟨_,F4⟩:=nu
 have b4:=F4.b2 (p1 := "web") (p2 := "root") λ_ _ _ _ _ _ _ _=>rfl
 have m4:=Zk X G af4
 obtain⟨_,F5⟩:=jb
 have b5:=F5.b1 (p1 := "thing") λ_ _ _ _ _ _ _=>rfl
 have m5:=Zk X G af5
 obtain⟨_,F6⟩:=dm
 have b6:=F6.b1 (p1 := "rows") λ_ _ _ _ _ _ _=>rfl
 have m6:=Zk X G af6
 obtain⟨_,F7⟩:=hf7
 have b7:=F7.b1 (p1 := "rows") λ_ _ _ _ _ _ _=>rfl
 have m7:=Zk X G af7
 obtain⟨_,F8⟩:=hf8
 have b8:=F8.b1 (p1 := "rows") λ_ _ _ _ _ _ _=>rfl
 have m8:=Zk X G af8
 obtain⟨_,F9⟩:=hf9
 have b9:=F9.b1 (p1 := "rounds") λ_ _ _ _ _ _ _=>rfl
 have m9:=Zk X G af9
 obtain⟨_,sQ⟩:=qZ
 have b10:=sQ.b1 (p1 := "around") λ_ _ _ _ _ _ _=>rfl
 have m10:=Zk X G sv
 obtain⟨_,sP⟩:=qY
 have b11:=sP.b2 (p1 := "_law_script") (p2 := "_law_k") λ_ _ _ _ _ _ _ _=>rfl
 have m11:=Zk X G su
 obtain⟨_,jz⟩:=qX
 have mj:=jz.b2 (p1 := "_law_pot_here") (p2 := "_law_many") λ_ _ _ _ _ _ _ _=>rfl
 have kl:=Zk X G ss
 obtain⟨_,sM⟩:=qW
 have b13:=sM.b2 (p1 := "_law_number") (p2 := "_law_letters") λ_ _ _ _ _ _ _ _=>rfl
 have m13:=Zk X G sr
 obtain⟨_,sL⟩:=qV
 have b14:=sL.b2 (p1 := "_law_pot_here") (p2 := "_law_many") λ_ _ _ _ _ _ _ _=>rfl
 have m14:=Zk X G sm
 obtain⟨_,sK⟩:=qU
 have b15:=sK.b2 (p1 := "_law_around") (p2 := "_law_one") λ_ _ _ _ _ _ _ _=>rfl
 have m15:=Zk X G sk
 obtain⟨_,sJ⟩:=qT
 have b16:=sJ.b3 (p1 := "_law_rounds_here") (p2 := "_law_p") (p3 := "_law_q") λ_ _ _ _ _ _ _ _ _=>rfl
 have m16:=Zk X G sj
 obtain⟨_,sI⟩:=qQ
 have b17:=sI.b2 (p1 := "_law_pot_here") (p2 := "_law_rounds_here") λ_ _ _ _ _ _ _ _=>rfl
 have m17:=Zk X G si
 obtain⟨_,sH⟩:=qL
 have b18:=sH.b2 (p1 := "_law_pot_here") (p2 := "_law_most") λ_ _ _ _ _ _ _ _=>rfl
 have m18:=Zk X G sh
 obtain⟨_,sG⟩:=qK
 have b19:=sG.b3 (p1 := "_law_pot_here") (p2 := "_law_rounds_here") (p3 := "_law_names_here") λ_ _ _ _ _ _ _ _ _=>rfl
 have m19:=Zk X G sf
 obtain⟨_,sF⟩:=qJ
 have b20:=sF.b1 (p1 := "_law_pot_here") λ_ _ _ _ _ _ _=>rfl
 have m20:=Zk X G se
 obtain⟨_,sE⟩:=qI
 have b21:=sE.b2 (p1 := "_law_rounds_here") (p2 := "_law_root") λ_ _ _ _ _ _ _ _=>rfl
 have m21:=Zk X G sd
 obtain⟨_,sD⟩:=qH
 have b22:=sD.b3 (p1 := "_law_rounds_here") (p2 := "_law_depths_here") (p3 := "_law_place") λ_ _ _ _ _ _ _ _ _=>rfl
 have m22:=Zk X G rZ
 obtain⟨_,sC⟩:=qF
 have b23:=sC.b2 (p1 := "_law_web") (p2 := "_law_name") λ_ _ _ _ _ _ _ _=>rfl
 have m23:=Zk X G rY
 obtain⟨_,sB⟩:=qE
 have b24:=sB.b3 (p1 := "_law_web") (p2 := "_law_rounds_here") (p3 := "_law_root") λ_ _ _ _ _ _ _ _ _=>rfl
 have m24:=Zk X G rX
 obtain⟨_,FG0⟩:=hg0
 have bG0:=FG0.b2 (p1 := "self") (p2 := "rows") λ_ _ _ _ _ _ _ _=>rfl
 obtain⟨_,FG1⟩:=hg1
 have bG1:=FG1.b2 (p1 := "self") (p2 := "place") λ_ _ _ _ _ _ _ _=>rfl
 have FL:=fun_mk (st:=sLaw) lfL cfL kfL
 have cW:Cls K C:=⟨pg,jd,po,sa⟩
 have mC:=Zk X G aC
 have mM:=Zk X G aM
 have y_len:=Zw X G z_len
 have y_sorted:=Zw X G z_sorted
 have y_range:=Zw X G z_range
 have y_min:=Zw X G z_min
 have y_max:=Zw X G z_max
 have y_tuple:=Zw X G z_tuple
 have y_list:=Zw X G z_list
 have y_dict:=Zw X G z_dict
 have y_set:=Zw X G z_set
 have y_isinstance:=Zw X G z_isinstance
 have y_str:=Zw X G z_str
 have y_all:=Zw X G z_all
 have y_sum:=Zw X G z_sum
 have y_enumerate:=Zw X G z_enumerate
 have y_ValueError:=Zw X G z_ValueError
 refine⟨PySem.W.fnOf "law" "law" (zcr sLaw) (zbs sLaw) (zag sLaw) .none kVfL dcfL pmfL anfL cdfL ctfL,λs v=>.of_eq rfl,λbase _ _=>?_⟩
 have GTake:=ok_digit (P:=l.prog) (w:=w) (mg:=mg) (base:=base) jz
 have GPot:=ok_pot (P:=l.prog) (w:=w) (base:=base) sP y_len y_min y_max y_list
 have GCount:=ok_count (P:=l.prog) (w:=w) (base:=base) sM y_len
 have GNames:=ok_names (P:=l.prog) (w:=w) (base:=base) sL jz mj kl GTake sM b13 m13 GCount y_len y_range
 have GBehind:=ok_behind (P:=l.prog) (w:=w) (base:=base) sK y_len
 have GSteps0:=ok_steps0 (P:=l.prog) (w:=w) (base:=base) sJ sK b15 m15 GBehind
 have GTie:=ok_tie (P:=l.prog) (w:=w) (base:=base) sI jz mj kl GTake sJ b16 m16 GSteps0 y_len
 have GRounds:=ok_rounds (P:=l.prog) (w:=w) (base:=base) sH jz mj kl GTake sI b17 m17 GTie y_len y_range
 have GRows:=ok_rows (P:=l.prog) (w:=w) (base:=base) sG jz mj kl GTake y_len y_range
 have GDrawn:=ok_drawn (P:=l.prog) (w:=w) (base:=base) sF jz mj kl GTake sH b18 m18 GRounds sG b19 m19 GRows sL b14 m14 GNames y_len
 have GRoundOf:=ok_roundof (P:=l.prog) (w:=w) (base:=base) FG1 cW nR y_list
 have GTree:=ok_tree (P:=l.prog) (w:=w) (base:=base) F4 cW nR ⟨ag1,ig1,kg1⟩ bG1 GRoundOf y_sorted
 have mNP:=Zk X G e_NoPlace
 have GTreeX:=ok_treeX (P:=l.prog) (w:=w) (base:=base) F4 cW nR ⟨x0⟩ mNP
 have GRefused:=ok_refused (P:=l.prog) (w:=w) (base:=base) sC ⟨⟨p0,n0,j0,q0,gs,tk,r0⟩,u0,v0,y0⟩ mNP (Zk X G e_HueError) y_isinstance y_ValueError F4 b4 m4 GTreeX
 have GDepths:=ok_depths (P:=l.prog) (w:=w) (mg:=mg) (base:=base) sE
 have GParent:=ok_parent (P:=l.prog) (w:=w) (base:=base) sD y_min
 have GRight:=ok_right (P:=l.prog) (w:=w) (base:=base) sB y_isinstance y_dict y_range F4 b4 m4 GTree sE b21 m21 GDepths sD b22 m22 GParent
 have GIsName:=ok_isname (P:=l.prog) (w:=w) (base:=base) F5 mM y_isinstance y_str y_len y_all
 have GNo:=ok_nonames (P:=l.prog) (w:=w) (base:=base) F6 F5 b5 m5 GIsName
 have GTw:=ok_twice (P:=l.prog) (w:=w) (base:=base) F7 y_len y_set
 have GOne:=ok_oneway (P:=l.prog) (w:=w) (base:=base) F8 y_dict
 have GLeast:=ok_least (P:=l.prog) (w:=w) (base:=base) sQ y_min y_tuple
 have GSteps:=ok_steps (P:=l.prog) (w:=w) (base:=base) F0 y_enumerate
 have GFaces:=ok_faces (P:=l.prog) (w:=w) (base:=base) F1 F0 b0 m0 GSteps y_sorted
 have GPiece:=ok_piece (P:=l.prog) (w:=w) (base:=base) F2 y_sorted
 have GPieces:=ok_pieces (P:=l.prog) (w:=w) (base:=base) F3 F2 b2 m2 GPiece y_sorted
 have GFlat:=ok_flat (P:=l.prog) (w:=w) (base:=base) F9 F1 b1 m1 GFaces F3 b3 m3 GPieces y_len y_sum
 have GInit:=ok_init (P:=l.prog) (w:=w) (base:=base) FG0 cW nR F6 b6 m6 GNo F7 b7 m7 GTw F8 b8 m8 GOne sQ b10 m10 GLeast F9 b9 m9 GFlat y_sorted
 exact ok_law FL sP b11 m11 GPot sF b20 m20 GDrawn ⟨mk,ag0,ig0,kc⟩ mC bG0 GInit sC b23 m23 GRefused sB b24 m24 GRight y_dict y_range y_len y_min y_max
def walk{l:PySem.W.OpenLaw}{q:Nj}{loose:Ng}{XP:(Str→Option Value)→Heap→Prop}{d:DefRec}{K:Params→PySem.W.Frag}(hn:l.most=some 63)(lJ:d.params.defaults=[])(F:∀ (w:Nk) (mg:Nf) (fa:Nc) (h:Nm),(K w.params).In h→h.Ns mainGlobals mg→mg d.name=some (.ref fa) →
   ∃fd:FuncData,(∀(s:Nh) (u:Value),BindsTo s fd ⟨[u],[]⟩ [("_law_script",u)])∧∀base:Heap,(K w.params).In base→base.Ns mainGlobals mg→FnOk l.prog w (K w.params) mg base CX0 6 fa fd ["_law_script"] (spLaw (K w.params))) :
  PySem.W.WalkO q loose XP (λw h=>(K w.params).In h) l.row.toRowW d [] (λf vs=>PySem.call f vs) :=
 L2.walk_of (n:=63) (k:=6) (x := "_law_script") (CX:=λ_=>CX0) (sp:=λw=>spLaw (K w.params)) hn (by decide) lJ ⟨rfl,by decide,by decide⟩ (λ_ _ z=>z) F (λ_ _ a ns hl _ hS=>⟨a,ns,rfl,hS,hl,λ_=>rfl⟩) λ_ _ _ _ _ z=>z
end K21
end
section
set_option Elab.async false
set_option linter.all false
open PySem PySem.W PySem.W.X PyProof.Rows
def PySem.W.Fast.tw17912653959520787976:Unit:=()
def PySem.W.Fast.tw4333022243613592848:Unit:=()
def PySem.W.Fast.tw7240552739235131056:Unit:=()
def PySem.W.Fast.tw15633965945895911552:Unit:=()
def PySem.W.Fast.tw3262302683928559163:Unit:=()
def PySem.W.Fast.tw18354644295464539573:Unit:=()
def PySem.W.Fast.tw17310773622279821642:Unit:=()
def PySem.W.Fast.tw8091391474998753085:Unit:=()
def PySem.W.Fast.tw8806163617298558683:Unit:=()
def PySem.W.Fast.tw14565783647340076311:Unit:=()
def PySem.W.Fast.tw7101134585266820661:Unit:=()
def PySem.W.Fast.tw13926044050084793714:Unit:=()
def PySem.W.Fast.tw14117003574192051606:Unit:=()
def PySem.W.Fast.tw17214013837938096664:Unit:=()
def PySem.W.Fast.tw7043394239560220489:Unit:=()
def PySem.W.Fast.tw10528241258600545688:Unit:=()
def PySem.W.Fast.tw14646304338365904003:Unit:=()
def PySem.W.Fast.tw12791718059584328220:Unit:=()
def PySem.W.Fast.tw16553765227189499711:Unit:=()
def PySem.W.Fast.tw17916102494738029105:Unit:=()
def PySem.W.Fast.tw3064126288963896201:Unit:=()
def PySem.W.Fast.tw10267259768039080996:Unit:=()
def PySem.W.Fast.tw17197670199365388770:Unit:=()
def PySem.W.Fast.tw17210909537035768294:Unit:=()
set_option maxRecDepth 100000 in
set_option maxHeartbeats 0 in
theorem PySem.Challenge.cw_fivehues_k71_trees_of_layers_holds : PySem.Challenge.rw_fivehues_k71_trees_of_layers.Holds := by
 w_on;o_law;z_head;(case hw=>w_witness2)
 k_fill
 intro w s0 s1 mg mb G y fa o pm cd doc dV kV ho hd hcd hD hmg hg args vals as L hpre hlay hrd hwl hlo
 z_open y L KX ZH ZN ZT
 refine K21.walk (l:=PySem.Challenge.rw_fivehues_k71_trees_of_layers) rfl rfl ?F w s0 s1 mg mb G KX fa o pm cd doc dV kV ho hd hcd hD hmg hg args vals as hpre hlay hrd hwl hlo
 case F =>
  clear KX ZH ZN ZT L y G hmg hg hpre hlay hrd hwl hlo ho hd hcd hD
  intro w mg fa h KX G hmg
  refine' K21.all_mk KX G hmg ?_ ?_ ?_ ?_ ?_ ?_ ?_ ?_ ?_ ?_ ?_ ?_ ?_ ?_ ?_ ?_ ?_ ?_ ?_ ?_ ?_ ?_ ?_ ?_ ?_ ?_ ?_ ?_ ?_ ?_ ?_ ?_ ?_ ?_ ?_ ?_ ?_ ?_ ?_ ?_ ?_ ?_ ?_ ?_ ?_ ?_ ?_ ?_ ?_ ?_ ?_ ?_ ?_ ?_ ?_ ?_ ?_ ?_ ?_ ?_ ?_ ?_ ?aC ?_ ?_ ?_ ?_ ?_ ?_ ?_ ?_ ?_ ?_ ?_ ?_ ?_ ?_ ?_ ?_ ?_ ?_ ?_ ?_ ?_ ?_ ?_ ?_ ?_ ?_ ?_ ?_ ?_ ?_ ?_ ?_ ?_ ?_ ?_ ?_
  (case aC=>k_is)
  all_goals(try first|k_is|kit_is|kts_exm|k_exc|exact⟨_,L2.fun_mk (by k_is) (by k_is) (by k_is)⟩)
end
