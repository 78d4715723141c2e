import PyProof.Rows.All
import KE.KDictOf
import KE.KDictSum
import KE.KEqDict
import KE.KSortTup
import KE.KTryMore
import KE.RegKIsAll
import KE.RegKTryMore
import Lean
import OpenK.AllK
import PyProof.EqAt
import PyProof.EqKinds
import PyProof.NsDelKeeps
import PyProof.Rows.StrMadeLen
import PyProof.SliceStr2
import PyProof.TupleCall
import Wide.All
import Wide.FinOn
import PySem.Challenge.RW_fivehues_k34_no_chains
set_option Elab.async false
set_option linter.all false
set_option maxRecDepth 100000
set_option maxHeartbeats 4000000
abbrev Qa:=@List.length_map
abbrev Qb:=@List.mem_singleton
abbrev Qc:=@List.mem_cons_self
abbrev Qd:=@List.getElem?_eq_getElem
abbrev Qe:=@List.mem_cons
abbrev Qf:=@List.mem_cons_of_mem
abbrev Qg:=@Nat.le_refl
abbrev Qh:=@List.mem_map
abbrev Qi:=@PySem.Heap.get?_push_of_some
abbrev Qj:=@List.mem_append
abbrev Qk:=@Option.some.inj
abbrev Ql:=@List.map_cons
abbrev Qm:=@List.take_succ_eq_append_getElem
abbrev Qn:=@List.map_append
abbrev Qo:=@List.mem_append_right
abbrev Qp:=@List.mem_append_left
abbrev Qq:=@List.getElem?_map
abbrev Qr:=@PySem.Heap.lt_size
abbrev Qs:=@List.nodup_cons
abbrev Qt:=@List.length_append
abbrev Qu:=@Ne.symm
abbrev Qv:=@List.size_toArray
abbrev Qw:=@List.append_assoc
abbrev Qx:=@List.length_cons
abbrev Qy:=@PySem.W.mg_of
abbrev Qz:=@List.take_of_length_le
abbrev Za:=@List.getElem?_eq_some_iff
abbrev Zb:=@List.getElem_mem
abbrev Zc:=@Nat.ne_of_lt
abbrev Zd:=@PySem.Heap.get?_push_size
abbrev Ze:=@List.nodup_append
abbrev Zf:=@Bool.false_ne_true
abbrev Zg:=@Nat.zero_le
abbrev Zh:=@List.length_take
abbrev Zi:=@List.map_map
abbrev Zj:=@Nat.lt_of_lt_of_le
abbrev Zk:=@List.sum_cons
abbrev Zl:=@Nat.le_trans
abbrev Zm:=@List.getElem_map
abbrev Zn:=@List.nodup_nil
abbrev Zo:=@List.getElem_of_mem
abbrev Zp:=@PySem.PassesOwn.never
abbrev Zq:=@List.getD_eq_getElem?_getD
abbrev Zr:=@PySem.F.plainAttrs_list
abbrev Zs:=@List.mem_flatten
abbrev Zt:=@Int.eq_ofNat_of_zero_le
abbrev Zu:=@List.append_nil
abbrev Zv:=@PySem.W.mg_none_of
abbrev Zw:=@PySem.boot_len
abbrev Zx:=@List.filter_cons_of_pos
abbrev Zy:=@List.filter_cons_of_neg
abbrev Zz:=@List.Perm.append_left
abbrev Ya:=@Array.toList_append
abbrev Yb:=@Nat.ne_of_gt
abbrev Yc:=@List.mem_filter
abbrev Yd:=@List.length_range
abbrev Yf:=@Array.perm_iff_toList_perm
abbrev Yh:=@Nat.le_add_right
abbrev Yi:=@List.getElem_inj
abbrev Yj:=@List.length_pos_of_mem
abbrev Yl:=@List.length_erase_of_mem
abbrev Ym:=@List.append_of_mem
abbrev Yn:=@PyProof.Rows.callWith_type1
abbrev Yo:=@PySem.Paired.length
abbrev Yp:=@Nat.lt_irrefl
abbrev Yq:=@List.mem_of_getElem?
abbrev Yr:=@Nat.lt_succ_self
abbrev Ys:=@Array.length_toList
abbrev Yu:=@List.perm_append_comm
abbrev Yv:=@List.flatten_cons
abbrev Yw:=@List.any_eq_true
abbrev Yx:=@List.take_append_drop
abbrev Yy:=@PyProof.Rows.boot_isinstance
abbrev Yz:=@List.Nodup.sublist
abbrev Wa:=@List.not_mem_nil
abbrev Wc:=@List.find?_cons_of_pos
abbrev Wd:=@List.find?_cons_of_neg
abbrev We:=@PySem.Around.under_plainId
abbrev Wf:=@PySem.mem_of_lookup
abbrev Wg:=@List.map_congr_left
abbrev Wh:=@List.flatten_append
abbrev Wi:=@Bool.eq_iff_iff
abbrev Wj:=@PySem.F.called_set
abbrev Wk:=@PySem.F.type_list_append
abbrev Wl:=@PySem.F.slot_list_append
abbrev Wm:=@Nat.lt_trans
abbrev Wn:=@List.pairwise_singleton
abbrev Wo:=@List.pairwise_map
abbrev Wp:=@List.getElem_take
abbrev Wq:=@PySem.Heap.size_push
abbrev Wr:=@Array.getD_eq_getD_getElem?
abbrev Ws:=@Sum.inr.inj
abbrev Wt:=@List.lookup_cons
abbrev Wu:=@PySem.F.slot_dict_keyiterator_next
abbrev Wv:=@List.lt_irrefl
abbrev Ww:=@List.filter_append
abbrev Wx:=@PySem.F.slot_dict_get
abbrev Wy:=@List.mem_of_mem_erase
abbrev Wz:=@Array.getElem?_toList
abbrev Ua:=@PySem.Heap.get?_update_other
abbrev Ub:=@Nat.le_succ
abbrev Uc:=@Nat.le_of_lt
abbrev Ud:=@PyProof.Rows.boot_sorted
abbrev Ue:=@List.map_take
abbrev Uf:=@List.length_pos_iff
abbrev Ug:=@List.getElem_range
abbrev Uh:=@Int.emod_lt_of_pos
abbrev Ui:=@List.length_nil
abbrev Uj:=@Nat.lt_succ_of_lt
abbrev Uk:=@Int.toNat_natCast
abbrev Ul:=@PySem.Calls.spliced_cons
abbrev Um:=@Prod.mk.inj
abbrev Uo:=@List.mem_range
abbrev Uq:=@List.getElem?_append_right
abbrev Ur:=@PyProof.Rows.KeyOrd.kle_trans
abbrev Us:=@List.cons_append
abbrev Ut:=@List.all_eq_true
abbrev Uu:=@Prod.ext
abbrev Uv:=@PySem.F.slot_tuple_iterator_next
abbrev Uw:=@List.find?_cons
abbrev Ux:=@List.filter_nil
abbrev Uy:=@Int.emod_nonneg
abbrev Uz:=@List.ne_nil_of_mem
abbrev Ja:=@Bool.false_eq_true
abbrev Jb:=@PySem.F.entry_dict_get
abbrev Jc:=@List.take_sublist
abbrev Jd:=@List.reverse_perm
abbrev Je:=@List.map_nil
abbrev Jf:=@Bool.not_eq_true'
abbrev Jg:=@Array.toList_push
abbrev Jh:=@List.length_replicate
abbrev Ji:=@List.perm_middle
abbrev Jj:=@List.length_drop
abbrev Jk:=@Bool.and_eq_true
abbrev Jl:=@List.map_drop
abbrev Jm:=@List.perm_cons_erase
abbrev Jn:=@List.mem_of_mem_take
abbrev Jo:=@List.getElem_toArray
abbrev Jp:=@PySem.Calls.spliced_nil
abbrev Jq:=@PySem.Calls.callWith_builtin
abbrev Jr:=@Array.toList_reverse
abbrev Js:=@List.nil_append
abbrev Jt:=@List.foldl_cons
abbrev Ju:=@PyProof.Rows.KeyOrd.kle_refl
abbrev Jv:=@List.perm_iff_count
abbrev Jw:=@List.filter_sublist
abbrev Jx:=@PySem.Heap.get?_update_self
abbrev Jy:=@PySem.F.slot_enumerate_next
abbrev Jz:=@PySem.W.callWith_K
abbrev Ka:=@List.pairwise_cons
abbrev Kb:=@PySem.Calls.evalArgs_plain
abbrev Kc:=@PyProof.Rows.KeyOrd.kle_of_klt
abbrev Ke:=@List.pairwise_iff_getElem
abbrev Kf:=@List.extract_eq_take_drop
abbrev Kg:=@List.drop_eq_getElem_cons
abbrev Kh:=@Decidable.byContradiction
abbrev Ki:=@Array.getElem?_eq_getElem
abbrev Kj:=@Nat.lt_of_succ_lt
abbrev Kk:=@List.reverse_cons
abbrev Kl:=@List.count_append
abbrev Km:=@PySem.Heap.SameBut.update
abbrev Kn:=@List.any_cons
abbrev Ko:=@List.Pairwise.imp_of_mem
abbrev Kp:=@PySem.W.KasT.kasWp_bind
abbrev Kq:=@PySem.F.type_list_index
abbrev Kr:=@PySem.F.slot_list_index
abbrev Kt:=@PySem.Obj.data_mapFields
abbrev Ku:=@Nat.succ_ne_self
abbrev Kv:=@Nat.succ_le_succ
abbrev Kw:=@List.cons_ne_nil
abbrev Kx:=@Array.toList_map
abbrev Ky:=@Array.toList_inj
abbrev Kz:=@PySem.W.cellsFrom_some
abbrev Xa:=@PyProof.Rows.boot_list
abbrev Xb:=@List.of_mem_zip
abbrev Xc:=@List.idxOf_cons
abbrev Xd:=@List.count_cons
abbrev Xe:=@Int.natCast_add
abbrev Xf:=@PyProof.Rows.boot_min
abbrev Xg:=@List.singleton_append
abbrev Xh:=@List.length_singleton
abbrev Xi:=@List.length_filter_le
abbrev Xj:=@List.getElem?_eq_none
abbrev Xk:=@PySem.F.slot_list_getattribute
abbrev Na:=PySem.W.Frag
abbrev Nb:=PySem.Value→PySem.Shared→Prop
abbrev Nc:=PySem.Addr
abbrev Nd:=List (PySem.Addr×PySem.Obj)
abbrev Nf:=PySem.Str→Option PySem.Value
abbrev Ng:=PySem.Shared
abbrev Nh:=List PySem.Str
abbrev Ni:=PySem.Program
abbrev Nj:=List PySem.Value
abbrev Nk:=PySem.World
abbrev Nl:=PySem.Heap
abbrev Nm:=PySem.Around
abbrev Nn:=List PySem.Addr
abbrev No:=List PySem.Expr
abbrev Np:=PySem.FuncData
abbrev Nq:=List (Option Nat)
abbrev Nr:=List (PySem.Str×PySem.Str)
abbrev Nt:=PySem.Result→PySem.Shared→Prop
abbrev Nu:=PySem.Str→PySem.Str
section
set_option Elab.async false
inductive Ex1{T0:Sort _}(P:T0→Prop):Prop
 |mk (x0:T0) (h:P x0):Ex1 P
inductive Ex2{T0:Sort _}{T1:Sort _}(P:T0→T1→Prop):Prop
 |mk (x0:T0) (x1:T1) (h:P x0 x1):Ex2 P
inductive Ex3{T0:Sort _}{T1:Sort _}{T2:Sort _}(P:T0→T1→T2→Prop):Prop
 |mk (x0:T0) (x1:T1) (x2:T2) (h:P x0 x1 x2):Ex3 P
inductive Ex4{T0:Sort _}{T1:Sort _}{T2:Sort _}{T3:Sort _}(P:T0→T1→T2→T3→Prop):Prop
 |mk (x0:T0) (x1:T1) (x2:T2) (x3:T3) (h:P x0 x1 x2 x3):Ex4 P
inductive Ex5{T0:Sort _}{T1:Sort _}{T2:Sort _}{T3:Sort _}{T4:Sort _}(P:T0→T1→T2→T3→T4→Prop):Prop
 |mk (x0:T0) (x1:T1) (x2:T2) (x3:T3) (x4:T4) (h:P x0 x1 x2 x3 x4):Ex5 P
inductive Ex6{T0:Sort _}{T1:Sort _}{T2:Sort _}{T3:Sort _}{T4:Sort _}{T5:Sort _}(P:T0→T1→T2→T3→T4→T5→Prop):Prop
 |mk (x0:T0) (x1:T1) (x2:T2) (x3:T3) (x4:T4) (x5:T5) (h:P x0 x1 x2 x3 x4 x5):Ex6 P
structure Aj2(p0 p1:Prop):Prop where
 h0:p0
 h1:p1
structure Aj3(p0 p1 p2:Prop):Prop where
 h0:p0
 h1:p1
 h2:p2
structure Aj4(p0 p1 p2 p3:Prop):Prop where
 h0:p0
 h1:p1
 h2:p2
 h3:p3
structure Aj5(p0 p1 p2 p3 p4:Prop):Prop where
 h0:p0
 h1:p1
 h2:p2
 h3:p3
 h4:p4
structure Aj6(p0 p1 p2 p3 p4 p5:Prop):Prop where
 h0:p0
 h1:p1
 h2:p2
 h3:p3
 h4:p4
 h5:p5
structure Aj7(p0 p1 p2 p3 p4 p5 p6:Prop):Prop where
 h0:p0
 h1:p1
 h2:p2
 h3:p3
 h4:p4
 h5:p5
 h6:p6
structure Aj8(p0 p1 p2 p3 p4 p5 p6 p7:Prop):Prop where
 h0:p0
 h1:p1
 h2:p2
 h3:p3
 h4:p4
 h5:p5
 h6:p6
 h7:p7
structure Aj9(p0 p1 p2 p3 p4 p5 p6 p7 p8:Prop):Prop where
 h0:p0
 h1:p1
 h2:p2
 h3:p3
 h4:p4
 h5:p5
 h6:p6
 h7:p7
 h8:p8
def zar1{a b:Nat}(h:a<b):b-(a+1)<b-a:=Nat.sub_lt_sub_left h (Yr a)
def zar3{a b:Nat}(h:a≤b)(k:¬a<b):a=b:=Nat.le_antisymm h (Nat.le_of_not_lt k)
def zar4{a b:Nat}(h:a≤b):a+1≤b+1:=Kv h
def zar6{a b c:Nat}(e:a=b)(h:c<b):c<a:=e▸h
def zar7{a b c:Nat}(e:a=b)(h:c<a):c<b:=e▸h
def zar8{a b:Nat}(h:(a:Int)<(b:Int)):a<b:=Int.ofNat_lt.mp h
def zar9{a b:Nat}(h:a<b):(a:Int)<(b:Int):=Int.ofNat_lt.mpr h
def zar10{a b:Nat}(h:a<b)(k:b≤a):False:=Yp _ (Zj h k)
def zdp{a b c:Nat}(h:a≤b)(e:a=c):c≤b:=e▸h
def zar16{a b:Nat}(h:a≤b):a≤b+1:=Nat.le_succ_of_le h
end
section
set_option Elab.async false
set_option linter.all false
set_option maxRecDepth 100000
namespace L2
open PySem PySem.Spec PyProof.Rows
abbrev Key:=Sum Int Str
def keyIs:Key→Value→Bool
 |.inl k,v=>Value.isInt k v
 |.inr x,v=>Value.isStrOf x v
def keyH(w:Nk):Key→Int
 |.inl k=>hashInt k
 |.inr x=>hashStr w x
theorem zbg:∀{k:Key} {v:Value},keyIs k v=true→(∃i t,k=Sum.inl i∧v=Value.int i t)∨(∃x t,k=Sum.inr x∧v=Value.str x t)
 |.inl i,v,h=>by
  obtain⟨t,e⟩:=Value.isInt_shape (k:=i) (v:=v) h
  exact .inl ⟨i,t,rfl,e⟩
 |.inr x,v,h=>by
  obtain⟨t,e⟩:=Value.isStrOf_shape (x:=x) (v:=v) h
  exact .inr ⟨x,t,rfl,e⟩
def keyIs_int(i:Int)(t:Tok):keyIs (.inl i) (.int i t)=true:=by simp[keyIs,Value.isInt]
def keyIs_str(x:Str)(t:Tok):keyIs (.inr x) (.str x t)=true:=by simp[keyIs,Value.isStrOf]
def key_ll(a b:Int):decide ((Sum.inl a:Key)=Sum.inl b)=(a==b):=by
 by_cases e:a=b
 ·subst e;simp
 ·have h:¬ (Sum.inl a:Key)=Sum.inl b:=fun q=>e (Sum.inl.inj q)
  rw[decide_eq_false h]
  exact(beq_eq_false_iff_ne.mpr e).symm
def key_rr(a b:Str):decide ((Sum.inr a:Key)=Sum.inr b)=decide (a=b):=by
 by_cases e:a=b
 ·subst e;simp
 ·have h:¬ (Sum.inr a:Key)=Sum.inr b:=fun q=>e (Ws q)
  rw[decide_eq_false h,decide_eq_false e]
def key_lr(a:Int)(b:Str):decide ((Sum.inl a:Key)=Sum.inr b)=false:=decide_eq_false (λq=>nomatch q)
def key_rl(a:Str)(b:Int):decide ((Sum.inr a:Key)=Sum.inl b)=false:=decide_eq_false (λq=>nomatch q)
def zar(prog:Ni)(w:Nk):PySem.KeyKind prog w Key where
 is:=keyIs
 hash:=keyH w
 inj:=λv a b ha hb=>by
  rcases zbg ha with⟨i,t,rfl,rfl⟩ | ⟨x,t,rfl,rfl⟩
  ·rcases zbg hb with ⟨j,u,rfl,e⟩ | ⟨y,u,rfl,e⟩
   ·injection e with e1 _;rw[e1]
   ·exact nomatch e
  ·rcases zbg hb with ⟨j,u,rfl,e⟩ | ⟨y,u,rfl,e⟩
   ·exact nomatch e
   ·injection e with e1 _;rw[e1]
 byValue:=λk v h=>by
  rcases zbg h with⟨i,t,rfl,rfl⟩ | ⟨x,t,rfl,rfl⟩<;>rfl
 pyHash:=λhv h=>by
  rcases zbg hv with⟨i,t,rfl,rfl⟩ | ⟨x,t,rfl,rfl⟩
  ·exact wpAny_pyHash_int h
  ·exact wpAny_pyHash_str h
 eqBool:=λhu hv h=>by
  rcases zbg hu with⟨i,t,rfl,rfl⟩ | ⟨x,t,rfl,rfl⟩
  ·rcases zbg hv with ⟨j,u,rfl,rfl⟩ | ⟨y,u,rfl,rfl⟩
   ·rw[key_ll]at h;exact wpAny_eqBool_int h
   ·rw[key_lr]at h;exact SeqAt.EqAt.int_str i t y u _ _ _ _ h
  ·rcases zbg hv with ⟨j,u,rfl,rfl⟩ | ⟨y,u,rfl,rfl⟩
   ·rw[key_rl]at h;exact SeqAt.EqAt.str_int x t j u _ _ _ _ h
   ·rw[key_rr]at h;exact wpAny_eqBool_str h
 «strs»:=λk x t v h=>by
  rcases zbg h with⟨i,u,rfl,e⟩ | ⟨y,u,rfl,e⟩
  ·exact nomatch e
  ·injection e with e1 _
   subst e1
   cases v<;>rfl
def mixKind_int(prog:Ni)(w:Nk)(i:Int)(t:Tok):(zar prog w).is (.inl i) (.int i t)=true:=keyIs_int i t
def zft(prog:Ni)(w:Nk)(x:Str)(t:Tok):(zar prog w).is (.inr x) (.str x t)=true:=keyIs_str x t
end L2
namespace L2
open PySem PySem.Spec PyProof.Rows
inductive V where
 |non | bl (b:Bool) | int (i:Int) | str (x:Str) | byt (b:Array UInt8) | flt (b:UInt64) | ref (a:Nc) | ty (n:String)
 deriving DecidableEq
def RelV:V→Value→Prop
 |.non,u=>u=Value.none
 |.bl b,u=>u=Value.bool b
 |.int i,u=>∃t,u=Value.int i t
 |.str x,u=>∃t,u=Value.str x t
 |.byt b,u=>∃t,u=Value.bytes b t
 |.flt b,u=>∃t,u=Value.float b t
 |.ref a,u=>u=Value.ref a
 |.ty n,u=>u=Value.type n
abbrev Vals:List V→List Value→Prop:=Paired RelV
def Vals.length{xs:List V}{us:Nj}(r:Vals xs us):xs.length=us.length:=Yo r
theorem Vals.get:∀{xs:List V} {us:Nj} {i:Nat} {x:V},Vals xs us→xs[i]?=some x→∃u,us[i]?=some u∧RelV x u
 |_,_,_,_,.nil,e=>by simp at e
 |_,_,0,_,.cons r _,e=>by simp at e;subst e;exact⟨_,rfl,r⟩
 |_,_,i+1,x,.cons _ t,e=>by
  obtain⟨u,h1,h2⟩:=Vals.get (i:=i) (x:=x) t (by simpa using e)
  exact⟨u,by simpa using h1,h2⟩
theorem Vals.set(r:RelV x u):∀{xs:List V} {us:Nj} (i:Nat),Vals xs us→Vals (xs.set i x) (us.set i u)
 |_,_,_,.nil=>.nil
 |_,_,0,.cons _ t=>.cons r t
 |_,_,i+1,.cons q t=>.cons q (Vals.set r i t)
theorem Vals.append:∀{xs ys:List V} {us ws:Nj},Vals xs us→Vals ys ws→Vals (xs++ys) (us++ws)
 |_,_,_,_,.nil,s=>s
 |_,_,_,_,.cons r t,s=>.cons r (Vals.append t s)
theorem Vals.take:∀{xs:List V} {us:Nj} (n:Nat),Vals xs us→Vals (xs.take n) (us.take n)
 |_,_,0,_=>.nil
 |_,_,_+1,.nil=>.nil
 |_,_,n+1,.cons r t=>.cons r (Vals.take n t)
theorem Vals.drop:∀{xs:List V} {us:Nj} (n:Nat),Vals xs us→Vals (xs.drop n) (us.drop n)
 |_,_,0,r=>r
 |_,_,_+1,.nil=>.nil
 |_,_,n+1,.cons _ t=>Vals.drop n t
def RelO:Option V→Option Value→Prop
 |some v,some u=>RelV v u
 |none,none=>True
 |_,_=>False
def KV{κ:Type}:List (κ×V)→List (κ×Value)→Prop:=Paired λ(p:κ×V) (q:κ×Value)=>p.1=q.1∧RelV p.2 q.2
def kV:Key→V
 |.inl i=>.int i
 |.inr x=>.str x
inductive HO where
 /-- a list -/
 |lst (xs:List V)
 /-- a tuple (never changes) -/
 |tup (xs:List V)
 /-- a dict whose keys are ints and texts;one whose keys are tuples of ints and texts (the empty one is both) -/
 |dK (kvs:List (Key×V)) | dT (kvs:List (List Key×V))
 /-- a set of ints: ae members,ae size -/
 |set (S:Int→Bool) (n:Nat)
 /-- an instance of the class at C,ae dict at dx,ae attributes -/
 |ins (C dx:Nc) (fs:List (Str×V))
 /-- the dict of the instance at x -/
 |own (x:Nc)
 /-- the dict of an exception -/
 |xd (fs:List (Str×V))
 /-- a bound method,f of x -/
 |met (f x:Nc)
 /-- a range object lo,lo+1,.. below hi -/
 |rng (lo hi:Int)
 /-- a thing that is known to the object (the script;a dict while a loop walks it): read,never written while it is so -/
 |frz (o:Obj) (u:HO)
 /-- a code object's table -/
 |tbl (ps:Array Value)
 /-- any other thing,by what is true of ae one object (a def of one's own: SetO a S n:=HO.ext λh=>..) -/
 |ext (φ:Heap→Prop)
abbrev Hp:=Addr→Option HO
def upd(H:Hp)(a:Nc)(o:HO):Hp:=λb=>if b=a then some o else H b
def zac{H:Hp}{a:Nc}{o:HO}:upd H a o a=some o:=by unfold upd;rw[if_pos rfl]
def zad{H:Hp}{a b:Nc}{o:HO}(h:b≠a):upd H a o b=H b:=by unfold upd;rw[if_neg h]
def upd_upd:upd (upd H a o) a u=upd H a u:=by
 funext b;unfold upd;split<;>rfl
def zax{H:Hp}{a b:Nc}{o u:HO}(h:H a=some o)(h':H b=some u)(d:o≠u):a≠b:=by
 intro e;subst e;rw[h]at h';exact d (Qk h')
def zab{H:Hp}{a b:Nc}{o:HO}(h:H a=some o)(h':H b=none):a≠b:=by
 intro e;subst e;rw[h]at h';cases h'
section
variable(P:Ni)(w:Nk)
def zbi(H:Hp)(h:Nl)(a:Nc):HO→Prop
 |.lst xs=>xs.length≤sizeLine∧∃(ae:Nj) (n:Nat),Vals xs ae∧h.get? a=some {cls:=.type "list",data:=.seq ae.toArray n}
 |.tup xs=>xs.length≤sizeLine∧∃ae:List Value,Vals xs ae∧IsTup h a ae.toArray
 |.dK kvs=>kvs.length≤sizeLine∧(a==sysModules)=false∧∃vs,KV kvs vs∧h.DictOf (zar P w) a vs
 | .dT kvs=>kvs.length≤sizeLine∧(a == sysModules)=false∧∃ xs:List (List Key×Addr×Value),
   Paired (λ(p:List Key×V) (q:List Key×Addr×Value)=>p.1=q.1∧H q.2.1=some (.tup (p.1.map kV))∧RelV p.2 q.2.2) kvs xs ∧
   ∃o es ep,h.get? a=some o∧o.ExactDict∧o.data=.dict es ep∧es.toList=xs.map (entryOfKey (tupleKind (zar P w)))∧(xs.map (·.1)).Nodup
 |.set S n=>h.SetOf (intKind P w) a S n
 | .ins C dx fs=>H dx=some (.own a)∧fs.length≤1000∧dx≠a∧h.get? a=some (PySem.W.instObj C dx) ∧
   ∃mA,h.Ns1 dx mA∧(∀f,RelO (fs.lookup f) (mA f))∧PySem.Within mA (fs.map (·.1))
 |.own _=>∃o,h.get? a=some o
 |.xd fs=>∃mA,h.Ns1 a mA∧∀f,RelO (fs.lookup f) (mA f)
 |.rng lo hi=>∃t u v,h.get? a=some {cls:=.type "range",data:=.fields #[.int lo t,.int hi u,.int 1 v]}
 |.frz o u=>h.get? a=some o∧zbi H h a u
 |.tbl ps=>h.get? a=some {cls:=.none,data:=.fields ps}
 |.met f x=>h.get? a=some (PySem.W.methodObj (.ref f) (.ref x))
 |.ext φ=>φ h∧(∃o,h.get? a=some o)∧∀h1 h2:Heap,φ h1→(∀o,h1.get? a=some o→h2.get? a=some o)→φ h2
def HOk(H:Hp)(h:Nl):Prop:=∀a o,H a=some o→zbi P w H h a o
end
section
variable{P:Ni}{w:Nk}{H H':Hp}{h h':Nl}{a:Nc}{o:HO}
def zbi.lt(x:zbi P w H h a o):a<h.objs.size:=by
 cases o with
 |lst xs=>obtain⟨_,_,_,_,e⟩:=x;exact Qr e
 |tup xs=>obtain⟨_,_,_,p⟩:=x;exact p.lt
 |dK kvs=>obtain⟨_,_,_,_,o,_,_,e,_⟩:=x;exact Qr e
 |dT kvs=>obtain⟨_,_,_,_,o,_,_,e,_⟩:=x;exact Qr e
 |set S n=>obtain⟨o,_,_,_,e,_⟩:=x;exact Qr e
 |ins C dx fs=>obtain⟨_,_,_,e,_⟩:=x;exact Qr e
 |own y=>obtain⟨_,e⟩:=x;exact Qr e
 |xd fs=>obtain⟨_,⟨_,_,_,e,_⟩,_⟩:=x;exact Qr e
 |rng lo hi=>obtain⟨_,_,_,e⟩:=x;exact Qr e
 |frz ob u=>obtain⟨e,_⟩:=x;exact Qr e
 |tbl ps=>exact Qr (show h.get? a=some _ from x)
 |met f y=>exact Qr (show h.get? a=some _ from x)
 |ext φ=>obtain⟨_,⟨_,e⟩,_⟩:=x;exact Qr e
theorem Paired.mapP{α β:Type}{F G:α→β→Prop}:∀{l₁:List α} {l₂:List β},Paired F l₁ l₂→(∀a b,F a b→G a b)→Paired G l₁ l₂
 |_,_,.nil,_=>.nil
 |_,_,.cons r t,f=>.cons (f _ _ r) (Paired.mapP t f)
def Paired.imp'{α β:Type}{F G:α→β→Prop}(f:∀a b,F a b→G a b){l₁:List α}{l₂:List β}(r:Paired F l₁ l₂):Paired G l₁ l₂:=Paired.mapP r f
def zbi.stay(x:zbi P w H h a o)(k:∀b u,(b=a∨H b=some (.own a))→h.get? b=some u→h'.get? b=some u)(ho:∀b,H b=some (.own a)→H' b=some (.own a))(ht:∀b xs,H b=some (.tup xs)→H' b=some (.tup xs)):zbi P w H' h' a o:=by
 induction o with
 |lst xs=>obtain⟨z,ae,n,r,e⟩:=x;exact⟨z,ae,n,r,k _ _ (.inl rfl) e⟩
 |tup xs=>obtain⟨z,ae,r,ob,e,c⟩:=x;exact⟨z,ae,r,ob,k _ _ (.inl rfl) e,c⟩
 |dK kvs=>obtain⟨z,y,vs,r,ob,es,ep,e,c⟩:=x;exact⟨z,y,vs,r,ob,es,ep,k _ _ (.inl rfl) e,c⟩
 |dT kvs =>
  obtain⟨z,y,xs,r,ob,es,ep,e,c⟩:=x
  exact⟨z,y,xs,Paired.mapP r λp q z=>⟨z.1,ht _ _ z.2.1,z.2.2⟩,ob,es,ep,k _ _ (.inl rfl) e,c⟩
 |set S n=>obtain⟨ob,es,ep,t,e,c⟩:=x;exact⟨ob,es,ep,t,k _ _ (.inl rfl) e,c⟩
 |ins C dx fs =>
  obtain⟨d,z,ne,e,mA,⟨od,es,ep,e2,c⟩,r⟩:=x
  exact⟨ho _ d,z,ne,k _ _ (.inl rfl) e,mA,⟨od,es,ep,k _ _ (.inr d) e2,c⟩,r⟩
 |own y=>obtain⟨ob,e⟩:=x;exact⟨ob,k _ _ (.inl rfl) e⟩
 |xd fs=>obtain⟨mA,⟨od,es,ep,e,c⟩,r⟩:=x;exact⟨mA,⟨od,es,ep,k _ _ (.inl rfl) e,c⟩,r⟩
 |rng lo hi=>obtain⟨t,u,v,e⟩:=x;exact⟨t,u,v,k _ _ (.inl rfl) e⟩
 |frz ob u ih=>obtain⟨e,q⟩:=x;exact⟨k _ _ (.inl rfl) e,ih q⟩
 |tbl ps =>
  have e:h.get? a=some {cls:=.none,data:=.fields ps}:=x
  show h'.get? a=some {cls:=.none,data:=.fields ps}
  exact k a _ (.inl rfl) e
 |met f y =>
  have e:h.get? a=some (PySem.W.methodObj (.ref f) (.ref y)):=x
  show h'.get? a=some (PySem.W.methodObj (.ref f) (.ref y))
  exact k a _ (.inl rfl) e
 |ext φ=>obtain⟨p,⟨o,e⟩,st⟩:=x;exact⟨st _ _ p λo q=>k _ _ (.inl rfl) q,⟨o,k _ _ (.inl rfl) e⟩,st⟩
def HOk.lt(x:HOk P w H h)(e:H a=some o):a<h.objs.size:=(x a o e).lt
def HOk.fresh(x:HOk P w H h)(e:h.objs.size≤a):H a=none:=by
 cases q:H a with
 |none=>rfl
 |some u=>exact absurd (Zj (x.lt q) e) (Yp _)
def HOk.kept(x:HOk P w H h)(k:∀b u,h.get? b=some u→h'.get? b=some u):HOk P w H h':=λa o e =>
 (x a o e).stay (λb u _ q=>k b u q) (λ_ q=>q) λ_ _ q=>q
def HOk.laid(x:HOk P w H h)(k:∀b u,h.get? b=some u→h'.get? b=some u)(hp:h.objs.size≤a)(new:zbi P w (upd H a o) h' a o):HOk P w (upd H a o) h':=λb u e=>by
 have hn:=x.fresh hp
 by_cases hb:b=a
 ·subst hb;rw[zac]at e;cases e;exact new
 ·rw [zad hb] at e
  exact(x b u e).stay (λc v _ q=>k c v q) (λc q=>by rw[zad (zab q hn)];exact q) λc xs q=>by rw[zad (zab q hn)];exact q
end
def Rd(H:Hp)(a:Nc)(u:HO):Prop:=H a=some u∨∃o,H a=some (.frz o u)
def Rd.ok{P:Ni}{w:Nk}{H:Hp}{h:Nl}{a:Nc}{u:HO}(r:Rd H a u)(x:HOk P w H h):zbi P w H h a u:=by
 rcases r with r | ⟨o,r⟩
 ·exact x a u r
 ·obtain ⟨_,q⟩:=x a _ r
  exact q
def Mut:Option HO→Prop
 |some (.lst _)=>True
 |some (.dK _)=>True
 |some (.dT _)=>True
 |some (.set _ _)=>True
 |some (.ins _ _ _)=>True
 |some (.ext _)=>True
 |_=>False
section
variable{P:Ni}{w:Nk}{H:Hp}{h h':Nl}{x e:Nc}{o':HO}
def HOk.write(ok:HOk P w H h)(mu:Mut (H x))(he:e=x∨H e=some (.own x))(k:∀ b u,b≠e→h.get? b=some u→h'.get? b=some u)(eM:∃ u,h'.get? e=some u)(new:zbi P w (upd H x o') h' x o'):HOk P w (upd H x o') h':=λb u q=>by
 have nown:∀c y,H c=some (.own y)→c≠x:=λc y r z=>by subst z;rw[r]at mu;exact mu
 have ntup:∀c xs,H c=some (.tup xs)→c≠x:=λc xs r z=>by subst z;rw[r]at mu;exact mu
 by_cases hb:b=x
 ·subst hb;rw[zac]at q;cases q;exact new
 ·rw [zad hb] at q
  by_cases gI:b=e
  ·have q':H b=some (.own x):=by
    rcases he with z | z
    ·exact absurd (gI.trans z) hb
    ·rw[gI];exact z
   rw[q]at q';cases q'
   obtain⟨v,hv⟩:=eM
   exact⟨v,by rw[gI];exact hv⟩
  ·refine (ok b u q).stay (fun c v hc r=>k c v ?_ r) (fun c r=>by rw [zad (nown c b r)];exact r) fun c xs r=>by rw [zad (ntup c xs r)];exact r
   rcases hc with rfl | hc
   ·exact gI
   ·rintro rfl
    rcases he with z | z
    ·exact nown c b hc z
    ·rw[hc]at z;cases z;exact hb rfl
end
structure Un(fs ex:Nn)(H H':Hp)(h h':Nl):Prop where
 keep:∀b o,h.get? b=some o→H b=none→b∉fs→b∉ex→h'.get? b=some o
 slot:∀b o,h.get? b=some o→H b=none→b∈fs→b∉ex→∃sl,h'.get? b=some {o with slots:=sl}
 free:∀b o,h.get? b=some o→H b=none→b∉ex→H' b=none
 there:∀b o,h.get? b=some o→b∉ex→∃o',h'.get? b=some o'
 tups:∀b xs,H b=some (.tup xs)→H' b=some (.tup xs)
 frzs:∀b o u,H b=some (.frz o u)→H' b=some (.frz o u)
 tbls:∀b ps,H b=some (.tbl ps)→∃more,H' b=some (.tbl (ps++more))
section
variable{fs fs' ex ex':Nn}{H H1 H2:Hp}{h h1 h2 h':Nl}{a x e:Nc}{o:HO}
def Un.any(u:Un fs ex H H1 h h1){b:Nc}{ob:Obj}(q:h.get? b=some ob)(n:H b=none)(hx:b∉ex):∃sl,h1.get? b=some {ob with slots:=sl}:=by
 by_cases hb:b∈fs
 ·exact u.slot b ob q n hb hx
 ·exact⟨ob.slots,u.keep b ob q n hb hx⟩
def Un.kept(k:∀b u,h.get? b=some u→h'.get? b=some u):Un fs ex H H h h' :=
 ⟨λb ob q _ _ _=>k b ob q,λb ob q _ _ _=>⟨ob.slots,k b ob q⟩,λ_ _ _ n _=>n,λb ob q _=>⟨ob,k b ob q⟩,λ_ _ q=>q,λ_ _ _ q=>q,λ_ ps q=>⟨#[],by rw[q];simp⟩⟩
def Un.refl:Un fs ex H H h h:=Un.kept λ_ _ q=>q
theorem Un.laid(k:∀b u,h.get? b=some u→h'.get? b=some u)(hp:h.objs.size≤a)(hn:H a=none):Un fs ex H (upd H a o) h h' where
 keep:=λb u q _ _ _=>k b u q
 slot:=λb u q _ _ _=>⟨u.slots,k b u q⟩
 free:=λb u q n _=>by rw[zad (Zc (Zj (Qr q) hp))];exact n
 there:=λb u q _=>⟨u,k b u q⟩
 tups:=λb xs q=>by rw[zad (zab q hn)];exact q
 frzs:=λb u xs q=>by rw[zad (zab q hn)];exact q
 tbls:=λb ps q=>⟨#[],by rw[zad (zab q hn),q];simp⟩
def Un.write(mu:Mut (H x))(he:e=x∨H e=some (.own x))(k:∀b u,b≠e→h.get? b=some u→h'.get? b=some u)(eM:∃u,h'.get? e=some u):Un fs ex H (upd H x o) h h':=by
 have hx:∀b,H b=none→b≠x:=λb n z=>by subst z;rw[n]at mu;exact mu
 have hb:∀b,H b=none→b≠e:=λb n z=>by
  subst z
  rcases he with r | r
  ·exact hx b n r
  ·rw[n]at r;cases r
 have hm:∀b u,H b=some u→¬Mut (some u)→b≠x:=λb u q nm z=>by subst z;rw[q]at mu;exact nm mu
 refine⟨λb u q n _ _=>k b u (hb b n) q,λb u q n _ _=>⟨u.slots,k b u (hb b n) q⟩,λb u q n _=>by rw[zad (hx b n)];exact n,λb u q _=>?_,
  λb xs q=>by rw[zad (hm b _ q λz=>z)];exact q,λb u xs q=>by rw[zad (hm b _ q λz=>z)];exact q,λb ps q=>⟨#[],by rw[zad (hm b _ q λz=>z),q];simp⟩⟩
 by_cases gI:b=e
 ·subst gI;exact eM
 ·exact⟨u,k b u gI q⟩
end
def trk(h:Nl)(H:Hp):List Addr:=(List.range h.objs.size).filter λa=>(H a).isSome
def hidT(h:Nl)(H:Hp):Heap:=PySem.W.hideAll h (trk h H)
def hidT_size(h:Nl)(H:Hp):(hidT h H).objs.size=h.objs.size:=PySem.W.hideAll_size _ _
def hidT_get{h:Nl}{H:Hp}{b:Nc}{o:Obj}(e:h.get? b=some o)(n:H b=none):(hidT h H).get? b=some o :=
 PySem.W.hideAll_get _ e λhm=>by
  have q:(H b).isSome=true:=(Yc.mp hm).2
  rw[n]at q;simp at q
def of_hidT{h:Nl}{H:Hp}{b:Nc}{o:Obj}(e:(hidT h H).get? b=some o):h.get? b=some o∧H b=none:=by
 have e':h.get? b=some o:=PySem.W.of_hideAll (trk h H) e
 refine⟨e',?_⟩
 cases q:H b with
 |none=>rfl
 |some x =>
  have hm:b∈trk h H:=Yc.mpr ⟨Uo.mpr (Qr e'),by simp[q]⟩
  have z:(hidT h H).get? b=none:=PySem.W.hideAll_none (trk h H) hm
  rw[z]at e;cases e
end L2
namespace L2
open PySem PySem.Spec PyProof.Rows
structure Mod(K:Na)(mg:Nf)(base:Nl):Prop where
 kin:K.In base
 glob:base.Ns mainGlobals mg
 blt:∃mb,base.Ns builtinsNs mb∧∀x:Str,x ≠ "__name__" → mb x=bootBuiltins x
 nolimit:base.NoLimit
structure Cx where
 prog:Program
 w:World
 K:PySem.W.Frag
 mg:Str→Option Value
 base:Heap
 A:Around
 N:List Str
 s₀:Shared
 H₀:Hp
 env:Env
 outer:List Env
 stack:List Env
 ex:List Addr
 fn:Str→Bool
 calm:Bool
 pn:List (Addr×Obj)
 xe:Value→Shared→Prop
def frs(l:List Env):List Addr:=l.filterMap (·.frame)
abbrev Cx.fs(X:Cx):List Addr:=frs X.outer
def Vis(sc:Scope)(x:Str):Prop:=sc.names.lookup x=some .local∨sc.names.lookup x=some .cell∨sc.names.lookup x=some .free
def Loc(sc:Scope)(x:Str):Prop:=sc.names.lookup x=some .local∨sc.names.lookup x=some .cell
def Look(env:Env)(h:Nl)(m:Nf)(x:Str)(u:Value):Prop :=
 (env.kindOf x=some .local∧m x=some u)∨((env.kindOf x=some .cell∨env.kindOf x=some .free)∧∃c,env.cells.lookup x=some c∧h.IsCell c (some u))
structure Cx.Ok(X:Cx):Prop where
 mod:Mod X.K X.mg X.base
 kind:X.env.scope.kind=.function
 glob:X.env.globals=mainGlobals
 blt:X.env.builtins=builtinsNs
 above:X.s₀.heap.objs.size≤X.env.locals
 inj:∀x y c,X.env.cells.lookup x=some c→X.env.cells.lookup y=some c→x=y
 has:∀x,(X.env.kindOf x=some .cell∨X.env.kindOf x=some .free)→∃c,X.env.cells.lookup x=some c
 cab:∀x c,X.fn x=true→X.env.cells.lookup x=some c→X.s₀.heap.objs.size≤c
 hd:X.calm=true→X.A.handled=none
 frames:X.A.frames=some X.stack
 stk:X.stack=X.outer∨(X.stack=X.env::X.outer∧X.env.frame=some X.env.locals)
 exf:∀b∈X.ex,b≠X.env.locals∧∀x c,X.env.cells.lookup x=some c→c≠b
 bs:∀b o,X.base.get? b=some o→X.s₀.heap.get? b=some o∧X.H₀ b=none
 bsz:X.base.objs.size≤X.s₀.heap.objs.size
 noex:∀b o,X.base.get? b=some o→b∉X.ex
 exfs:∀b∈X.ex,b∉X.fs
 funs:X.s₀.heap.FunFrames X.base X.outer
 frf:∀b∈X.fs,X.H₀ b=none
structure Inv(X:Cx)(aa:Nd)(σ:List (Option V))(H:Hp)(s:Ng):Prop where
 ok:X.Ok
 os:s.os=X.s₀.os
 bare:AllBare s.gens
 base:Un X.fs X.ex X.H₀ H X.s₀.heap s.heap
 loc:∃m,s.heap.Ns X.env.locals m∧∀(i:Nat) (x:Str) (v:V),X.N[i]?=some x→σ[i]?=some (some v)→Vis X.env.scope x→∃u,RelV v u∧Look X.env s.heap m x u
 cell:∀x c,X.env.cells.lookup x=some c→∃v,s.heap.IsCell c v
 free:H X.env.locals=none
 freeC:∀x c,X.env.cells.lookup x=some c→H c=none
 pin:∀p∈X.pn++aa,s.heap.get? p.1=some p.2∧H p.1=none∧p.1≠X.env.locals∧p.1∉X.fs∧∀v,p.2.data≠.cell v
 hok:HOk X.prog X.w H s.heap
 len:σ.length=X.N.length
section
variable{X:Cx}{aa:Nd}{σ:List (Option V)}{H H':Hp}{s:Ng}{h':Nl}
def Cx.Ok.nofr(ok:X.Ok)(e:X.base.get? b=some o):b∉X.fs:=λhb=>by
 have:=(ok.funs.mem hb).1
 rw[e]at this;cases this
def Inv.bs(I:Inv X aa σ H s):∀b o,X.base.get? b=some o→s.heap.get? b=some o∧H b=none:=λb o e =>
 ⟨I.base.keep b o (I.ok.bs b o e).1 (I.ok.bs b o e).2 (I.ok.nofr e) (I.ok.noex b o e),I.base.free b o (I.ok.bs b o e).1 (I.ok.bs b o e).2 (I.ok.noex b o e)⟩
def Inv.bk(I:Inv X aa σ H s):∀b o,X.base.get? b=some o→s.heap.get? b=some o:=λb o e=>(I.bs b o e).1
def Inv.mod(I:Inv X aa σ H s):Mod X.K X.mg X.base:=I.ok.mod
def Inv.kIn(I:Inv X aa σ H s):X.K.In s.heap:=I.ok.mod.kin.keeps I.bk
def Inv.lt(I:Inv X aa σ H s):X.env.locals<s.heap.objs.size:=let⟨_,hn,_⟩:=I.loc;hn.lt
def Inv.sz(I:Inv X aa σ H s):X.s₀.heap.objs.size≤s.heap.objs.size:=Zl I.ok.above (Uc I.lt)
def Inv.nofs(I:Inv X aa σ H s)(h:s.heap.objs.size≤a):a∉X.fs:=λhb=>by
 obtain⟨_,o,ho,_⟩:=I.ok.funs.mem hb
 exact absurd (Zj (Qr ho) (Zl I.sz h)) (Yp _)
def Inv.cne(I:Inv X aa σ H s):∀x c,X.env.cells.lookup x=some c→c≠X.env.locals:=λx c e z=>by
 obtain⟨v,o,ho,hd⟩:=I.cell x c e
 obtain⟨m,⟨o',es,ep,bg,iw,_⟩,_⟩:=I.loc
 rw[z,bg]at ho;cases ho;rw[iw]at hd;cases hd
def Inv.funs(I:Inv X aa σ H s):s.heap.FunFrames X.base X.outer:=by
 have all:∀(l:List Env),(∀b∈frs l,b∈X.fs)→X.s₀.heap.FunFrames X.base l→s.heap.FunFrames X.base l:=by
  intro l
  induction l with
  |nil=>intro _ _;trivial
  |cons env r ih =>
   intro hs hl
   obtain⟨hk,⟨L,o,hf,hn,ho,hd⟩,hr⟩:=hl
   have hL:L∈X.fs:=hs L (by unfold frs;rw[List.filterMap_cons,hf];exact List.mem_cons_self)
   obtain⟨sl,e⟩:=I.base.slot L o ho (I.ok.frf L hL) hL λz=>I.ok.exfs L z hL
   exact⟨hk,⟨L,_,hf,hn,e,hd⟩,ih (λb hb=>hs b (by unfold frs;rw[List.filterMap_cons,hf];exact List.mem_cons_of_mem _ hb)) hr⟩
 exact all X.outer (λ_ hb=>hb) I.ok.funs
def Inv.stack(I:Inv X aa σ H s):s.heap.FunFrames X.base X.stack:=by
 rcases I.ok.stk with e | ⟨e,hf⟩
 ·rw[e];exact I.funs
 ·rw [e]
  obtain⟨m,hn,_⟩:=I.loc
  refine .cons (by rw[I.ok.kind];decide) hf hn ?_ I.funs
  exact Heap.get?_none_of_le (Zl I.ok.bsz I.ok.above)
def Inv.stkSub(I:Inv X aa σ H s):∀b∈frs X.stack,b∈X.env.locals::X.fs:=λb hb=>by
 rcases I.ok.stk with e | ⟨e,hf⟩
 ·rw[e]at hb;exact Qf _ hb
 ·rw [e] at hb
  unfold frs at hb
  rw[List.filterMap_cons,hf]at hb
  exact hb
def Inv.stkFree(I:Inv X aa σ H s):∀b∈frs X.stack,H b=none:=λb hb=>by
 rcases Qe.mp (I.stkSub b hb) with e | hb
 ·rw[e];exact I.free
 ·obtain ⟨_,o,ho,_⟩:=I.ok.funs.mem hb
  exact I.base.free b o ho (I.ok.frf b hb) λz=>I.ok.exfs b z hb
def Inv.step{g':Array GenState}{t':Nat}{d':Drawn}{ch:Nn}(I:Inv X aa σ H s)(gH:∀b∈ch,(b∈X.ex∨X.s₀.heap.objs.size≤b)∧b≠X.env.locals∧(∀x c,X.env.cells.lookup x=some c→c≠b)∧∀p∈X.pn++aa,p.1≠b)(keep:∀b o,b≠X.env.locals→b∉X.fs→b∉ch→s.heap.get? b=some o→H b=none→h'.get? b=some o)(slot:∀b o,b≠X.env.locals→b∈X.fs→b∉ch→s.heap.get? b=some o→H b=none→∃sl,h'.get? b=some {o with slots:=sl})(free:∀b o,b∉ch→s.heap.get? b=some o→H b=none→H' b=none)(there:∀b o,b∉ch→s.heap.get? b=some o→∃o',h'.get? b=some o')(tups:∀b xs,H b=some (.tup xs)→H' b=some (.tup xs))(frzs:∀b o u,H b=some (.frz o u)→H' b=some (.frz o u))(tbls:∀b ps,H b=some (.tbl ps)→∃more,H' b=some (.tbl (ps++more)))(ns:∀m,s.heap.Ns X.env.locals m→h'.Ns X.env.locals m)(hok:HOk X.prog X.w H' h')(hg:AllBare g') :
  Inv X aa σ H' {s with heap:=h',gens:=g',drawn:=d',toks:=t'}:=by
 have neL:∀b o,X.s₀.heap.get? b=some o→b≠X.env.locals:=λb o e=>Zc (Zj (Qr e) I.ok.above)
 have neC:∀b o,X.s₀.heap.get? b=some o→b∉X.ex→b∉ch:=λb o e hx hb=>by
  rcases(gH b hb).1 with z | z
  ·exact hx z
  ·exact absurd (Zj (Qr e) z) (Yp _)
 have cellK:∀x c,X.env.cells.lookup x=some c→∀v,s.heap.IsCell c v→h'.IsCell c v:=λx c e v ⟨o,ho,hd⟩=>by
  have nch:c∉ch:=λz=>(gH c z).2.2.1 x c e rfl
  by_cases hc:c∈X.fs
  ·obtain ⟨sl,q⟩:=slot c o (I.cne x c e) hc nch ho (I.freeC x c e)
   exact⟨_,q,hd⟩
  ·exact⟨o,keep c o (I.cne x c e) hc nch ho (I.freeC x c e),hd⟩
 refine⟨I.ok,I.os,hg,⟨λb o e n hb hx=>?_,λb o e n hb hx=>?_,λb o e n hx=>?_,λb o e hx=>?_,λb xs e=>tups b xs (I.base.tups b xs e),λb o xs e=>frzs b o xs (I.base.frzs b o xs e),λb ps e=>?_⟩,?_,λx c e=>?_,?_,λx c e=>?_,λp hp=>?_,hok,I.len⟩
 ·exact keep b o (neL b o e) hb (neC b o e hx) (I.base.keep b o e n hb hx) (I.base.free b o e n hx)
 ·obtain ⟨sl,e1⟩:=I.base.slot b o e n hb hx
  obtain⟨li,e2⟩:=slot b _ (neL b o e) hb (neC b o e hx) e1 (I.base.free b o e n hx)
  exact⟨li,e2⟩
 ·obtain ⟨o',e1⟩:=I.base.there b o e hx
  exact free b o' (neC b o e hx) e1 (I.base.free b o e n hx)
 ·obtain ⟨o',e1⟩:=I.base.there b o e hx
  exact there b o' (neC b o e hx) e1
 ·obtain ⟨m1,e1⟩:=I.base.tbls b ps e
  obtain⟨m2,e2⟩:=tbls b _ e1
  exact⟨m1++m2,by rw[e2,Array.append_assoc]⟩
 ·obtain ⟨m,hn,hl⟩:=I.loc
  refine⟨m,ns m hn,λi x v e1 e2 e3=>?_⟩
  obtain⟨u,r,l⟩:=hl i x v e1 e2 e3
  refine⟨u,r,?_⟩
  rcases l with l | ⟨k,c,e,z⟩
  ·exact .inl l
  ·exact .inr ⟨k,c,e,cellK x c e _ z⟩
 ·obtain ⟨v,z⟩:=I.cell x c e
  exact⟨v,cellK x c e v z⟩
 ·obtain ⟨m,⟨o,_,_,ho,_⟩,_⟩:=I.loc
  exact free _ o (λz=>(gH _ z).2.1 rfl) ho I.free
 ·obtain ⟨v,o,ho,hd⟩:=I.cell x c e
  exact free c o (λz=>(gH c z).2.2.1 x c e rfl) ho (I.freeC x c e)
 ·obtain ⟨e,n,ne,nf,d⟩:=I.pin p hp
  have nch:p.1∉ch:=λz=>(gH p.1 z).2.2.2 p hp rfl
  exact⟨keep p.1 p.2 ne nf nch e n,free p.1 p.2 nch e n,ne,nf,d⟩
def Inv.un{t':Nat}(I:Inv X aa σ H s)(u:Un X.fs [] H H' s.heap h')(hok:HOk X.prog X.w H' h'):Inv X aa σ H' {s with heap:=h',toks:=t'}:=by
 obtain⟨m,⟨o,es,ep,ho,r⟩,_⟩:=id I.loc
 obtain⟨sl,hL⟩:=u.any ho I.free (by simp)
 exact I.step (g':=s.gens) (d':=s.drawn) (ch:=[]) (λ_ z=>nomatch z) (λb o _ hb _ e n=>u.keep b o e n hb (by simp)) (λb o _ hb _ e n=>u.slot b o e n hb (by simp)) (λb o _ e n=>u.free b o e n (by simp)) (λb o _ e=>u.there b o e (by simp)) u.tups u.frzs u.tbls (λm' hm=>by
  obtain⟨o',aq,ep',bg,r'⟩:=hm
  rw[ho]at bg;cases bg
  exact⟨_,aq,ep',hL,r'⟩) hok I.bare
def Inv.call{g':Array GenState}{t':Nat}{d':Drawn}{ch:Nn}(I:Inv X aa σ H s)(u:Un (frs X.stack) ch H H' s.heap h')(hok:HOk X.prog X.w H' h')(hg:AllBare g')(gH:∀b∈ch,(b∈X.ex∨X.s₀.heap.objs.size≤b)∧b≠X.env.locals∧(∀x c,X.env.cells.lookup x=some c→c≠b)∧∀p∈X.pn++aa,p.1≠b) :
  Inv X aa σ H' {s with heap:=h',gens:=g',drawn:=d',toks:=t'}:=by
 obtain⟨m,⟨o,es,ep,ho,r⟩,_⟩:=id I.loc
 obtain⟨sl,hL⟩:=u.any ho I.free λz=>(gH _ z).2.1 rfl
 exact I.step (ch:=ch) gH (λb o hL hb hc e n=>u.keep b o e n (λz=>(Qe.mp (I.stkSub b z)).elim hL hb) hc) (λb o _ _ hc e n=>u.any e n hc) (λb o hc e n=>u.free b o e n hc) (λb o hc e=>u.there b o e hc) u.tups u.frzs u.tbls (λm' hm=>by
  obtain⟨o',aq,ep',bg,r'⟩:=hm
  rw[ho]at bg;cases bg
  exact⟨_,aq,ep',hL,r'⟩) hok hg
def Inv.turned{t':Nat}{it:Nc}(I:Inv X aa σ H s)(k:∀b o,b≠it→s.heap.get? b=some o→h'.get? b=some o)(hn:H it=none)(hL:it≠X.env.locals)(h1:it∈X.ex∨X.s₀.heap.objs.size≤it)(h2:∀x c,X.env.cells.lookup x=some c→c≠it)(h3:∀p∈X.pn++aa,p.1≠it):Inv X aa σ H {s with heap:=h',toks:=t'}:=by
 have nit:∀b u,H b=some u→b≠it:=λb u e z=>by rw[z,hn]at e;cases e
 refine I.step (g':=s.gens) (d':=s.drawn) (ch:=[it]) (λb hb=>?_) (λb o _ _ hc e _=>k b o (λz=>hc (by simp[z])) e) (λb o _ _ hc e _=>⟨o.slots,k b o (λz=>hc (by simp[z])) e⟩) (λ_ _ _ _ n=>n)
  (λb o hc e=>⟨o,k b o (λz=>hc (by simp[z])) e⟩) (λ_ _ e=>e) (λ_ _ _ e=>e) (λb ps e=>⟨#[],by rw[e];simp⟩) (λm hm=>?_) (λb u e=>?_) I.bare
 ·have e:b=it:=by simpa using hb
  subst e
  exact⟨h1,hL,h2,h3⟩
 ·obtain ⟨o,es,ep,ho,r⟩:=hm
  exact⟨o,es,ep,k _ o (Qu hL) ho,r⟩
 ·refine (I.hok b u e).stay (fun c v hc q=>k c v ?_ q) (fun _ q=>q) fun _ _ q=>q
  rcases hc with z | z
  ·rw[z];exact nit b u e
  ·exact nit c _ z
def Inv.tok(I:Inv X aa σ H s)(t:Nat):Inv X aa σ H {s with toks:=t}:=I.un (h':=s.heap) (t':=t) Un.refl I.hok
def Inv.kept{t':Nat}(I:Inv X aa σ H s)(k:∀b u,s.heap.get? b=some u→h'.get? b=some u):Inv X aa σ H {s with heap:=h',toks:=t'}:=I.un (Un.kept k) (I.hok.kept k)
def Inv.laid(I:Inv X aa σ H s)(k:∀b u,s.heap.get? b=some u→h'.get? b=some u)(hp:s.heap.objs.size≤a)(new:zbi X.prog X.w (upd H a o) h' a o) :
  Inv X aa σ (upd H a o) {s with heap:=h',toks:=t'}:=I.un (Un.laid k hp (I.hok.fresh hp)) (I.hok.laid k hp new)
def Inv.write(I:Inv X aa σ H s)(mu:Mut (H x))(he:e=x∨H e=some (.own x))(k:∀b u,b≠e→s.heap.get? b=some u→h'.get? b=some u)(eM:∃u,h'.get? e=some u)(new:zbi X.prog X.w (upd H x o) h' x o):Inv X aa σ (upd H x o) {s with heap:=h',toks:=t'}:=I.un (Un.write mu he k eM) (I.hok.write mu he k eM new)
def Inv.pins_of(I:Inv X aa σ H s)(h:∀p∈pins',s.heap.get? p.1=some p.2∧H p.1=none∧p.1≠X.env.locals∧p.1∉X.fs∧∀v,p.2.data≠.cell v):Inv X pins' σ H s :=
 ⟨I.ok,I.os,I.bare,I.base,I.loc,I.cell,I.free,I.freeC,λp hp=>(Qj.mp hp).elim (λz=>I.pin p (Qp _ z)) (h p),I.hok,I.len⟩
def zhw{N:Nh}(hN:N.Nodup){i j:Nat}{x:Str}(a:N[i]?=some x)(b:N[j]?=some x):i=j:=by
 obtain⟨h1,e1⟩:=Za.mp a
 obtain⟨h2,e2⟩:=Za.mp b
 exact(Yi hN).mp (e1.trans e2.symm)
def zfk{M:Model}{A:Nm}{E:Nb}{i:Nat}{x:Str}{v:V}{u:Value}{Q:Unit→Shared→Prop}(I:Inv X aa σ H s)(hN:X.N.Nodup)(hi:X.N[i]?=some x)(hx:Loc X.env.scope x)(r:RelV v u)(h:∀s',Inv X aa (σ.set i (some v)) H s'→(∃a,Heap.SameBut a s.heap s'.heap∧(a=X.env.locals∨X.env.cells.lookup x=some a))→Q () s')(hf:X.fn x=true∨X.env.scope.names.lookup x=some .local:=by first | exact .inl rfl | exact .inr rfl | assumption):wpAny M A (storeName X.env x u) Q E s:=by
 obtain⟨m,hn,hl⟩:=id I.loc
 have kO:(X.env.scope.kind==.class||(X.env.scope.kind==.module&&X.env.locals != X.env.globals))=false:=by rw[I.ok.kind];rfl
 have hiσ:i<σ.length:=by rw[I.len];exact(Za.mp hi).1
 have cne:=I.cne
 have tracked:∀{a:Nc} {h':Nl},(∃o,s.heap.get? a=some o∧H a=none)→Heap.SameBut a s.heap h'→HOk X.prog X.w H h':=λ{a h'} ha hs b ob e=>by
  obtain⟨_,_,bd⟩:=ha
  refine(I.hok b ob e).stay (λc w' hc q=>(hs.2 c ?_).trans q) (λ_ q=>q) λ_ _ q=>q
  rintro rfl
  rcases hc with rfl | hc
  ·rw[bd]at e;cases e
  ·rw[bd]at hc;cases hc
 rcases hx with hk | hk
 ·refine wpAny_storeName_local hk hn (fun h' tY hs=>?_) kO
  obtain⟨oL,_,_,hoL,_⟩:=id hn
  refine h _ ⟨I.ok,I.os,I.bare,⟨λb o e n hb hx=>?_,λb o e n hb hx=>?_,I.base.free,λb o e hx=>?_,I.base.tups,I.base.frzs,I.base.tbls⟩,⟨_,tY,λj y v' e1 e2 e3=>?_⟩,λy c e=>?_,I.free,I.freeC,λp hp=>?_,tracked ⟨oL,hoL,I.free⟩ hs,by simpa using I.len⟩ ⟨_,hs,.inl rfl⟩
  ·exact(hs.2 b (Zc (Zj (Qr e) I.ok.above))).trans (I.base.keep b o e n hb hx)
  ·obtain ⟨sl,e1⟩:=I.base.slot b o e n hb hx
   exact⟨sl,(hs.2 b (Zc (Zj (Qr e) I.ok.above))).trans e1⟩
  ·obtain ⟨o',e1⟩:=I.base.there b o e hx
   exact⟨o',(hs.2 b (Zc (Zj (Qr e) I.ok.above))).trans e1⟩
  ·by_cases hj:j=i
   ·subst hj
    rw[hi]at e1;cases e1
    rw[List.getElem?_set_self hiσ]at e2
    cases e2
    exact⟨u,r,.inl ⟨hk,by simp⟩⟩
   ·rw [List.getElem?_set_ne (Qu hj)] at e2
    obtain⟨u',r',q⟩:=hl j y v' e1 e2 e3
    refine⟨u',r',?_⟩
    rcases q with⟨k,e⟩ | ⟨k,c,e,z⟩
    ·refine .inl ⟨k,?_⟩
     have:y≠x:=λe=>hj (zhw hN e1 (e▸hi))
     simp[this,e]
    ·exact .inr ⟨k,c,e,z.sameBut hs (cne y c e)⟩
  ·obtain ⟨w',z⟩:=I.cell y c e
   exact⟨w',z.sameBut hs (cne y c e)⟩
  ·obtain ⟨e,n,ne,nf,d⟩:=I.pin p hp
   exact⟨(hs.2 p.1 ne).trans e,n,ne,nf,d⟩
 ·have ur:X.fn x=true:=by
   rcases hf with z | z
   ·exact z
   ·rw[z]at hk;cases hk
  obtain⟨c,hc⟩:=I.ok.has x (.inl hk)
  obtain⟨w',z⟩:=I.cell x c hc
  refine wpAny_storeName_cell I.ok.kind hk hc z (λh' bZ hs=>?_)
  obtain⟨oc,oi,tS⟩:=id z
  refine h {s with heap:=h'} ⟨I.ok,I.os,I.bare,⟨λb o e n hb hx=>?_,λb o e n hb hx=>?_,I.base.free,λb o e hx=>?_,I.base.tups,I.base.frzs,I.base.tbls⟩,⟨m,hn.sameBut hs (Qu (cne x c hc)),λj y v' e1 e2 e3=>?_⟩,λy c' e=>?_,I.free,I.freeC,λp hp=>?_,tracked ⟨oc,oi,I.freeC x c hc⟩ hs,by simpa using I.len⟩ ⟨c,hs,.inr hc⟩
  ·exact(hs.2 b (Zc (Zj (Qr e) (I.ok.cab x c ur hc)))).trans (I.base.keep b o e n hb hx)
  ·obtain ⟨sl,e1⟩:=I.base.slot b o e n hb hx
   exact⟨sl,(hs.2 b (Zc (Zj (Qr e) (I.ok.cab x c ur hc)))).trans e1⟩
  ·obtain ⟨o',e1⟩:=I.base.there b o e hx
   exact⟨o',(hs.2 b (Zc (Zj (Qr e) (I.ok.cab x c ur hc)))).trans e1⟩
  ·by_cases hj:j=i
   ·subst hj
    rw[hi]at e1;cases e1
    rw[List.getElem?_set_self hiσ]at e2
    cases e2
    exact⟨u,r,.inr ⟨.inl hk,c,hc,bZ⟩⟩
   ·rw [List.getElem?_set_ne (Qu hj)] at e2
    obtain⟨u',r',q⟩:=hl j y v' e1 e2 e3
    refine⟨u',r',?_⟩
    rcases q with q | ⟨k,c',e,z'⟩
    ·exact .inl q
    ·refine .inr ⟨k,c',e,z'.sameBut hs ?_⟩
     rintro rfl
     exact hj (zhw hN e1 (I.ok.inj _ _ _ e hc▸hi))
  ·by_cases dW:c'=c
   ·subst dW;exact⟨_,bZ⟩
   ·obtain ⟨w2,z2⟩:=I.cell y c' e
    exact⟨w2,z2.sameBut hs dW⟩
  ·obtain ⟨e,n,ne,nf,d⟩:=I.pin p hp
   refine⟨(hs.2 p.1 ?_).trans e,n,ne,nf,d⟩
   intro q
   rw[q,oi]at e
   have q':oc=p.2:=Qk e
   exact d w' (by rw[←q'];exact tS)
def zd2(I:Inv X aa σ H s)(hN:X.N.Nodup)(hi:X.N[i]?=some x)(hx:Loc X.env.scope x)(r:RelV v u)(h:∀s',Inv X aa (σ.set i (some v)) H s'→Q () s')(hf:X.fn x=true∨X.env.scope.names.lookup x=some .local:=by first | exact .inl rfl | exact .inr rfl | assumption):wpAny M A (storeName X.env x u) Q E s :=
 zfk I hN hi hx r (λs' I' _=>h s' I') hf
def Inv.call'(I:Inv X aa σ H s)(ho:s'.os=s.os)(u:Un (frs X.stack) ch H H' s.heap s'.heap)(hok:HOk X.prog X.w H' s'.heap)(hg:AllBare s'.gens)(gH:∀b∈ch,(b∈X.ex∨X.s₀.heap.objs.size≤b)∧b≠X.env.locals∧(∀x c,X.env.cells.lookup x=some c→c≠b)∧∀p∈X.pn++aa,p.1≠b):Inv X aa σ H' s':=by
 obtain⟨h',g',d',t',o'⟩:=s'
 have e:o'=s.os:=ho
 subst e
 exact I.call (g':=g') (t':=t') (d':=d') u hok hg gH
end
abbrev XK:=Value→Option Addr→Hp→Prop
abbrev St:=List (Option V)
abbrev VK:=V→Hp→Prop
abbrev TE:=St→Hp→VK→Prop
abbrev TT:=St→Hp→(Bool→Hp→Prop)→Prop
abbrev TA:=St→Hp→(List V→Hp→Prop)→Prop
structure Ends where
 nx:St→Hp→Prop
 rt:VK
 bk:St→Hp→Prop:=λ_ _=>False
 ct:St→Hp→Prop:=λ_ _=>False
abbrev TS:=Ends→St→Hp→Prop
inductive EP(X:Cx)(aa:Nd)(σ:St)(Q:VK)(u:Value)(s':Ng):Prop
 |mk (v:V) (H':Hp) (i:Inv X aa σ H' s') (r:RelV v u) (q:Q v H'):EP X aa σ Q u s'
inductive TP(X:Cx)(aa:Nd)(σ:St)(Q:Bool→Hp→Prop)(b:Bool)(s':Ng):Prop
 |mk (H':Hp) (i:Inv X aa σ H' s') (q:Q b H'):TP X aa σ Q b s'
inductive AP(X:Cx)(aa:Nd)(σ:St)(Q:List V→Hp→Prop)(us:Nj)(s':Ng):Prop
 |mk (vs:List V) (H':Hp) (i:Inv X aa σ H' s') (r:Vals vs us) (q:Q vs H'):AP X aa σ Q us s'
def SP(X:Cx)(aa:Nd)(D:Ends)(f:Flow)(s':Ng):Prop :=
 match f with
 |.next=>Ex2 λ σ' H'=>Aj2 (Inv X aa σ' H' s') (D.nx σ' H')
 |.brk=>Ex2 λ σ' H'=>Aj2 (Inv X aa σ' H' s') (D.bk σ' H')
 |.cont=>Ex2 λ σ' H'=>Aj2 (Inv X aa σ' H' s') (D.ct σ' H')
 |.ret u=>Ex3 λv σ' H'=>Aj3 (Inv X aa σ' H' s') (RelV v u) (D.rt v H')
def PE(X:Cx)(e:Expr)(t:TE):Prop :=
 ∀(aa:Nd) (s:Ng) (σ:St) (H:Hp) (Q:VK),Inv X aa σ H s→t σ H Q→wpAny (model X.prog X.w) X.A (eval e X.env) (EP X aa σ Q) X.xe s
def PT(X:Cx)(e:Expr)(t:TT):Prop :=
 ∀(aa:Nd) (s:Ng) (σ:St) (H:Hp) (Q:Bool→Hp→Prop),Inv X aa σ H s→t σ H Q→wpAny (model X.prog X.w) X.A (isTrue e X.env (eval e X.env)) (TP X aa σ Q) X.xe s
def PW(X:Cx)(e:Expr)(t:TT):Prop :=
 ∀(whole:Sem Value) (aa:Nd) (s:Ng) (σ:St) (H:Hp) (Q:Bool→Hp→Prop),Inv X aa σ H s→t σ H Q→wpAny (model X.prog X.w) X.A (isTrue e X.env whole) (TP X aa σ Q) X.xe s
def PW.pt(h:PW X e t):PT X e t:=h _
def PA(X:Cx)(es:No)(t:TA):Prop :=
 ∀(pos:Pos) (aa:Nd) (s:Ng) (σ:St) (H:Hp) (Q:List V→Hp→Prop),Inv X aa σ H s→t σ H Q→wpAny (model X.prog X.w) X.A (spliced (backTo pos (starEach es X.env))) (AP X aa σ Q) X.xe s
def PS(X:Cx)(st:Stmt)(t:TS):Prop :=
 ∀(aa:Nd) (s:Ng) (σ:St) (H:Hp) (D:Ends),Inv X aa σ H s→t D σ H→wpAny (model X.prog X.w) X.A (exec st X.env) (SP X aa D) X.xe s
def PSs(X:Cx)(st:List Stmt)(t:TS):Prop :=
 ∀(aa:Nd) (s:Ng) (σ:St) (H:Hp) (D:Ends),Inv X aa σ H s→t D σ H→wpAny (model X.prog X.w) X.A (execs st X.env) (SP X aa D) X.xe s
def thn{α:Type}{t:Sem α}{Q Q':α→Shared→Prop}{M:Model}{A:Nm}{E:Nb}{s:Ng}(h:wpAny M A t Q E s)(hQ:∀a s,Q a s→Q' a s):wpAny M A t Q' E s:=wpAny_mono h hQ λ_ _ x=>x
end L2
namespace L2
open PySem PySem.Spec PyProof.Rows
section
variable{X:Cx}
def bin{a b:Expr}{ta tb:TE}(ha:PE X a ta)(hb:PE X b tb){aa:Nd}{s:Ng}{σ:St}{H:Hp}{R:V→V→Hp→Prop}(I:Inv X aa σ H s)(h:ta σ H λx H1=>tb σ H1 λy H2=>R x y H2){α:Type}{Q:α→Shared→Prop}{f:Value→Value→Sem α}(hf:∀v u s2 x y H2,Inv X aa σ H2 s2→RelV x v→RelV y u→R x y H2→wpAny (model X.prog X.w) X.A (f v u) Q X.xe s2) :
  wpAny (model X.prog X.w) X.A (eval a X.env) (λv s₁=>wpAny (model X.prog X.w) X.A (eval b X.env) (λu s₂=>wpAny (model X.prog X.w) X.A (f v u) Q X.xe s₂) X.xe s₁) X.xe s:=by
 refine thn (ha aa s σ H _ I h) λv s1 ⟨x,H1,I1,r1,q1⟩=>?_
 refine thn (hb aa s1 σ H1 _ I1 q1) λu s2 ⟨y,H2,I2,r2,q2⟩=>?_
 exact hf v u s2 x y H2 I2 r1 r2 q2
inductive RVar(o:Option (Option V))(H:Hp)(Q:VK):Prop
 |mk (v:V) (e:o=some (some v)) (q:Q v H):RVar o H Q
def tVar(i:Nat):TE:=λ σ H Q=>RVar σ[i]? H Q
def tC(v:V):TE:=λ_ H Q=>Q v H
def pe_var(hN:X.N[i]?=some x)(hv:Vis X.env.scope x)(hd:(x==("__debug__" : Str))=false:=by decide)(ar:(x==("__classdict__" : Str))=false:=by decide):PE X (.Name x pos) (tVar i):=by
 intro aa s σ H Q I h
 obtain⟨v,e,h⟩:=h
 obtain⟨m,hn,hl⟩:=I.loc
 obtain⟨u,r,l⟩:=hl i x v hN e hv
 have fin:EP X aa σ Q u s:=⟨v,H,I,r,h⟩
 rcases l with⟨hk,hm⟩ | ⟨hk,c,hc,jb⟩
 ·exact wpAny_Name (wpAny_loadName_local I.ok.kind hk hn hm fin) hd
 ·rcases hk with hk | hk
  ·exact wpAny_Name (wpAny_loadName_cell I.ok.kind hk hc jb fin) hd
  ·exact wpAny_Name (wpAny_loadName_free I.ok.kind hk hc jb fin ar) hd
def zai{i j pos}:PE X (.Constant (.int i) j pos) (tC (.int i)):=λ_ _ _ H _ I h=>wpAny_Constant_int ⟨.int i,H,I.tok _,⟨_,rfl⟩,h⟩
def zes{b j pos}:PE X (.Constant (.bool b) j pos) (tC (.bl b)):=λ_ _ _ H _ I h=>Constant_bool ⟨.bl b,H,I,rfl,h⟩
def zgp{j pos}:PE X (.Constant .none j pos) (tC .non):=λ_ _ _ H _ I h=>Constant_none ⟨.non,H,I,rfl,h⟩
def zfq{x j pos}:PE X (.Constant (.str x) j pos) (tC (.str x)):=λ_ _ _ H _ I h=>Calls.Constant_str ⟨.str x,H,I.tok _,⟨_,rfl⟩,h⟩
def Gl(X:Cx)(x:Str):Prop:=X.env.kindOf x=some .globalImplicit
def zdy(I:Inv X aa σ H s)(hg:Gl X x)(hm:X.mg x=some u)(h:Q u s)(hd:(x==("__debug__" : Str))=false:=by decide):wpAny (model X.prog X.w) X.A (eval (.Name x pos) X.env) Q E s :=
 Calls.Name_function_global I.ok.kind hg (Calls.loadGlobal_global (by rw[I.ok.glob];exact I.mod.glob.keeps I.bk) hm h) hd
def zdo(I:Inv X aa σ H s)(hg:Gl X x)(hm:X.mg x=none)(hv:bootBuiltins x=some u)(h:Q u s)(hn:x ≠ "__name__" := by decide)(hd:(x==("__debug__" : Str))=false:=by decide):wpAny (model X.prog X.w) X.A (eval (.Name x pos) X.env) Q E s:=by
 obtain⟨mb,h1,h2⟩:=I.mod.blt
 exact Calls.Name_function_global I.ok.kind hg (Calls.loadGlobal_builtin (by rw[I.ok.glob];exact I.mod.glob.keeps I.bk) hm (by rw[I.ok.blt];exact h1.keeps I.bk) ((h2 x hn).trans hv) h) hd
def zbw(hg:Gl X x)(hm:X.mg x=some u)(r:RelV v u)(hd:(x==("__debug__" : Str))=false:=by decide):PE X (.Name x pos) (tC v) :=
 λ_ _ _ H _ I h=>zdy I hg hm ⟨v,H,I,r,h⟩ hd
variable{a b:Expr}{ta tb:TE}{pos:Pos}
def PC(X:Cx)(op:CmpOp)(a b:Expr)(t:TE):Prop :=
 ∀(aa:Nd) (s:Ng) (σ:St) (H:Hp) (Q:VK),Inv X aa σ H s→t σ H Q →
  wpAny (model X.prog X.w) X.A (eval a X.env) (λv s₁=>wpAny (model X.prog X.w) X.A (eval b X.env) (λu s₂=>wpAny (model X.prog X.w) X.A (compareOp op v u) (EP X aa σ Q) X.xe s₂) X.xe s₁) X.xe s
def nobehind(b:Expr){op:CmpOp}(h:op≠.In)(h2:op≠.NotIn):behindInMarks op b=false:=by
 have e1:(op==CmpOp.In)=false:=by cases op<;>first | rfl | exact absurd rfl h
 have e2:(op==CmpOp.NotIn)=false:=by cases op<;>first | rfl | exact absurd rfl h2
 cases b<;>simp[behindInMarks,e1,e2]
def tNotN(ta:TE):TE:=λ σ H Q=>ta σ H λx H1=>Q (.bl (!decide (x=.non))) H1
def RelV.none_iff{x:V}{v:Value}(r:RelV x v):(v==Value.none)=decide (x=.non):=by
 cases x with
 |non=>cases r;rfl
 |bl _=>cases r;rfl
 |int _=>obtain⟨t,rfl⟩:=r;rfl
 |str _=>obtain⟨t,rfl⟩:=r;rfl
 |byt _=>obtain⟨t,rfl⟩:=r;rfl
 |flt _=>obtain⟨t,rfl⟩:=r;rfl
 |ref _=>cases r;rfl
 |ty _=>cases r;rfl
def zhr{j aN}(ha:PE X a ta):PC X .IsNot a (.Constant .none j aN) (tNotN ta):=by
 intro aa s σ H Q I h
 refine thn (ha aa s σ H _ I h) λv s1 ⟨x,H1,I1,r1,q1⟩=>?_
 exact Constant_none (isnot_none_gen ⟨.bl _,H1,I1,by rw[r1.none_iff];rfl,q1⟩)
inductive RB(x:V)(H:Hp)(Q:Bool→Hp→Prop):Prop
 |mk (c:Bool) (e:x=.bl c) (q:Q c H):RB x H Q
def tB(t:TE):TT:=λ σ H Q=>t σ H λx H1=>RB x H1 Q
def zc7{op:CmpOp}{t:TE}(h:PC X op a b t)(h1:behindInMarks op b=false:=by first | exact nobehind _ (by decide) (by decide) | rfl):PT X (.Compare a [op] [b] pos) (tB t):=by
 intro aa s σ H Q I hw
 refine wpAny_isTrue_Compare1 (thn (h aa s σ H _ I hw) λv s1 h1=>thn h1 λu s2 h2=>thn h2 λc s3 ⟨x,H1,I1,r1,q1⟩=>?_) h1
 obtain⟨d,rfl,q⟩:=q1
 cases r1
 exact wpAny_truthy_bool ⟨H1,I1,q⟩
def pt_val{e:Expr}{t:TE}(h:PE X e t)(he:∀whole,isTrue e X.env whole=(do let v ←whole;standAt e.pos;holding [v] (truthy v)):=by intro _;rfl):PT X e (tB t):=by
 intro aa s σ H Q I hw
 refine isTrue_plain (thn (h aa s σ H _ I hw) λv s1 ⟨x,H1,I1,r1,q1⟩=>?_) (he _)
 obtain⟨d,rfl,q⟩:=q1
 cases r1
 exact wpAny_truthy_bool ⟨H1,I1,q⟩
variable{tA qh:TT}{rest:No}
def tAnd(t u:TT):TT:=λ σ H Q=>t σ H λc H1=>if c=true then u σ H1 Q else Q false H1
def tOr(t u:TT):TT:=λ σ H Q=>t σ H λc H1=>if c=true then Q true H1 else u σ H1 Q
def tNot(t:TT):TT:=λ σ H Q=>t σ H λc H1=>Q (!c) H1
def zfp(ha:PT X a tA):PW X (.BoolOp .And [a] pos) tA:=by
 intro wh aa s σ H Q I h
 refine isTrue_and (thn (ha aa s σ H Q I h) λc s1 e=>?_)
 cases c with
 |true=>exact isTrue_and_nil e
 |false=>exact e
def pw_or1(ha:PT X a tA):PW X (.BoolOp .Or [a] pos) tA:=by
 intro wh aa s σ H Q I h
 refine isTrue_or (thn (ha aa s σ H Q I h) λc s1 e=>?_)
 cases c with
 |false=>exact isTrue_or_nil e
 |true=>exact e
def pw_and(ha:PT X a tA)(hb:PW X (.BoolOp .And (b::rest) pos) qh):PW X (.BoolOp .And (a::b::rest) pos) (tAnd tA qh):=by
 intro wh aa s σ H Q I h
 refine isTrue_and (thn (ha aa s σ H _ I h) λc s1 ⟨H1,I1,q1⟩=>?_)
 cases c with
 |true=>exact hb wh aa s1 σ H1 Q I1 q1
 |false=>exact⟨H1,I1,q1⟩
def pw_or(ha:PT X a tA)(hb:PW X (.BoolOp .Or (b::rest) pos) qh):PW X (.BoolOp .Or (a::b::rest) pos) (tOr tA qh):=by
 intro wh aa s σ H Q I h
 refine isTrue_or (thn (ha aa s σ H _ I h) λc s1 ⟨H1,I1,q1⟩=>?_)
 cases c with
 |true=>exact⟨H1,I1,q1⟩
 |false=>exact hb wh aa s1 σ H1 Q I1 q1
def pt_not(ha:PT X a tA):PT X (.UnaryOp .Not a pos) (tNot tA):=by
 intro aa s σ H Q I h
 exact isTrue_not (wpAny_mono (ha aa s σ H (λc H1=>Q (!c) H1) I h) (λc s2 z=>by obtain⟨a,b,d⟩:=z;exact⟨a,b,d⟩) λ_ _ e=>e)
def tAndV(ta tb:TE):TE:=λ σ H Q=>ta σ H λx H1=>RB x H1 λc H1=>if c=true then tb σ H1 Q else Q (.bl false) H1
def tOrV(ta tb:TE):TE:=λ σ H Q=>ta σ H λx H1=>∃c,x=.bl c∧if c=true then Q (.bl true) H1 else tb σ H1 Q
def pe_one{op}(h:PE X a t):PE X (.BoolOp op [a] pos) t:=λaa s σ H Q I hw=>BoolOp_one (h aa s σ H Q I hw)
def pe_and(ha:PE X a ta)(hb:PE X (.BoolOp .And (b::rest) pos) tb):PE X (.BoolOp .And (a::b::rest) pos) (tAndV ta tb):=by
 intro aa s σ H Q I h
 refine BoolOp_and (thn (ha aa s σ H _ I h) λv s1 ⟨x,H1,I1,r1,q1⟩=>?_)
 obtain⟨c,rfl,q1⟩:=q1
 cases r1
 refine wpAny_truthy_bool ?_
 cases c with
 |true=>exact hb aa s1 σ H1 Q I1 q1
 |false=>exact⟨.bl false,H1,I1,rfl,q1⟩
def pe_or(ha:PE X a ta)(hb:PE X (.BoolOp .Or (b::rest) pos) tb):PE X (.BoolOp .Or (a::b::rest) pos) (tOrV ta tb):=by
 intro aa s σ H Q I h
 refine BoolOp_or (thn (ha aa s σ H _ I h) λv s1 ⟨x,H1,I1,r1,q1⟩=>?_)
 obtain⟨c,rfl,q1⟩:=q1
 cases r1
 refine wpAny_truthy_bool ?_
 cases c with
 |false=>exact hb aa s1 σ H1 Q I1 q1
 |true=>exact⟨.bl true,H1,I1,rfl,q1⟩
def tIf(t:TT)(ta tb:TE):TE:=λ σ H Q=>t σ H λc H1=>if c=true then ta σ H1 Q else tb σ H1 Q
def pe_ifExp{c:Expr}(hc:PT X c tA)(ha:PE X a ta)(hb:PE X b tb):PE X (.IfExp c a b pos) (tIf tA ta tb):=by
 intro aa s σ H Q I h
 refine wpAny_IfExp (thn (hc aa s σ H _ I h) λd s1 ⟨H1,I1,q1⟩=>?_)
 cases d with
 |true=>exact ha aa s1 σ H1 Q I1 q1
 |false=>exact hb aa s1 σ H1 Q I1 q1
end
end L2
namespace L2
open PySem PySem.Spec PyProof.Rows
def SqL(K:Na)(H:Hp)(a:Nc)(xs:List V):Prop :=
 Rd H a (.lst xs) ∨
  ∃(o:Obj) (ae:Array Value) (n:Nat),K.lookup a=some o∧o.cls=.type "list" ∧ o.dict=none∧o.data=.seq ae n∧ae.size≤sizeLine∧Vals xs ae.toList
def SqT(K:Na)(H:Hp)(a:Nc)(xs:List V):Prop :=
 Rd H a (.tup xs) ∨
  ∃(o:Obj) (ae:Array Value) (n:Nat),K.lookup a=some o∧o.cls=.type "tuple" ∧ o.data=.seq ae n∧ae.size≤sizeLine∧Vals xs ae.toList
def absV:Value→Option V
 |.none=>some .non
 |.bool b=>some (.bl b)
 |.int i _=>some (.int i)
 |.str x _=>some (.str x)
 |.bytes b _=>some (.byt b)
 |.float b _=>some (.flt b)
 |.ref a=>some (.ref a)
 |.type n=>some (.ty n)
 |_=>none
def RelV.abs(r:RelV x u):absV u=some x:=by
 cases x with
 |non=>cases r;rfl
 |bl _=>cases r;rfl
 |int _=>obtain⟨t,rfl⟩:=r;rfl
 |str _=>obtain⟨t,rfl⟩:=r;rfl
 |byt _=>obtain⟨t,rfl⟩:=r;rfl
 |flt _=>obtain⟨t,rfl⟩:=r;rfl
 |ref _=>cases r;rfl
 |ty _=>cases r;rfl
def RelV.inj{x y:V}{u:Value}(r:RelV x u)(q:RelV y u):x=y:=Qk (r.abs.symm.trans q.abs)
theorem Vals.inj:∀{xs ys:List V} {us:Nj},Vals xs us→Vals ys us→xs=ys
 |_,_,_,.nil,.nil=>rfl
 |_,_,_,.cons r t,.cons r' t'=>by rw[r.inj r',Vals.inj t t']
section
variable{X:Cx}{aa:Nd}{σ:St}{H:Hp}{s:Ng}{a:Nc}{xs ys:List V}
def SqL.of{K:Na}(h:H a=some (.lst xs)):SqL K H a xs:=.inl (.inl h)
def SqT.of{K:Na}(h:H a=some (.tup xs)):SqT K H a xs:=.inl (.inl h)
def Inv.list(I:Inv X aa σ H s)(h:SqL X.K H a xs):∃ae:List Value,Vals xs ae∧PlainL s.heap a ae.toArray∧xs.length≤sizeLine:=by
 rcases h with h | ⟨o,ae,n,hk,hc,hd,hs,hz,r⟩
 ·obtain ⟨z,ae,n,r,e⟩:=h.ok I.hok
  exact⟨ae,r,⟨_,n,e,rfl,rfl,rfl⟩,z⟩
 ·refine ⟨ae.toList,r,⟨o,n,I.kIn a o hk,hc,hd,by simpa using hs⟩,?_⟩
  have e:=r.length
  simp only[Ys]at e
  lia
def Inv.tuple(I:Inv X aa σ H s)(h:SqT X.K H a xs):∃ae:List Value,Vals xs ae∧IsTup s.heap a ae.toArray∧xs.length≤sizeLine:=by
 rcases h with h | ⟨o,ae,n,hk,hc,hs,hz,r⟩
 ·obtain ⟨z,ae,r,p⟩:=h.ok I.hok
  exact⟨ae,r,p,z⟩
 ·refine ⟨ae.toList,r,⟨o,I.kIn a o hk,hc,n,by simpa using hs⟩,?_⟩
  have e:=r.length
  simp only[Ys]at e
  lia
def Inv.list_inj(I:Inv X aa σ H s)(h:SqL X.K H a xs)(h':SqL X.K H a ys):xs=ys:=by
 obtain⟨ae,r,⟨o,n,e,_,_,d⟩,_⟩:=I.list h
 obtain⟨its',r',⟨o',n',e',_,_,d'⟩,_⟩:=I.list h'
 rw[e]at e';cases e'
 rw[d]at d'
 injection d' with d1 _
 have:ae=its':=by simpa using congrArg Array.toList d1
 subst this
 exact r.inj r'
def Inv.tuple_inj(I:Inv X aa σ H s)(h:SqT X.K H a xs)(h':SqT X.K H a ys):xs=ys:=by
 obtain⟨ae,r,⟨o,e,_,n,d⟩,_⟩:=I.tuple h
 obtain⟨its',r',⟨o',e',_,n',d'⟩,_⟩:=I.tuple h'
 rw[e]at e';cases e'
 rw[d]at d'
 injection d' with d1 _
 have:ae=its':=by simpa using congrArg Array.toList d1
 subst this
 exact r.inj r'
end
abbrev Cx.wish(X:Cx)(E:Nb):Cx:={X with xe:=E}
abbrev Cx.nox(X:Cx):Cx:=X.wish λ_ _=>False
def Cx.Ok.wish{X:Cx}(ok:X.Ok)(E:Nb):(X.wish E).Ok :=
 ⟨ok.mod,ok.kind,ok.glob,ok.blt,ok.above,ok.inj,ok.has,ok.cab,ok.hd,ok.frames,ok.stk,ok.exf,ok.bs,ok.bsz,ok.noex,ok.exfs,ok.funs,ok.frf⟩
def Cx.Ok.unwish{X:Cx}{E:Nb}(ok:(X.wish E).Ok):X.Ok :=
 ⟨ok.mod,ok.kind,ok.glob,ok.blt,ok.above,ok.inj,ok.has,ok.cab,ok.hd,ok.frames,ok.stk,ok.exf,ok.bs,ok.bsz,ok.noex,ok.exfs,ok.funs,ok.frf⟩
section
variable{X:Cx}{aa:Nd}{σ:St}{H:Hp}{s:Ng}{E:Nb}
def Inv.wish(I:Inv X aa σ H s)(E:Nb):Inv (X.wish E) aa σ H s:=⟨I.ok.wish E,I.os,I.bare,I.base,I.loc,I.cell,I.free,I.freeC,I.pin,I.hok,I.len⟩
def Inv.unwish(I:Inv (X.wish E) aa σ H s):Inv X aa σ H s:=⟨I.ok.unwish,I.os,I.bare,I.base,I.loc,I.cell,I.free,I.freeC,I.pin,I.hok,I.len⟩
def SP.unwish(h:SP (X.wish E) aa D f s'):SP X aa D f s':=by
 cases f with
 |next=>obtain⟨σ',H',I,q⟩:=h;exact⟨σ',H',I.unwish,q⟩
 |brk=>obtain⟨σ',H',I,q⟩:=h;exact⟨σ',H',I.unwish,q⟩
 |cont=>obtain⟨σ',H',I,q⟩:=h;exact⟨σ',H',I.unwish,q⟩
 |ret u=>obtain⟨v,σ',H',I,r,q⟩:=h;exact⟨v,σ',H',I.unwish,r,q⟩
def PSs.nox{st:List Stmt}{t:TS}(h:PSs X.nox st t):PSs X st t:=λaa s σ H D I hw =>
 wpAny_mono (h aa s σ H D (I.wish _) hw) (λ_ _ q=>q.unwish) λ_ _ z=>False.elim z
end
section
variable{X:Cx}{st:Stmt}{rest:List Stmt}{t u:TS}{e:Expr}{te:TE}{pos:Pos}
def tNext:TS:=λD σ H=>D.nx σ H
def tSeq(t u:TS):TS:=λD σ H=>t {D with nx:=u D} σ H
def za2:PSs X [] tNext:=λ_ _ σ H _ I h=>wpAny_execs_nil ⟨σ,H,I,h⟩
def zae(h1:PS X st t)(h2:PSs X rest u):PSs X (st::rest) (tSeq t u):=by
 intro aa s σ H D I h
 refine wpAny_execs_cons (thn (h1 aa s σ H {D with nx:=u D} I h) λf s1 q=>?_)
 cases f with
 |next =>
  obtain⟨σ',H',I',q⟩:=q
  exact h2 aa s1 σ' H' D I' q
 |ret v=>exact q
 |brk=>exact q
 |cont=>exact q
def zah(h1:PS X st t):PSs X [st] t:=by
 intro aa s σ H D I h
 refine wpAny_execs_cons (thn (h1 aa s σ H D I h) λf s1 q=>?_)
 cases f with
 |next=>exact wpAny_execs_nil q
 |ret v=>exact q
 |brk=>exact q
 |cont=>exact q
def Inv.quiet{aa:Nd}{σ:St}{H:Hp}{s:Ng}(I:Inv X aa σ H s):interactive X.env=false:=by simp[interactive,I.ok.kind]
def tDrop(te:TE):TS:=λD σ H=>te σ H λ_ H1=>D.nx σ H1
def za3(he:PE X e te)(hs:swapsWith e none pos.line X.env=pure false:=by rfl):PS X (.Expr e pos) (tDrop te):=by
 intro aa s σ H D I h
 exact wpAny_Expr_any (thn (he aa s σ H _ I h) λv s1 ⟨x,H1,I1,r1,q1⟩=>⟨σ,H1,I1,q1⟩) I.quiet hs
def tRet(te:TE):TS:=λD σ H=>te σ H D.rt
def zbp(he:PE X e te):PS X (.Return (some e) pos) (tRet te):=by
 intro aa s σ H D I h
 exact wpAny_Return_some (thn (he aa s σ H _ I h) λv s1 ⟨x,H1,I1,r1,q1⟩=>⟨x,σ,H1,I1,r1,q1⟩)
def tIfS(c:TT)(t u:TS):TS:=λD σ H=>c σ H λb H1=>if b=true then t D σ H1 else u D σ H1
def zbr{c:Expr}{a b:List Stmt}{tc:TT}(hc:PT X c tc)(ha:PSs X a t)(hb:PSs X b u):PS X (.If c a b pos) (tIfS tc t u):=by
 intro aa s σ H D I h
 refine wpAny_If (thn (hc aa s σ H _ I h) λd s1 ⟨H1,I1,q1⟩=>?_)
 cases d with
 |true=>exact ha aa s1 σ H1 D I1 q1
 |false=>exact hb aa s1 σ H1 D I1 q1
end
abbrev TG:=V→St→Hp→(St→Hp→Prop)→Prop
abbrev TGs:=List V→St→Hp→(St→Hp→Prop)→Prop
def PG(X:Cx)(target:Expr)(t:TG):Prop :=
 ∀(aa:Nd) (s:Ng) (σ:St) (H:Hp) (v:V) (u:Value) (Q:St→Hp→Prop),Inv X aa σ H s→RelV v u→t v σ H Q →
  wpAny (model X.prog X.w) X.A (assign target X.env u) (λ_ s'=>Ex2 λ σ' H'=>Aj2 (Inv X aa σ' H' s') (Q σ' H')) X.xe s
def PGs(X:Cx)(ts:No)(t:TGs):Prop :=
 ∀(aa:Nd) (s:Ng) (σ:St) (H:Hp) (vs:List V) (us:Nj) (Q:St→Hp→Prop),Inv X aa σ H s→Vals vs us→t vs σ H Q →
  wpAny (model X.prog X.w) X.A (assignInOrder ((assignEach ts X.env).map (·.2)) us) (λ_ s'=>Ex2 λ σ' H'=>Aj2 (Inv X aa σ' H' s') (Q σ' H')) X.xe s
abbrev TSet:=V→V→V→Hp→(Hp→Prop)→Prop
def PSet(X:Cx)(t:TSet):Prop :=
 ∀(aa:Nd) (s:Ng) (σ:St) (H:Hp) (o i v:V) (ov iv u:Value) (Q:Hp→Prop),Inv X aa σ H s→RelV o ov→RelV i iv→RelV v u→t o i v H Q →
  wpAny (model X.prog X.w) X.A (setItem ov iv u) (λ_ s'=>∃H',Inv X aa σ H' s'∧Q H') X.xe s
section
variable{X:Cx}{pos:Pos}
def gName(i:Nat):TG:=λv σ H Q=>Q (σ.set i (some v)) H
def pg_name(hN:X.N.Nodup)(hi:X.N[i]?=some x)(hx:Loc X.env.scope x)(hf:X.fn x=true∨X.env.scope.names.lookup x=some .local:=by first | exact .inl rfl | exact .inr rfl | assumption):PG X (.Name x pos) (gName i):=by
 intro aa s σ H v u Q I r h
 exact wpAny_assign_Name (zd2 I hN hi hx r (λs' I'=>⟨_,H,I',h⟩) hf)
def gNil:TGs:=λvs σ H Q=>vs=[]∧Q σ H
inductive RGC(vs:List V)(R:V→List V→Prop):Prop
 |mk (v:V) (r:List V) (e:vs=v::r) (q:R v r):RGC vs R
def gCons(t:TG)(u:TGs):TGs:=λvs σ H Q=>RGC vs λv r=>t v σ H λ σ' H'=>u r σ' H' Q
def zch:PGs X [] gNil:=by
 intro aa s σ H vs us Q I r h
 obtain⟨e,h⟩:=h
 subst e
 cases r
 exact assignInOrder_nil ⟨σ,H,I,h⟩
def za4{e:Expr}{es:No}{t:TG}{u:TGs}(h1:PG X e t)(h2:PGs X es u)(hs:(assignEach (e::es) X.env).map (·.2)=assign e X.env::(assignEach es X.env).map (·.2):=by rfl):PGs X (e::es) (gCons t u):=by
 intro aa s σ H vs us Q I r h
 obtain⟨v,vr,e1,h⟩:=h
 subst e1
 cases r with
 |cons r rr =>
  rw[hs]
  refine assignInOrder_cons (thn (h1 aa s σ H _ _ _ I r h) λ_ s1 ⟨σ1,H1,I1,q1⟩=>?_)
  exact h2 aa s1 σ1 H1 _ _ Q I1 rr q1
inductive RGT(K:Na)(n:Nat)(v:V)(H:Hp)(R:List V→Prop):Prop
 |mk (a:Nc) (xs:List V) (e:v=.ref a) (s:SqT K H a xs) (l:xs.length=n) (q:R xs):RGT K n v H R
def gTup(K:Na)(n:Nat)(t:TGs):TG:=λv σ H Q=>RGT K n v H λxs=>t xs σ H Q
def zex(hc:X.calm=true)(h:PGs X es t)(hn:(assignEach es X.env).length=n:=by rfl)(ap:(assignEach es X.env).findIdx? (·.1)=none:=by rfl):PG X (.Tuple es k pos) (gTup X.K n t):=by
 intro aa s σ H v u Q I r hw
 obtain⟨a,xs,e1,hq,hl,hw⟩:=hw
 subst e1
 cases r
 obtain⟨ae,rv,ht,hz⟩:=I.tuple hq
 refine assign_Tuple_tuple (I.ok.hd hc) ht (by simp[hn,←hl,rv.length]) ap λh' hx=>?_
 have I1:Inv X aa σ H {s with heap:=h'}:=I.kept (t':=s.toks) λb o e=>hx b o (Zc (Qr e)) e
 exact h aa _ σ H xs _ Q I1 (by simpa using rv) hw
def gSub(to ti:TE)(t:TSet):TG:=λv σ H Q=>to σ H λo H1=>ti σ H1 λi H2=>t o i v H2 λH3=>Q σ H3
def pg_sub{o i:Expr}{to ti:TE}{t:TSet}(ho:PE X o to)(hi:PE X i ti)(hs:PSet X t)(ha:∀ v,assign (.Subscript o i pos) X.env v=(do
   let ov ←holding [v] (eval o X.env)
   let iv ←holding [v,ov] (eval i X.env)
   standAt pos
   holding [v,ov,iv] (setItem ov iv v)
   release [v,ov,iv] []):=by intro _;rfl):PG X (.Subscript o i pos) (gSub to ti t):=by
 intro aa s σ H v u Q I r h
 rw[ha]
 refine wpAny_bind (wpAny_holding (thn (ho aa s σ H _ I h) λov s1 ⟨x,H1,I1,r1,q1⟩=>?_))
 refine wpAny_bind (wpAny_holding (thn (hi aa s1 σ H1 _ I1 q1) λiv s2 ⟨y,H2,I2,r2,q2⟩=>?_))
 refine wpAny_bind (wpAny_standAt (wpAny_bind (wpAny_holding (thn (hs aa s2 σ H2 x y v ov iv u _ I2 r1 r2 r q2) λ_ s3 ⟨H3,I3,q3⟩=>?_))))
 exact wpAny_release ⟨σ,H3,I3,q3⟩
def tAsg(te:TE)(g:TG):TS:=λD σ H=>te σ H λx H1=>g x σ H1 D.nx
def ps_asg{tg e:Expr}{te:TE}{g:TG}(he:PE X e te)(hg:PG X tg g)(hs:swapsWithSole [tg] e pos.line X.env=pure false:=by rfl)(hw:swappedStores [tg] e X.env=pure none:=by rfl)(h1:(assignEach [tg] X.env).map (·.2)=[assign tg X.env]:=by rfl):PS X (.Assign [tg] e pos) (tAsg te g):=by
 intro aa s σ H D I h
 refine wpAny_Assign_stores (thn (he aa s σ H _ I h) λv s1 ⟨x,H1,I1,r1,q1⟩=>?_) hs hw
 rw[h1]
 exact thn (hg aa s1 σ H1 x v _ I1 r1 q1) λ_ s2 q=>q
def ps_set{i:Nat}{x:Str}{e:Expr}{te:TE}{aN:Pos}(hN:X.N.Nodup)(hi:X.N[i]?=some x)(hx:Loc X.env.scope x)(he:PE X e te)(hs:swapsWith e (some (.Name x aN)) pos.line X.env=pure false:=by rfl)(hf:X.fn x=true∨X.env.scope.names.lookup x=some .local:=by first | exact .inl rfl | exact .inr rfl | assumption) :
  PS X (.Assign [.Name x aN] e pos) (tAsg te (gName i)):=by
 intro aa s σ H D I h
 refine wpAny_Assign_Name (thn (he aa s σ H _ I h) λv s1 ⟨y,H1,I1,r1,q1⟩=>?_) hs
 exact zd2 I1 hN hi hx r1 (λs2 I2=>⟨_,H1,I2,q1⟩) hf
def tPar(i j:Nat)(ta:TA):TS:=λD σ H=>ta σ H λvs H1=>∃v w,vs=[v,w]∧D.nx ((σ.set i (some v)).set j (some w)) H1
def ps_par{i j:Nat}{x y:Str}{a b:Expr}{ta:TA}{px py pt:Pos}{kt k2 pt2}(hc:X.calm=true)(hN:X.N.Nodup)(hi:X.N[i]?=some x)(hj:X.N[j]?=some y)(aW:i≠j)(hx:X.env.scope.names.lookup x=some .local)(hy:X.env.scope.names.lookup y=some .local)(ha:PA X [a,b] ta)(hw:swappedStores [.Tuple [.Name x px,.Name y py] kt pt] (.Tuple [a,b] k2 pt2) X.env=pure (some [x,y]))(hs:swapsWithSole [.Tuple [.Name x px,.Name y py] kt pt] (.Tuple [a,b] k2 pt2) pos.line X.env=pure false:=by rfl) :
  PS X (.Assign [.Tuple [.Name x px,.Name y py] kt pt] (.Tuple [a,b] k2 pt2) pos) (tPar i j ta):=by
 intro aa s σ H D I h
 rw[exec_Assign_arm]
 refine wpAny_bind (wpAny_standAt ?_)
 rw[hs]
 refine wpAny_bind (wpAny_pure ?_)
 rw[if_neg (by decide)]
 refine wpAny_bind (Tuple_ (thn (ha _ aa s σ H _ I h) λus s1 ⟨vs,H1,I1,r1,q1⟩=>?_))
 obtain⟨v,w,e1,q1⟩:=q1
 subst e1
 obtain⟨u1,u2,rfl,rv,cG⟩:∃u1 u2,us=[u1,u2]∧RelV v u1∧RelV w u2:=by
  cases r1 with
  | cons p q =>
   cases q with
   |cons p' q' =>
    cases q'
    exact⟨_,_,rfl,p,p'⟩
 refine wpAny_newObj_type ?_ (by show 2≤sizeLine;decide)
 have I2:Inv X aa σ H1 {s1 with heap:=s1.heap.push {cls:=.type "tuple",data:=.seq [u1,u2].toArray}}:=I1.kept (t':=s1.toks) λb o e=>Qi _ e
 rw[hw]
 refine wpAny_bind (wpAny_pure ?_)
 show wpAny (model X.prog X.w) X.A (do rule "assign.swapped-stores";let items ←unpackItems (.ref s1.heap.objs.size) 2 none;assignInOrder [λv=>bindName X.env y v,λv=>bindName X.env x v] items.reverse;pure Flow.next) _ _ _
 refine wpAny_bind (wpAny_rule (wpAny_bind (unpackItems_tuple (items:=#[u1,u2]) (I.ok.hd hc) (IsTup.new s1.heap _) λh' cw=>?_)))
 have I3:=I2.kept (h':=h') (t':=s1.toks) λb o e=>cw b o (Zc (Qr e)) e
 show wpAny _ _ (assignInOrder [λv=>bindName X.env y v,λv=>bindName X.env x v] [u2,u1] >>= λ_=>pure Flow.next) _ _ _
 refine wpAny_bind (assignInOrder_cons (wpAny_bindName (zd2 I3 hN hj (.inl hy) cG (λs2 I4=>?_) (.inr hy))))
 refine assignInOrder_cons (wpAny_bindName (zd2 I4 hN hi (.inl hx) rv (λs3 I5=>assignInOrder_nil (wpAny_pure ?_)) (.inr hx)))
 rw[List.set_comm _ _ (Qu aW)]at I5
 exact⟨_,H1,I5,q1⟩
end
section
variable{X:Cx}{pos:Pos}
def tWhile(c:TT)(tb:TS):TS:=λD σ H=>∃W:Nat→St→Hp→Prop,(∃m,W m σ H)∧∀m σ H,W m σ H →
 c σ H λb H1=>if b=true then ∃N:St→Hp→Prop,(∀σ' H',N σ' H'→∃m',m'<m∧W m' σ' H')∧tb {D with nx:=N,ct:=N,bk:=D.nx} σ H1 else D.nx σ H1
def zhm(hp:PassesOwn (model X.prog X.w) X.A X.env X.xe)(hc:PT X c tc)(hb:PSs X body tb):PS X (.While c body [] pos) (tWhile tc tb):=by
 intro aa s σ H D I h
 obtain⟨W,⟨m0,w0⟩,turn⟩:=h
 refine wpAny_While (codeAny_whileLoop (λn s'=>∃σ' H',Inv X aa σ' H' s'∧W n σ' H') ?_ m0 ⟨σ,H,I,w0⟩)
 rintro n s1 ⟨σ1,H1,I1,w1⟩
 refine wpAny_passesOwn hp (thn (hc aa s1 σ1 H1 _ I1 (turn n σ1 H1 w1)) λb s2 ⟨H2,I2,q2⟩=>?_)
 cases b with
 | true =>
  obtain⟨N,hN,q2⟩:=q2
  rw[if_pos rfl]
  refine wpAny_passesOwn hp (thn (hb aa s2 σ1 H2 _ I2 q2) λf s3 q3=>?_)
  cases f with
  |next =>
   obtain⟨σ3,H3,I3,n3⟩:=q3
   obtain⟨m',hm,w3⟩:=hN σ3 H3 n3
   exact⟨m',hm,σ3,H3,I3,w3⟩
  |cont =>
   obtain⟨σ3,H3,I3,n3⟩:=q3
   obtain⟨m',hm,w3⟩:=hN σ3 H3 n3
   exact⟨m',hm,σ3,H3,I3,w3⟩
  |brk=>exact q3
  |ret v=>exact q3
 |false =>
  rw[if_neg Zf]
  exact wpAny_execs_nil ⟨σ1,H2,I2,q2⟩
end
structure It where
 go:Nat→Hp→Prop
 yld:Nat→Hp→V→Hp→Prop
 stop:Nat→Hp→Prop
def FpOk(X:Cx)(aa:Nd)(H:Hp)(b:Nc):Prop :=
 H b=none∧b≠X.env.locals∧b∉X.fs∧(b∈X.ex∨X.s₀.heap.objs.size≤b)∧(∀x c,X.env.cells.lookup x=some c→c≠b)∧∀p∈X.pn++aa,p.1≠b
def Inv.fpOk{X:Cx}{aa:Nd}{σ:St}{H H':Hp}{s:Ng}{b:Nc}(I:Inv X aa σ H s)(hb:s.heap.objs.size≤b)(hn:H' b=none):FpOk X aa H' b:=by
 refine⟨hn,Yb (Zj I.lt hb),I.nofs hb,.inr (Zl I.sz hb),λx c e z=>?_,λp hp z=>?_⟩
 ·obtain ⟨v,q⟩:=I.cell x c e
  exact absurd (Zj q.lt (by rw[z];exact hb)) (Yp _)
 ·exact absurd (Zj (Qr (I.pin p hp).1) (by rw[z];exact hb)) (Yp _)
structure Turn(P:Ni)(w:Nk)(K:Na)(tg:Expr)(J:It)(fp:Nn)(it:Nc)(tn:Nat→Heap→Prop):Prop where
 mem:it∈fp
 obj:∀i h,tn i h→∀b∈fp,∃o,h.get? b=some o∧∀v,o.data≠.cell v
 keep:∀i h h',tn i h→(∀b∈fp,∀o,h.get? b=some o→h'.get? b=some o)→tn i h'
 item:∀(X:Cx),X.prog=P→X.w=w→X.K=K→X.calm=true→∀(i:Nat) (aa:Nd) (s:Ng) (σ:St) (H:Hp) (E:Nb),Inv X aa σ H s→(∀b∈fp,FpOk X aa H b)→tn i s.heap→J.go i H →
  wpAny (model P w) X.A (pyNext (.ref it)) (λr s1=>∃u,r=some u ∧
   wpAny (model P w) X.A (letOwnedTupleGo tg (.ref it) u) (λ_ s2=>∃x H',Inv X aa σ H' s2∧RelV x u∧J.yld i H x H'∧tn (i+1) s2.heap∧∀b∈fp,H' b=none) E s1) E s
 done:∀(X:Cx),X.prog=P→X.w=w→X.K=K→X.calm=true→∀(i:Nat) (aa:Nd) (s:Ng) (σ:St) (H:Hp) (E:Nb),Inv X aa σ H s→(∀b∈fp,FpOk X aa H b)→tn i s.heap→J.stop i H →
  wpAny (model P w) X.A (pyNext (.ref it)) (λr s1=>r=none∧Inv X aa σ H s1) E s
 self:∀(A:Nm) (i:Nat) (s:Ng) (Q:Nb) (E:Nb),tn i s.heap→Q (.ref it) s→wpAny (model P w) A (pyIter (.ref it)) Q E s
abbrev TI:=St→Hp→(It→Hp→Prop)→Prop
inductive PIE(X:Cx)(aa:Nd)(σ:St)(tg:Expr)(R:It→Hp→Prop)(itv:Value)(s2:Ng):Prop
 |mk (it:Nc) (fp:Nn) (tn:Nat→Heap→Prop) (J:It) (H':Hp) (h0:itv=.ref it) (h1:Inv X aa σ H' s2) (h2:Turn X.prog X.w X.K tg J fp it tn) (h3:tn 0 s2.heap) (h4:(∀b∈fp,FpOk X aa H' b)) (h5:R J H'):PIE X aa σ tg R itv s2
def PI(X:Cx)(tg iter:Expr)(wi:TI):Prop :=
 ∀(aa:Nd) (s:Ng) (σ:St) (H:Hp) (R:It→Hp→Prop),Inv X aa σ H s→wi σ H R →
  wpAny (model X.prog X.w) X.A (eval iter X.env) (λv s1=>wpAny (model X.prog X.w) X.A (pyIter v) (PIE X aa σ tg R) X.xe s1) X.xe s
def go_of(ho:s.heap.get? it=some o)(hc:o.cls=.type n)(hd:o.data=.fields vs)(hn:["enumerate", "zip", "dict_itemiterator", "dict_reverseitemiterator", "odict_iterator", "itertools.zip_longest", "itertools.pairwise"].contains n=false)(hQ:Q () s):wpAny M A (letOwnedTupleGo tg (.ref it) u) Q E s:=by
 unfold letOwnedTupleGo
 cases tg <;> first
  |exact wpAny_pure hQ
  | (cases u <;> first
    |exact wpAny_pure hQ
    | (refine wpAny_bind (wpAny_load ho ?_)
       rw[hc,hd]
       show wpAny M A (if(["enumerate", "zip", "dict_itemiterator", "dict_reverseitemiterator", "odict_iterator", "itertools.zip_longest", "itertools.pairwise"].contains n&&vs[0]?==some (rawInt _))=true then _ else _) Q E s
       rw[if_neg (by intro h;rw[hn,Bool.false_and]at h;cases h)]
       exact wpAny_pure hQ))
def Itl(K:Na)(a:Nc):It :=
 ⟨λi H=>∃xs x,SqL K H a xs∧xs[i]?=some x,λi H x H'=>H'=H∧∀xs,SqL K H a xs→xs[i]?=some x,λi H=>∃xs,SqL K H a xs∧xs.length≤i⟩
def Itt(K:Na)(a:Nc):It :=
 ⟨λi H=>∃xs x,SqT K H a xs∧xs[i]?=some x,λi H x H'=>H'=H∧∀xs,SqT K H a xs→xs[i]?=some x,λi H=>∃xs,SqT K H a xs∧xs.length≤i⟩
def Itr(lo:Int)(n:Nat):It:=⟨λi _=>i<n,λi H x H'=>H'=H∧x=.int (lo+i),λi _=>n≤i⟩
theorem turn_list{P:Ni}{w:Nk}{K:Na}{tg:Expr}(a it:Nc):Turn P w K tg (Itl K a) [it] it (λi h=>h.IsListIter it a i) where
 mem:=by simp
 obj:=λi h st b hb=>by
  have e:b=it:=by simpa using hb
  subst e
  obtain⟨o,e,c,d⟩:=st
  exact⟨o,e,λv z=>by rw[d]at z;cases z⟩
 keep:=λi h h' st k=>st.at λo e=>k it (by simp) o e
 item:=by
  intro X hP hw hK hc i aa s σ H E I hf st hg
  subst hP hw hK
  obtain⟨xs,x,hq,hx⟩:=hg
  obtain⟨ae,rv,p,hz⟩:=I.list hq
  obtain⟨u,hu,ru⟩:=rv.get hx
  obtain⟨f0,f1,f2,f3,f4,f5⟩:=hf it (by simp)
  refine wpAny_pyNext_list_item st p.isList (x:=u) (by simpa using hu) λh' ag sb=>?_
  have I1:Inv X aa σ H {s with heap:=h'}:=I.turned (t':=s.toks) (λb o hb e=>(sb.2 b hb).trans e) f0 f1 f3 f4 f5
  obtain⟨o,e,c,d⟩:=id ag
  exact⟨u,rfl,go_of (s:={s with heap:=h'}) e c d (by decide) ⟨x,H,I1,ru,⟨rfl,λys hy=>by rw[I.list_inj hy hq];exact hx⟩,ag,λb hb=>(hf b hb).1⟩⟩
 done:=by
  intro X hP hw hK hc i aa s σ H E I hf st hg
  subst hP hw hK
  obtain⟨xs,hq,hx⟩:=hg
  obtain⟨ae,rv,p,hz⟩:=I.list hq
  obtain⟨f0,f1,f2,f3,f4,f5⟩:=hf it (by simp)
  have hl:=rv.length
  exact wpAny_pyNext_list_end (I.ok.hd hc) st p.isList (by simp;exact zdp ‹_› ‹_›) λh' eb=>⟨rfl,I.turned (t':=s.toks) (λb o hb e=>eb b o hb e) f0 f1 f3 f4 f5⟩
 self:=λ_ _ _ _ _ st h=>wpAny_pyIter_listiter st h
theorem turn_tuple{P:Ni}{w:Nk}{K:Na}{tg:Expr}(a it:Nc):Turn P w K tg (Itt K a) [it] it (λi h=>h.IsTupleIter it a i) where
 mem:=by simp
 obj:=λi h st b hb=>by
  have e:b=it:=by simpa using hb
  subst e
  obtain⟨o,e,c,d⟩:=st
  exact⟨o,e,λv z=>by rw[d]at z;cases z⟩
 keep:=λi h h' st k=>st.at λo e=>k it (by simp) o e
 item:=by
  intro X hP hw hK hc i aa s σ H E I hf st hg
  subst hP hw hK
  obtain⟨xs,x,hq,hx⟩:=hg
  obtain⟨ae,rv,p,hz⟩:=I.tuple hq
  obtain⟨u,hu,ru⟩:=rv.get hx
  obtain⟨f0,f1,f2,f3,f4,f5⟩:=hf it (by simp)
  refine wpAny_pyNext_tuple_item st (show s.heap.IsTuple a ae.toArray from p) (x:=u) (by simpa using hu) λh' ag sb=>?_
  have I1:Inv X aa σ H {s with heap:=h'}:=I.turned (t':=s.toks) (λb o hb e=>(sb.2 b hb).trans e) f0 f1 f3 f4 f5
  obtain⟨o,e,c,d⟩:=id ag
  exact⟨u,rfl,go_of (s:={s with heap:=h'}) e c d (by decide) ⟨x,H,I1,ru,⟨rfl,λys hy=>by rw[I.tuple_inj hy hq];exact hx⟩,ag,λb hb=>(hf b hb).1⟩⟩
 done:=by
  intro X hP hw hK hc i aa s σ H E I hf st hg
  subst hP hw hK
  obtain⟨xs,hq,hx⟩:=hg
  obtain⟨ae,rv,p,hz⟩:=I.tuple hq
  obtain⟨f0,f1,f2,f3,f4,f5⟩:=hf it (by simp)
  have hl:=rv.length
  exact wpAny_pyNext_tuple_end (I.ok.hd hc) st (show s.heap.IsTuple a ae.toArray from p) (by simp;exact zdp ‹_› ‹_›) λh' eb=>⟨rfl,I.turned (t':=s.toks) (λb o hb e=>eb b o hb e) f0 f1 f3 f4 f5⟩
 self:=λ_ _ _ _ _ st h=>wpAny_pyIter_tupleiter st h
theorem turn_range{P:Ni}{w:Nk}{K:Na}{tg:Expr}(it:Nc)(lo:Int)(n:Nat):Turn P w K tg (Itr lo n) [it] it (λi h=>IsRangeIter h it (lo+(i:Nat)*1) ((n:Int)-(i:Nat)) 1) where
 mem:=by simp
 obj:=λi h st b hb=>by
  have e:b=it:=by simpa using hb
  subst e
  exact⟨_,st,λv z=>by
   have z':Data.fields _=Data.cell v:=z
   cases z'⟩
 keep:=λi h h' st k=>k it (by simp) _ st
 item:=by
  intro X hP hw hK hc i aa s σ H E I hf st hg
  subst hP hw hK
  obtain⟨f0,f1,f2,f3,f4,f5⟩:=hf it (by simp)
  have W:=Walks.range (prog:=X.prog) (w:=X.w) (I.ok.hd hc) it lo 1 n
  refine W.item i s _ _ hg st λv h' tk hv ag kk=>?_
  obtain⟨t,rfl⟩:=hv
  have I1:Inv X aa σ H {s with heap:=h',toks:=tk}:=I.turned (λb o hb e=>kk b o (by simpa using hb) e) f0 f1 f3 f4 f5
  refine⟨_,rfl,go_of (s:={s with heap:=h',toks:=tk}) (n := "range_iterator") ag rfl rfl (by decide) ⟨.int (lo+i),H,I1,⟨t,?_⟩,⟨rfl,rfl⟩,ag,λb hb=>(hf b hb).1⟩⟩
  rw[Int.mul_one]
 done:=by
  intro X hP hw hK hc i aa s σ H E I hf st hg
  subst hP hw hK
  obtain⟨f0,f1,f2,f3,f4,f5⟩:=hf it (by simp)
  exact wpAny_pyNext_range_end (I.ok.hd hc) st (by have:n≤i:=hg;lia) λh' eb=>⟨rfl,I.turned (t':=s.toks) (λb o hb e=>eb b o hb e) f0 f1 f3 f4 f5⟩
 self:=λ_ _ _ _ _ st h=>wpAny_pyIter_rangeiter st h
end L2
namespace L2
open PySem PySem.Spec PyProof.Rows
section
variable{X:Cx}{tg:Expr}
inductive RI1(x:V)(S R:Addr→Prop):Prop
 |mk (a:Nc) (e:x=.ref a) (s:S a) (q:R a):RI1 x S R
def iList(K:Na)(tl:TE):TI:=λ σ H R=>tl σ H λx H1=>RI1 x (λa=>∃xs,SqL K H1 a xs) λa=>R (Itl K a) H1
def iTup(K:Na)(tl:TE):TI:=λ σ H R=>tl σ H λx H1=>RI1 x (λa=>∃xs,SqT K H1 a xs) λa=>R (Itt K a) H1
def zbh{l:Expr}{tl:TE}(hl:PE X l tl):PI X tg l (iList X.K tl):=by
 intro aa s σ H R I h
 refine thn (hl aa s σ H _ I h) λv s1 ⟨x,H1,I1,r1,q1⟩=>?_
 obtain⟨a,e,⟨xs,hq⟩,q⟩:=q1
 subst e
 cases r1
 obtain⟨ae,rv,p,hz⟩:=I1.list hq
 refine wpAny_pyIter_list p.isList ?_
 refine⟨s1.heap.objs.size,[s1.heap.objs.size],_,_,H1,rfl,I1.kept (t':=s1.toks) λb o e=>Qi _ e,turn_list a _,⟨_,Zd _ rfl,rfl,rfl⟩,λb hb=>?_,q⟩
 have e:b=s1.heap.objs.size:=by simpa using hb
 subst e
 exact I1.fpOk (Qg _) (I1.hok.fresh (Qg _))
def pi_tup{l:Expr}{tl:TE}(hl:PE X l tl):PI X tg l (iTup X.K tl):=by
 intro aa s σ H R I h
 refine thn (hl aa s σ H _ I h) λv s1 ⟨x,H1,I1,r1,q1⟩=>?_
 obtain⟨a,e,⟨xs,hq⟩,q⟩:=q1
 subst e
 cases r1
 obtain⟨ae,rv,p,hz⟩:=I1.tuple hq
 refine wpAny_pyIter_tuple (show s1.heap.IsTuple a ae.toArray from p) ?_
 refine⟨s1.heap.objs.size,[s1.heap.objs.size],_,_,H1,rfl,I1.kept (t':=s1.toks) λb o e=>Qi _ e,turn_tuple a _,⟨_,Zd _ rfl,rfl,rfl⟩,λb hb=>?_,q⟩
 have e:b=s1.heap.objs.size:=by simpa using hb
 subst e
 exact I1.fpOk (Qg _) (I1.hok.fresh (Qg _))
def range_it{aa:Nd}{σ:St}{H:Hp}{s:Ng}{R:It→Hp→Prop}{E:Nb}{lo hi:Int}{t u v:Tok}{tk:Nat}(I:Inv X aa σ H s)(h1:-(2 ^ 62)≤lo)(h2:lo<2 ^ 62)(h3:-(2 ^ 62)≤hi)(h4:hi<2 ^ 62)(q:R (Itr lo (hi-lo).toNat) H):wpAny (model X.prog X.w) X.A (pyIter (.ref s.heap.objs.size)) (PIE X aa σ tg R) E {s with heap:=s.heap.push {cls:=.type "range",data:=.fields #[.int lo t,.int hi u,.int 1 v]},toks:=tk}:=by
 refine wpAny_pyIter_range (IsRange.new ..) (small_one h1 h2 h3 h4) ?_
 have I1:Inv X aa σ H {s with heap:=s.heap.push {cls:=.type "range",data:=.fields #[.int lo t,.int hi u,.int 1 v]},toks:=tk}:=I.kept λb o e=>Qi _ e
 refine⟨(s.heap.push {cls:=.type "range",data:=.fields #[.int lo t,.int hi u,.int 1 v]}).objs.size,[(s.heap.push {cls:=.type "range",data:=.fields #[.int lo t,.int hi u,.int 1 v]}).objs.size],_,_,H,rfl,
  I1.kept (t':=tk) λb o e=>Qi _ e,turn_range _ lo (hi-lo).toNat,?_,λb hb=>?_,q⟩
 ·have e1:lo+((0:Nat):Int)*1=lo:=by simp
  have e2:(((hi-lo).toNat:Nat):Int)-((0:Nat):Int)=Builtin.Range.rangeSize lo hi 1:=by rw[rangeSize_one];split<;>lia
  show IsRangeIter _ _ (lo+((0:Nat):Int)*1) ((((hi-lo).toNat:Nat):Int)-((0:Nat):Int)) 1
  rw[e1,e2]
  exact Zd _ rfl
 ·have e:b=(s.heap.push { cls:=.type "range",data:=.fields #[.int lo t,.int hi u,.int 1 v] }).objs.size:=by simpa using hb
  subst e
  exact I1.fpOk (Qg _) (I1.hok.fresh (Qg _))
inductive RR1(vs:List V)(R:Int→Prop):Prop
 |mk (j:Int) (e:vs=[.int j]) (l:-(2 ^ 62)≤j) (u:j<2 ^ 62) (q:R j):RR1 vs R
def iRng1(ta:TA):TI:=λ σ H R=>ta σ H λvs H1=>RR1 vs λj=>R (Itr 0 j.toNat) H1
def iRng2(ta:TA):TI:=λ σ H R=>ta σ H λvs H1=>∃i j:Int,vs=[.int i,.int j]∧(-(2 ^ 62)≤i∧i<2 ^ 62∧-(2 ^ 62)≤j∧j<2 ^ 62)∧R (Itr i (j-i).toNat) H1
def zec{a:Expr}{ta:TA}{p pos:Pos}(hg:Gl X "range")(hm:X.mg "range" = none)(ha:PA X [a] ta)(hs:starEach [a] X.env=[(false,eval a X.env)]:=by rfl):PI X tg (.Call (.Name "range" p) [a] [] pos) (iRng1 ta):=by
 intro aa s σ H R I h
 refine Call_ (zdo I hg hm boot_range (Yn (thn (ha pos aa s σ H _ I h) λus s1 ⟨vs,H1,I1,r1,q1⟩=>?_) hs rfl))
 obtain⟨j,e,q1,q2,q⟩:=q1
 subst e
 cases r1 with
 |cons r rr =>
  cases rr
  obtain⟨t,rfl⟩:=r
  exact call_range_1 (range_it I1 (by lia) (by lia) q1 q2 (by simpa using q))
def pi_range2(hg:Gl X "range")(hm:X.mg "range" = none)(ha:PA X [a,b] ta)(hs:starEach [a,b] X.env=[(false,eval a X.env),(false,eval b X.env)]:=by rfl)(dF:starEach [b] X.env=[(false,eval b X.env)]:=by rfl) :
  PI X tg (.Call (.Name "range" p) [a,b] [] pos) (iRng2 ta):=by
 intro aa s σ H R I h
 refine Call_ (zdo I hg hm boot_range (Yn (thn (ha pos aa s σ H _ I h) λus s1 ⟨vs,H1,I1,r1,q1⟩=>?_) (by rw[hs,dF]) (by rw[dF];rfl)))
 obtain⟨i,j,e,⟨q1,q2,q3,q4⟩,q⟩:=q1
 subst e
 cases r1 with
 | cons r rr =>
  cases rr with
  |cons r' rr =>
   cases rr
   obtain⟨t,rfl⟩:=r
   obtain⟨t',rfl⟩:=r'
   exact call_range_2 (range_it I1 q1 q2 q3 q4 q)
def tFor(wi:TI)(g:TG)(tb:TS):TS:=λD σ H=>wi σ H λJ H1=>∃W:Nat→Nat→St→Hp→Prop,(∃m,W 0 m σ H1)∧∀i m σ H,W i m σ H →
 (J.stop i H∧D.nx σ H)∨(J.go i H∧∃N:St→Hp→Prop,(∀σ' H',N σ' H'→∃m',m'<m∧W (i+1) m' σ' H')∧∀x H',J.yld i H x H'→g x σ H' λ σ2 H2=>tb {D with nx:=N,ct:=N,bk:=D.nx} σ2 H2)
def zcm(fp:Nn)(h:Nl):List (Addr×Obj):=fp.filterMap λb=>(h.get? b).map λo=>(b,o)
def zbz(hb:b∈fp)(e:h.get? b=some o):(b,o)∈zcm fp h:=List.mem_filterMap.mpr ⟨b,hb,by rw[e];rfl⟩
def zfr(hp:p∈zcm fp h):p.1∈fp∧h.get? p.1=some p.2:=by
 obtain⟨b,hb,e⟩:=List.mem_filterMap.mp hp
 cases q:h.get? b with
 |none=>rw[q]at e;cases e
 |some o =>
  rw[q]at e
  have e':(b,o)=p:=Qk e
  subst e'
  exact⟨hb,q⟩
def Inv.pinned(I:Inv X aa σ H s)(hf:∀b∈fp,FpOk X aa H b)(ho:∀b∈fp,∃o,s.heap.get? b=some o∧∀v,o.data≠.cell v):Inv X (aa++zcm fp s.heap) σ H s :=
 I.pins_of λp hp=>(Qj.mp hp).elim (λz=>I.pin p (Qo _ z)) λz=>by
  obtain⟨hb,e⟩:=zfr z
  obtain⟨f0,f1,f2,_⟩:=hf p.1 hb
  obtain⟨o,e',d⟩:=ho p.1 hb
  rw[e]at e';cases e'
  exact⟨e,f0,f1,f2,d⟩
def Inv.unpinned(I:Inv X (aa++pl) σ H s):Inv X aa σ H s:=I.pins_of λp hp=>I.pin p (Qo _ (Qp _ hp))
def zbm(hp:PassesOwn (model X.prog X.w) X.A X.env X.xe)(hc:X.calm=true)(hi:PI X tg iter wi)(hg:PG X tg g)(hb:PSs X body tb)(hs:∀x,foldedSetIterable iter X.env x=pure x:=by intro _;rfl):PS X (.For tg iter body [] pos) (tFor wi g tb):=by
 intro aa s σ H D I h
 refine wpAny_For (thn (hi aa s σ H _ I h) λv s1 h1=>thn h1 λitv s2 h2=>?_) hs
 obtain⟨it,fp,tn,J,H2,e,I2,T,cc,f2,W,⟨m0,w0⟩,turn⟩:=h2
 subst e
 have stat:∀{H':Hp},(∀b∈fp,H' b=none)→∀b∈fp,FpOk X aa H' b:=λhn b hb=>⟨hn b hb,(f2 b hb).2⟩
 refine codeAny_forLoop_any (λn s'=>Ex3 λi σ' H'=>Aj4 (Inv X aa σ' H' s') (tn i s'.heap) (∀b∈fp,H' b=none) (W i n σ' H')) ?_ m0 ⟨0,σ,H2,I2,cc,λb hb=>(f2 b hb).1,w0⟩
 rintro n s3 ⟨i,σ3,H3,I3,aw,fr3,w3⟩
 rcases turn i n σ3 H3 w3 with⟨stop,qn⟩ | ⟨go,N,hN,step⟩
 ·refine wpAny_passesOwn hp (thn (T.done X rfl rfl rfl hc i aa s3 σ3 H3 X.xe I3 (stat fr3) aw stop) fun r s4 ⟨hr,I4⟩=>?_)
  subst hr
  exact wpAny_execs_nil ⟨σ3,H3,I4,qn⟩
 ·refine wpAny_passesOwn hp (thn (T.item X rfl rfl rfl hc i aa s3 σ3 H3 X.xe I3 (stat fr3) aw go) fun r s4 ⟨u,hr,h4⟩=>?_)
  subst hr
  refine wpAny_passesOwn hp (thn h4 λ_ s5 ⟨x,H5,I5,r5,y5,md,fr5⟩=>?_)
  have lg:=I5.pinned (stat fr5) (T.obj _ _ md)
  refine wpAny_passesOwn hp (thn (hg _ s5 σ3 H5 x u _ lg r5 (step x H5 y5)) λ_ s6 ⟨σ6,H6,I6,q6⟩=>?_)
  refine wpAny_passesOwn hp (thn (hb _ s6 σ6 H6 _ I6 q6) λf s7 q7=>?_)
  have again:∀{σ7:St} {H7:Hp},Inv X (aa++zcm fp s5.heap) σ7 H7 s7→N σ7 H7→∃m,m<n∧Ex3 λi σ' H'=>Aj4 (Inv X aa σ' H' s7) (tn i s7.heap) (∀b∈fp,H' b=none) (W i m σ' H'):=λ{σ7 H7} I7 n7=>by
   obtain⟨m',hm,w7⟩:=hN σ7 H7 n7
   refine⟨m',hm,i+1,σ7,H7,I7.unpinned,T.keep _ _ _ md λb hb o e=>(I7.pin (b,o) (Qo _ (Qo _ (zbz hb e)))).1,λb hb=>?_,w7⟩
   obtain⟨o,e,d⟩:=T.obj _ _ md b hb
   exact(I7.pin (b,o) (Qo _ (Qo _ (zbz hb e)))).2.1
  cases f with
  |next=>obtain⟨σ7,H7,I7,n7⟩:=q7;exact again I7 n7
  |cont=>obtain⟨σ7,H7,I7,n7⟩:=q7;exact again I7 n7
  |brk=>obtain⟨σ7,H7,I7,q7⟩:=q7;exact⟨σ7,H7,I7.unpinned,q7⟩
  |ret v=>obtain⟨x7,σ7,H7,I7,r7,q7⟩:=q7;exact⟨x7,σ7,H7,I7.unpinned,r7,q7⟩
end
def zbv{K:Na}{a:Nc}{xs:List V}{g:TG}{tb:TS}{D:Ends}{σ:St}{H:Hp}(Pv:Nat→St→Hp→Prop)(h0:Pv 0 σ H)(hl:∀i σ H,i≤xs.length→Pv i σ H→SqL K H a xs)(hs:∀i x σ H,xs[i]?=some x→Pv i σ H→g x σ H λ σ2 H2=>tb {D with nx:=Pv (i+1),ct:=Pv (i+1),bk:=D.nx} σ2 H2)(hd:∀σ H,Pv xs.length σ H→D.nx σ H) :
  ∃W:Nat→Nat→St→Hp→Prop,(∃m,W 0 m σ H)∧∀i m σ H,W i m σ H →
   ((Itl K a).stop i H∧D.nx σ H)∨((Itl K a).go i H∧∃N:St→Hp→Prop,(∀σ' H',N σ' H'→∃m',m'<m∧W (i+1) m' σ' H')∧∀x H',(Itl K a).yld i H x H'→g x σ H' λ σ2 H2=>tb {D with nx:=N,ct:=N,bk:=D.nx} σ2 H2):=by
 refine⟨λi m σ H=>m=xs.length-i∧i≤xs.length∧Pv i σ H,⟨xs.length,by simp,Zg _,h0⟩,?_⟩
 rintro i m σ H ⟨rfl,hi,p⟩
 have q:=hl i σ H hi p
 by_cases ai:i<xs.length
 ·refine .inr ⟨⟨xs,xs[i],q,by simp [ai]⟩,Pv (i+1),fun σ' H' p'=>⟨xs.length - (i+1),by exact zar1 ‹_›,rfl,ai,p'⟩,fun x H' y=>?_⟩
  obtain⟨e,y⟩:=y
  subst e
  exact hs i x σ _ (y xs q) p
 ·have e:i=xs.length:=by exact zar3 ‹_› ‹_›
  subst e
  exact .inl ⟨⟨xs,q,Qg _⟩,hd σ H p⟩
def for_tup{K:Na}{a:Nc}{xs:List V}{g:TG}{tb:TS}{D:Ends}{σ:St}{H:Hp}(Pv:Nat→St→Hp→Prop)(h0:Pv 0 σ H)(hl:∀i σ H,i≤xs.length→Pv i σ H→SqT K H a xs)(hs:∀i x σ H,xs[i]?=some x→Pv i σ H→g x σ H λ σ2 H2=>tb {D with nx:=Pv (i+1),ct:=Pv (i+1),bk:=D.nx} σ2 H2)(hd:∀σ H,Pv xs.length σ H→D.nx σ H) :
  ∃W:Nat→Nat→St→Hp→Prop,(∃m,W 0 m σ H)∧∀i m σ H,W i m σ H →
   ((Itt K a).stop i H∧D.nx σ H)∨((Itt K a).go i H∧∃N:St→Hp→Prop,(∀σ' H',N σ' H'→∃m',m'<m∧W (i+1) m' σ' H')∧∀x H',(Itt K a).yld i H x H'→g x σ H' λ σ2 H2=>tb {D with nx:=N,ct:=N,bk:=D.nx} σ2 H2):=by
 refine⟨λi m σ H=>m=xs.length-i∧i≤xs.length∧Pv i σ H,⟨xs.length,by simp,Zg _,h0⟩,?_⟩
 rintro i m σ H ⟨rfl,hi,p⟩
 have q:=hl i σ H hi p
 by_cases ai:i<xs.length
 ·refine .inr ⟨⟨xs,xs[i],q,by simp [ai]⟩,Pv (i+1),fun σ' H' p'=>⟨xs.length - (i+1),by exact zar1 ‹_›,rfl,ai,p'⟩,fun x H' y=>?_⟩
  obtain⟨e,y⟩:=y
  subst e
  exact hs i x σ _ (y xs q) p
 ·have e:i=xs.length:=by exact zar3 ‹_› ‹_›
  subst e
  exact .inl ⟨⟨xs,q,Qg _⟩,hd σ H p⟩
def zdb{lo:Int}{n:Nat}{g:TG}{tb:TS}{D:Ends}{σ:St}{H:Hp}(Pv:Nat→St→Hp→Prop)(h0:Pv 0 σ H)(hs:∀i σ H,i<n→Pv i σ H→g (.int (lo+i)) σ H λ σ2 H2=>tb {D with nx:=Pv (i+1),ct:=Pv (i+1),bk:=D.nx} σ2 H2)(hd:∀σ H,Pv n σ H→D.nx σ H) :
  ∃W:Nat→Nat→St→Hp→Prop,(∃m,W 0 m σ H)∧∀i m σ H,W i m σ H →
   ((Itr lo n).stop i H∧D.nx σ H)∨((Itr lo n).go i H∧∃N:St→Hp→Prop,(∀σ' H',N σ' H'→∃m',m'<m∧W (i+1) m' σ' H')∧∀x H',(Itr lo n).yld i H x H'→g x σ H' λ σ2 H2=>tb {D with nx:=N,ct:=N,bk:=D.nx} σ2 H2):=by
 refine⟨λi m σ H=>m=n-i∧i≤n∧Pv i σ H,⟨n,by simp,Zg _,h0⟩,?_⟩
 rintro i m σ H ⟨rfl,hi,p⟩
 by_cases ai:i<n
 ·refine .inr ⟨ai,Pv (i+1),fun σ' H' p'=>⟨n - (i+1),by exact zar1 ‹_›,rfl,ai,p'⟩,fun x H' y=>?_⟩
  obtain⟨e,y⟩:=y
  subst e y
  exact hs i σ _ ai p
 ·have e:i=n:=by exact zar3 ‹_› ‹_›
  subst e
  exact .inl ⟨Qg _,hd σ H p⟩
end L2
namespace L2
open PySem PySem.Spec PyProof.Rows
abbrev R2:=V→V→Hp→VK→Prop
def OpR(X:Cx)(f:Value→Value→Sem Value)(r:R2):Prop :=
 ∀(aa:Nd) (s:Ng) (σ:St) (H:Hp) (x y:V) (v u:Value) (Q:VK),Inv X aa σ H s→RelV x v→RelV y u→r x y H Q →
  wpAny (model X.prog X.w) X.A (f v u) (EP X aa σ Q) X.xe s
def UnR(X:Cx)(f:Value→Sem Value)(r:V→Hp→VK→Prop):Prop :=
 ∀(aa:Nd) (s:Ng) (σ:St) (H:Hp) (x:V) (v:Value) (Q:VK),Inv X aa σ H s→RelV x v→r x H Q →
  wpAny (model X.prog X.w) X.A (f v) (EP X aa σ Q) X.xe s
def zcc(X:Cx)(f:Value)(r:List V→Hp→VK→Prop):Prop :=
 ∀(aa:Nd) (s:Ng) (σ:St) (H:Hp) (xs:List V) (us:Nj) (Q:VK),Inv X aa σ H s→Vals xs us→r xs H Q →
  wpAny (model X.prog X.w) X.A (call f us) (EP X aa σ Q) X.xe s
def TruR(X:Cx)(r:V→Hp→(Bool→Hp→Prop)→Prop):Prop :=
 ∀(aa:Nd) (s:Ng) (σ:St) (H:Hp) (x:V) (v:Value) (Q:Bool→Hp→Prop),Inv X aa σ H s→RelV x v→r x H Q →
  wpAny (model X.prog X.w) X.A (truthy v) (TP X aa σ Q) X.xe s
def tOp(r:R2)(ta tb:TE):TE:=λ σ H Q=>ta σ H λx H1=>tb σ H1 λy H2=>r x y H2 Q
def tUn(r:V→Hp→VK→Prop)(ta:TE):TE:=λ σ H Q=>ta σ H λx H1=>r x H1 Q
inductive RrI(C:Int→Int→Prop)(g:Int→Int→V)(x:V)(y:V)(H:Hp)(Q:VK):Prop
 |mk (i:_) (j:_) (h0:x=.int i) (h1:y=.int j) (h2:C i j) (h3:Q (g i j) H):RrI C g x y H Q
def rI(C:Int→Int→Prop)(g:Int→Int→V):R2:=λx y H Q=>RrI C g x y H Q
inductive RrI0(g:Int→Int→V)(x:V)(y:V)(H:Hp)(Q:VK):Prop
 |mk (i:_) (j:_) (h0:x=.int i) (h1:y=.int j) (h2:Q (g i j) H):RrI0 g x y H Q
def rI0(g:Int→Int→V):R2:=λx y H Q=>RrI0 g x y H Q
def rU(g:Int→V):V→Hp→VK→Prop:=λx H Q=>∃i,x=.int i∧Q (g i) H
section
variable{X:Cx}{a b c:Expr}{ta tb tc:TE}{pos:Pos}
def binT(ha:PE X a ta)(hb:PE X b tb){aa:Nd}{s:Ng}{σ:St}{H:Hp}{R:V→V→Hp→Prop}(I:Inv X aa σ H s)(h:ta σ H λx H1=>tb σ H1 λy H2=>R x y H2){Q:Nb}{f:Value→Value→Sem Value}(hf:∀v u s2 x y H2,Inv X aa σ H2 s2→RelV x v→RelV y u→R x y H2→wpAny (model X.prog X.w) X.A (f v u) Q X.xe s2) :
  wpAny (model X.prog X.w) X.A (eval a X.env) (λv s₁=>wpAny (model X.prog X.w) X.A (eval b X.env) (λu s₂=>wpAny (model X.prog X.w) X.A (f v u) Q X.xe s₂) X.xe s₁) X.xe s:=by
 refine thn (ha aa s σ H _ I h) λv s1 ⟨x,H1,I1,r1,q1⟩=>?_
 refine thn (hb aa s1 σ H1 _ I1 q1) λu s2 ⟨y,H2,I2,r2,q2⟩=>?_
 exact hf v u s2 x y H2 I2 r1 r2 q2
def zau{op:Operator}{r:R2}(ho:OpR X (binaryOp op) r)(ha:PE X a ta)(hb:PE X b tb):PE X (.BinOp a op b pos) (tOp r ta tb):=by
 intro aa s σ H Q I h
 exact wpAny_BinOp (binT ha hb I h λv u s2 x y H2 I2 rx ry q=>ho aa s2 σ H2 x y v u Q I2 rx ry q)
def pe_un(ho:UnR X (unaryOp op) r)(ha:PE X a ta):PE X (.UnaryOp op a pos) (tUn r ta):=by
 intro aa s σ H Q I h
 exact UnaryOp_ (thn (ha aa s σ H _ I h) λv s1 ⟨x,H1,I1,r1,q1⟩=>ho aa s1 σ H1 x v Q I1 r1 q1)
def opI{f:Value→Value→Sem Value}{C:Int→Int→Prop}{g:Int→Int→Int}(rule:∀(i j:Int) (t u:Tok) (s:Ng) (Q:Nb) (E:Nb),C i j→Q (.int (g i j) s.toks) {s with toks:=s.toks+1}→wpAny (model X.prog X.w) X.A (f (.int i t) (.int j u)) Q E s) :
  OpR X f (rI C λi j=>.int (g i j)):=by
 intro aa s σ H x y v u Q I rx ry h
 obtain⟨i,j,rfl,rfl,hc,q⟩:=h
 obtain⟨t,rfl⟩:=rx
 obtain⟨t',rfl⟩:=ry
 exact rule i j t t' s _ _ hc ⟨.int (g i j),H,I.tok _,⟨_,rfl⟩,q⟩
def opI0{f:Value→Value→Sem Value}{g:Int→Int→Int}(rule:∀(i j:Int) (t u:Tok) (s:Ng) (Q:Nb) (E:Nb),Q (.int (g i j) s.toks) {s with toks:=s.toks+1}→wpAny (model X.prog X.w) X.A (f (.int i t) (.int j u)) Q E s) :
  OpR X f (rI0 λi j=>.int (g i j)):=by
 intro aa s σ H x y v u Q I rx ry h
 obtain⟨i,j,rfl,rfl,q⟩:=h
 obtain⟨t,rfl⟩:=rx
 obtain⟨t',rfl⟩:=ry
 exact rule i j t t' s _ _ ⟨.int (g i j),H,I.tok _,⟨_,rfl⟩,q⟩
def opB0{f:Value→Value→Sem Value}{g:Int→Int→Bool}(rule:∀(i j:Int) (t u:Tok) (s:Ng) (Q:Nb) (E:Nb),Q (.bool (g i j)) s→wpAny (model X.prog X.w) X.A (f (.int i t) (.int j u)) Q E s) :
  OpR X f (rI0 λi j=>.bl (g i j)):=by
 intro aa s σ H x y v u Q I rx ry h
 obtain⟨i,j,rfl,rfl,q⟩:=h
 obtain⟨t,rfl⟩:=rx
 obtain⟨t',rfl⟩:=ry
 exact rule i j t t' s _ _ ⟨.bl (g i j),H,I,rfl,q⟩
def CDiv(i j:Int):Prop:=0<j∧j<1073741824
def CPow(i j:Int):Prop:=0≤j∧j≤1000000∧i.natAbs<2 ^ 64
def CMul(i j:Int):Prop:=(-(2 ^ 64)<i∧i<2 ^ 64)∨(-(2 ^ 64)<j∧j<2 ^ 64)
def CMul.ok{i j:Int}(h:CMul i j):IntMulOk i j:=by
 rcases h with⟨h1,h2⟩ | ⟨h1,h2⟩
 ·exact .of_left (intBits_le_64 h1 h2)
 ·exact .of_right (intBits_le_64 h1 h2)
def zbq:OpR X (binaryOp .Add) (rI0 λi j=>.int (i+j)):=opI0 λ_ _ _ _ _ _ _ q=>add_int q
def zed:OpR X (binaryOp .Sub) (rI0 λi j=>.int (i-j)):=opI0 λ_ _ _ _ _ _ _ q=>sub_int q
def zgs:OpR X (binaryOp .Mult) (rI CMul λi j=>.int (i*j)):=opI λ_ _ _ _ _ _ _ hc q=>mul_int q hc.ok
def zht:OpR X (binaryOp .FloorDiv) (rI CDiv λi j=>.int (i/j)):=opI λi j _ _ _ _ _ hc q=>by
 have h1:(0:Int)<j:=hc.1
 have h2:j<1073741824:=hc.2
 exact floordiv_int (by lia) (by rw[Int.fdiv_eq_ediv_of_nonneg i (by lia)];exact q) (.inl (PyProof.noPylong_small (by lia)))
def zez:OpR X (binaryOp .Mod) (rI (λ_ j=>0<j) λi j=>.int (i%j)):=opI λi j _ _ _ _ _ hc q=>by
 have h1:(0:Int)<j:=hc
 exact mod_int' (by lia) (by rw[Int.fmod_eq_emod_of_nonneg i (by lia)];exact q)
def op_pow:OpR X (binaryOp .Pow) (rI CPow λi j=>.int (i ^ j.toNat)):=opI λ_ _ _ _ _ _ _ hc q=>pow_int_small hc.1 hc.2.1 hc.2.2 q
def unI{f:Value→Sem Value}{g:Int→Int}(rule:∀(i:Int) (t:Tok) (s:Ng) (Q:Nb) (E:Nb),Q (.int (g i) s.toks) {s with toks:=s.toks+1}→wpAny (model X.prog X.w) X.A (f (.int i t)) Q E s) :
  UnR X f (rU λi=>.int (g i)):=by
 intro aa s σ H x v Q I rx h
 obtain⟨i,rfl,q⟩:=h
 obtain⟨t,rfl⟩:=rx
 exact rule i t s _ _ ⟨.int (g i),H,I.tok _,⟨_,rfl⟩,q⟩
def un_neg:UnR X (unaryOp .USub) (rU λi=>.int (-i)):=unI λ_ _ _ _ _ q=>neg_int q
end
def scal:V→V→Bool
 |.non,.non=>true | .non,.int _=>true | .int _,.non=>true | .non,.bl _=>true | .bl _,.non=>true | .non,.str _=>true | .str _,.non=>true
 |.int _,.int _=>true | .bl _,.bl _=>true | .str _,.str _=>true | .byt _,.byt _=>true
 |.int _,.str _=>true | .str _,.int _=>true | .bl _,.str _=>true | .str _,.bl _=>true
 |_,_=>false
def rEq:R2:=λx y H Q=>scal x y=true∧Q (.bl (decide (x=y))) H
def rNe:R2:=λx y H Q=>scal x y=true∧Q (.bl (!decide (x=y))) H
def dec_int:decide (V.int i=V.int j)=(i==j):=by
 rw[Wi]
 simp
def dec_bl:decide (V.bl i=V.bl j)=(i==j):=by
 rw[Wi]
 simp
def dec_str:decide (V.str i=V.str j)=(i==j):=by
 rw[Wi]
 simp
def dec_byt:decide (V.byt i=V.byt j)=(i.toList==j.toList):=by
 rw[Wi]
 cases i
 cases j
 simp
section
variable{X:Cx}{a b c:Expr}{ta tb tc:TE}{pos:Pos}
def zbc(I:Inv X aa σ H s)(q:Q (.bl k) H)(e:k=k'):EP X aa σ Q (.bool k') s:=by
 subst e
 exact⟨.bl k,H,I,rfl,q⟩
def op_eq:OpR X (compareOp .Eq) rEq:=by
 intro aa s σ H x y v u Q I rx ry h
 obtain⟨hs,q⟩:=h
 cases x with
 |non =>
  cases rx
  cases y with
  |non=>cases ry;exact PySem.EqNone.eq_none_none (zbc I q (by simp))
  |bl j=>cases ry;exact PySem.EqNone.eq_none_bool (zbc I q (by simp))
  |int j=>obtain⟨t',rfl⟩:=ry;exact PySem.EqNone.eq_none_int (zbc I q (by simp))
  |str j=>obtain⟨t',rfl⟩:=ry;exact PySem.EqNone.eq_none_str (zbc I q (by simp))
  |_=>exact absurd (show false=true from hs) Zf
 |bl i =>
  cases rx
  cases y with
  |non=>cases ry;exact PySem.EqNone.eq_bool_none (zbc I q (by simp))
  |bl j=>cases ry;exact eq_bool (zbc I q dec_bl)
  |str j=>obtain⟨t',rfl⟩:=ry;exact PySem.EqMixed.eq_bool_str (zbc I q (by simp))
  |_=>exact absurd (show false=true from hs) Zf
 |int i =>
  obtain⟨t,rfl⟩:=rx
  cases y with
  |non=>cases ry;exact PySem.EqNone.eq_int_none (zbc I q (by simp))
  |int j=>obtain⟨t',rfl⟩:=ry;exact eq_int (zbc I q dec_int)
  |str j=>obtain⟨t',rfl⟩:=ry;exact PySem.EqMixed.eq_int_str (zbc I q (by simp))
  |_=>exact absurd (show false=true from hs) Zf
 |str i =>
  obtain⟨t,rfl⟩:=rx
  cases y with
  |non=>cases ry;exact PySem.EqNone.eq_str_none (zbc I q (by simp))
  |bl j=>cases ry;exact PySem.EqMixed.eq_str_bool (zbc I q (by simp))
  |int j=>obtain⟨t',rfl⟩:=ry;exact PySem.EqMixed.eq_str_int (zbc I q (by simp))
  |str j=>obtain⟨t',rfl⟩:=ry;exact eq_str (zbc I q dec_str)
  |_=>exact absurd (show false=true from hs) Zf
 |byt i =>
  obtain⟨t,rfl⟩:=rx
  cases y with
  |byt j=>obtain⟨t',rfl⟩:=ry;exact PySem.W.eq_bytes (zbc I q dec_byt)
  |_=>exact absurd (show false=true from hs) Zf
 |_=>cases y<;>exact absurd (show false=true from hs) Zf
def op_ne:OpR X (compareOp .NotEq) rNe:=by
 intro aa s σ H x y v u Q I rx ry h
 obtain⟨hs,q⟩:=h
 cases x with
 |non =>
  cases rx
  cases y with
  |non=>cases ry;exact PySem.EqNone.ne_none_none (zbc I q (by simp))
  |bl j=>cases ry;exact PySem.EqNone.ne_none_bool (zbc I q (by simp))
  |int j=>obtain⟨t',rfl⟩:=ry;exact PySem.EqNone.ne_none_int (zbc I q (by simp))
  |str j=>obtain⟨t',rfl⟩:=ry;exact PySem.EqNone.ne_none_str (zbc I q (by simp))
  |_=>exact absurd (show false=true from hs) Zf
 |bl i =>
  cases rx
  cases y with
  |non=>cases ry;exact PySem.EqNone.ne_bool_none (zbc I q (by simp))
  |bl j=>cases ry;exact ne_bool (zbc I q (congrArg not dec_bl))
  |str j=>obtain⟨t',rfl⟩:=ry;exact PySem.EqMixed.ne_bool_str (zbc I q (by simp))
  |_=>exact absurd (show false=true from hs) Zf
 |int i =>
  obtain⟨t,rfl⟩:=rx
  cases y with
  |non=>cases ry;exact PySem.EqNone.ne_int_none (zbc I q (by simp))
  |int j=>obtain⟨t',rfl⟩:=ry;exact ne_int (zbc I q (congrArg not dec_int))
  |str j=>obtain⟨t',rfl⟩:=ry;exact PySem.EqMixed.ne_int_str (zbc I q (by simp))
  |_=>exact absurd (show false=true from hs) Zf
 |str i =>
  obtain⟨t,rfl⟩:=rx
  cases y with
  |non=>cases ry;exact PySem.EqNone.ne_str_none (zbc I q (by simp))
  |bl j=>cases ry;exact PySem.EqMixed.ne_str_bool (zbc I q (by simp))
  |int j=>obtain⟨t',rfl⟩:=ry;exact PySem.EqMixed.ne_str_int (zbc I q (by simp))
  |str j=>obtain⟨t',rfl⟩:=ry;exact ne_str (zbc I q (congrArg not dec_str))
  |_=>exact absurd (show false=true from hs) Zf
 |byt i =>
  obtain⟨t,rfl⟩:=rx
  cases y with
  |byt j=>obtain⟨t',rfl⟩:=ry;exact PySem.W.ne_bytes (zbc I q (congrArg not dec_byt))
  |_=>exact absurd (show false=true from hs) Zf
 |_=>cases y<;>exact absurd (show false=true from hs) Zf
def op_lt:OpR X (compareOp .Lt) (rI0 λi j=>.bl (decide (i<j))):=opB0 λ_ _ _ _ _ _ _ q=>lt_int q
def op_le:OpR X (compareOp .LtE) (rI0 λi j=>.bl (decide (i≤j))):=opB0 λ_ _ _ _ _ _ _ q=>le_int q
def op_gt:OpR X (compareOp .Gt) (rI0 λi j=>.bl (decide (j<i))):=opB0 λ_ _ _ _ _ _ _ q=>gt_int q
def op_ge:OpR X (compareOp .GtE) (rI0 λi j=>.bl (decide (j≤i))):=opB0 λ_ _ _ _ _ _ _ q=>ge_int q
def zbf(b:Expr)(h:op≠.In:=by decide)(h2:op≠.NotIn:=by decide):behindInMarks op b=false:=by
 have e1:(op==CmpOp.In)=false:=by cases op<;>first | rfl | exact absurd rfl h
 have e2:(op==CmpOp.NotIn)=false:=by cases op<;>first | rfl | exact absurd rfl h2
 cases b<;>simp[behindInMarks,e1,e2]
def pe_cmpR{op:CmpOp}{r:R2}(ho:OpR X (compareOp op) r)(ha:PE X a ta)(hb:PE X b tb)(hm:behindInMarks op b=false):PE X (.Compare a [op] [b] pos) (tOp r ta tb):=by
 intro aa s σ H Q I h
 exact wpAny_Compare1 (binT ha hb I h λv u s2 x y H2 I2 rx ry q=>ho aa s2 σ H2 x y v u Q I2 rx ry q) hm
def tTest(t:TE):TT:=λ σ H Q=>t σ H λx H'=>RB x H' Q
def zas(ho:OpR X (compareOp op) r)(ha:PE X a ta)(hb:PE X b tb)(hm:behindInMarks op b=false):PT X (.Compare a [op] [b] pos) (tTest (tOp r ta tb)):=by
 intro aa s σ H Q I h
 refine wpAny_isTrue_Compare1 (thn (ha aa s σ H _ I h) λv s1 ⟨x,H1,I1,r1,q1⟩=>thn (hb aa s1 σ H1 _ I1 q1) λu s2 ⟨y,H2,I2,r2,q2⟩ =>
  thn (ho aa s2 σ H2 x y v u _ I2 r1 r2 q2) λc s3 ⟨z,H3,I3,r3,k,e,q3⟩=>?_) hm
 subst e
 cases r3
 exact wpAny_truthy_bool ⟨H3,I3,q3⟩
def tChain(r r':R2)(ta tb tc:TE):TE:=λ σ H Q=>ta σ H λx H1=>tb σ H1 λy H2=>r x y H2 λz H3=>RB z H3 λk H3 =>
 (if k=true then tc σ H3 λw' H4=>r' y w' H4 Q else Q (.bl false) H3)
def pe_chain(ho:OpR X (compareOp op) r)(bg:OpR X (compareOp op') r')(ha:PE X a ta)(hb:PE X b tb)(hc:PE X c tc)(hm:lastMarks [op,op'] [b,c]=false:=by with_unfolding_all rfl):PE X (.Compare a [op,op'] [b,c] pos) (tChain r r' ta tb tc):=by
 intro aa s σ H Q I h
 refine Compare_chain (thn (ha aa s σ H _ I h) λv s1 ⟨x,H1,I1,r1,q1⟩=>chain_link (thn (hb aa s1 σ H1 _ I1 q1) λu s2 ⟨y,H2,I2,r2,q2⟩ =>
  thn (ho aa s2 σ H2 x y v u _ I2 r1 r2 q2) λd s3 ⟨z,H3,I3,r3,k,e,q3⟩=>?_)) hm
 subst e
 cases r3
 refine wpAny_truthy_bool ?_
 cases k with
 |false=>exact ite_ff ⟨.bl false,H3,I3,rfl,q3⟩
 |true=>exact ite_tt (chain_last (thn (hc aa s3 σ H3 _ I3 q3) λw' s4 ⟨z',H4,I4,r4,q4⟩=>bg aa s4 σ H4 y z' u w' Q I4 r2 r4 q4))
def TruV(K:Na)(x:V)(H:Hp)(k:Bool):Prop :=
 match x with
 |.non=>k=false
 |.bl b=>k=b
 |.int i=>k=(i != 0)
 |.str y=>y.length≤sizeLine∧k=((y.length:Int) != 0)
 |.byt y=>y.size≤sizeLine∧k=((y.size:Int) != 0)
 |.ref p=>(∃xs,SqL K H p xs∧k=!xs.isEmpty)∨(∃xs,SqT K H p xs∧k=!xs.isEmpty)∨∃kvs,H p=some (.dK kvs)∧k=!kvs.isEmpty
 |_=>False
def isEmpty_kv{κ:Type}{kvs:List (κ×V)}{vs:List (κ×Value)}(r:KV kvs vs):(!vs.isEmpty)=!kvs.isEmpty:=by
 cases r<;>rfl
def zgv{xs:List V}{ae:Nj}(r:Vals xs ae):(!ae.toArray.isEmpty)=!xs.isEmpty:=by
 cases r<;>simp
def zeg:(sizeLine:Nat)<2 ^ 63:=by rw[sizeLine_eq];decide
inductive RTr(K:Na)(x:V)(H:Hp)(Q:Bool→Hp→Prop):Prop
 |mk (k:Bool) (t:TruV K x H k) (q:Q k H):RTr K x H Q
def tru_ok:TruR X (λx H Q=>RTr X.K x H Q):=by
 intro aa s σ H x v Q I rx h
 obtain⟨k,e,q⟩:=h
 have hl:=zeg
 have hs:sizeLine=16777216:=sizeLine_eq
 cases x with
 |non =>
  cases rx
  have e':k=false:=e
  subst e'
  exact truthy_none ⟨H,I,q⟩
 |bl b =>
  cases rx
  have e':k=b:=e
  subst e'
  exact wpAny_truthy_bool ⟨H,I,q⟩
 |int i =>
  obtain⟨t,rfl⟩:=rx
  have e':k=(i != 0):=e
  subst e'
  exact PySem.P.truthy_int ⟨H,I,q⟩
 |str y =>
  obtain⟨t,rfl⟩:=rx
  obtain⟨hy,e'⟩:y.length≤sizeLine∧k=((y.length:Int) != 0):=e
  subst e'
  exact PySem.P.truthy_str (by lia) ⟨H,I.tok _,q⟩
 |byt y =>
  obtain⟨t,rfl⟩:=rx
  obtain⟨hy,e'⟩:y.size≤sizeLine∧k=((y.size:Int) != 0):=e
  subst e'
  exact PySem.W.truthy_bytes (by lia) ⟨H,I.tok _,q⟩
 | ref p =>
  cases rx
  have e':(∃xs,SqL X.K H p xs∧k=!xs.isEmpty)∨(∃xs,SqT X.K H p xs∧k=!xs.isEmpty)∨∃kvs,H p=some (.dK kvs)∧k=!kvs.isEmpty:=e
  rcases e' with⟨xs,hx,e'⟩ | ⟨xs,hx,e'⟩ | ⟨kvs,hx,e'⟩
  ·subst e'
   obtain⟨ae,r,pl,hz⟩:=I.list hx
   have ah:=r.length
   exact wpAny_truthy_list pl.isList (by simp only[Qv];lia) ⟨H,I.tok _,by rw[zgv r];exact q⟩
  ·subst e'
   obtain⟨ae,r,pl,hz⟩:=I.tuple hx
   have ah:=r.length
   exact truthy_tuple pl (by simp only[Qv];lia) ⟨H,I.tok _,by rw[zgv r];exact q⟩
  ·subst e'
   obtain⟨hz,hS,vs,r,m⟩:kvs.length≤sizeLine∧(p==sysModules)=false∧∃vs,KV kvs vs∧s.heap.DictOf (zar X.prog X.w) p vs:=I.hok p _ hx
   have ah:kvs.length=vs.length:=Yo r
   exact wpAny_truthy_dict hS m (by lia) ⟨H,I.tok _,by rw[isEmpty_kv r];exact q⟩
 |_=>exact(show False from e).elim
def zfd(ha:PE X a ta)(he:∀whole,isTrue a X.env whole=(do let v ←whole;standAt a.pos;holding [v] (truthy v))) :
  PT X a (λ σ H Q=>ta σ H λx H'=>RTr X.K x H' Q):=by
 intro aa s σ H Q I h
 exact isTrue_plain (thn (ha aa s σ H _ I h) λv s1 ⟨x,H1,I1,r1,q1⟩=>tru_ok aa s1 σ H1 x v Q I1 r1 q1) (he _)
def zgt:OpR X (binaryOp .Add) (λx y H Q=>Ex2 λi j=>Aj4 (x=.str i) (y=.str j) (i.length+j.length≤sizeLine) (Q (.str (i++j)) H)):=by
 intro aa s σ H x y v u Q I rx ry h
 obtain⟨i,j,rfl,rfl,hz,q⟩:=h
 obtain⟨t,rfl⟩:=rx
 obtain⟨t',rfl⟩:=ry
 exact add_str (λt' tk=>⟨.str (i++j),H,I.tok _,⟨_,rfl⟩,q⟩) hz
def vals1(r:Vals [x] us):∃u,us=[u]∧RelV x u:=by
 cases r with
 |cons r1 r2=>cases r2;exact⟨_,rfl,r1⟩
def vals2(r:Vals [x,y] us):∃u w',us=[u,w']∧RelV x u∧RelV y w':=by
 cases r with
 |cons r1 r2 =>
  cases r2 with
  |cons r3 r4=>cases r4;exact⟨_,_,rfl,r1,r3⟩
def call_min2(hc:X.calm=true):zcc X (.builtin "min") (λxs H Q=>Ex2 λi j=>Aj2 (xs=[.int i,.int j]) (Q (.int (if j<i then j else i)) H)):=by
 intro aa s σ H xs us Q I r h
 obtain⟨i,j,rfl,q⟩:=h
 obtain⟨u,w',rfl,⟨t,rfl⟩,⟨t',rfl⟩⟩:=vals2 r
 refine min_two_ints (I.ok.hd hc) λh' tk k=>⟨_,H,I.kept k,?_,q⟩
 by_cases hj:j<i
 ·rw[if_pos hj,if_pos hj];exact⟨_,rfl⟩
 ·rw[if_neg hj,if_neg hj];exact⟨_,rfl⟩
def call_int1:zcc X (.type "int") (λxs H Q=>(∃i,xs=[.int i]∧Q (.int i) H)∨∃k,xs=[.bl k]∧Q (.int (if k then 1 else 0)) H):=by
 intro aa s σ H xs us Q I r h
 rcases h with⟨i,rfl,q⟩ | ⟨k,rfl,q⟩
 ·obtain ⟨u,rfl,t,rfl⟩:=vals1 r
  exact call_int_int ⟨.int i,H,I,⟨_,rfl⟩,q⟩
 ·obtain ⟨u,rfl,r1⟩:=vals1 r
  cases r1
  exact call_int_bool ⟨.int (if k then 1 else 0),H,I.tok _,⟨_,rfl⟩,q⟩
end
end L2
namespace L2
open PySem PySem.Spec PyProof.Rows
structure ObjM(h:Nl)(x dx C:Nc)(mA:Nf):Prop where
 obj:h.get? x=some (PySem.W.instObj C dx)
 ns:h.Ns1 dx mA
 ne:dx≠x
def lookIn_ns{h:Nl}{mA:Nf}(n:h.Ns1 dx mA):∃od,h.get? dx=some od∧∀name,PySem.W.lookIn name od=some (mA name):=by
 obtain⟨o,es,ep,ho,hd,hk,_,hm⟩:=n
 refine⟨o,ho,λname=>?_⟩
 have e:=hm name
 unfold nsFind findBy at e
 rw[←Array.find?_toList]at e
 unfold PySem.W.lookIn
 rw[hd]
 dsimp only
 split
 ·rename_i y q
  rw[q]at e
  exact congrArg some e
 ·rename_i q
  rw[q]at e
  have a:es.toList.any (·.refKey)=false:=by
   rw[List.any_eq_false]
   intro y hy
   obtain⟨z,t,ko⟩:=hk y (Array.mem_toList_iff.mp hy)
   simp[DictEntry.refKey,ko]
  have a':¬es.toList.any (·.refKey)=true:=by rw[a];exact Zf
  rw[if_neg a']
  exact congrArg some e
def ObjM.look(I:ObjM h x dx C mA):∃od,PySem.W.InstAt h x (PySem.W.instObj C dx) C (some od)∧∀name,PySem.W.lookIn name od=some (mA name) :=
 let⟨od,ho,hl⟩:=lookIn_ns I.ns
 ⟨od,⟨I.obj,rfl,rfl,ho⟩,hl⟩
section
variable{prog:Ni}{w:Nk}{A:Nm}{E:Nb}{s:Ng}{K:Na}{x dx C f:Nc}{mA:Nf}{name:Str}{v:Value}
def get_map(X:K.In s.heap)(I:ObjM s.heap x dx C mA)(hg:PySem.W.plainGet K C name=true)(hh:PySem.W.hasDictIn K C=true)(ha:PySem.W.findIn K (.ref C) name=some none)(hv:mA name=some v)(iR:PySem.W.handedIn v=true)(h:Q v {s with toks:=s.toks+1}) :
  wpAny (model prog w) A (getAttr (.ref x) name expr) Q E s:=by
 obtain⟨od,J,hl⟩:=I.look
 exact PySem.W.get_value X J (PySem.W.plainGet_of hg).1 (PySem.W.findObj_own hh ha rfl (by rw[hl,hv])) iR h
def set_map(X:K.In s.heap)(I:ObjM s.heap x dx C mA)(hs:PySem.W.findIn K (.ref C) "__setattr__" = some (some (.builtin "object.__setattr__")))(hp:PySem.W.plainOver K C=true)(ht:PySem.W.takerIn K C name=some none)(hh:PySem.W.hasDictIn K C=true)(hw:PySem.Within mA ns)(hsz:ns.length≤sizeLine)(h:∀h',ObjM h' x dx C (λy=>if y=name then some v else mA y)→Heap.SameBut dx s.heap h'→Q () {s with heap:=h',toks:=s.toks+2}) :
  wpAny (model prog w) A (setAttr (.ref x) name v) Q E s:=by
 obtain⟨od,J,hl⟩:=I.look
 refine PySem.W.set_plain X J hs (PySem.W.osa_open (s:={s with toks:=s.toks+1}) (r:=none) X J hp ht λb=>?_)
 obtain⟨cd,hc,iw⟩:=PySem.W.any_some hh
 have hx:s.heap.get? x=some ⟨.ref C,some dx,.plain,#[]⟩:=I.obj
 refine wpAny_bind (wpAny_pure (wpAny_bind (wpAny_bind (wpAny_loadPart hx (wpAny_bind (PySem.W.Looks.here (s:={s with toks:=s.toks+1}) (PySem.W.looks_clsIn X hc) ?_))))))
 rw[iw]
 refine wpAny_pure (a:=some dx) (wpAny_bind (wpAny_pure (wpAny_bind ?_)))
 refine wpAny_nsSet1 (s:={s with toks:=s.toks+1}) I.ns λh' ba dF=>?_
 obtain⟨oD,esD,epD,hoD,hdD,iC⟩:=ba.count (PySem.Within.cons name v hw)
 refine wpAny_bind (wpAny_lookBehind hoD (by rw[hdD];exact pastItsLine_dict (Zl iC (by rw[Qx];exact zar4 ‹_›))) ?_)
 exact wpAny_pure (h _ ⟨(dF.2 _ (Qu I.ne)).trans I.obj,ba,I.ne⟩ dF)
def make_map(X:K.In s.heap)(hm:PySem.W.makesIn K C=true)(hi:PySem.W.findIn K (.ref C) "__init__" = some (some (.ref f)))(hf:PySem.W.typeIn K (.ref f)=some (.type "function"))(h:codeAny (model prog w) (A.under (.builtin "type.__call__" ⟨.ref C::vs,kw⟩)) (.call (.ref f) ⟨.ref (s.heap.objs.size+1)::vs,kw⟩) (PySem.W.InitBack (s.heap.objs.size+1) R)
   {s with heap:=(s.heap.push PySem.W.emptyDict).push (PySem.W.instObj C s.heap.objs.size)}) :
  codeAny (model prog w) A (.call (.ref C) ⟨vs,kw⟩) R s:=by
 obtain⟨hh,g,d,t,os⟩:=s
 exact PySem.W.make_core (PySem.W.makes_of X hm) (PySem.W.looks_findIn X hi) (λself=>PySem.W.bind_fn X self hf) (.inl rfl) h
end
def putF(f:Str)(v:V):List (Str×V)→List (Str×V)
 |[]=>[(f,v)]
 |(g,x)::r=>if g=f then(g,v)::r else(g,x)::putF f v r
theorem zfv(f g:Str)(v:V):∀fs:List (Str×V),(putF f v fs).lookup g=if g=f then some v else fs.lookup g
 | []=>by
  show List.lookup g [(f,v)]=_
  by_cases h:g=f
  ·have hb:(g == f)=true:=beq_iff_eq.mpr h
   simp only[List.lookup,hb,if_pos h]
  ·have hb:(g == f)=false:=beq_eq_false_iff_ne.mpr h
   simp only[List.lookup,hb,if_neg h]
 | (k,x)::r=>by
  have ih:=zfv f g v r
  rw[show putF f v ((k,x)::r)=(if k=f then(k,v)::r else(k,x)::putF f v r) from rfl]
  by_cases hk:k=f
  ·rw [if_pos hk]
   by_cases h:g=k
   ·have hb:(g == k)=true:=beq_iff_eq.mpr h
    simp only[List.lookup,hb,if_pos (h.trans hk)]
   ·have hb:(g == k)=false:=beq_eq_false_iff_ne.mpr h
    simp only[List.lookup,hb,if_neg (λe:g=f=>h (e.trans hk.symm))]
  ·rw [if_neg hk]
   by_cases h:g=k
   ·have hb:(g == k)=true:=beq_iff_eq.mpr h
    simp only[List.lookup,hb,if_neg (λe:g=f=>hk (h.symm.trans e))]
   ·have hb:(g == k)=false:=beq_eq_false_iff_ne.mpr h
    simp only[List.lookup,hb]
    exact ih
theorem zfy(f:Str)(v:V):∀fs:List (Str×V),f∈(putF f v fs).map (·.1)∧∀g,g∈fs.map (·.1)→g∈(putF f v fs).map (·.1)
 |[]=>⟨by simp[putF],λg h=>by simp at h⟩
 | (k,x)::r=>by
  obtain⟨i1,i2⟩:=zfy f v r
  rw[show putF f v ((k,x)::r)=(if k=f then(k,v)::r else(k,x)::putF f v r) from rfl]
  by_cases hk:k=f
  ·rw [if_pos hk]
   subst hk
   exact⟨by simp,λg h=>by simpa using h⟩
  ·rw [if_neg hk]
   refine⟨?_,λg h=>?_⟩
   ·rw [Ql]
    exact Qf _ i1
   ·rw [Ql] at h ⊢
    rcases Qe.mp h with e | e
    ·exact Qe.mpr (.inl e)
    ·exact Qf _ (i2 g e)
theorem zfx(f:Str)(v:V):∀fs:List (Str×V),(putF f v fs).length≤fs.length+1
 |[]=>by simp[putF]
 |(k,x)::r=>by
  have ih:=zfx f v r
  rw[show putF f v ((k,x)::r)=(if k=f then(k,v)::r else(k,x)::putF f v r) from rfl]
  by_cases hk:k=f
  ·rw[if_pos hk,Qx,Qx];exact Yh _ _
  ·rw[if_neg hk,Qx,Qx];exact zar4 ‹_›
def RelO.some_of(r:RelO (some v) o):∃u,o=some u∧RelV v u:=by
 cases o with
 |none=>exact(show False from r).elim
 |some u=>exact⟨u,rfl,r⟩
def handed_of(r:RelV v u):PySem.W.handedIn u=true:=by
 cases v with
 |non=>cases(show u=Value.none from r);rfl
 |bl b=>cases(show u=Value.bool b from r);rfl
 |int i=>obtain⟨t,e⟩:=(show ∃t,u=Value.int i t from r);cases e;rfl
 |str x=>obtain⟨t,e⟩:=(show ∃t,u=Value.str x t from r);cases e;rfl
 |byt b=>obtain⟨t,e⟩:=(show ∃t,u=Value.bytes b t from r);cases e;rfl
 |flt b=>obtain⟨t,e⟩:=(show ∃t,u=Value.float b t from r);cases e;rfl
 |ref a=>cases(show u=Value.ref a from r);rfl
 |ty n=>cases(show u=Value.type n from r);rfl
section
variable{P:Ni}{w:Nk}{H H':Hp}{h h':Nl}{a C dx:Nc}{fs fs':List (Str×V)}
def ins_get(hok:HOk P w H h)(e:H a=some (.ins C dx fs)):∃mA,ObjM h a dx C mA∧(∀f,RelO (fs.lookup f) (mA f))∧PySem.Within mA (fs.map (·.1))∧fs.length≤1000∧H dx=some (.own a):=by
 obtain⟨d,z,ne,ob,mA,n,r,q⟩:=(show zbi P w H h a (.ins C dx fs) from hok a _ e)
 exact⟨mA,⟨ob,n,ne⟩,r,q,z,d⟩
end
structure Cls(K:Na)(C:Nc):Prop where
 pg:PySem.W.plainGet K C Str.empty=true
 hd:PySem.W.hasDictIn K C=true
 po:PySem.W.plainOver K C=true
 sa:PySem.W.findIn K (.ref C) "__setattr__" = some (some (.builtin "object.__setattr__"))
def Cls.get{K:Na}{C:Nc}(c:Cls K C)(f:Str):PySem.W.plainGet K C f=true:=c.pg
def ze5(K:Na)(C:Nc)(f:Str):Prop:=PySem.W.findIn K (.ref C) f=some none
def ze5.taker{K:Na}{C:Nc}{f:Str}(n:ze5 K C f):PySem.W.takerIn K C f=some none:=by
 unfold PySem.W.takerIn
 rw[show PySem.W.findIn K (.ref C) f=some none from n]
 rfl
section
variable{X:Cx}{aa:Nd}{σ:St}{H:Hp}{s:Ng}{a C dx:Nc}{fs:List (Str×V)}{f:Str}{v:V}{A:Nm}{E:Nb}
def getattr_ok(I:Inv X aa σ H s)(e:H a=some (.ins C dx fs))(c:Cls X.K C)(n:ze5 X.K C f)(l:fs.lookup f=some v)(h:∀u s',Inv X aa σ H s'→RelV v u→Q u s'):wpAny (model X.prog X.w) A (getAttr (.ref a) f b) Q E s:=by
 obtain⟨mA,O,r,_,_,_⟩:=ins_get I.hok e
 obtain⟨u,hu,ru⟩:=RelO.some_of (v:=v) (o:=mA f) (by rw[←l];exact r f)
 exact get_map I.kIn O (c.get f) c.hd n hu (handed_of ru) (h u _ (I.tok _) ru)
def setattr_ok(I:Inv X aa σ H s)(e:H a=some (.ins C dx fs))(c:Cls X.K C)(n:ze5 X.K C f)(hl:fs.length<1000)(ry:RelV y u)(h:∀s',Inv X aa σ (upd H a (.ins C dx (putF f y fs))) s'→Q () s'):wpAny (model X.prog X.w) A (setAttr (.ref a) f u) Q E s:=by
 obtain⟨mA,O,r,wi,_,ho⟩:=ins_get I.hok e
 have hz:(fs.map (·.1)).length≤sizeLine:=by rw[Qa,sizeLine_eq];lia
 refine set_map I.kIn O c.sa c.po n.taker c.hd wi hz λh' O' sb=>h _ ?_
 have hd:∃o,h'.get? dx=some o:=let⟨o,_,_,e',_⟩:=O'.ns;⟨o,e'⟩
 refine I.write (x:=a) (e:=dx) (by rw[e];exact True.intro) (.inr ho) (λb q hb z=>(sb.2 b hb).trans z) hd ?_
 refine⟨by rw[zad O.ne];exact ho,?_,O.ne,O'.obj,_,O'.ns,λg=>?_,λg hg=>?_⟩
 ·have:=zfx f y fs;exact Zl ‹_› ‹_›
 ·show RelO ((putF f y fs).lookup g) (if g=f then some u else mA g)
  rw[zfv]
  by_cases q:g=f
  ·rw[if_pos q,if_pos q];exact ry
  ·rw[if_neg q,if_neg q];exact r g
 ·by_cases q:g=f
  ·rw[q];exact(zfy f y fs).1
  ·refine (zfy f y fs).2 g (wi g fun z=>hg ?_)
   show(if g=f then some u else mA g)=none
   rw[if_neg q];exact z
def Inv.made(I:Inv X aa σ H s):Inv X aa σ (upd (upd H s.heap.objs.size (.own (s.heap.objs.size+1))) (s.heap.objs.size+1) (.ins C s.heap.objs.size []))
  {s with heap:=(s.heap.push PySem.W.emptyDict).push (PySem.W.instObj C s.heap.objs.size)}:=by
 have e1:(s.heap.push PySem.W.emptyDict).get? s.heap.objs.size=some PySem.W.emptyDict:=Zd s.heap rfl
 have e2:((s.heap.push PySem.W.emptyDict).push (PySem.W.instObj C s.heap.objs.size)).get? (s.heap.objs.size+1)=some (PySem.W.instObj C s.heap.objs.size):=by
  have:=Zd (s.heap.push PySem.W.emptyDict) (o:=PySem.W.instObj C s.heap.objs.size) rfl
  rwa[Wq]at this
 have e3:(s.heap.push PySem.W.emptyDict).Ns s.heap.objs.size (λ_=>none):=⟨PySem.W.emptyDict,#[],_,e1,rfl,(λe he=>absurd he (by simp)),λ_=>rfl⟩
 have I1:=I.laid (a:=s.heap.objs.size) (o:=.own (s.heap.objs.size+1)) (h':=s.heap.push PySem.W.emptyDict) (t':=s.toks) (λb u q=>Qi _ q) (Qg _) ⟨_,e1⟩
 refine I1.laid (a:=s.heap.objs.size+1) (o:=.ins C s.heap.objs.size []) (t':=s.toks) (λb u q=>Qi _ q) (Nat.le_of_eq (Wq _ _)) ?_
 have ne:s.heap.objs.size≠s.heap.objs.size+1:=Zc (Yr _)
 refine⟨by rw[zad ne,zac],Zg _,ne,e2,λ_=>none,(Heap.Ns1.of_empty e3).at λo q=>Qi _ q,λ_=>True.intro,λy hy=>absurd rfl hy⟩
def attr_of(hb:attributeBase e f env (eval e env)=eval e env)(h:wpAny (model prog w) A (eval e env) (λo s₁=>wpAny (model prog w) A (getAttr o f true) Q E s₁) E s):wpAny (model prog w) A (eval (.Attribute e f pos) env) Q E s :=
 Attribute_any_ h (by rw[arm_eval_Attribute,hb])
end
inductive RFld(K:Na)(f:Str)(x:V)(H:Hp)(Q:VK):Prop
 |mk (a C dx:Nc) (fs:List (Str×V)) (v:V) (e:x=.ref a) (h:H a=some (.ins C dx fs)) (c:Cls K C) (n:ze5 K C f) (l:fs.lookup f=some v) (q:Q v H):RFld K f x H Q
def tFld(K:Na)(ta:TE)(f:Str):TE:=λ σ H Q=>ta σ H λx H1=>RFld K f x H1 Q
inductive RFs(K:Na)(f:Str)(x y:V)(H:Hp)(N:Hp→Prop):Prop
 |mk (a C dx:Nc) (fs:List (Str×V)) (e:x=.ref a) (h:H a=some (.ins C dx fs)) (c:Cls K C) (n:ze5 K C f) (l:fs.length<1000) (q:N (upd H a (.ins C dx (putF f y fs)))):RFs K f x y H N
def sFld(K:Na)(ta tv:TE)(f:Str):TS:=λD σ H=>tv σ H λy H1=>ta σ H1 λx H2=>RFs K f x y H2 (D.nx σ)
section
variable{X:Cx}{o e value:Expr}{f:Str}{pos aN tpos:Pos}{ta tv:TE}
def pe_fld(he:PE X e ta)(hb:attributeBase e f X.env (eval e X.env)=eval e X.env):PE X (.Attribute e f pos) (tFld X.K ta f):=by
 intro aa s σ H Q I h
 refine attr_of hb (thn (he aa s σ H _ I h) λu s1 ⟨x,H1,I1,rx,a,C,dx,fs,v,ex,ea,c,n,l,q⟩=>?_)
 subst ex
 obtain rfl:u=Value.ref a:=rx
 exact getattr_ok I1 ea c n l λu' s2 I2 ru=>⟨v,H1,I2,ru,q⟩
def ps_fld(ha:PE X o ta)(hv:PE X value tv)(hs:swapsWith value (some (.Attribute o f aN)) pos.line X.env=pure false):PS X (.Assign [.Attribute o f aN] value pos) (sFld X.K ta tv f):=by
 intro aa s σ H D I h
 refine plainObj_wpAny_Assign_Attribute (thn (hv aa s σ H _ I h) λu s1 ⟨y,H1,I1,ry,q⟩=>thn (ha aa s1 σ H1 _ I1 q) λov s2 ⟨x,H2,I2,rx,a,C,dx,fs,ex,ea,c,n,l,q2⟩=>?_) hs
 subst ex
 obtain rfl:ov=Value.ref a:=rx
 exact setattr_ok I2 ea c n l ry λs3 I3=>⟨σ,_,I3,q2⟩
end
section
variable{X:Cx}{aa:Nd}{σ:St}{H:Hp}{s:Ng}{A:Nm}{E:Nb}{Q:Nb}{c:Value}{b:Bool}
end
end L2
namespace L2
open PySem PySem.Spec PyProof.Rows
structure Room(k:Nat)(A:Nm):Prop where
 hd:A.handled=none
 dp:A.depth+3*k+5<recursionLimit
 un:A.units+16*k+200<cLine
def Room.mono(r:Room k A)(h:j≤k):Room j A:=⟨r.hd,by have:=r.dp;lia,by have:=r.un;lia⟩
def Room.deeper{k:Nat}{A:Nm}(r:Room (k+1) A)(env:Env):Room k (A.deeper env) :=
 ⟨r.hd,by have:=r.dp;show A.depth+1+3*k+5<_;lia,by have:=r.un;show A.units+3+16*k+200<_;lia⟩
def make_depth{A:Nm}:(A.under (.builtin "type.__call__" ⟨.ref C::us,kw⟩)).depth=A.depth+1:=by
 first | rfl | simp[Around.under,Code.weight,Code.isCreation,Code.isGuard,Code.isCaller,Code.frames,Code.isFrame,guardIds]
def make_units{A:Nm}:(A.under (.builtin "type.__call__" ⟨.ref C::us,kw⟩)).units=A.units+1:=by
 first | rfl | simp[Around.under,Code.cUnits,Code.frames,Code.isFrame]
def Room.make(r:Room (k+1) A)(C:Nc)(us:Nj)(kw:List (Str×Value)):Room k (A.under (.builtin "type.__call__" ⟨.ref C::us,kw⟩)) :=
 ⟨r.hd,by have:=r.dp;rw[make_depth];lia,by have:=r.un;rw[make_units];lia⟩
def Room.depth{k:Nat}{A:Nm}(r:Room k A):A.depth<recursionLimit:=by have:=r.dp;lia
def Room.units(r:Room k A):A.units+64<cLine:=by have:=r.un;lia
def tNil:TA:=λ_ H Q=>Q [] H
def tCons(ta:TE)(tr:TA):TA:=λ σ H Q=>ta σ H λx H1=>tr σ H1 λxs H2=>Q (x::xs) H2
section
variable{X:Cx}{e:Expr}{es:No}{te:TE}{t:TA}{pos:Pos}
def zaf:PA X [] tNil:=λ_ _ _ _ H Q I h=>Jp ⟨[],H,I,.nil,h⟩
def zaa(ha:PE X e te)(hr:PA X es t)(hs:starEach (e::es) X.env=(false,eval e X.env)::starEach es X.env:=by rfl):PA X (e::es) (tCons te t):=by
 intro pos aa s σ H Q I h
 rw[hs]
 show wpAny _ _ (spliced ((false,eval e X.env)::backTo pos (starEach es X.env))) _ _ s
 refine Ul (thn (ha aa s σ H _ I h) λu s1 ⟨x,H1,I1,r1,q1⟩=>?_)
 exact thn (hr pos aa s1 σ H1 _ I1 q1) λus s2 ⟨xs,H2,I2,r2,q2⟩=>⟨x::xs,H2,I2,.cons r1 r2,q2⟩
def tTup(t:TA):TE:=λ σ H Q=>t σ H λxs H1=>xs.length≤sizeLine∧∀p,H1 p=none→Q (.ref p) (upd H1 p (.tup xs))
def tLst(t:TA):TE:=λ σ H Q=>t σ H λxs H1=>xs.length≤sizeLine∧∀p,H1 p=none→Q (.ref p) (upd H1 p (.lst xs))
def zey{x1}(h:PA X es t):PE X (.Tuple es x1 pos) (tTup t):=by
 intro aa s σ H Q I hq
 refine wpAny_Tuple_spliced (thn (h pos aa s σ H _ I hq) λus s1 ⟨xs,H1,I1,r,z,q⟩=>⟨by rw[←r.length];exact z,?_⟩)
 have hf:H1 s1.heap.objs.size=none:=I1.hok.fresh (Qg _)
 refine⟨.ref s1.heap.objs.size,upd H1 s1.heap.objs.size (.tup xs),I1.laid (t':=s1.toks) (λb u e=>Qi _ e) (Qg _) ?_,rfl,q _ hf⟩
 exact⟨z,us,r,⟨_,Zd _ rfl,rfl,_,rfl⟩⟩
def za7(h:PA X es t):PE X (.List es pos) (tLst t):=by
 intro aa s σ H Q I hq
 refine wpAny_List_spliced (thn (h pos aa s σ H _ I hq) λus s1 ⟨xs,H1,I1,r,z,q⟩=>⟨by rw[←r.length];exact z,?_⟩)
 have hf:H1 s1.heap.objs.size=none:=I1.hok.fresh (Qg _)
 refine⟨.ref s1.heap.objs.size,upd H1 s1.heap.objs.size (.lst xs),I1.laid (t':=s1.toks) (λb u e=>Qi _ e) (Qg _) ?_,rfl,q _ hf⟩
 exact⟨z,us,0,r,Zd _ rfl⟩
end
abbrev Sp:=List V→Hp→VK→XK→Prop
abbrev CXT:=List Env→Hp→Shared→XK→Value→Shared→Prop
structure Env0(P:Ni)(w:Nk)(K:Na)(mg:Nf)(base:Nl)(A:Nm)(outer:List Env)(s:Ng)(H:Hp):Prop where
 frames:A.frames=some outer
 mod:Mod K mg base
 bs:∀b o,base.get? b=some o→s.heap.get? b=some o∧H b=none
 bsz:base.objs.size≤s.heap.objs.size
 funs:s.heap.FunFrames base outer
 frf:∀b∈frs outer,H b=none
 hok:HOk P w H s.heap
 bare:AllBare s.gens
inductive CE(outer:List Env)(P:Ni)(w:Nk)(H:Hp)(s:Ng)(Q:VK)(u:Value)(s':Ng):Prop
 |mk (v:_) (H':_) (h0:s'.os=s.os) (h1:AllBare s'.gens) (h2:Un (frs outer) [] H H' s.heap s'.heap) (h3:HOk P w H' s'.heap) (h4:RelV v u) (h5:Q v H'):CE outer P w H s Q u s'
def CR(CX:CXT)(outer:List Env)(P:Ni)(w:Nk)(H:Hp)(s:Ng)(Q:VK)(E:XK)(r:Result)(s':Ng):Prop :=
 match r with
 |.ok (.ret u)=>CE outer P w H s Q u s'
 |.ok _=>False
 |.error e=>CX outer H s E e s'
structure FnOk(P:Ni)(w:Nk)(K:Na)(mg:Nf)(base:Nl)(CX:CXT)(k:Nat)(f:Nc)(fd:Np)(ps:Nh)(sp:Sp):Prop where
 len:∀vs H Q E,sp vs H Q E→vs.length=ps.length
 run:∀(A:Nm) (outer:List Env) (s:Ng) (H:Hp) (args:Args) (us:Nj) (vs:List V) (Q:VK) (E:XK),Room k A→Env0 P w K mg base A outer s H→BindsTo s fd args (ps.zip us)→Vals vs us→sp vs H Q E →
  codeAny (model P w) A (.call (.ref f) args) (CR CX outer P w H s Q E) s
def FnOk.imp{P:Ni}{w:Nk}{K:Na}{mg:Nf}{base:Nl}{CX:CXT}{k:Nat}{f:Nc}{fd:Np}{ps:Nh}{sp sp':Sp}(F:FnOk P w K mg base CX k f fd ps sp)(h:∀vs H Q E,sp' vs H Q E→sp vs H Q E):FnOk P w K mg base CX k f fd ps sp' :=
 ⟨λvs H Q E q=>F.len vs H Q E (h _ _ _ _ q),λA outer s H args us vs Q E hr he hb hv hs=>F.run A outer s H args us vs Q E hr he hb hv (h _ _ _ _ hs)⟩
def Env0.make{P:Ni}{w:Nk}{K:Na}{mg:Nf}{base:Nl}{A:Nm}{outer:List Env}{s:Ng}{H:Hp}(e:Env0 P w K mg base A outer s H)(C:Nc)(us:Nj)(kw:List (Str×Value)) :
  Env0 P w K mg base (A.under (.builtin "type.__call__" ⟨.ref C::us,kw⟩)) outer s H:=⟨by first | exact e.frames | (simpa[Around.under,Code.envs,Code.isFrame,pushEnvs] using e.frames),e.mod,e.bs,e.bsz,e.funs,e.frf,e.hok,e.bare⟩
section
variable{X:Cx}{aa:Nd}{σ:St}{H:Hp}{s s':Ng}
def Inv.env0(I:Inv X aa σ H s):Env0 X.prog X.w X.K X.mg X.base X.A X.stack s H :=
 ⟨I.ok.frames,I.ok.mod,I.bs,Zl I.ok.bsz I.sz,I.stack,I.stkFree,I.hok,I.bare⟩
def Inv.after(I:Inv X aa σ H s)(h:CE X.stack X.prog X.w H s Q u s'):EP X aa σ Q u s':=by
 obtain⟨v,H',os,bare,un,hok,r,q⟩:=h
 obtain⟨hh,g,d,t,rT⟩:=s'
 obtain rfl:rT=s.os:=os
 exact⟨v,H',I.call (h':=hh) (g':=g) (d':=d) (t':=t) (ch:=[]) un hok bare (λb z=>absurd z (by simp)),r,q⟩
end
def tCall(sp:Sp)(dvs:List V)(E:XK)(t:TA):TE:=λ σ H Q=>t σ H λvs H1=>sp (vs++dvs) H1 Q E
def tMake(C:Nc)(sp:Sp)(dvs:List V)(E:XK)(t:TA):TE:=λ σ H Q=>t σ H λvs H1=>∀x dx,H1 x=none→H1 dx=none→dx≠x →
 sp (.ref x::(vs++dvs)) (upd (upd H1 dx (.own x)) x (.ins C dx [])) (λv H2=>v=.non∧Q (.ref x) H2) E
def Binds(K:Na)(fd:Np)(ps:Nh)(ds:Nj):Prop :=
 ∀(s:Ng) (us:Nj),K.In s.heap→(us++ds).length=ps.length→BindsTo s fd ⟨us,[]⟩ (ps.zip (us++ds))
def Binds.all{K:Na}{fd:Np}{ps:Nh}(h:∀us:List Value,us.length=ps.length→bindArgs fd ⟨us,[]⟩=pure (ps.zip us)):Binds K fd ps []:=λs us _ hl=>by
 rw[Zu]at hl ⊢
 exact .of_eq (h us hl)
def zg1(CX:CXT)(X:Cx)(E:XK):Prop:=∀(aa:Nd) (σ:St) (H:Hp) (s:Ng) (e:Value) (s':Ng),Inv X aa σ H s→CX X.stack H s E e s'→X.xe e s'
section
variable{X:Cx}{CX:CXT}{k:Nat}{f C:Nc}{fd:Np}{ps:Nh}{sp:Sp}{dvs:List V}{ds:Nj}{E:XK}{x m:Str}{p pos apos:Pos}{e o:Expr}{es:No}{ta:TE}{t:TA}
def run_fn(F:FnOk X.prog X.w X.K X.mg X.base CX k f fd ps sp)(hr:Room k X.A)(hb:Binds X.K fd ps ds)(hd:Vals dvs ds)(hx:zg1 CX X E)(I:Inv X aa σ H s)(r:Vals vs us)(h:sp (vs++dvs) H Q E):wpAny (model X.prog X.w) X.A (call (.ref f) us) (EP X aa σ Q) X.xe s:=by
 have r2:Vals (vs++dvs) (us++ds):=r.append hd
 have hl:(us++ds).length=ps.length:=by rw[←r2.length];exact F.len _ _ _ _ h
 refine wpAny_call (codeAny_mono (F.run X.A X.stack s H ⟨us,[]⟩ (us++ds) (vs++dvs) Q E hr I.env0 (hb s us I.kIn hl) r2 h) λr s' hq=>?_)
 cases r with
 |error e=>exact hx aa σ H s e s' I hq
 |ok fl =>
  cases fl with
  |ret u=>exact I.after hq
  |next=>exact False.elim hq
  |brk=>exact False.elim hq
  |cont=>exact False.elim hq
def zaj(F:FnOk X.prog X.w X.K X.mg X.base CX k f fd ps sp)(hr:Room k X.A)(hg:Gl X x)(hm:X.mg x=some (.ref f))(hk:PySem.W.keepIn X.K (.ref f)=true)(hb:Binds X.K fd ps ds)(hd:Vals dvs ds)(hx:zg1 CX X E)(ha:PA X (e::es) t)(cL:(x==("__debug__" : Str))=false:=by decide)(he:starEach (e::es) X.env=(false,eval e X.env)::starEach es X.env:=by rfl)(bw:(backTo pos (starEach es X.env)).any (·.1)=false:=by rfl) :
  PE X (.Call (.Name x p) (e::es) [] pos) (tCall sp dvs E t):=by
 intro aa s σ H Q I h
 refine wpAny_Call_Name_kw (zdy I hg hm ?_ cL)
 refine Jz (h₀:=X.base) I.ok.mod.kin hk (thn (ha pos aa s σ H _ I h) λus s1 ⟨vs,H1,I1,r,q⟩=>⟨I1.kIn,?_⟩) he bw
 exact run_fn F hr hb hd hx I1 r q
structure Mk(K:Na)(C f:Nc):Prop where
 makes:PySem.W.makesIn K C=true
 init:PySem.W.findIn K (.ref C) "__init__" = some (some (.ref f))
 fn:PySem.W.isFn K (.ref f)=true
 kp:PySem.W.keepIn K (.ref C)=true
def run_make(M:Mk X.K C f)(F:FnOk X.prog X.w X.K X.mg X.base CX k f fd ps sp)(hr:Room (k+1) X.A)(hb:Binds X.K fd ps ds)(hd:Vals dvs ds)(hx:zg1 CX X E)(I:Inv X aa σ H s)(r:Vals vs us)(h:∀x dx,H x=none→H dx=none→dx≠x→sp (.ref x::(vs++dvs)) (upd (upd H dx (.own x)) x (.ins C dx [])) (λv H2=>v=.non∧Q (.ref x) H2) E) :
  wpAny (model X.prog X.w) X.A (call (.ref C) us) (EP X aa σ Q) X.xe s:=by
 have hq:=h (s.heap.objs.size+1) s.heap.objs.size (I.hok.fresh (Ub _)) (I.hok.fresh (Qg _)) (Zc (Yr _))
 have I2:=Inv.made (C:=C) I
 have r2:Vals (V.ref (s.heap.objs.size+1)::(vs++dvs)) (Value.ref (s.heap.objs.size+1)::(us++ds)):=.cons rfl (r.append hd)
 have hl:(Value.ref (s.heap.objs.size+1)::us++ds).length=ps.length:=by
  have e:=r2.length
  rw[F.len _ _ _ _ hq]at e
  exact e.symm
 refine wpAny_call (make_map (f:=f) I.kIn M.makes M.init (beq_iff_eq.mp M.fn) (codeAny_mono (F.run _ X.stack _ _ ⟨Value.ref (s.heap.objs.size+1)::us,[]⟩ (Value.ref (s.heap.objs.size+1)::(us++ds)) _ _ E (hr.make C us [])
  (I2.env0.make C us []) (hb _ (Value.ref (s.heap.objs.size+1)::us) I2.kIn hl) r2 hq) λr s' hW=>?_))
 cases r with
 |error e=>exact hx aa σ _ _ e s' I2 hW
 | ok fl =>
  cases fl with
  |ret u =>
   obtain⟨v,H',I3,rv,ev,q3⟩:=I2.after hW
   subst ev
   exact⟨rv,⟨V.ref (s.heap.objs.size+1),H',I3,rfl,q3⟩⟩
  |next=>exact False.elim hW
  |brk=>exact False.elim hW
  |cont=>exact False.elim hW
def pe_make(M:Mk X.K C f)(F:FnOk X.prog X.w X.K X.mg X.base CX k f fd ps sp)(hr:Room (k+1) X.A)(hg:Gl X x)(hm:X.mg x=some (.ref C))(hb:Binds X.K fd ps ds)(hd:Vals dvs ds)(hx:zg1 CX X E)(ha:PA X (e::es) t)(cL:(x==("__debug__" : Str))=false:=by decide)(he:starEach (e::es) X.env=(false,eval e X.env)::starEach es X.env:=by rfl)(bw:(backTo pos (starEach es X.env)).any (·.1)=false:=by rfl) :
  PE X (.Call (.Name x p) (e::es) [] pos) (tMake C sp dvs E t):=by
 intro aa s σ H Q I h
 refine wpAny_Call_Name_kw (zdy I hg hm ?_ cL)
 refine Jz (h₀:=X.base) I.ok.mod.kin M.kp (thn (ha pos aa s σ H _ I h) λus s1 ⟨vs,H1,I1,r,q⟩=>⟨I1.kIn,?_⟩) he bw
 exact run_make M F hr hb hd hx I1 r q
end
section
variable{X:Cx}{CX:CXT}{k:Nat}{f C:Nc}{fd:Np}{ps ks:Nh}{sp:Sp}{E:XK}{x m:Str}{p pos apos kpos:Pos}{e o:Expr}{es:No}{kws:List Keyword}{te ta:TE}{t tk:TA}{nm:Option Str}
variable{g:List Value→List Value→List Value}{gV:List V→List V→List V}
end
structure zan(N P:Nh)(sc:Scope):Prop where
 kind:sc.kind=.function
 co:sc.isCoroutine=false
 gen:sc.isGenerator=false
 nd:N.Nodup
 pre:N.take P.length=P
 par:∀x∈P,sc.names.lookup x=some .local∨sc.names.lookup x=some .cell
 nofree:∀y∈sc.names,y.2≠.free
theorem bindL_out{kindOf:Str→Option NameKind}{x:Str}:∀{binds:List (Str×Value)} {m:Nf},(∀v,(x,v)∉binds)→bindL kindOf binds m x=m x
 |[],_,_=>rfl
 | (n,v)::r,m,h=>by
  unfold bindL
  rw[bindL_out λw hw=>h w (Qf _ hw)]
  split
  ·have:x≠n:=by rintro rfl;exact h v Qc
   simp[this]
  ·rfl
theorem bindC_out{kindOf:Str→Option NameKind}{x:Str}:∀{binds:List (Str×Value)} {m:Nf},(∀v,(x,v)∉binds)→bindC kindOf binds m x=m x
 |[],_,_=>rfl
 | (n,v)::r,m,h=>by
  unfold bindC
  rw[bindC_out λw hw=>h w (Qf _ hw)]
  split
  ·rfl
  ·have:x≠n:=by rintro rfl;exact h v Qc
   simp[this]
theorem bindL_get{kindOf:Str→Option NameKind}{x:Str}{v:Value}:∀{P:Nh} {vs:Nj} {i:Nat} {m:Nf},P.Nodup→P[i]?=some x→vs[i]?=some v→kindOf x=some .local →
  bindL kindOf (P.zip vs) m x=some v
 |[],_,_,_,_,h,_,_=>by simp at h
 |_::_,[],_,_,_,_,h,_=>by simp at h
 |p::P,w::vs,0,m,nd,h1,h2,hk=>by
  simp at h1 h2;subst h1;subst h2
  show bindL kindOf ((p,w)::P.zip vs) m p=_
  unfold bindL
  rw[bindL_out λv hv=>(Qs.mp nd).1 (Xb hv).1,if_pos hk]
  simp
 |p::P,w::vs,i+1,m,nd,h1,h2,hk=>by
  show bindL kindOf ((p,w)::P.zip vs) m x=_
  unfold bindL
  exact bindL_get (i:=i) (Qs.mp nd).2 (by simpa using h1) (by simpa using h2) hk
theorem bindC_get{kindOf:Str→Option NameKind}{x:Str}{v:Value}:∀{P:Nh} {vs:Nj} {i:Nat} {m:Nf},P.Nodup→P[i]?=some x→vs[i]?=some v→kindOf x≠some .local →
  bindC kindOf (P.zip vs) m x=some v
 |[],_,_,_,_,h,_,_=>by simp at h
 |_::_,[],_,_,_,_,h,_=>by simp at h
 |p::P,w::vs,0,m,nd,h1,h2,hk=>by
  simp at h1 h2;subst h1;subst h2
  show bindC kindOf ((p,w)::P.zip vs) m p=_
  unfold bindC
  rw[bindC_out λv hv=>(Qs.mp nd).1 (Xb hv).1,if_neg hk]
  simp
 |p::P,w::vs,i+1,m,nd,h1,h2,hk=>by
  show bindC kindOf ((p,w)::P.zip vs) m x=_
  unfold bindC
  exact bindC_get (i:=i) (Qs.mp nd).2 (by simpa using h1) (by simpa using h2) hk
def start(N:Nh)(vs:List V):St:=vs.map some++List.replicate (N.length-vs.length) none
def cxOf(CX:CXT)(P:Ni)(w:Nk)(K:Na)(mg:Nf)(base:Nl)(N:Nh)(qual:Str)(scope:Scope)(f:Nc)(cd:Value)(A:Nm)(outer:List Env)(s:Ng)(H:Hp)(E:XK):Cx where
 prog:=P
 w:=w
 K:=K
 mg:=mg
 base:=base
 A:=A.deeper (envOfC qual scope s.heap.objs.size f cd)
 N:=N
 s₀:=s
 H₀:=H
 env:=envOfC qual scope s.heap.objs.size f cd
 outer:=outer
 stack:=envOfC qual scope s.heap.objs.size f cd::outer
 ex:=[]
 calm:=true
 fn:=λ_=>true
 pn:=[]
 xe:=λe s'=>wpAny (model P w) (A.deeper (envOfC qual scope s.heap.objs.size f cd)) (leaving (envOfC qual scope s.heap.objs.size f cd) e) (λ_ mf=>CX outer H s E e mf) (λe' mf=>CX outer H s E e' mf) s'
def cell_has{sc:Scope}{n:Nat}{x:Str}(h:sc.names.lookup x=some .cell):∃c,(cellsFrom n sc.names []).lookup x=some c:=by
 have q:=Kz sc.names n [] (.inl h)
 exact Option.isSome_iff_exists.mp q
def inv_start{CX:CXT}{P:Ni}{w:Nk}{K:Na}{mg:Nf}{base:Nl}{N ps:Nh}{qual:Str}{scope:Scope}{f:Nc}{cd:Value}{A:Nm}{outer:List Env}{s s1:Ng}{H:Hp}{E:XK}{us:Nj}{vs:List V}(S:zan N ps scope)(hd:A.handled=none)(e0:Env0 P w K mg base A outer s H)(hl:vs.length=ps.length)(r:Vals vs us)(x:InCallC s s.heap.objs.size (bindL (envOfC qual scope s.heap.objs.size f cd).kindOf (ps.zip us) λ_=>none) (cellsFrom (s.heap.objs.size+1) scope.names []) (bindC (envOfC qual scope s.heap.objs.size f cd).kindOf (ps.zip us) λ_=>none) s1) :
  Inv (cxOf CX P w K mg base N qual scope f cd A outer s H E) [] (start N vs) H s1:=by
 have bw:ps.length≤N.length:=by have:=congrArg List.length S.pre;rw[Zh]at this;lia
 obtain⟨h1,tk,rfl,hk⟩:=x.done
 have noA:∀b:Addr,b∉(cxOf CX P w K mg base N qual scope f cd A outer s H E).ex:=λb z=>absurd (show b∈([]:List Addr) from z) (by simp)
 refine⟨⟨e0.mod,S.kind,rfl,rfl,Qg _,λy z c h1 h2=>?_,λy hy=>?_,λy c _ h=>?_,λ_=>hd,Around.frames_deeper e0.frames,.inr ⟨rfl,rfl⟩,λb z=>absurd z (noA b),e0.bs,e0.bsz,λb _ _=>noA b,λb z=>absurd z (noA b),e0.funs,e0.frf⟩,
  rfl,e0.bare,Un.kept hk,⟨_,x.toInCall.ns,λi y v h1 h2 h3=>?_⟩,λy c h=>⟨_,x.cell y c h⟩,e0.hok.fresh (Qg _),λy c h=>?_,λp hp=>absurd (show p∈([]:List (Addr×Obj)) from hp) (by simp),e0.hok.kept hk,?_⟩
 ·exact name_of_addr x.apart (Wf h1) (Wf h2)
 ·have hy:scope.names.lookup y=some .cell∨scope.names.lookup y=some .free:=hy
  rcases hy with hy | hy
  ·exact cell_has hy
  ·exact absurd rfl (S.nofree _ (Wf hy))
 ·exact Uc (x.above y c (Wf h))
 ·have hi:i < vs.length:=by
   unfold start at h2
   by_cases hi:i<vs.length
   ·exact hi
   ·rw [Uq (by simpa using hi)] at h2
    rw[List.getElem?_replicate]at h2
    split at h2<;>cases h2
  have ha:vs[i]?=some v:=by
   unfold start at h2
   rw[List.getElem?_append_left (by simpa using hi),Qq]at h2
   cases e:vs[i]? with
   |none=>rw[e]at h2;cases h2
   |some a=>rw[e]at h2;cases h2;rfl
  obtain⟨u,hu,rv⟩:=r.get ha
  have hp:ps[i]?=some y:=by
   rw[←S.pre,List.getElem?_take_of_lt (by exact zar7 ‹_› ‹_›)];exact h1
  have ndP:ps.Nodup:=by rw[←S.pre];exact S.nd.sublist (Jc _ _)
  refine⟨u,rv,?_⟩
  rcases S.par y (Yq hp) with k | k
  ·exact .inl ⟨k,bindL_get ndP hp hu k⟩
  ·obtain ⟨c,e⟩:=cell_has (n:=s.heap.objs.size+1) k
   refine .inr ⟨.inl k,c,e,?_⟩
   have q:=x.cell y c e
   rw[bindC_get ndP hp hu (by show scope.names.lookup y≠_;rw[k];decide)]at q
   exact q
 ·exact e0.hok.fresh (Uc (x.above y c (Wf h)))
 ·unfold start
  show _=N.length
  rw[Qt,Qa,Jh]
  lia
def fn_of{CX:CXT}{P:Ni}{w:Nk}{K:Na}{mg:Nf}{base:Nl}{k:Nat}{f:Nc}{name qual:Str}{params:Arguments}{body:List Stmt}{scope:Scope}{dV kV doc pm cdv ct oc:Value}{an od:Option Addr}{osl:Array (Option Value)}{N ps:Nh}{sp:Sp}(lk:K.lookup f=some ⟨oc,od,.func (PySem.W.fnOf name qual params body scope dV kV doc pm an cdv ct),osl⟩)(ar:PySem.W.codeIn K cdv qual=true)(S:zan N ps scope)(len:∀vs H Q E,sp vs H Q E→vs.length=ps.length)(aK:∀ (A:Nm) (outer:List Env) (s:Ng) (H:Hp) (vs:List V) (Q:VK) (E:XK),Room k (A.deeper (envOfC qual scope s.heap.objs.size f cdv))→sp vs H Q E →
   ∃t,PSs (cxOf CX P w K mg base N qual scope f cdv A outer s H E) body t∧t {nx:=λ_ H'=>Q .non H',rt:=Q} (start N vs) H) :
  FnOk P w K mg base CX (k+1) f (PySem.W.fnOf name qual params body scope dV kV doc pm an cdv ct) ps sp:=by
 refine⟨len,λA outer s H args us vs Q E hr e0 hb r aT=>?_⟩
 have hl:=len _ _ _ _ aT
 have KX:K.In s.heap:=e0.mod.kin.keeps λb o e=>(e0.bs b o e).1
 have lim:s.heap.NoLimit:=e0.mod.nolimit.keeps λb o e=>(e0.bs b o e).1
 have cq:∀y∈ps.zip us,scope.names.lookup y.1=some .local∨(scope.names.lookup y.1=some .cell∧((cellsFrom (s.heap.objs.size+1) scope.names []).lookup y.1).isSome=true):=λ⟨n,v⟩ hy=>by
  rcases S.par n (Xb hy).1 with q | q
  ·exact .inl q
  ·exact .inr ⟨q,Kz _ _ _ (.inl q)⟩
 refine codeAny_call_function hr.depth (KX _ _ lk) rfl S.co S.gen rfl (PySem.W.codeRec_of KX ar) (hb _ _ _ _ ?_)
 refine wpAny_newFunctionEnv_cells S.kind cq λenv he s1 x=>?_
 subst he
 refine⟨lim.keeps x.toInCall.keep,codeAny_func ?_⟩
 obtain⟨t,ht,hq⟩:=aK A outer s H vs Q E (hr.deeper _) aT
 have I:Inv (cxOf CX P w K mg base N qual scope f cdv A outer s H E) [] (start N vs) H s1:=inv_start S hr.hd e0 hl r x
 refine wpAny_mono (ht [] s1 (start N vs) H _ I hq) (λfl s' hs=>?_) λe s' hs=>hs
 have fin:∀{σ':St} {H':Hp} {v:V} {u:Value},Inv (cxOf CX P w K mg base N qual scope f cdv A outer s H E) [] σ' H' s'→RelV v u→Q v H'→CE outer P w H s Q u s' :=
  λ{σ' H' v u} J rv q=>⟨v,H',J.os,J.bare,J.base,J.hok,rv,q⟩
 cases fl with
 |ret u =>
  obtain⟨v,σ',H',J,rv,q⟩:=hs
  exact fin J rv q
 |next =>
  obtain⟨σ',H',J,q⟩:=hs
  exact fin (v:=V.non) (u:=Value.none) J rfl q
 |brk =>
  obtain⟨_,_,_,q⟩:=hs
  exact False.elim q
 |cont =>
  obtain⟨_,_,_,q⟩:=hs
  exact False.elim q
end L2
namespace L2
open PySem PySem.Spec PyProof.Rows
section
variable{X:Cx}{x:Str}{p pos:Pos}{e:Expr}{es:No}{t:TA}{id T:String}{r:List V→Hp→VK→Prop}
def tCB(r:List V→Hp→VK→Prop)(t:TA):TE:=λ σ H Q=>t σ H λvs H1=>r vs H1 Q
def zak(hc:zcc X (.builtin id) r)(hg:Gl X x)(hm:X.mg x=none)(hv:bootBuiltins x=some (.builtin id))(ha:PA X (e::es) t)(hn:x ≠ "__name__" := by decide)(cL:(x==("__debug__" : Str))=false:=by decide)(he:starEach (e::es) X.env=(false,eval e X.env)::starEach es X.env:=by rfl)(bw:(backTo pos (starEach es X.env)).any (·.1)=false:=by rfl):PE X (.Call (.Name x p) (e::es) [] pos) (tCB r t):=by
 intro aa s σ H Q I h
 refine wpAny_Call_Name_kw (zdo I hg hm hv ?_ hn cL)
 exact PyProof.Rows.callWith_builtin1 (thn (ha pos aa s σ H _ I h) λus s1 ⟨vs,H1,I1,r1,q1⟩=>hc aa s1 σ H1 vs us Q I1 r1 q1) he bw
def zb9(hc:zcc X (.type T) r)(hg:Gl X x)(hm:X.mg x=none)(hv:bootBuiltins x=some (.type T))(ha:PA X (e::es) t)(hn:x ≠ "__name__" := by decide)(cL:(x==("__debug__" : Str))=false:=by decide)(he:starEach (e::es) X.env=(false,eval e X.env)::starEach es X.env:=by rfl)(bw:(backTo pos (starEach es X.env)).any (·.1)=false:=by rfl):PE X (.Call (.Name x p) (e::es) [] pos) (tCB r t):=by
 intro aa s σ H Q I h
 refine wpAny_Call_Name_kw (zdo I hg hm hv ?_ hn cL)
 exact Yn (thn (ha pos aa s σ H _ I h) λus s1 ⟨vs,H1,I1,r1,q1⟩=>hc aa s1 σ H1 vs us Q I1 r1 q1) he bw
end
end L2
namespace L2
open PySem PySem.Spec PyProof.Rows
section
variable{κ:Type}[DecidableEq κ]
def valV(kvs:List (κ×V))(k:κ):Option V:=(kvs.find? λkv=>decide (kv.1=k)).map (·.2)
def putK(kvs:List (κ×V))(k:κ)(v:V):List (κ×V) :=
 if(kvs.any λkv=>decide (kv.1=k))=true then kvs.map (λkv=>if kv.1=k then(kv.1,v) else kv) else kvs++[(k,v)]
def zcd{p:κ×V}{r:List (κ×V)}{k:κ}(e:p.1=k):valV (p::r) k=some p.2:=by simp[valV,Uw,e]
def zbj{p:κ×V}{r:List (κ×V)}{k:κ}(e:¬p.1=k):valV (p::r) k=valV r k:=by simp[valV,Uw,e]
theorem zg4(k:κ):∀kvs:List (κ×V),(kvs.any λkv=>decide (kv.1=k))=(valV kvs k).isSome
 |[]=>rfl
 |p::r=>by
  rw[Kn]
  by_cases e:p.1=k
  ·simp only[zcd e,decide_eq_true e,Bool.true_or,Option.isSome_some]
  ·rw[zbj e,decide_eq_false e,Bool.false_or];exact zg4 k r
def zdx(kvs:List (κ×V))(k:κ)(v:V):(putK kvs k v).length≤kvs.length+1:=by
 unfold putK
 split
 ·rw[Qa];exact Yh _ _
 ·rw[Qt,Qx,Ui];exact Qg _
def zea{kvs:List (κ×V)}{k:κ}(v:V)(h:valV kvs k=none):putK kvs k v=kvs++[(k,v)]:=by
 unfold putK
 rw[zg4,h]
 exact if_neg (by decide)
def RelO.isSome_eq(r:RelO o u):o.isSome=u.isSome:=by
 cases o with
 |none=>cases u with
  |none=>rfl
  |some _=>exact(show False from r).elim
 |some _=>cases u with
  |none=>exact(show False from r).elim
  |some _=>rfl
def RelO.getD(r:RelO o u)(rd:RelV d d'):RelV (o.getD d) (u.getD d'):=by
 cases o with
 |none=>cases u with
  |none=>exact rd
  |some _=>exact(show False from r).elim
 |some _=>cases u with
  |none=>exact(show False from r).elim
  |some _=>exact r
def KV.val{kvs:List (κ×V)}{vs:List (κ×Value)}(r:KV kvs vs)(k:κ):RelO (valV kvs k) (valueAt vs k):=by
 unfold KV at r
 induction r with
 |nil=>exact True.intro
 | @cons p q ps qs h t ih =>
  obtain⟨h1,h2⟩:=h
  by_cases e:p.1=k
  ·have e':q.1=k:=h1.symm.trans e
   have b:valueAt (q::qs) k=some q.2:=by simp[valueAt,Uw,e']
   rw[zcd e,b];exact h2
  ·have e':¬ q.1=k:=fun z=>e (h1.trans z)
   have b:valueAt (q::qs) k=valueAt qs k:=by simp[valueAt,Uw,e']
   rw[zbj e,b];exact ih
def KV.any(r:KV kvs vs)(k:κ):(kvs.any λkv=>decide (kv.1=k))=vs.any λkv=>decide (kv.1=k):=by
 unfold KV at r
 induction r with
 |nil=>rfl
 |cons h t ih=>rw[Kn,Kn,ih,h.1]
def KV.repl(r:KV kvs vs)(k:κ)(ry:RelV y u) :
  KV (kvs.map λkv=>if kv.1=k then(kv.1,y) else kv) (vs.map λkv=>if kv.1=k then(kv.1,u) else kv):=by
 unfold KV at r ⊢
 induction r with
 |nil=>exact .nil
 |@cons p q ps qs h t ih =>
  rw[Ql,Ql]
  refine .cons ?_ ih
  obtain⟨h1,h2⟩:=h
  by_cases e:p.1=k
  ·rw[if_pos e,if_pos (h1.symm.trans e)];exact⟨h1,ry⟩
  ·rw[if_neg e,if_neg (λz=>e (h1.trans z))];exact⟨h1,h2⟩
def KV.put(r:KV kvs vs)(k:κ)(ry:RelV y u):KV (putK kvs k y) (stored vs k u):=by
 unfold putK stored
 rw[r.any k]
 by_cases e:(vs.any λkv=>decide (kv.1=k))=true
 ·rw[if_pos e,if_pos e];exact r.repl k ry
 ·rw[if_neg e,if_neg e];exact Paired.snoc r ⟨rfl,ry⟩
def KV.length{kvs:List (κ×V)}{vs:List (κ×Value)}(r:KV kvs vs):kvs.length=vs.length:=Yo r
end
def kV_is(r:RelV (kV k) u):(zar P w).is k u=true:=by
 cases k with
 |inl i=>obtain⟨t,e⟩:=(show ∃t,u=Value.int i t from r);subst e;exact mixKind_int P w i t
 |inr x=>obtain⟨t,e⟩:=(show ∃t,u=Value.str x t from r);subst e;exact zft P w x t
theorem items_are:∀{ks:List Key} {us:Nj},Vals (ks.map kV) us→ItemsAre (zar P w) ks us
 |[],_,r=>by rw[Je]at r;cases r;exact .nil
 |k::ks,_,r=>by
  rw[Ql]at r
  cases r with
  |cons h t=>exact .cons (kV_is h) (items_are t)
abbrev KT(H:Hp):List (List Key×V)→List (List Key×Addr×Value)→Prop:=Paired λp q=>p.1=q.1∧H q.2.1=some (.tup (p.1.map kV))∧RelV p.2 q.2.2
def KT.val{H:Hp}{kvs:List (List Key×V)}{xs:List (List Key×Addr×Value)}(r:KT H kvs xs)(k:List Key):RelO (valV kvs k) ((atKey xs k).map (·.2)):=by
 induction r with
 |nil=>exact True.intro
 | @cons p q ps qs h t ih =>
  obtain⟨h1,_,h2⟩:=h
  by_cases e:p.1=k
  ·have e':q.1=k:=h1.symm.trans e
   have b:atKey (q::qs) k=some q.2:=by simp[atKey,Uw,e']
   rw[zcd e,b];exact h2
  ·have e':¬ q.1=k:=fun z=>e (h1.trans z)
   have b:atKey (q::qs) k=atKey qs k:=by simp[atKey,Uw,e']
   rw[zbj e,b];exact ih
def KT.repl(r:KT H kvs xs)(k:List Key)(ry:RelV y u) :
  KT H (kvs.map λkv=>if kv.1=k then(kv.1,y) else kv) (xs.map (putAt k u)):=by
 induction r with
 |nil=>exact .nil
 |@cons p q ps qs h t ih =>
  rw[Ql,Ql]
  refine .cons ?_ ih
  obtain⟨h1,h2,h3⟩:=h
  unfold putAt
  by_cases e:p.1=k
  ·rw[if_pos e,if_pos (h1.symm.trans e)];exact⟨h1,h2,ry⟩
  ·rw[if_neg e,if_neg (λz=>e (h1.trans z))];exact⟨h1,h2,h3⟩
def KT.put(r:KT H kvs xs)(k:List Key)(hb:H b=some (.tup (k.map kV)))(ry:RelV y u) :
  KT H (putK kvs k y) (storedH xs k b u):=by
 have e:(kvs.any λkv=>decide (kv.1=k))=(atKey xs k).isSome:=by
  rw[zg4,(r.val k).isSome_eq,Option.isSome_map]
 unfold putK storedH
 rw[e]
 by_cases q:(atKey xs k).isSome=true
 ·rw[if_pos q,if_pos q];exact r.repl k ry
 ·rw[if_neg q,if_neg q];exact Paired.snoc r ⟨rfl,hb,ry⟩
def KT.keeps(r:KT H kvs xs)(ht:∀b ys,H b=some (.tup ys)→H' b=some (.tup ys)):KT H' kvs xs :=
 Paired.mapP r λ_ _ z=>⟨z.1,ht _ _ z.2.1,z.2.2⟩
section
variable{P:Ni}{w:Nk}{H:Hp}{h:Nl}{a:Nc}
def rd_of(ok:HOk P w H h)(e:Rd H a u):zbi P w H h a u:=e.ok ok
def dk_rd(ok:HOk P w H h)(e:Rd H a (.dK kvs)):kvs.length≤sizeLine∧(a==sysModules)=false∧∃vs,KV kvs vs∧h.DictOf (zar P w) a vs :=
 show zbi P w H h a (.dK kvs) from rd_of ok e
def dk_of(ok:HOk P w H h)(e:H a=some (.dK kvs)):kvs.length≤sizeLine∧(a==sysModules)=false∧∃vs,KV kvs vs∧h.DictOf (zar P w) a vs:=dk_rd ok (.inl e)
def zgu(ok:HOk P w H h)(e:H a=some (.tup (ks.map kV))):(tupleKind (zar P w)).is h ks a:=by
 obtain⟨_,ae,r,o,h1,h2,n,h3⟩:=(show zbi P w H h a (.tup (ks.map kV)) from ok a _ e)
 exact⟨o,ae.toArray,n,h1,h2,h3,by simpa using items_are r⟩
def dt_rd(ok:HOk P w H h)(e:Rd H a (.dT kvs)):kvs.length≤sizeLine∧(a == sysModules)=false ∧
  ∃xs,KT H kvs xs∧h.DictOfH (tupleKind (zar P w)) a xs:=by
 obtain⟨z,y,xs,r,o,es,ep,h1,h2,h3,h4,h5⟩:=(show zbi P w H h a (.dT kvs) from rd_of ok e)
 refine⟨z,y,xs,r,o,es,ep,h1,h2,h3,h4,λx hx=>?_,h5⟩
 have all:∀{l:List (List Key×V)} {m:List (List Key×Addr×Value)},KT H l m→∀x∈m,(tupleKind (zar P w)).is h x.1 x.2.1:=by
  intro l m q
  induction q with
  |nil=>intro x hx;exact nomatch hx
  | @cons p q ps qs hq t ih =>
   intro x hx
   rcases Qe.mp hx with e | hx
   ·subst e
    exact zgu ok (by rw[←hq.1];exact hq.2.1)
   ·exact ih x hx
 exact all r x hx
def dt_of(ok:HOk P w H h)(e:H a=some (.dT kvs)):kvs.length≤sizeLine∧(a==sysModules)=false ∧
  ∃xs,KT H kvs xs∧h.DictOfH (tupleKind (zar P w)) a xs:=dt_rd ok (.inl e)
end
def DGet(H:Hp)(a:Nc)(y:V)(r:Option V):Prop :=
 (∃kvs k,Rd H a (.dK kvs)∧y=kV k∧r=valV kvs k)∨∃kvs k b,Rd H a (.dT kvs)∧y=.ref b∧H b=some (.tup (k.map kV))∧r=valV kvs k
def DPut(H:Hp)(a:Nc)(y v:V)(H':Hp):Prop :=
 (∃kvs k,H a=some (.dK kvs)∧y=kV k∧kvs.length<sizeLine∧H'=upd H a (.dK (putK kvs k v))) ∨
 ∃kvs k b,H a=some (.dT kvs)∧y=.ref b∧H b=some (.tup (k.map kV))∧kvs.length<sizeLine∧H'=upd H a (.dT (putK kvs k v))
def DGet.k{H:Hp}{a:Nc}{kvs:List (Key×V)}{k:Key}(e:H a=some (.dK kvs)):DGet H a (kV k) (valV kvs k):=.inl ⟨kvs,k,.inl e,rfl,rfl⟩
def DGet.t{H:Hp}{a b:Nc}{kvs:List (List Key×V)}{k:List Key}(e:H a=some (.dT kvs))(eb:H b=some (.tup (k.map kV))):DGet H a (.ref b) (valV kvs k):=.inr ⟨kvs,k,b,.inl e,rfl,eb,rfl⟩
def DPut.k{H:Hp}{a:Nc}{kvs:List (Key×V)}{k:Key}{v:V}(e:H a=some (.dK kvs))(hl:kvs.length<sizeLine):DPut H a (kV k) v (upd H a (.dK (putK kvs k v))):=.inl ⟨kvs,k,e,rfl,hl,rfl⟩
def DPut.t{H:Hp}{a b:Nc}{kvs:List (List Key×V)}{k:List Key}{v:V}(e:H a=some (.dT kvs))(eb:H b=some (.tup (k.map kV)))(hl:kvs.length<sizeLine) :
  DPut H a (.ref b) v (upd H a (.dT (putK kvs k v))):=.inr ⟨kvs,k,b,e,rfl,eb,hl,rfl⟩
section
variable{X:Cx}{aa:Nd}{σ:St}{H:Hp}{s:Ng}{a:Nc}{y v:V}{u r:Value}{o:Option V}{A:Nm}{E:Nb}
def Inv.big(I:Inv X aa σ H s):sysModules<s.heap.objs.size:=by
 have h:mainGlobals<s.heap.objs.size:=(I.mod.glob.keeps I.bk).lt
 exact Wm (by decide) h
def d_getItem(hu:A.units+1<cLine)(I:Inv X aa σ H s)(g:DGet H a y (some v))(ry:RelV y u)(h:∀w' s',Inv X aa σ H s'→RelV v w'→Q w' s') :
  wpAny (model X.prog X.w) A (getItem (.ref a) u) Q E s:=by
 rcases g with⟨kvs,k,e,ey,l⟩ | ⟨kvs,k,b,e,ey,eb,l⟩
 ·subst ey
  obtain⟨z,hd,vs,rel,dd⟩:=dk_rd I.hok e
  obtain⟨w',hw,cG⟩:=RelO.some_of (v:=v) (o:=valueAt vs k) (by rw[l];exact rel.val k)
  exact wpAny_getItem_of (kV_is ry) dd.mapOf hw (h w' _ (I.tok _) cG)
 ·subst ey
  cases(show u=Value.ref b from ry)
  obtain⟨z,hd,xs,rel,dd⟩:=dt_rd I.hok e
  obtain⟨w',hw,cG⟩:=RelO.some_of (v:=v) (o:=(atKey xs k).map (·.2)) (by rw[l];exact rel.val k)
  obtain⟨p,hp,aB⟩:=Option.map_eq_some_iff.mp hw
  refine wpAny_getItem_heap (tupleKind_room_in1 hu) (zgu I.hok eb) dd hp ?_
  rw[aB]
  exact h w' _ (I.tok _) cG
def d_notIn(hu:A.units+1<cLine)(I:Inv X aa σ H s)(g:DGet H a y o)(ry:RelV y u)(h:∀s',Inv X aa σ H s'→Q (.bool (!o.isSome)) s') :
  wpAny (model X.prog X.w) A (compareOp .NotIn u (.ref a)) Q E s:=by
 rcases g with⟨kvs,k,e,ey,l⟩ | ⟨kvs,k,b,e,ey,eb,l⟩
 ·subst ey
  obtain⟨z,hd,vs,rel,dd⟩:=dk_rd I.hok e
  refine wpAny_notIn_of (kV_is ry) hd dd.mapOf ?_
  rw[←(rel.val k).isSome_eq,←l]
  exact h _ (I.tok _)
 ·subst ey
  cases(show u=Value.ref b from ry)
  obtain⟨z,hd,xs,rel,dd⟩:=dt_rd I.hok e
  refine wpAny_notIn_heap (tupleKind_room_in1 hu) (zgu I.hok eb) hd dd ?_
  have q:=(rel.val k).isSome_eq
  rw[Option.isSome_map]at q
  rw[←q,←l]
  exact h _ (I.tok _)
def d_write(I:Inv X aa σ H s)(mu:Mut (H a))(hs:Heap.SameBut a s.heap h')(he:∃q,h'.get? a=some q)(new:zbi X.prog X.w (upd H a ob) h' a ob) :
  Inv X aa σ (upd H a ob) {s with heap:=h',toks:=t'} :=
 I.write (x:=a) (e:=a) mu (.inl rfl) (λb q hb z=>(hs.2 b hb).trans z) he new
def dk_new(z:kvs.length≤sizeLine)(hd:(a==sysModules)=false)(rel:KV kvs vs)(dd:h'.DictOf (zar P w) a vs) :
  zbi P w H' h' a (.dK kvs):=⟨z,hd,vs,rel,dd⟩
def d_setItem(hu:A.units+1<cLine)(I:Inv X aa σ H s)(g:DPut H a y v H')(ry:RelV y u)(rv:RelV v r)(h:∀s',Inv X aa σ H' s'→Q () s') :
  wpAny (model X.prog X.w) A (setItem (.ref a) u r) Q E s:=by
 rcases g with⟨kvs,k,e,ey,l,eH⟩ | ⟨kvs,k,b,e,ey,eb,l,eH⟩
 ·subst ey eH
  obtain⟨z,hd,vs,rel,dd⟩:=dk_of I.hok e
  have hz:vs.length≤sizeLine:=by rw[←rel.length];exact z
  have hl:(putK kvs k v).length≤sizeLine:=by have:=zdx kvs k v;exact Zl ‹_› ‹_›
  refine wpAny_setItem_pairs (hsz:=hz) (kV_is ry) dd λh' l8 hs=>h _ ?_
  have he:∃q,h'.get? a=some q:=let⟨q,_,_,hq,_⟩:=l8;⟨q,hq⟩
  exact d_write I (by rw[e];exact True.intro) hs he (dk_new hl hd (rel.put k rv) l8)
 ·subst ey eH
  cases(show u=Value.ref b from ry)
  obtain⟨z,hd,xs,rel,dd⟩:=dt_of I.hok e
  have hz:xs.length≤sizeLine:=by rw[←Yo rel];exact z
  have hl:(putK kvs k v).length≤sizeLine:=by have:=zdx kvs k v;exact Zl ‹_› ‹_›
  refine wpAny_setItem_heap (hsz:=hz) (tupleKind_room_in1 hu) (zgu I.hok eb) dd λh' l8 hs=>h _ ?_
  obtain⟨q,es,ep,hq,h2,h3,h4,_,h5⟩:=l8
  refine d_write I (by rw[e];exact True.intro) hs ⟨q,hq⟩ ⟨hl,hd,_,(rel.put k eb rv).keeps λc ys ec=>?_,q,es,ep,hq,h2,h3,h4,h5⟩
  rw[zad (zax ec e (λz=>nomatch z))]
  exact ec
end
section
variable{X:Cx}{aa:Nd}{σ:St}{H:Hp}{s:Ng}{a:Nc}{kvs:List (Key×V)}{k:Key}{u:Value}{A:Nm}{E:Nb}
def d_len(I:Inv X aa σ H s)(e:Rd H a (.dK kvs))(h:∀t s',Inv X aa σ H s'→Q (.int kvs.length t) s'):wpAny (model X.prog X.w) A (call (.builtin "len") [.ref a]) Q E s:=by
 obtain⟨z,hd,vs,rel,dd⟩:=dk_rd I.hok e
 refine call_len_dict hd dd (by rw[←rel.length];rw[sizeLine_eq]at z;lia) ?_
 rw[←rel.length]
 exact h _ _ (I.tok _)
end
def NoSl(i:Expr):Prop:=∀ov iv,subscripted i false ov iv=operate [ov,iv] (getItem ov iv)
def subD_of{prog:Ni}{w:Nk}{A:Nm}{E:Nb}{s:Ng}{env:Env}{value slice:Expr}{pos:Pos}{T id:String}{Q:Nb}(hl:typeLookup (.type T) "__getitem__" = pure (some (.builtin id)))(hs:NoSl slice)(h:wpAny (model prog w) A (eval value env) (λo s₁=>wpAny (model prog w) A (eval slice env) (λi s₂=>s₂.TypeIs o T∧wpAny (model prog w) A (getItem o i) Q E s₂) E s₁) E s) :
  wpAny (model prog w) A (eval (.Subscript value slice pos) env) Q E s:=by
 refine Subscript_ (wpAny_mono h (λo s₁ h₁=>wpAny_mono h₁ (λi s₂ h₂=>?_) λ_ _ x=>x) λ_ _ x=>x)
 obtain⟨hT,h₂⟩:=h₂
 unfold subscriptTail
 refine wpAny_bind ?_
 rw[getitemInPython_of_ne hT.not_modules]
 refine wpAny_bind (wpAny_specialOf hT hl ?_)
 have fin:wpAny (model prog w) A (subscripted slice false o i) (λr s₃=>wpAny (model prog w) A (letTemporaryGo value o r >>= λ_=>pure r) Q E s₃) E s₂:=by
  rw[hs o i]
  exact wpAny_operating (wpAny_mono h₂ (λr s₃ h₃=>wpAny_bind (wpAny_letTemporaryGo (wpAny_pure h₃))) λ_ _ x=>x)
 first
  |exact wpAny_pure (wpAny_bind fin)
  |exact wpAny_bind (wpAny_pure (wpAny_bind fin))
  |exact wpAny_bind fin
def dict_typeIs(I:Inv X aa σ H s)(g:DGet H a y o):s.TypeIs (.ref a) "dict" := by
 rcases g with⟨kvs,k,e,_,_⟩ | ⟨kvs,k,b,e,_,_,_⟩
 ·obtain ⟨_,_,vs,_,dd⟩:=dk_rd I.hok e
  exact dd.typeIs
 ·obtain ⟨_,_,xs,_,dd⟩:=dt_rd I.hok e
  exact dd.typeIs
inductive RDG(x y:V)(H:Hp)(Q:VK):Prop
 |mk (a:Nc) (v:V) (e:x=.ref a) (g:DGet H a y (some v)) (q:Q v H):RDG x y H Q
inductive RDI(x y:V)(H:Hp)(R:Option V→Prop):Prop
 |mk (a:Nc) (o:Option V) (e:x=.ref a) (g:DGet H a y o) (q:R o):RDI x y H R
inductive RDP(x y v:V)(H:Hp)(N:Hp→Prop):Prop
 |mk (a:Nc) (H4:Hp) (e:x=.ref a) (p:DPut H a y v H4) (q:N H4):RDP x y v H N
def tDGet(td ty:TE):TE:=λ σ H Q=>td σ H λx H1=>ty σ H1 λy H2=>RDG x y H2 Q
def tDNotIn(ty td:TE):TE:=λ σ H Q=>ty σ H λy H1=>td σ H1 λx H2=>RDI x y H2 λo=>Q (.bl (!o.isSome)) H2
def sDPut(td ty tv:TE):TS:=λD σ H=>tv σ H λv H1=>td σ H1 λx H2=>ty σ H2 λy H3=>RDP x y v H3 (D.nx σ)
section
variable{X:Cx}{o i e value:Expr}{pos aN tpos:Pos}{td ty tv:TE}
def pe_dget(hu:X.A.units+1<cLine)(ho:PE X o td)(hi:PE X i ty)(hs:NoSl i):PE X (.Subscript o i pos) (tDGet td ty):=by
 intro aa s σ H Q I h
 refine subD_of PySem.F.slot_dict_getitem.lookup hs (thn (ho aa s σ H _ I h) λu s1 ⟨x,H1,I1,rx,q1⟩=>thn (hi aa s1 σ H1 _ I1 q1) λiv s2 ⟨y,H2,I2,ry,a,v,ex,g,q2⟩=>?_)
 subst ex
 obtain rfl:u=Value.ref a:=rx
 exact⟨dict_typeIs I2 g,d_getItem hu I2 g ry λw' s3 I3 cG=>⟨v,H2,I3,cG,q2⟩⟩
def zci(hu:X.A.units+1<cLine)(hi:PE X i ty)(ho:PE X o td):PC X .NotIn i o (tDNotIn ty td):=by
 intro aa s σ H Q I h
 refine thn (hi aa s σ H _ I h) λiv s1 ⟨y,H1,I1,ry,q1⟩=>thn (ho aa s1 σ H1 _ I1 q1) λu s2 ⟨x,H2,I2,rx,a,ov,ex,g,q2⟩=>?_
 subst ex
 obtain rfl:u=Value.ref a:=rx
 exact d_notIn hu I2 g ry λs3 I3=>⟨.bl (!ov.isSome),H2,I3,rfl,q2⟩
def zcv(hu:X.A.units+1<cLine)(ho:PE X o td)(hi:PE X i ty)(hv:PE X value tv)(hs:swapsWith value (some (.Subscript o i aN)) pos.line X.env=pure false) :
  PS X (.Assign [.Subscript o i aN] value pos) (sDPut td ty tv):=by
 intro aa s σ H D I h
 refine wpAny_Assign_Subscript (thn (hv aa s σ H _ I h) λr s1 ⟨v,H1,I1,rv,q1⟩=>thn (ho aa s1 σ H1 _ I1 q1) λu s2 ⟨x,H2,I2,rx,q2⟩=>thn (hi aa s2 σ H2 _ I2 q2) λiv s3 ⟨y,H3,I3,ry,a,H4,ex,g,q3⟩=>?_) hs
 subst ex
 obtain rfl:u=Value.ref a:=rx
 exact d_setItem hu I3 g ry rv λs4 I4=>⟨σ,H4,I4,q3⟩
end
def dk_empty(h:Nl)(hb:sysModules<h.objs.size):zbi P w H (h.push {cls:=.type "dict",data:=.dict #[]}) h.objs.size (.dK []) :=
 ⟨Zg _,beq_eq_false_iff_ne.mpr (Qu (Zc hb)),[],.nil,Heap.DictOf.new h⟩
def dt_empty(h:Nl)(hb:sysModules<h.objs.size):zbi P w H (h.push {cls:=.type "dict",data:=.dict #[]}) h.objs.size (.dT []) :=
 ⟨Zg _,beq_eq_false_iff_ne.mpr (Qu (Zc hb)),[],.nil,_,#[],0,Zd _ rfl,⟨rfl,rfl,rfl⟩,rfl,rfl,Zn⟩
def tDNewK:TE:=λ_ H Q=>∀p,H p=none→Q (.ref p) (upd H p (.dK []))
def tDNewT:TE:=λ_ H Q=>∀p,H p=none→Q (.ref p) (upd H p (.dT []))
section
variable{X:Cx}{pos:Pos}
def pe_dnewK:PE X (.Dict [] [] pos) tDNewK:=λaa s σ H Q I h =>
 wpAny_Dict_empty ⟨.ref s.heap.objs.size,_,I.laid (a:=s.heap.objs.size) (o:=.dK []) (t':=s.toks) (λ_ _ q=>Qi _ q) (Qg _) (dk_empty s.heap I.big),rfl,h _ (I.hok.fresh (Qg _))⟩
def pe_dnewT:PE X (.Dict [] [] pos) tDNewT:=λaa s σ H Q I h =>
 wpAny_Dict_empty ⟨.ref s.heap.objs.size,_,I.laid (a:=s.heap.objs.size) (o:=.dT []) (t':=s.toks) (λ_ _ q=>Qi _ q) (Qg _) (dt_empty s.heap I.big),rfl,h _ (I.hok.fresh (Qg _))⟩
end
def tPairs:List (TE×TE)→St→Hp→(List (V×V)→Hp→Prop)→Prop
 |[],_,H,Q=>Q [] H
 |(tk,tv)::r,σ,H,Q=>tk σ H λx H1=>tv σ H1 λy H2=>tPairs r σ H2 λps H3=>Q ((x,y)::ps) H3
abbrev VV:List (V×V)→List (Value×Value)→Prop:=Paired λp q=>RelV p.1 q.1∧RelV p.2 q.2
def PPs(X:Cx)(pos:Pos)(keys:List (Option Expr))(values:No)(trs:List (TE×TE)):Prop :=
 ∀(aa:Nd) (s:Ng) (σ:St) (H:Hp) (Q:List (V×V)→Hp→Prop),Inv X aa σ H s→tPairs trs σ H Q →
  wpAny (model X.prog X.w) X.A (evalPairs (pairTrees keys values X.env pos)) (λvs s'=>∃ps H',Inv X aa σ H' s'∧VV ps vs∧Q ps H') X.xe s
def zhn:PPs X pos [] [] []:=λaa s σ H Q I h=>pairTrees_nil_walk ⟨[],H,I,.nil,h⟩
def zeb(hk:PE X k tk)(hv:PE X v tv)(hr:PPs X pos ks vs trs) :
  PPs X pos (some k::ks) (v::vs) ((tk,tv)::trs):=λaa s σ H Q I h =>
 pairTrees_cons_walk (thn (hk aa s σ H _ I h) λu s1 ⟨x,H1,I1,rx,q1⟩=>thn (hv aa s1 σ H1 _ I1 q1) λw2 s2 ⟨y,H2,I2,ry,q2⟩ =>
  thn (hr aa s2 σ H2 _ I2 q2) λws s3 ⟨ps,H3,I3,rel,q3⟩=>⟨(x,y)::ps,H3,I3,.cons ⟨rx,ry⟩ rel,q3⟩)
def zco(kvs more:List (Key×V)):List (Key×V):=more.foldl (λao kv=>putK ao kv.1 kv.2) kvs
def KV.merge:∀{more:List (Key×V)} {rs:List (Key×Value)} {kvs:List (Key×V)} {vs:List (Key×Value)},KV more rs→KV kvs vs→KV (zco kvs more) (merged vs rs):=by
 intro more rs kvs vs r
 unfold KV at r
 induction r generalizing kvs vs with
 |nil=>intro q;exact q
 | @cons p q ps qs h t ih =>
  intro r0
  have e:KV (putK kvs p.1 p.2) (stored vs q.1 q.2):=by
   have:=r0.put p.1 h.2
   rw[←h.1];exact this
  exact ih e
theorem zeh:∀(more kvs:List (Key×V)),(zco kvs more).length≤kvs.length+more.length
 |[],kvs=>by show kvs.length≤kvs.length+0;exact Qg _
 |p::r,kvs=>by
  have h1:=zeh r (putK kvs p.1 p.2)
  have h2:=zdx kvs p.1 p.2
  show(zco (putK kvs p.1 p.2) r).length≤_
  rw[Qx];lia
theorem zgz:∀{kvs:List (Key×V)} {ws:List (Value×Value)},VV (kvs.map λkv=>(kV kv.1,kv.2)) ws→∃rs,Carries (zar P w) ws rs∧KV kvs rs
 |[],_,r=>by rw[Je]at r;cases r;exact⟨[],True.intro,.nil⟩
 | p::kvs,_,r=>by
  rw[Ql]at r
  cases r with
  |@cons a b as bs h t =>
   obtain⟨rs,c,q⟩:=zgz (P:=P) (w:=w) t
   obtain⟨b1,b2⟩:=b
   exact⟨(p.1,b2)::rs,⟨kV_is h.1,rfl,c⟩,.cons ⟨rfl,h.2⟩ q⟩
def tDisp(trs:List (TE×TE)):TE:=λ σ H Q=>∀p,H p=none→tPairs trs σ (upd H p (.dK [])) λps H2=>H2 p=some (.dK [])∧∃kvs:List (Key×V),ps=kvs.map (λkv=>(kV kv.1,kv.2))∧kvs.length≤15∧Q (.ref p) (upd H2 p (.dK (zco [] kvs)))
def zhq(h:PPs X pos keys values trs)(cN:keys.all (·.isSome)=true)(hl:keys.length=values.length)(h0:keys≠[])(h15:keys.length≤15):PE X (.Dict keys values pos) (tDisp trs):=by
 intro aa s σ H Q I q
 have hn:=I.hok.fresh (Qg s.heap.objs.size)
 have I1:=I.laid (a:=s.heap.objs.size) (o:=.dK []) (h':=s.heap.push {cls:=.type "dict",data:=.dict #[]}) (t':=s.toks) (λ_ _ q=>Qi _ q) (Qg _) (dk_empty s.heap I.big)
 refine wpAny_Dict_walk (knd:=zar X.prog X.w) cN hl h0 h15 (thn (h aa _ σ _ _ I1 (q _ hn)) λws s2 ⟨ps,H2,I2,rel,e,kvs,ep,lk,q2⟩=>?_)
 subst ep
 obtain⟨rs,c,rk⟩:=zgz (P:=X.prog) (w:=X.w) rel
 obtain⟨z,hd,vs0,r0,dd⟩:=dk_of I2.hok e
 cases r0
 refine⟨rs,c,dd,λh' l8 hs=>⟨.ref s.heap.objs.size,_,?_,rfl,q2⟩⟩
 have hz:(zco [] kvs).length≤sizeLine:=by
  have h1:=zeh kvs []
  rw[Ui]at h1
  rw[sizeLine_eq];lia
 have he:∃q,h'.get? s.heap.objs.size=some q:=let⟨q,_,_,hq,_⟩:=l8;⟨q,hq⟩
 exact d_write I2 (by rw[e];exact True.intro) hs he (dk_new hz hd (rk.merge .nil) l8)
structure M1(X:Cx)(o:Expr)(m:Str)(apos:Pos)(e:Expr)(cpos:Pos):Prop where
 base:attributeBase o m X.env (eval o X.env)=eval o X.env
 few:((backTo cpos (starEach [e] X.env)).all (λx=>!x.1)&&(backToKw cpos (keywordEach [] X.env)).all (λx=>x.1.isSome)
  && decide (([e]:List Expr).length+([]:List Keyword).length+(if([]:List Keyword).isEmpty then 0 else 1)<30))=true
 line:(apos.endLine==cpos.line)=true
 trees:backTo cpos (starEach [e] X.env)=[(false,eval e X.env)]
structure M2(X:Cx)(o:Expr)(m:Str)(apos:Pos)(e f:Expr)(cpos:Pos):Prop where
 base:attributeBase o m X.env (eval o X.env)=eval o X.env
 few:((backTo cpos (starEach [e,f] X.env)).all (λx=>!x.1)&&(backToKw cpos (keywordEach [] X.env)).all (λx=>x.1.isSome)
  && decide (([e,f]:List Expr).length+([]:List Keyword).length+(if([]:List Keyword).isEmpty then 0 else 1)<30))=true
 line:(apos.endLine==cpos.line)=true
 trees:backTo cpos (starEach [e,f] X.env)=[(false,eval e X.env),(false,eval f X.env)]
def IsD(H:Hp)(a:Nc):Prop:=(∃kvs,Rd H a (.dK kvs))∨∃kvs,Rd H a (.dT kvs)
def isD_at(I:Inv X aa σ H s)(d:IsD H a) :
  s.TypeIs (.ref a) "dict" ∧ (∀b,Value.ref a=.ref b→∃ob,s.heap.get? b=some ob∧ob.dict=none)∧(a==sysModules)=false:=by
 rcases d with⟨kvs,e⟩ | ⟨kvs,e⟩
 ·obtain ⟨_,hd,vs,_,dd⟩:=dk_rd I.hok e
  refine⟨dd.typeIs,λb q=>?_,hd⟩
  cases q
  obtain⟨ob,_,_,h1,h2,_⟩:=dd
  exact⟨ob,h1,h2.2.1⟩
 ·obtain ⟨_,hd,xs,_,dd⟩:=dt_rd I.hok e
  refine⟨dd.typeIs,λb q=>?_,hd⟩
  cases q
  obtain⟨ob,_,_,h1,h2,_⟩:=dd
  exact⟨ob,h1,h2.2.1⟩
section
variable{X:Cx}{aa:Nd}{σ:St}{H:Hp}{s:Ng}{a:Nc}{y d:V}{u r:Value}{o:Option V}{A:Nm}{E:Nb}
def d_get1(hu:A.units+1<cLine)(I:Inv X aa σ H s)(g:DGet H a y o)(ry:RelV y u)(h:∀w' s',Inv X aa σ H s'→RelV (o.getD .non) w'→Q w' s') :
  wpAny (model X.prog X.w) A (call (.builtin "dict.get") [.ref a,u]) Q E s:=by
 rcases g with⟨kvs,k,e,ey,l⟩ | ⟨kvs,k,b,e,ey,eb,l⟩
 ·subst ey
  obtain⟨z,hd,vs,rel,dd⟩:=dk_rd I.hok e
  refine call_meetsIn Wx dd.typeIs Jb (PySem.F.args_dict_get_2 _ _) (meets_dict_get (zar X.prog X.w) a (kV_is ry) hd) ⟨_,dd.mapOf,h _ _ (I.tok _) ?_⟩
  rw[l]
  exact(rel.val k).getD rfl
 ·subst ey
  cases(show u=Value.ref b from ry)
  obtain⟨z,hd,xs,rel,dd⟩:=dt_rd I.hok e
  refine call_meetsIn Wx dd.typeIs Jb (PySem.F.args_dict_get_2 _ _) (meetsH_dict_get (tupleKind (zar X.prog X.w)) a b hd) ⟨tupleKind_room_in1 hu,k,xs,zgu I.hok eb,dd,h _ _ (I.tok _) ?_⟩
  rw[l]
  exact(rel.val k).getD rfl
def d_get2(hu:A.units+1<cLine)(I:Inv X aa σ H s)(g:DGet H a y o)(ry:RelV y u)(rd:RelV d r)(h:∀w' s',Inv X aa σ H s'→RelV (o.getD d) w'→Q w' s') :
  wpAny (model X.prog X.w) A (call (.builtin "dict.get") [.ref a,u,r]) Q E s:=by
 rcases g with⟨kvs,k,e,ey,l⟩ | ⟨kvs,k,b,e,ey,eb,l⟩
 ·subst ey
  obtain⟨z,hd,vs,rel,dd⟩:=dk_rd I.hok e
  refine call_meetsIn Wx dd.typeIs Jb (PySem.F.args_dict_get_3 _ _ _) (meets_dict_get_default (zar X.prog X.w) a (kV_is ry) hd r) ⟨_,dd.mapOf,h _ _ (I.tok _) ?_⟩
  rw[l]
  exact(rel.val k).getD rd
 ·subst ey
  cases(show u=Value.ref b from ry)
  obtain⟨z,hd,xs,rel,dd⟩:=dt_rd I.hok e
  refine call_meetsIn Wx dd.typeIs Jb (PySem.F.args_dict_get_3 _ _ _) (meetsH_dict_get_default (tupleKind (zar X.prog X.w)) a b hd r) ⟨tupleKind_room_in1 hu,k,xs,zgu I.hok eb,dd,h _ _ (I.tok _) ?_⟩
  rw[l]
  exact(rel.val k).getD rd
end
def tDGet1(td ty:TE):TE:=λ σ H Q=>td σ H λx H1=>∃a,x=.ref a∧IsD H1 a∧ty σ H1 λy H2=>∃o,DGet H2 a y o∧Q (o.getD .non) H2
def tDGet2(td ty tx:TE):TE:=λ σ H Q=>td σ H λx H1=>∃a,x=.ref a∧IsD H1 a∧ty σ H1 λy H2=>tx σ H2 λz H3=>∃o,DGet H3 a y o∧Q (o.getD z) H3
section
variable{X:Cx}{o e f:Expr}{apos cpos:Pos}{td ty tx:TE}
def pe_dget1(hu:X.A.units+1<cLine)(ho:PE X o td)(he:PE X e ty)(m:M1 X o "get" apos e cpos):PE X (.Call (.Attribute o "get" apos) [e] [] cpos) (tDGet1 td ty):=by
 intro aa s σ H Q I h
 refine wpAny_Call_method m.base m.few m.line PySem.F.plainAttrs_dict Wx PySem.F.type_dict_get (thn (ho aa s σ H _ I h) λu s1 ⟨x,H1,I1,rx,a,ex,d,q1⟩=>?_)
 subst ex
 obtain rfl:u=Value.ref a:=rx
 obtain⟨t1,t2,_⟩:=isD_at I1 d
 refine⟨t1,t2,?_⟩
 rw[m.trees]
 refine Jq rfl (Kb (Ul (thn (he aa s1 σ H1 _ I1 q1) λiv s2 ⟨y,H2,I2,ry,ov,g,q2⟩=>Jp ?_)))
 exact d_get1 hu I2 g ry λw' s3 I3 cG=>⟨_,H2,I3,cG,q2⟩
def pe_dget2(hu:X.A.units+1<cLine)(ho:PE X o td)(he:PE X e ty)(hf:PE X f tx)(m:M2 X o "get" apos e f cpos):PE X (.Call (.Attribute o "get" apos) [e,f] [] cpos) (tDGet2 td ty tx):=by
 intro aa s σ H Q I h
 refine wpAny_Call_method m.base m.few m.line PySem.F.plainAttrs_dict Wx PySem.F.type_dict_get (thn (ho aa s σ H _ I h) λu s1 ⟨x,H1,I1,rx,a,ex,d,q1⟩=>?_)
 subst ex
 obtain rfl:u=Value.ref a:=rx
 obtain⟨t1,t2,_⟩:=isD_at I1 d
 refine⟨t1,t2,?_⟩
 rw[m.trees]
 refine Jq rfl (Kb (Ul (thn (he aa s1 σ H1 _ I1 q1) λiv s2 ⟨y,H2,I2,ry,q2⟩ =>
  Ul (thn (hf aa s2 σ H2 _ I2 q2) λfv s3 ⟨z,H3,I3,rz,ov,g,q3⟩=>Jp ?_))))
 exact d_get2 hu I3 g ry rz λw' s4 I4 cG=>⟨_,H3,I4,cG,q3⟩
end
section
variable{X:Cx}{aa:Nd}{σ:St}{H:Hp}{s:Ng}{a:Nc}{kvs:List (Key×V)}{A:Nm}{E:Nb}
end
section
variable{X:Cx}{aa:Nd}{σ:St}{H:Hp}{s:Ng}{a:Nc}{y:V}{u:Value}{A:Nm}{E:Nb}
end
end L2
namespace HT
open PySem PyProof.Rows
section
open PySem.SeqAt
open PySem.AutoSeq1 (wpAny_loadPart')
open PySem.MeetsSeq PySem.MeetsSeq2 PySem.MeetsSeq3
end
section
variable{prog:Ni}{w:Nk}{A:Nm}{E:Nb}{s:Ng}
def sIx(n d:Nat):Option Int→Nat
 |none=>d
 |some v=>if v<0 then(v+(n:Int)).toNat else min v.toNat n
def sIx_nat(n d k:Nat):sIx n d (some (k:Int))=min k n:=by
 show(if(k:Int)<0 then((k:Int)+(n:Int)).toNat else min (k:Int).toNat n)=min k n
 rw[if_neg (by lia),Uk]
end
end HT
namespace L2
open PySem PySem.Spec PyProof.Rows
abbrev TO:=St→Hp→(Option Int→Hp→Prop)→Prop
def PO(X:Cx)(e:Option Expr)(t:TO):Prop :=
 ∀(aa:Nd) (s:Ng) (σ:St) (H:Hp) (Q:Option Int→Hp→Prop),Inv X aa σ H s→t σ H Q →
  wpAny (model X.prog X.w) X.A (evalPart e X.env) (λu s'=>∃o H',Inv X aa σ H' s'∧IsPart u o∧Q o H') X.xe s
def tNoPart:TO:=λ_ H Q=>Q none H
inductive RPt(x:V)(R:Int→Prop):Prop
 |mk (i:Int) (e:x=.int i) (q:R i):RPt x R
def tPart(t:TE):TO:=λ σ H Q=>t σ H λx H1=>RPt x λi=>Q (some i) H1
section
variable{X:Cx}{e:Expr}{te:TE}{lo hi:Option Expr}{tl th:TO}{pos p2:Pos}
def zc8:PO X none tNoPart:=by
 intro aa s σ H Q I h
 rw[evalPart_none]
 exact wpAny_pure ⟨none,H,I,.none,h⟩
def zcp(h:PE X e te):PO X (some e) (tPart te):=by
 intro aa s σ H Q I hw
 rw[evalPart_some]
 refine thn (h aa s σ H _ I hw) λu s1 ⟨x,H1,I1,r1,q1⟩=>?_
 obtain⟨i,rfl,q⟩:=q1
 obtain⟨t,rfl⟩:=r1
 exact⟨some i,H1,I1,.int i t,q⟩
def SlR(X:Cx)(r:V→Option Int→Option Int→Hp→VK→Prop):Prop :=
 ∀(aa:Nd) (s:Ng) (σ:St) (H:Hp) (x:V) (v vl vu:Value) (lo hi:Option Int) (sl:Nc) (Q:VK),Inv X aa σ H s→RelV x v→s.heap.IsSliceOf sl vl vu .none→IsPart vl lo→IsPart vu hi→r x lo hi H Q →
  ∃T id,typeLookup (.type T) "__getitem__" = pure (some (.builtin id))∧s.TypeIs v T∧wpAny (model X.prog X.w) X.A (getItem v (.ref sl)) (EP X aa σ Q) X.xe s
def tSl(r:V→Option Int→Option Int→Hp→VK→Prop)(te:TE)(tl th:TO):TE:=λ σ H Q=>te σ H λx H1=>tl σ H1 λl H2=>th σ H2 λu H3=>r x l u H3 Q
def zce(hr:SlR X r)(he:PE X e te)(hl:PO X lo tl)(hu:PO X hi th):PE X (.Subscript e (.Slice lo hi none p2) pos) (tSl r te tl th):=by
 intro aa s σ H Q I h
 refine Subscript_ (thn (he aa s σ H _ I h) λv s1 ⟨x,H1,I1,r1,q1⟩=>?_)
 refine wpAny_Slice (thn (hl aa s1 σ H1 _ I1 q1) λvl s2 ⟨l,H2,I2,pl,q2⟩=>thn (hu aa s2 σ H2 _ I2 q2) λvu s3 ⟨u,H3,I3,pu,q3⟩=>?_)
 rw[evalPart_none]
 refine wpAny_pure ?_
 have I4:Inv X aa σ H3 {s3 with heap:=s3.heap.push {cls:=.type "slice",data:=.fields #[vl,vu,.none]}}:=I3.kept (t':=s3.toks) λb ob q=>Qi _ q
 obtain⟨T,id,hT,ht,hg⟩:=hr aa {s3 with heap:=s3.heap.push {cls:=.type "slice",data:=.fields #[vl,vu,.none]}} σ H3 x v vl vu l u s3.heap.objs.size Q I4 r1 (Heap.IsSliceOf.new ..) pl pu q3
 show wpAny (model X.prog X.w) X.A (subscriptTail e (.Slice lo hi none p2) v (.ref s3.heap.objs.size)) (EP X aa σ Q) X.xe {s3 with heap:=s3.heap.push {cls:=.type "slice",data:=.fields #[vl,vu,.none]}}
 exact tail_any (ops:=[.ref s3.heap.objs.size,v]) ht hT hg (by with_unfolding_all rfl)
def cutV(xs:List V)(lo hi:Option Int):List V:=(xs.drop (HT.sIx xs.length 0 lo)).take (HT.sIx xs.length xs.length hi-HT.sIx xs.length 0 lo)
def zbx(xs:List V)(lo hi:Option Int):(cutV xs lo hi).length≤xs.length:=by
 unfold cutV
 rw[Zh,Jj]
 lia
end
end L2
namespace L2
open PySem PySem.Spec PyProof.Rows
def ixN(n:Nat)(i:Int):Option Nat:=if 0≤i then(if i<n then some i.toNat else none) else if -(n:Int)≤i then some (i+n).toNat else none
def atI{α:Type}(xs:List α)(i:Int):Option α:=(ixN xs.length i).bind λj=>xs[j]?
def ixN_seq(h:ixN n i=some j):seqIndex? i n=some j∧j<n∧-(n:Int)≤i∧i<n:=by
 unfold ixN at h
 by_cases h0:0≤i
 ·rw [if_pos h0] at h
  by_cases h1:i<n
  ·rw [if_pos h1] at h
   have e:i.toNat=j:=Qk h
   exact⟨by rw[seqIndex_of h0 h1,e],by lia,by lia,h1⟩
  ·rw[if_neg h1]at h;cases h
 ·rw [if_neg h0] at h
  by_cases h1:-(n:Int)≤i
  ·rw [if_pos h1] at h
   have e:(i+n).toNat=j:=Qk h
   exact⟨by rw[seqIndex_neg (by lia) h1,e],by lia,h1,by lia⟩
  ·rw[if_neg h1]at h;cases h
def atI_get{α:Type}{xs:List α}{i:Int}{v:α}(h:atI xs i=some v):∃j,seqIndex? i xs.length=some j∧xs[j]?=some v∧j<xs.length∧-(xs.length:Int)≤i∧i<xs.length:=by
 unfold atI at h
 cases e:ixN xs.length i with
 |none=>rw[e]at h;cases h
 |some j =>
  rw[e]at h
  obtain⟨h1,h2,h3,h4⟩:=ixN_seq e
  exact⟨j,h1,h,h2,h3,h4⟩
def zap{α:Type}{xs:List α}{j:Nat}{v:α}(h:xs[j]?=some v):atI xs (j:Int)=some v:=by
 have hj:j<xs.length:=(Za.mp h).1
 have e:ixN xs.length (j:Int)=some j:=by
  unfold ixN
  rw[if_pos (by lia),if_pos (by exact zar9 ‹_›)];simp
 unfold atI;rw[e];exact h
def PlainIx(b:Expr):Prop:=∀o i,subscripted b false o i=operate [o,i] (getItem o i)
def IxR(X:Cx)(r:R2):Prop :=
 ∀(value slice:Expr) (aa:Nd) (s:Ng) (σ:St) (H:Hp) (x y:V) (v u:Value) (Q:VK),Inv X aa σ H s→RelV x v→RelV y u→r x y H Q →
  subscripted slice false v u=operate [v,u] (getItem v u)→wpAny (model X.prog X.w) X.A (subscriptTail value slice v u) (EP X aa σ Q) X.xe s
def MtR(X:Cx)(id:String)(r:V→List V→Hp→VK→Prop):Prop :=
 ∀(aa:Nd) (s:Ng) (σ:St) (H:Hp) (x:V) (xs:List V) (v:Value) (us:Nj) (Q:VK),Inv X aa σ H s→RelV x v→Vals xs us→r x xs H Q →
  wpAny (model X.prog X.w) X.A (call (.builtin id) (v::us)) (EP X aa σ Q) X.xe s
section
variable{X:Cx}{a b:Expr}{ta tb:TE}{pos:Pos}
def zaz(hr:IxR X r)(ha:PE X a ta)(hb:PE X b tb)(hs:PlainIx b):PE X (.Subscript a b pos) (tOp r ta tb):=by
 intro aa s σ H Q I h
 exact Subscript_ (binT ha hb I h λv u s2 x y H2 I2 rx ry q=>hr a b aa s2 σ H2 x y v u Q I2 rx ry q (hs _ _))
inductive RrIxL(K:Na)(x:V)(y:V)(H:Hp)(Q:VK):Prop
 |mk (p:_) (xs:_) (i:_) (v:_) (h0:x=.ref p) (h1:y=.int i) (h2:SqL K H p xs) (h3:atI xs i=some v) (h4:Q v H):RrIxL K x y H Q
def rIxL(K:Na):R2:=λx y H Q=>RrIxL K x y H Q
inductive RrIxT(K:Na)(x:V)(y:V)(H:Hp)(Q:VK):Prop
 |mk (p:_) (xs:_) (i:_) (v:_) (h0:x=.ref p) (h1:y=.int i) (h2:SqT K H p xs) (h3:atI xs i=some v) (h4:Q v H):RrIxT K x y H Q
def rIxT(K:Na):R2:=λx y H Q=>RrIxT K x y H Q
inductive RrIxS(x:V)(y:V)(H:Hp)(Q:VK):Prop
 |mk (z:_) (i:_) (c:_) (h0:x=.str z) (h1:y=.int i) (h2:z.length≤sizeLine) (h3:atI z.cps.toList i=some c) (h4:Q (.str ⟨#[c]⟩) H):RrIxS  x y H Q
def rIxS:R2:=λx y H Q=>RrIxS  x y H Q
def zao:IxR X (rIxL X.K):=by
 intro value slice aa s σ H x y v u Q I rx ry h hs
 obtain⟨p,xs,i,z,rfl,rfl,hq,he,q⟩:=h
 cases rx
 obtain⟨t,rfl⟩:=ry
 obtain⟨ae,r,pl,hz⟩:=I.list hq
 obtain⟨j,h1,h2,h3,h4,h5⟩:=atI_get he
 obtain⟨w,ew,cG⟩:=r.get h2
 have hl:=r.length
 have hn:=zeg
 have fin:EP X aa σ Q w s:=⟨z,H,I,cG,q⟩
 by_cases h0:0≤i
 ·have hj:i.toNat=j:=by
   rw[seqIndex_of h0 h5]at h1
   exact Qk h1
  exact item_listR pl.isList h0 (by lia) (by rw[hj];simpa using ew) fin hs
 ·have hj:(i+(ae.toArray.size:Int)).toNat=j:=by
   rw[seqIndex_neg (by lia) h4]at h1
   rw[Qv,←hl]
   exact Qk h1
  exact subscriptTail_builtinR (x:=w) pl.isList.typeIs slot_list_getitem.lookup
   (wpAny_getItem_list_neg (Q:=λr s'=>r=w∧EP X aa σ Q r s') pl.isList (by lia) (by rw[Qv]<;>lia) (by lia) (by rw[hj];simpa using ew) ⟨rfl,fin⟩) hs
def zca:IxR X (rIxT X.K):=by
 intro value slice aa s σ H x y v u Q I rx ry h hs
 obtain⟨p,xs,i,z,rfl,rfl,hq,he,q⟩:=h
 cases rx
 obtain⟨t,rfl⟩:=ry
 obtain⟨ae,r,pl,hz⟩:=I.tuple hq
 obtain⟨j,h1,h2,h3,h4,h5⟩:=atI_get he
 obtain⟨w,ew,cG⟩:=r.get h2
 have hl:=r.length
 have hn:=zeg
 have fin:EP X aa σ Q w s:=⟨z,H,I,cG,q⟩
 exact subscriptTail_builtinR (x:=w) pl.typeIs slot_tuple_getitem.lookup
  (getItem_tuple (j:=j) (Q:=λr s'=>r=w∧EP X aa σ Q r s') pl (by lia) (by lia) (by rw[Qv,←hl];exact h1) (by simpa using ew) ⟨rfl,fin⟩) hs
def ix_str:IxR X rIxS:=by
 intro value slice aa s σ H x y v u Q I rx ry h hs
 obtain⟨z,i,c,rfl,rfl,hz,he,q⟩:=h
 obtain⟨t,rfl⟩:=rx
 obtain⟨t',rfl⟩:=ry
 obtain⟨j,h1,h2,h3,h4,h5⟩:=atI_get he
 have hl:z.cps.toList.length=z.length:=by simp[Str.length]
 rw[hl]at h1 h4 h5
 have hn:=zeg
 exact tail_any (typeIs_str s z t) slot_str_getitem.lookup (getItem_str (c:=c) (by
  have e1:decide (i < -(2 ^ 63:Int))=false:=decide_eq_false (by lia)
  have e2:decide (i≥2 ^ 63)=false:=decide_eq_false (by lia)
  rw[e1,e2,Bool.or_false]) (by rw[h1];simpa using h2) ⟨.str ⟨#[c]⟩,H,I.tok _,⟨_,rfl⟩,q⟩) hs
def mapSeq_set(ae:Nj)(n j:Nat)(u:Value):Obj.mapSeq (·.setIfInBounds j u) {cls:=.type "list",data:=.seq ae.toArray n}={cls:=.type "list",data:=.seq (ae.set j u).toArray n}:=by
 simp[Obj.mapSeq]
def Inv.lst{aa:Nd}{σ:St}{H:Hp}{s:Ng}{p:Nc}{xs:List V}(I:Inv X aa σ H s)(h:H p=some (.lst xs)) :
  ∃(ae:Nj) (n:Nat),Vals xs ae∧s.heap.get? p=some {cls:=.type "list",data:=.seq ae.toArray n}∧xs.length≤sizeLine:=by
 obtain⟨z,ae,n,r,e⟩:=I.hok p _ h
 exact⟨ae,n,r,e,z⟩
def Inv.lstUpd{s:Ng}{xs ys:List V}{ae its':Nj}{n n':Nat}{f:Obj→Obj}(I:Inv X aa σ H s)(h:H p=some (.lst xs))(ho:s.heap.get? p=some {cls:=.type "list",data:=.seq ae.toArray n})(hf:f {cls:=.type "list",data:=.seq ae.toArray n}={cls:=.type "list",data:=.seq its'.toArray n'})(r:Vals ys its')(hz:ys.length≤sizeLine)(t:Nat) :
  Inv X aa σ (upd H p (.lst ys)) {s with heap:=s.heap.update p f,toks:=t}:=by
 have e:(s.heap.update p f).get? p=some {cls:=.type "list",data:=.seq its'.toArray n'}:=by
  rw[Jx f ho (by rw[hf]<;>rfl),hf]
 refine I.write (x:=p) (e:=p) (by rw[h];trivial) (.inl rfl) (λb u hb q=>(Ua _ _ (Qu hb)).trans q) ⟨_,e⟩ ?_
 exact⟨hz,its',n',r,e⟩
inductive RrSetL(o:V)(i:V)(v:V)(H:Hp)(Q:Hp→Prop):Prop
 |mk (p:_) (xs:_) (k:_) (j:_) (h0:o=.ref p) (h1:i=.int k) (h2:H p=some (.lst xs)) (h3:ixN xs.length k=some j) (h4:Q (upd H p (.lst (xs.set j v)))):RrSetL  o i v H Q
def rSetL:V→V→V→Hp→(Hp→Prop)→Prop:=λo i v H Q=>RrSetL  o i v H Q
def set_list:PSet X rSetL:=by
 intro aa s σ H o i v ov iv u Q I ro ri rv h
 obtain⟨p,xs,k,j,rfl,rfl,hp,hj,q⟩:=h
 cases ro
 obtain⟨t,rfl⟩:=ri
 obtain⟨ae,n,r,ho,hz⟩:=I.lst hp
 obtain⟨h1,h2,h3,h4⟩:=ixN_seq hj
 have hl:=r.length
 have hn:=zeg
 have I':Inv X aa σ (upd H p (.lst (xs.set j v))) {s with heap:=s.heap.update p (Obj.mapSeq (·.setIfInBounds j u))} :=
  I.lstUpd hp ho (mapSeq_set ae n j u) (r.set rv j) (by rw[List.length_set];exact hz) s.toks
 by_cases h0:0≤k
 ·have hk:k.toNat=j:=by
   rw[seqIndex_of h0 h4]at h1
   exact Qk h1
  exact PySem.W.ki_setAt ho h0 (by lia) (by rw[Qv,←hl];exact h4) (by rw[hk];exact⟨_,I',q⟩)
 ·have hk:(k+(ae.toArray.size:Int)).toNat=j:=by
   rw[seqIndex_neg (by lia) h3]at h1
   rw[Qv,←hl]
   exact Qk h1
  exact PySem.W.ki_setBack ho (by lia) (by rw[Qv,←hl];exact h3) (by lia) (by rw[hk];exact⟨_,I',q⟩)
def slice_bounds(lo hi:Option Int)(n:Nat):(sliceBounds lo hi none n).1=((HT.sIx n 0 lo:Nat):Int)∧(sliceBounds lo hi none n).2.1=((HT.sIx n n hi:Nat):Int)∧(sliceBounds lo hi none n).2.2=1:=by
 refine⟨?_,?_,rfl⟩
 ·cases lo with
  |none=>simp[sliceBounds,HT.sIx]
  |some i =>
   simp only[sliceBounds,HT.sIx,Option.getD_none,show(1:Int)>0 by decide,if_true]
   by_cases h:i<0
   ·simp only[h,if_true]<;>lia
   ·simp only[h,if_false]<;>lia
 ·cases hi with
  |none=>simp[sliceBounds,HT.sIx]
  |some i =>
   simp only[sliceBounds,HT.sIx,Option.getD_none,show(1:Int)>0 by decide,if_true]
   by_cases h:i<0
   ·simp only[h,if_true]<;>lia
   ·simp only[h,if_false]<;>lia
def zhb(ae:Nj)(lo hi:Option Int):slicePick ae.toArray lo hi none=((ae.drop (HT.sIx ae.length 0 lo)).take (HT.sIx ae.length ae.length hi-HT.sIx ae.length 0 lo)).toArray:=by
 obtain⟨h1,h2,h3⟩:=slice_bounds lo hi ae.toArray.size
 unfold slicePick
 rw[h1,h2,h3]
 simp only[sliceRange_one,pick_run,Qv]<;>rfl
inductive RrSlL(K:Na)(x:V)(lo:Option Int)(hi:Option Int)(H:Hp)(Q:VK):Prop
 |mk (a:_) (xs:_) (h0:x=.ref a) (h1:SqL K H a xs) (h2:∀p,H p=none→Q (.ref p) (upd H p (.lst (cutV xs lo hi)))):RrSlL K x lo hi H Q
def rSlL(K:Na):V→Option Int→Option Int→Hp→VK→Prop:=λx lo hi H Q=>RrSlL K x lo hi H Q
def zc5:SlR X (rSlL X.K):=by
 intro aa s σ H x v vl vu lo hi sl Q I rx hs pl pu h
 obtain⟨a,xs,rfl,hx,q⟩:=h
 cases rx
 obtain⟨ae,r,ht,hz⟩:=I.list hx
 have ah:=r.length
 refine⟨"list",_,slot_list_getitem.lookup,ht.isList.typeIs,?_⟩
 refine wpAny_getItem_list_slice ht.isList hs pl pu .none (by simp) ?_ (by rw[Qv]<;>exact zdp ‹_› ‹_›)
 rw[zhb,←ah]
 refine⟨.ref s.heap.objs.size,_,I.laid (t':=s.toks) (o:=.lst (cutV xs lo hi)) (λb ob q=>Qi _ q) (Qg _) ?_,rfl,q _ (I.hok.fresh (Qg _))⟩
 exact⟨Zl (zbx xs lo hi) hz,_,0,(r.drop (HT.sIx xs.length 0 lo)).take (HT.sIx xs.length xs.length hi-HT.sIx xs.length 0 lo),Zd _ rfl⟩
def zdk:V→Bool
 |.non=>true
 |.bl _=>true
 |.int _=>true
 |.str _=>true
 |_=>false
def eqV:V→V→Bool
 |.non,.non=>true
 |.bl a,.bl b=>a==b
 |.bl a,.int b=>(if a then 1 else 0)==b
 |.int a,.bl b=>a==(if b then 1 else 0)
 |.int a,.int b=>a==b
 |.str a,.str b=>a==b
 |_,_=>false
def eqAt_V(ry:RelV y u)(rx:RelV x v)(fy:zdk y=true)(fx:zdk x=true):SeqAt.EqAt A s u v (eqV y x):=by
 cases y with
 |non =>
  cases ry
  cases x with
  |non=>cases rx;exact SeqAt.EqAt.same _
  |bl b=>cases rx;exact SeqAt.EqAt.none_bool b
  |int b=>obtain⟨t,rfl⟩:=rx;exact SeqAt.EqAt.none_int b t
  |str b=>obtain⟨t,rfl⟩:=rx;exact SeqAt.EqAt.none_str b t
  |_=>exact absurd (show false=true from fx) Zf
 |bl a =>
  cases ry
  cases x with
  |non=>cases rx;exact SeqAt.EqAt.bool_none a
  |bl b=>cases rx;exact SeqAt.EqAt.bool_bool a b
  |int b=>obtain⟨t,rfl⟩:=rx;exact SeqAt.EqAt.bool_int a b t
  |str b=>obtain⟨t,rfl⟩:=rx;exact SeqAt.EqAt.bool_str a b t
  |_=>exact absurd (show false=true from fx) Zf
 |int a =>
  obtain⟨t',rfl⟩:=ry
  cases x with
  |non=>cases rx;exact SeqAt.EqAt.int_none a t'
  |bl b=>cases rx;exact SeqAt.EqAt.int_bool a t' b
  |int b=>obtain⟨t,rfl⟩:=rx;exact SeqAt.EqAt.int_int a t' b t
  |str b=>obtain⟨t,rfl⟩:=rx;exact SeqAt.EqAt.int_str a t' b t
  |_=>exact absurd (show false=true from fx) Zf
 |str a =>
  obtain⟨t',rfl⟩:=ry
  cases x with
  |non=>cases rx;exact SeqAt.EqAt.str_none a t'
  |bl b=>cases rx;exact SeqAt.EqAt.str_bool a t' b
  |int b=>obtain⟨t,rfl⟩:=rx;exact SeqAt.EqAt.str_int a t' b t
  |str b=>obtain⟨t,rfl⟩:=rx;exact SeqAt.EqAt.str_str a t' b t
  |_=>exact absurd (show false=true from fx) Zf
 |_=>exact absurd (show false=true from fy) Zf
def eqU(x:V)(u:Value):Bool:=match u with
 |.none=>eqV .non x
 |.bool b=>eqV (.bl b) x
 |.int i _=>eqV (.int i) x
 |.str z _=>eqV (.str z) x
 |_=>false
def eqU_of(r:RelV y u)(f:zdk y=true):eqU x u=eqV y x:=by
 cases y with
 |non=>cases r;rfl
 |bl b=>cases r;rfl
 |int i=>obtain⟨t,rfl⟩:=r;rfl
 |str z=>obtain⟨t,rfl⟩:=r;rfl
 |_=>exact absurd (show false=true from f) Zf
theorem zf8:∀{xs:List V} {us:Nj},Vals xs us→xs.all zdk=true→us.any (eqU x)=xs.any λy=>eqV y x
 |_,_,.nil,_=>rfl
 |y::xs,u::us,.cons r t,f=>by
  rw[List.all_cons,Jk]at f
  rw[Kn,Kn,eqU_of r f.1,zf8 t f.2]
theorem zdi(rx:RelV x v)(fx:zdk x=true):∀{xs:List V} {us:Nj},Vals xs us→xs.all zdk=true→∀u∈us,SeqAt.EqAt A s u v (eqU x u)
 |_,_,.nil,_=>λu hu=>by cases hu
 |y::xs,u::us,.cons r t,f=>λu' hu=>by
  rw[List.all_cons,Jk]at f
  rcases Qe.mp hu with rfl | hu
  ·rw[eqU_of r f.1];exact eqAt_V r rx f.1 fx
  ·exact zdi rx fx t f.2 u' hu
def inV(x:V)(xs:List V):Bool:=xs.any λy=>eqV y x
inductive RrIn(K:Na)(neg:Bool)(x:V)(y:V)(H:Hp)(Q:VK):Prop
 |mk (p:_) (xs:_) (h0:y=.ref p) (h1:(SqL K H p xs∨SqT K H p xs)) (h2:zdk x=true) (h3:xs.all zdk=true) (h4:Q (.bl (if neg then !inV x xs else inV x xs)) H):RrIn K neg x y H Q
def rIn(K:Na)(neg:Bool):R2:=λx y H Q=>RrIn K neg x y H Q
def op_in_seq:OpR X (compareOp .In) (rIn X.K false):=by
 intro aa s σ H x y v u Q I rx ry h
 obtain⟨p,xs,rfl,hq,fx,fs,q⟩:=h
 cases ry
 rcases hq with hq | hq
 ·obtain ⟨ae,r,pl,hz⟩:=I.list hq
  refine SeqAt.in_listAt (eqU x) pl.isList (λw hw=>zdi rx fx r fs w (by simpa using hw)) ⟨.bl _,H,I,rfl,?_⟩
  rw[show ae.toArray.any (eqU x)=ae.any (eqU x) by simp,zf8 r fs]
  exact q
 ·obtain ⟨ae,r,pl,hz⟩:=I.tuple hq
  refine SeqAt.in_tupleAt (eqU x) pl (λw hw=>zdi rx fx r fs w (by simpa using hw)) ⟨.bl _,H,I,rfl,?_⟩
  rw[show ae.toArray.any (eqU x)=ae.any (eqU x) by simp,zf8 r fs]
  exact q
def zcn:OpR X (compareOp .NotIn) (rIn X.K true):=by
 intro aa s σ H x y v u Q I rx ry h
 obtain⟨p,xs,rfl,hq,fx,fs,q⟩:=h
 cases ry
 rcases hq with hq | hq
 ·obtain ⟨ae,r,pl,hz⟩:=I.list hq
  refine SeqAt.notIn_listAt (eqU x) pl.isList (λw hw=>zdi rx fx r fs w (by simpa using hw)) ⟨.bl _,H,I,rfl,?_⟩
  rw[show ae.toArray.any (eqU x)=ae.any (eqU x) by simp,zf8 r fs]
  exact q
 ·obtain ⟨ae,r,pl,hz⟩:=I.tuple hq
  refine SeqAt.notIn_tupleAt (eqU x) pl (λw hw=>zdi rx fx r fs w (by simpa using hw)) ⟨.bl _,H,I,rfl,?_⟩
  rw[show ae.toArray.any (eqU x)=ae.any (eqU x) by simp,zf8 r fs]
  exact q
def zaq:zcc X (.builtin "len") (λxs H Q=>Ex2 λp ys=>Aj3 (xs=[.ref p]) ((SqL X.K H p ys)∨( SqT X.K H p ys)) (Q (.int ys.length) H)):=by
 intro aa s σ H xs us Q I r h
 obtain⟨p,ys,rfl,hq,q⟩:=h
 obtain⟨u,rfl,rx⟩:=vals1 r
 cases rx
 have hn:=zeg
 rcases hq with hq | hq
 ·obtain ⟨ae,r',pl,hz⟩:=I.list hq
  have ah:=r'.length
  exact Calls.call_len_list pl.isList (by simp only[Qv]<;>lia) ⟨.int ys.length,H,I.tok _,⟨s.toks+1,by rw[Qv,ah]⟩,q⟩
 ·obtain ⟨ae,r',pl,hz⟩:=I.tuple hq
  have ah:=r'.length
  exact len_tuple pl (by simp only[Qv]<;>lia) ⟨.int ys.length,H,I.tok _,⟨s.toks+1,by rw[Qv,ah]⟩,q⟩
def call_len_str:zcc X (.builtin "len") (λxs H Q=>Ex1 λz=>Aj3 (xs=[.str z]) (z.length≤sizeLine) (Q (.int z.length) H)):=by
 intro aa s σ H xs us Q I r h
 obtain⟨z,rfl,hz,q⟩:=h
 obtain⟨u,rfl,t,rfl⟩:=vals1 r
 have hn:=zeg
 exact len_str (by lia) ⟨.int z.length,H,I.tok _,⟨_,rfl⟩,q⟩
def ze3:zcc X (.type "list") (λxs H Q=>Ex2 λp ys=>Aj3 (xs=[.ref p]) ((SqL X.K H p ys)∨( SqT X.K H p ys)) (∀l,H l=none→Q (.ref l) (upd H l (.lst ys)))):=by
 intro aa s σ H xs us Q I r h
 obtain⟨p,ys,rfl,hq,q⟩:=h
 obtain⟨u,rfl,rx⟩:=vals1 r
 cases rx
 have fin:∀(ae:Nj),Vals ys ae→ys.length≤sizeLine→∀(h':Nl) (c':Nat),(∀b o',s.heap.get? b=some o'→h'.get? b=some o') →
   h'.get? s.heap.objs.size=some {cls:=.type "list",dict:=none,data:=.seq ae.toArray c',slots:=#[]}→EP X aa σ Q (.ref s.heap.objs.size) {s with heap:=h'}:=λae r' hz h' c' kp e =>
  ⟨.ref s.heap.objs.size,_,I.laid (t':=s.toks) kp (Qg _) (show zbi X.prog X.w _ h' _ (.lst ys) from⟨hz,ae,c',r',e⟩),rfl,q _ (I.hok.fresh (Qg _))⟩
 rcases hq with hq | hq
 ·obtain ⟨ae,r',pl,hz⟩:=I.list hq
  have ah:=r'.length
  obtain⟨o,ho,hc,n,hd⟩:=pl.isList
  exact call_list_seq p (.inl rfl) ho hc hd (λh' c' kp e=>fin ae r' hz h' c' kp e) (by simp only[Qv]<;>exact zdp ‹_› ‹_›)
 ·obtain ⟨ae,r',pl,hz⟩:=I.tuple hq
  have ah:=r'.length
  obtain⟨o,ho,hc,n,hd⟩:=pl
  exact call_list_seq p (.inr rfl) ho hc hd (λh' c' kp e=>fin ae r' hz h' c' kp e) (by simp only[Qv]<;>exact zdp ‹_› ‹_›)
def zh8:zcc X (.type "tuple") (λxs H Q=>Ex2 λp ys=>Aj2 (xs=[.ref p]) ((Aj2 (SqL X.K H p ys) (∀l,H l=none→Q (.ref l) (upd H l (.tup ys))))∨(Aj2 (SqT X.K H p ys) (Q (.ref p) H)))):=by
 intro aa s σ H xs us Q I r h
 obtain⟨p,ys,rfl,h⟩:=h
 obtain⟨u,rfl,rx⟩:=vals1 r
 cases rx
 rcases h with⟨hq,q⟩ | ⟨hq,q⟩
 ·obtain ⟨ae,r',pl,hz⟩:=I.list hq
  have ah:=r'.length
  refine call_tuple_list pl.isList (λh' kp=>?_) (by simp only[Qv]<;>exact zdp ‹_› ‹_›)
  have I1:Inv X aa σ H {s with heap:=h'}:=I.kept (t':=s.toks) kp
  have I2:Inv X aa σ (upd H h'.objs.size (.tup ys)) {s with heap:=h'.push {cls:=.type "tuple",data:=.seq ae.toArray}} :=
   I1.laid (t':=s.toks) (λb o e=>Qi _ e) (Qg _) (show zbi X.prog X.w _ _ _ (.tup ys) from⟨hz,ae,r',IsTup.new _ _⟩)
  exact⟨.ref h'.objs.size,_,I2,rfl,q _ (I1.hok.fresh (Qg _))⟩
 ·obtain ⟨ae,r',pl,hz⟩:=I.tuple hq
  exact call_tuple_same pl ⟨.ref p,H,I,rfl,q⟩
def tyV(K:Na)(T:String)(x:V)(H:Hp):Prop:=match x with
 |.str _=>T = "str"
 |.int _=>T = "int"
 | .ref p=>(T = "list" ∧ ∃ xs,SqL K H p xs)∨(T = "tuple" ∧ ∃ o,K.lookup p=some o∧o.cls=.type "tuple" ∧ o.dict=none) ∨
   (T = "dict" ∧ ((∃kvs,H p=some (.dK kvs))∨∃kvs,H p=some (.dT kvs)))∨(T = "set" ∧ ∃S n,H p=some (.set S n))
 |_=>False
def tyV_is(I:Inv X aa σ H s)(r:RelV x v)(ty:tyV X.K T x H) :
  s.TypeIs v T∧∀a,v=.ref a→∃ob,s.heap.get? a=some ob∧ob.dict=none:=by
 cases x with
 |str z =>
  obtain⟨t,rfl⟩:=r
  cases(show T = "str" from ty)
  exact⟨typeIs_str s z t,λ_ e=>nomatch e⟩
 |int i =>
  obtain⟨t,rfl⟩:=r
  cases(show T = "int" from ty)
  exact⟨typeIs_int s i t,λ_ e=>nomatch e⟩
 | ref p =>
  cases r
  rcases ty with⟨rfl,xs,hq⟩ | ⟨rfl,o,hk,hc,hd⟩ | ⟨rfl,hk⟩ | ⟨rfl,S,n,hk⟩
  ·obtain ⟨ae,_,pl,_⟩:=I.list hq
   refine⟨pl.isList.typeIs,λa e=>?_⟩
   cases e
   obtain⟨o,n,e,c,hd,_⟩:=pl
   exact⟨o,e,hd⟩
  ·refine ⟨⟨o,I.kIn p o hk,hc⟩,fun a e=>?_⟩
   cases e
   exact⟨o,I.kIn _ o hk,hd⟩
  ·have z:∃ o,s.heap.get? p=some o∧o.ExactDict:=by
    rcases hk with⟨kvs,hk⟩ | ⟨kvs,hk⟩
    ·obtain ⟨_,_,_,_,o,_,_,e,ex,_⟩:=I.hok p _ hk
     exact⟨o,e,ex⟩
    ·obtain ⟨_,_,_,_,o,_,_,e,ex,_⟩:=I.hok p _ hk
     exact⟨o,e,ex⟩
   obtain⟨o,e,ex⟩:=z
   refine⟨⟨o,e,ex.1⟩,λa e2=>?_⟩
   cases e2
   exact⟨o,e,ex.2.1⟩
  ·obtain ⟨o,_,_,_,e,ex,_⟩:=I.hok p _ hk
   refine⟨⟨o,e,ex.1⟩,λa e2=>?_⟩
   cases e2
   exact⟨o,e,ex.2.1⟩
 |_=>exact False.elim ty
def tBM0(K:Na)(T:String)(r:V→List V→Hp→VK→Prop)(to:TE):TE:=λ σ H Q=>to σ H λx H1=>tyV K T x H1∧r x [] H1 Q
def tBM(K:Na)(T:String)(r:V→List V→Hp→VK→Prop)(to:TE)(t:TA):TE:=λ σ H Q=>to σ H λx H1=>tyV K T x H1∧t σ H1 λxs H2=>r x xs H2 Q
variable{o e:Expr}{es:No}{to:TE}{t:TA}{name:Str}{apos cpos:Pos}{T id:String}{r:V→List V→Hp→VK→Prop}
def pe_bm0(pa:PlainAttrs T)(slot:Slot T name id)(sS:typeOf (.builtin id)=pure (.type "method_descriptor"))(hm:MtR X id r)(ho:PE X o to)(gt:attributeBase o name X.env (eval o X.env)=eval o X.env:=by rfl)(fW:(apos.endLine==cpos.line)=true:=by rfl):PE X (.Call (.Attribute o name apos) [] [] cpos) (tBM0 X.K T r to):=by
 intro aa s σ H Q I h
 refine wpAny_Call_method0_late gt fW (thn (ho aa s σ H _ I h) λv s1 ⟨x,H1,I1,r1,ty,q1⟩=>?_)
 obtain⟨h1,h2⟩:=tyV_is I1 r1 ty
 exact⟨T,id,pa,slot,sS,h1,h2,Jq rfl (PySem.evalArgs_none (hm aa s1 σ H1 x [] v [] Q I1 r1 .nil q1))⟩
def zer(pa:PlainAttrs T)(slot:Slot T name id)(sS:typeOf (.builtin id)=pure (.type "method_descriptor"))(hm:MtR X id r)(ho:PE X o to)(ha:PA X (e::es) t)(gt:attributeBase o name X.env (eval o X.env)=eval o X.env:=by rfl)(uu:((backTo cpos (starEach (e::es) X.env)).all (fun x=>!x.1) && (backToKw cpos (keywordEach [] X.env)).all (fun x=>x.1.isSome)
   && decide ((e::es).length+([]:List Keyword).length+(if([]:List Keyword).isEmpty then 0 else 1)<30))=true:=by rfl)(fW:(apos.endLine==cpos.line)=true:=by rfl)(hs:starEach (e::es) X.env=(false,eval e X.env)::starEach es X.env:=by rfl)(jV:(backTo cpos (starEach es X.env)).any (·.1)=false:=by rfl) :
  PE X (.Call (.Attribute o name apos) (e::es) [] cpos) (tBM X.K T r to t):=by
 intro aa s σ H Q I h
 refine wpAny_Call_method_late gt uu fW rfl (thn (ho aa s σ H _ I h) λv s1 ⟨x,H1,I1,r1,ty,q1⟩=>?_)
 obtain⟨h1,h2⟩:=tyV_is I1 r1 ty
 refine⟨T,id,pa,slot,sS,h1,h2,?_⟩
 have hA:=ha cpos aa s1 σ H1 _ I1 q1
 rw[hs]at hA ⊢
 refine Jq (by show(false||(backTo cpos (starEach es X.env)).any (·.1))=false;rw[jV]<;>rfl) (Kb ?_)
 exact thn hA λus s2 ⟨vs,H2,I2,r2,q2⟩=>hm aa s2 σ H2 x vs v us Q I2 r1 r2 q2
end
end L2
namespace L2
open PySem PySem.Spec PyProof.Rows
def MtM(X:Cx)(id:String)(r:V→List V→Hp→VK→Prop):Prop :=
 ∀(aa:Nd) (s:Ng) (σ:St) (H:Hp) (x:V) (xs:List V) (v:Value) (us:Nj) (Q:VK),Inv X aa σ H s→RelV x v→Vals xs us→r x xs H Q →
  wpAny (model X.prog X.w) X.A (call (.builtin id) (v::us)) (EP X aa σ Q) X.xe s
theorem Vals.one:∀{x:V} {us:Nj},Vals [x] us→∃u,us=[u]∧RelV x u
 |_,_,.cons r .nil=>⟨_,rfl,r⟩
theorem Vals.two:∀{x y:V} {us:Nj},Vals [x,y] us→∃u v,us=[u,v]∧RelV x u∧RelV y v
 |_,_,_,.cons r (.cons q .nil)=>⟨_,_,rfl,r,q⟩
theorem Vals.zero:∀{us:Nj},Vals [] us→us=[]
 |_,.nil=>rfl
def Vals.dropLast{xs:List V}{us:Nj}(h:Vals xs us):Vals xs.dropLast us.dropLast:=by
 induction h with
 |nil=>exact .nil
 |cons r t ih =>
  cases t with
  |nil=>exact .nil
  |cons q t'=>exact .cons r ih
theorem Vals.eraseIdx:∀{xs:List V} {us:Nj} (i:Nat),Vals xs us→Vals (xs.eraseIdx i) (us.eraseIdx i)
 |_,_,_,.nil=>.nil
 |_,_,0,.cons _ t=>t
 |_,_,i+1,.cons r t=>.cons r (Vals.eraseIdx i t)
def Vals.reverse{xs:List V}{us:Nj}(h:Vals xs us):Vals xs.reverse us.reverse:=by
 induction h with
 |nil=>exact .nil
 |cons r t ih=>rw[Kk,Kk];exact Vals.append ih (.cons r .nil)
def erase_last{α:Type}(l:List α):l.eraseIdx (l.length - 1)=l.dropLast:=by
 induction l with
 |nil=>rfl
 | cons a r ih =>
  cases r with
  |nil=>rfl
  | cons b r =>
   have e:(a::b::r).length-1=((b::r).length-1)+1:=by
    have h1:(a::b::r).length=r.length+2:=rfl
    have h2:(b::r).length=r.length+1:=rfl
    assumption
   rw[e,List.eraseIdx_cons_succ,ih]
   all_goals rfl
section
variable{X:Cx}{aa:Nd}{σ:St}{H:Hp}{s:Ng}{l b:Nc}{xs ys zs:List V}
def Inv.lset{ae its':Nj}{n:Nat}{f:Array Value→Array Value}{t':Nat}(I:Inv X aa σ H s)(hH:H l=some (.lst xs))(e:s.heap.get? l=some {cls:=.type "list",data:=.seq ae.toArray n})(hf:f ae.toArray=its'.toArray)(hv:Vals ys its')(hz:ys.length≤sizeLine) :
  Inv X aa σ (upd H l (.lst ys)) {s with heap:=s.heap.update l (Obj.mapSeq f),toks:=t'}:=by
 have q:=PySem.IsL.update e f
 rw[hf]at q
 refine I.write (x:=l) (e:=l) (by rw[hH];exact trivial) (.inl rfl) (λb' u hb hu=>(Ua s.heap (Obj.mapSeq f) (Qu hb)).trans hu) ⟨_,q⟩ ?_
 exact⟨hz,its',_,hv,q⟩
def Inv.lnew(I:Inv X aa σ H s)(hv:Vals ys ae)(hz:ys.length≤sizeLine) :
  Inv X aa σ (upd H s.heap.objs.size (.lst ys)) {s with heap:=s.heap.push {cls:=.type "list",data:=.seq ae.toArray},toks:=t'} :=
 I.laid (λ_ _ q=>Qi _ q) (Qg _) ⟨hz,ae,0,hv,Zd _ rfl⟩
def Inv.fresh(I:Inv X aa σ H s):H s.heap.objs.size=none:=I.hok.fresh (Qg _)
def Inv.lstM(I:Inv X aa σ H s)(hH:H l=some (.lst xs)):xs.length≤sizeLine∧∃(ae:Nj) (n:Nat),Vals xs ae∧xs.length=ae.length∧s.heap.get? l=some {cls:=.type "list",data:=.seq ae.toArray n}:=by
 obtain⟨z,ae,n,r,e⟩:=I.hok l _ hH
 exact⟨z,ae,n,r,r.length,e⟩
end
section
variable{X:Cx}
inductive RrAppend(x:V)(vs:List V)(H:Hp)(Q:VK):Prop
 |mk (l:_) (xs:_) (y:_) (h0:x=.ref l) (h1:vs=[y]) (h2:H l=some (.lst xs)) (h3:xs.length<sizeLine) (h4:Q .non (upd H l (.lst (xs++[y])))):RrAppend  x vs H Q
def rAppend:V→List V→Hp→VK→Prop:=λx vs H Q=>RrAppend  x vs H Q
def zcr:MtM X "list.append" rAppend:=by
 intro aa s σ H x vs v us Q I rx rv h
 obtain⟨l,xs,y,rfl,rfl,hH,hz,q⟩:=h
 cases rx
 obtain⟨u,rfl,ru⟩:=rv.one
 obtain⟨z,ae,n,r,hl,e⟩:=I.lstM hH
 refine call_meets F.slot_list_append ⟨_,e,rfl⟩ F.entry_list_append (F.args_list_append_2 _ _) (PySem.list_append l ae.toArray n u (by rw[Qv];exact zdp ‹_› ‹_›)) ⟨e,?_⟩
 refine⟨.non,_,I.lset (its':=ae++[u]) hH e (by simp) (r.append (.cons ru .nil)) ?_,rfl,q⟩
 rw[Qt,Xh]
 assumption
inductive RrPop(x:V)(vs:List V)(H:Hp)(Q:VK):Prop
 |mk (l:_) (xs:_) (y:_) (h0:x=.ref l) (h1:vs=[]) (h2:H l=some (.lst xs)) (h3:xs[xs.length-1]?=some y) (h4:Q y (upd H l (.lst xs.dropLast))):RrPop  x vs H Q
def rPop:V→List V→Hp→VK→Prop:=λx vs H Q=>RrPop  x vs H Q
def mt_pop:MtM X "list.pop" rPop:=by
 intro aa s σ H x vs v us Q I rx rv h
 obtain⟨l,xs,y,rfl,rfl,hH,hy,q⟩:=h
 cases rx
 have sO:=rv.zero
 subst sO
 obtain⟨z,ae,n,r,hl,e⟩:=I.lstM hH
 obtain⟨u,hu,ru⟩:=r.get hy
 have fC:ae.toArray[ae.toArray.size-1]?=some u:=by
  show ae.toArray[ae.length-1]?=some u
  rw[←Wz,←hl]
  exact hu
 refine call_meets F.slot_list_pop ⟨_,e,rfl⟩ F.entry_list_pop (F.args_list_pop_1 _) (MeetsSeq.list_pop_last l ae.toArray n u fC (by rw[Qv];exact zdp ‹_› ‹_›)) ⟨e,?_⟩
 refine⟨y,_,I.lset (its':=ae.dropLast) hH e ?_ r.dropLast ?_,ru,q⟩
 ·show ae.toArray.eraseIdxIfInBounds (ae.toArray.size - 1)=ae.dropLast.toArray
  rw[Qv,List.eraseIdxIfInBounds_toArray,erase_last]
 ·rw [List.length_dropLast]
  lia
def rReverse:V→List V→Hp→VK→Prop:=λx vs H Q=>∃l xs,x=.ref l∧vs=[]∧H l=some (.lst xs)∧Q .non (upd H l (.lst xs.reverse))
def mt_reverse:MtM X "list.reverse" rReverse:=by
 intro aa s σ H x vs v us Q I rx rv h
 obtain⟨l,xs,rfl,rfl,hH,q⟩:=h
 cases rx
 have sO:=rv.zero
 subst sO
 obtain⟨z,ae,n,r,hl,e⟩:=I.lstM hH
 refine call_meets F.slot_list_reverse ⟨_,e,rfl⟩ F.entry_list_reverse (F.args_list_reverse_1 _) (AutoSeq1.list_reverse_list_0 l ae.toArray n (by rw[Qv];exact zdp ‹_› ‹_›)) ⟨e,?_⟩
 refine⟨.non,_,I.lset (its':=ae.reverse) hH e (by simp) r.reverse ?_,rfl,q⟩
 rw[List.length_reverse]
 assumption
inductive RrCat(x:V)(y:V)(H:Hp)(Q:VK):Prop
 |mk (l:_) (b:_) (xs:_) (zs:_) (h0:x=.ref l) (h1:y=.ref b) (h2:H l=some (.lst xs)) (h3:H b=some (.lst zs)) (h4:xs.length+zs.length≤sizeLine) (h5:∀p,H p=none→Q (.ref p) (upd H p (.lst (xs++zs)))):RrCat  x y H Q
def rCat:R2:=λx y H Q=>RrCat  x y H Q
def zc2:OpR X (binaryOp .Add) rCat:=by
 intro aa s σ H x y v u Q I rx ry h
 obtain⟨l,b,xs,zs,rfl,rfl,hH,hB,hz,q⟩:=h
 cases rx
 cases ry
 obtain⟨z,ae,n,r,hl,e⟩:=I.lstM hH
 obtain⟨z2,cZ,n2,r2,ak,e2⟩:=I.lstM hB
 refine PySem.P.add_list e e2 ?_ (by rw[Qv,Qv];lia)
 have ea:ae.toArray++cZ.toArray=(ae++cZ).toArray:=by simp
 rw[ea]
 exact⟨.ref _,_,I.lnew (t':=s.toks) (r.append r2) (by rw[Qt];assumption),rfl,q _ I.fresh⟩
end
section
variable{prog:Ni}{w:Nk}{A:Nm}{E:Nb}{s:Ng}
end
section
variable{X:Cx}
end
end L2
namespace Att
open PySem PySem.W PySem.Calls PyProof.Rows
def zf1:∀(ns:List Int) (vs:Nj),WellAll P h vs (ns.map WData.int)→IntsAre vs ns:=by
 intro ns
 induction ns with
 |nil =>
  intro vs w
  rw[Je]at w
  cases w
  exact .nil
 | cons n ns ih =>
  intro vs w
  rw[Ql]at w
  cases w with
  |cons a b =>
   cases a
   exact .cons _ _ (ih _ b)
def script_of{l:OpenLaw}{n:Nat}(hn:l.most=some n){P:Params}{h:Nl}{args:List WData}{jl:Nj}(hX:l.row.toRowW.claim.pre args=true)(em:WellAll P h jl args) :
  ∃a vs ns,jl=[Value.ref a]∧args=[WData.list (ns.map WData.int)]∧h.get? a=some {cls:=.type "list",data:=.seq vs.toArray}∧IntsAre vs ns∧ns.length≤n:=by
 have tm:WShape.hasAll [] args [.list .int]=true:=(pre_splitW hX).1
 have hc:l.pre.holds [] {args:=args}=true:=(pre_splitW hX).2
 obtain⟨d,r,rfl,h1,h2⟩:=hasAllW_cons tm
 obtain rfl:=hasAllW_nil h2
 obtain⟨xs,rfl,h3⟩:=hasW_list h1
 obtain⟨ns,rfl⟩:=items_int h3
 have ah:ns.length≤n:=by
  unfold OpenLaw.pre at hc
  have h4:(WTm.not (.lt (.lit (.int (n:Int))) (.len (.arg 0)))).holds [] {args:=[.list (ns.map .int)]}=true:=by
   have h4:=(holds_andW hc).1
   rw[hn]at h4
   exact h4
  have h5:=condW_of h4 (w_not (w_lt w_lit (w_len_list (w_arg rfl))))
  rw[Qa]at h5
  refine Nat.le_of_not_lt λq=>?_
  have q':(n:Int)<((ns.length:Nat):Int):=by exact zar9 ‹_›
  first
   |(rw[decide_eq_true q']at h5;exact absurd h5 (by decide))
   |(simp at h5;lia)
 cases em with
 |cons w1 w2 =>
  cases w2
  cases w1 with
  |list ho cN=>exact⟨_,_,ns,rfl,rfl,ho,zf1 ns _ cN,ah⟩
def post_true(l:OpenLaw)(args:List WData):l.row.toRowW.claim.post args (.bool true) args=true :=
 postW_of (r:=l.row.toRowW) (X:=(true==true))
  (show WShape.has [] (.bool true) .bool=true by first | rfl | decide | simp[WShape.has,WShape.arms,WShape.armsAll])
  (show(WTm.eq .res (.lit (.bool true))).value [] {args:=args,res:=some (.bool true),after:=args}=some (.bool (true==true)) from w_eq_bool (w_res rfl) w_lit) rfl
def attach_call{l:OpenLaw}{n:Nat}{q:Ni}{loose:Nh}{XP:(Str→Option Value)→Heap→Prop}{YP:World→Heap→Prop}{d:DefRec}(hn:l.most=some n)(pe:d.params.defaults=[])(call:∀ (w:Nk) (s₀ s₁:Ng) (mg mb:Nf) (fa:Nc) (o:Obj) (pm cd doc:Value) (a:Nc) (vs:Nj) (ns:List Int),
   Ground q loose [] XP w s₀ mg mb s₁.heap→YP w s₁.heap →
   s₁.heap.get? fa=some o→o.data=.func (docDef d.name d.params d.body d.scope pm cd doc)→s₁.heap.CodeRec cd d.name→mg d.name=some (.ref fa) →
   s₁.heap.get? a=some {cls:=.type "list",data:=.seq vs.toArray}→IntsAre vs ns→ns.length≤n→s₁.gens=#[] →
   codeAny (model l.prog w) callerA (.call (.ref fa) ⟨[.ref a],[]⟩) (λr s'=>r=.ok (.ret (.bool true))∧OldK s₁.heap s'.heap∧s'.os=s₁.os∧AllBare s'.gens) s₁) :
  WalkO q loose XP YP l.row.toRowW d [] (λf vs=>PySem.call f vs):=by
 intro w s₀ s₁ mg mb G Y fa o pm cd doc dV kV ho hd ar hD u4 hg args jl as hX hlay hrd em lH
 obtain rfl:dV=.none:=Dflts.none hD pe
 obtain rfl:kV=.none:=Dflts.noKw hD
 obtain⟨a,vs,ns,rfl,rfl,j',gc,ah⟩:=script_of hn hX em
 refine enter_call (codeAny_mono (call w s₀ s₁ mg mb fa o pm cd doc a vs ns G Y ho (fd_plain hd) ar u4 j' gc ah hg) λr s' hq=>?_)
 obtain⟨rfl,h2,h3,h4⟩:=hq
 exact⟨.inl ⟨.bool true,.bool true,[],rfl,λ_=>rfl,.bool true,post_true l _,λ_=>⟨List.Pairwise.nil,λ_ hm=>(nomatch hm)⟩⟩,h2,h3,h4⟩
section
variable{prog:Ni}{w:Nk}{A:Nm}{E:Nb}{s:Ng}{K:Frag}
end
end Att
namespace L2
open PySem PySem.Spec PyProof.Rows
theorem vals_ints:∀{vs:Nj} {ns:List Int},IntsAre vs ns→Vals (ns.map V.int) vs
 |_,_,.nil=>.nil
 |_,_,.cons n t h=>.cons ⟨t,rfl⟩ (vals_ints h)
def Only(H:Hp):Prop:=∀b,H b=none∨∃o xs,H b=some (.frz o (.lst xs))
def law_call{P:Ni}{w:Nk}{K:Na}{mg mb:Nf}{CX:CXT}{k:Nat}{fa a:Nc}{fd:Np}{x:Str}{sp:Sp}{s₁:Ng}{vs:Nj}{ns:List Int}(KX:K.In s₁.heap)(ie:s₁.heap.Ns mainGlobals mg)(hb:s₁.heap.Ns builtinsNs mb)(hbb:∀x:Str,x ≠ "__name__" → mb x=bootBuiltins x)(u9:s₁.heap.NoLimit)(hg:s₁.gens=#[])(ha:s₁.heap.get? a=some {cls:=.type "list",data:=.seq vs.toArray})(hi:IntsAre vs ns)(hl:ns.length≤sizeLine)(hr:Room k callerA)(F:∀base:Heap,K.In base→base.Ns mainGlobals mg→FnOk P w K mg base CX k fa fd [x] sp)(pA:∀(s:Shared) (u:Value),BindsTo s fd ⟨[u],[]⟩ [(x,u)])(aT:∀H:Hp,Only H→SqL K H a (ns.map V.int)→sp [.ref a] H (λv _=>v=.bl true) λ_ _ _=>False)(vh:∀H e s',CX [] H s₁ (λ_ _ _=>False) e s'→False) :
  codeAny (model P w) callerA (.call (.ref fa) ⟨[.ref a],[]⟩) (λr s'=>r=.ok (.ret (.bool true))∧OldK s₁.heap s'.heap∧s'.os=s₁.os∧AllBare s'.gens) s₁:=by
 have rv:=vals_ints hi
 have lenV:=hi.length
 have core:∀ H:Hp,Only H→SqL K H a (ns.map V.int)→HOk P w H s₁.heap→(∀ b,H b≠none→b=a)→(H a≠none→K.lookup a=none) →
   codeAny (model P w) callerA (.call (.ref fa) ⟨[.ref a],[]⟩) (λr s'=>r=.ok (.ret (.bool true))∧OldK s₁.heap s'.heap∧s'.os=s₁.os∧AllBare s'.gens) s₁:=by
  intro H hO hS hok hA hK
  have base_of:∀{b:Nc} {o:Obj},s₁.heap.get? b=some o→H b=none→(hidT s₁.heap H).get? b=some o:=λe n=>hidT_get e n
  have noA:∀{b:Nc} {o:Obj} {es:Array DictEntry} {ep:Nat},s₁.heap.get? b=some o→o.data=.dict es ep→H b=none:=λ{b o es ep} e d=>by
   cases q:H b with
   |none=>rfl
   |some u =>
    have e':b=a:=hA b (by rw[q];simp)
    subst e'
    rw[ha]at e;cases e
    have d':Data.seq vs.toArray _=Data.dict es ep:=d
    cases d'
  have nsK:∀{b:Nc} {m:Nf},s₁.heap.Ns b m→(hidT s₁.heap H).Ns b m:=λ{b m} ⟨o,es,ep,e,d,r⟩=>⟨o,es,ep,base_of e (noA e d),d,r⟩
  have hKb:K.In (hidT s₁.heap H):=λb o e=>base_of (KX b o e) (by
   cases q:H b with
   |none=>rfl
   |some u =>
    have e':b=a:=hA b (by rw[q];simp)
    subst e'
    rw[hK (by rw[q];simp)]at e;cases e)
  have hM:Mod K mg (hidT s₁.heap H):=⟨hKb,nsK ie,⟨mb,nsK hb,hbb⟩,let⟨mc,h1,h2⟩:=u9;⟨mc,nsK h1,h2⟩⟩
  have e0:Env0 P w K mg (hidT s₁.heap H) callerA [] s₁ H:=⟨rfl,hM,λb o e=>of_hidT e,Nat.le_of_eq (hidT_size _ _),trivial,λb hb=>absurd (show b∈([]:List Addr) from hb) (by simp),hok,.of_eq hg⟩
  refine codeAny_mono ((F _ hKb (nsK ie)).run callerA [] s₁ H ⟨[.ref a],[]⟩ [.ref a] [.ref a] _ _ hr e0 (pA s₁ (.ref a)) (.cons rfl .nil) (aT H hO hS)) λr s' h=>?_
  cases r with
  |error e=>exact(vh H e s' h).elim
  | ok fl =>
   cases fl with
   |next=>exact False.elim h
   |brk=>exact False.elim h
   |cont=>exact False.elim h
   | ret u =>
    obtain⟨v,H',os,bare,un,tQ,r',q⟩:=h
    have q':v=.bl true:=q
    subst q'
    obtain rfl:u=Value.bool true:=r'
    refine⟨rfl,OldK.of_keep λb o e=>?_,os,bare⟩
    cases q:H b with
    |none=>exact un.keep b o e q (by intro z;exact absurd (show b∈([]:List Addr) from z) (by simp)) (by simp)
    | some u =>
     rcases hO b with z | ⟨ob,xs,z⟩
     ·rw[q]at z;cases z
     ·have z2:=un.frzs b ob _ z
      obtain⟨e1,_⟩:=hok b _ z
      obtain⟨e2,_⟩:=tQ b _ z2
      rw[e]at e1;cases e1
      exact e2
 cases hk:K.lookup a with
 |some o =>
  have e:=KX a o hk
  rw[ha]at e
  cases e
  refine core (λ_=>none) (λ_=>.inl rfl) (.inr ⟨_,vs.toArray,_,hk,rfl,rfl,rfl,by rw[Qv,lenV];exact hl,by simpa using rv⟩) (λb u z=>by have z':(none:Option HO)=some u:=z;cases z') (λb z=>absurd rfl z) λz=>absurd rfl z
 | none =>
  refine core (λb=>if b=a then some (.frz {cls:=.type "list",data:=.seq vs.toArray} (.lst (ns.map V.int))) else none) (λb=>?_) (.inl (.inr ⟨{cls:=.type "list",data:=.seq vs.toArray},if_pos rfl⟩)) (λb u z=>?_) (λb z=>?_) λ_=>hk
  ·by_cases hb:b=a
   ·exact .inr ⟨_,_,if_pos hb⟩
   ·exact .inl (if_neg hb)
  ·by_cases hb:b=a
   ·have z':=(if_pos hb).symm.trans z
    cases z'
    subst hb
    exact⟨ha,by rw[Qa];exact hl,vs,_,rv,ha⟩
   ·have z':=(if_neg hb).symm.trans z
    cases z'
  ·by_cases hb:b=a
   ·exact hb
   ·exact absurd (if_neg hb) z
end L2
namespace L2
open PySem PySem.Spec PyProof.Rows
def walk_of{l:PySem.W.OpenLaw}{n k:Nat}{q:Ni}{loose:Nh}{XP:(Str→Option Value)→Heap→Prop}{YP:World→Heap→Prop}{d:DefRec}{K:Params→PySem.W.Frag}{CX:World→CXT}{sp:World→Sp}{x:Str}(hn:l.most=some n)(ba:n≤sizeLine)(pe:d.params.defaults=[])(hr:Room k callerA)(hY:∀(w:World) (h:Heap),YP w h→(K w.params).In h)(F:∀ (w:Nk) (mg:Nf) (fa:Nc) (h:Nl),(K w.params).In h→h.Ns mainGlobals mg→mg d.name=some (.ref fa) →
   ∃fd:FuncData,(∀(s:Ng) (u:Value),BindsTo s fd ⟨[u],[]⟩ [(x,u)]) ∧
    ∀base:Heap,(K w.params).In base→base.Ns mainGlobals mg→FnOk l.prog w (K w.params) mg base (CX w) k fa fd [x] (sp w))(aT:∀(w:Nk) (H:Hp) (a:Nc) (ns:List Int),ns.length≤n→Only H→SqL (K w.params) H a (ns.map V.int)→sp w [.ref a] H (λv _=>v=.bl true) λ_ _ _=>False)(vh:∀(w:World) (H:Hp) (s:Shared) (e:Value) (s':Shared),CX w [] H s (λ_ _ _=>False) e s'→False) :
  PySem.W.WalkO q loose XP YP l.row.toRowW d [] (λf vs=>PySem.call f vs):=by
 refine Att.attach_call hn pe λw s₀ s₁ mg mb fa o pm cd doc a vs ns G Y ho hd ar u4 j' gc ah hg=>?_
 have KX:=hY w _ Y
 obtain⟨fd,hb,hF⟩:=F w mg fa _ KX G.T.g u4
 exact law_call KX G.T.g G.T.b G.T.builtins G.T.nolimit hg j' gc (Zl ah ba) hr hF hb (λH hO hS=>aT w H a ns ah hO hS) λH e s'=>vh w H s₁ e s'
end L2
namespace L2
open PySem PySem.Spec PyProof.Rows
def inClass(s:Stmt)(j:Nat):Stmt:=match s with
 |.ClassDef _ _ _ body _ _ _ _ _ _ _=>body.getD j (.Pass ⟨0,0,0,0⟩)
 |_=>.Pass ⟨0,0,0,0⟩
def zck(s:Stmt):Arguments:=match s with
 |.FunctionDef _ a _ _ _ _ _ _ _ _=>a
 |_=>{posonlyargs:=[],args:=[],vararg:=none,kwonlyargs:=[],kw_defaults:=[],kwarg:=none,defaults:=[]}
def zbs(s:Stmt):List Stmt:=match s with
 |.FunctionDef _ _ b _ _ _ _ _ _ _=>b
 |_=>[]
def zag(s:Stmt):Scope:=match s with
 |.FunctionDef _ _ _ _ _ _ sc _ _ _=>sc
 |_=>{kind:=.function,names:=[],isGenerator:=false,isCoroutine:=false}
abbrev CX0:CXT:=λ_ _ _ _ _ _=>False
abbrev E0:XK:=λ_ _ _=>False
def zav:zg1 CX0 X E0:=λ_ _ _ _ _ _ _ h=>h.elim
structure Fun(K:Na)(x qual:Str)(st:Stmt)(f:Nc)(fd:Np):Prop where
 ex:∃(oc:Value) (od:Option Addr) (kV doc pm:Value) (an:Option Addr) (cdv ct:Value) (osl:Array (Option Value)),
  fd=PySem.W.fnOf x qual (zck st) (zbs st) (zag st) .none kV doc pm an cdv ct∧K.lookup f=some ⟨oc,od,.func fd,osl⟩∧PySem.W.codeIn K cdv qual=true
 kp:PySem.W.keepIn K (.ref f)=true
section
variable{P:Ni}{w:Nk}{K:Na}{mg:Nf}{base:Nl}
def Fun.ok{x qual:Str}{st:Stmt}{f:Nc}{fd:Np}{N ps:Nh}{k:Nat}{sp:Sp}(F:Fun K x qual st f fd)(S:zan N ps (zag st))(len:∀vs H Q E,sp vs H Q E→vs.length=ps.length)(aK:∀ (cdv:Value) (A:Nm) (outer:List Env) (s:Ng) (H:Hp) (vs:List V) (Q:VK) (E:XK),Room k (A.deeper (envOfC qual (zag st) s.heap.objs.size f cdv))→sp vs H Q E →
   ∃t,PSs (cxOf CX0 P w K mg base N qual (zag st) f cdv A outer s H E).nox (zbs st) t∧t {nx:=λ_ H'=>Q .non H',rt:=Q} (start N vs) H):FnOk P w K mg base CX0 (k+1) f fd ps sp:=by
 obtain⟨oc,od,kV,doc,pm,an,cdv,ct,osl,rfl,lk,ar⟩:=F.ex
 refine fn_of lk ar S len λA outer s H vs Q E hr aT=>?_
 obtain⟨t,h,q⟩:=aK cdv A outer s H vs Q E hr aT
 exact⟨t,h.nox,q⟩
def Fun.binds{x qual:Str}{st:Stmt}{f:Nc}{fd:Np}{ps:Nh}(F:Fun K x qual st f fd)(h:∀(kV doc pm:Value) (an:Option Addr) (cdv ct:Value) (us:Nj),us.length=ps.length→bindArgs (PySem.W.fnOf x qual (zck st) (zbs st) (zag st) .none kV doc pm an cdv ct) ⟨us,[]⟩=pure (ps.zip us)):Binds K fd ps []:=by
 obtain⟨oc,od,kV,doc,pm,an,cdv,ct,osl,rfl,lk,ar⟩:=F.ex
 exact .all (h kV doc pm an cdv ct)
def fun_mk{x qual:Str}{st:Stmt}{f:Nc}{oc:Value}{od an:Option Addr}{osl:Array (Option Value)}{kV doc pm cdv ct:Value}(l:K.lookup f=some ⟨oc,od,.func (PySem.W.fnOf x qual (zck st) (zbs st) (zag st) .none kV doc pm an cdv ct),osl⟩)(c:PySem.W.codeIn K cdv qual=true)(k:PySem.W.keepIn K (.ref f)=true):Fun K x qual st f (PySem.W.fnOf x qual (zck st) (zbs st) (zag st) .none kV doc pm an cdv ct):=⟨⟨oc,od,kV,doc,pm,an,cdv,ct,osl,rfl,l,c⟩,k⟩
end
def zcb(hr:Room k A):A.units+1<cLine:=Nat.lt_of_le_of_lt (Nat.add_le_add_left (by decide:1≤64) _) hr.units
section
variable{X:Cx}
def pv(i:Nat)(hN:X.N[i]?=some x:=by rfl)(hv:Vis X.env.scope x:=by first | exact Or.inl rfl | exact Or.inr (Or.inl rfl) | exact Or.inr (Or.inr rfl))(hd:(x==("__debug__" : Str))=false:=by decide)(ar:(x==("__classdict__" : Str))=false:=by decide):PE X (.Name x pos) (tVar i):=pe_var hN hv hd ar
def zel:zcc X (.builtin "len") (λxs H Q=>Ex2 λa kvs=>Aj3 (xs=[V.ref a]) (H a=some (.dK kvs)) (Q (.int kvs.length) H)):=by
 intro aa s σ H xs us Q I r h
 obtain⟨a,kvs,rfl,ha,q⟩:=h
 obtain⟨u,rfl,ru⟩:=vals1 r
 cases ru
 exact d_len I (.inl ha) λt s' I'=>⟨.int kvs.length,H,I',⟨t,rfl⟩,q⟩
end
def iteF{A B:Prop}(h:B):if false=true then A else B:=by
 rw[if_neg Zf]
 exact h
def iteT{A B:Prop}(h:A):if true=true then A else B:=by
 rw[if_pos rfl]
 exact h
def ite2{c A B:Prop}[Decidable c](h1:c→A)(h2:¬c→B):if c then A else B:=by
 by_cases h:c
 ·rw [if_pos h]
  exact h1 h
 ·rw [if_neg h]
  exact h2 h
section
variable{κ:Type}[DecidableEq κ]
end
end L2
end
section
namespace L2
open PySem PySem.Spec PyProof.Rows
def clOf(sc:Scope)(env:Env):List (Str×Addr):=sc.names.foldl (λcs y=>if(y.2==NameKind.free)=true then(y.1,(env.cells.lookup y.1).getD 0)::cs else cs) []
theorem cl_fold:∀(l:List (Str×NameKind)) (cs:List (Str×Addr)),(∀y∈l,y.2=.free→∃c,env.cells.lookup y.1=some c) →
  (forIn l cs (fun (y:Str×NameKind) (r:List (Str×Addr))=>(do
   let(name,kind):=y
   if(kind==.free)=true then do
    let a ←cellOf env name
    pure (ForInStep.yield ((name,a)::r))
   else pure (ForInStep.yield r):Sem (ForInStep (List (Str×Addr))))))=(pure (l.foldl (λcs y=>if(y.2==NameKind.free)=true then(y.1,(env.cells.lookup y.1).getD 0)::cs else cs) cs):Sem (List (Str×Addr)))
 |[],cs,_=>rfl
 | (n,k)::r,cs,h=>by
  rw[List.forIn_cons]
  have ih:=λcs=>cl_fold (env:=env) r cs λy hy=>h y (Qf _ hy)
  by_cases hk:(k==NameKind.free)=true
  ·obtain ⟨c,hc⟩:=h (n,k) Qc (by simpa using hk)
   have bZ:env.cells.lookup n=some c:=hc
   have e:cellOf env n=pure c:=by unfold cellOf;rw[bZ]
   rw[Jt]
   dsimp only
   rw[if_pos hk,if_pos hk,e,bZ]
   exact ih _
  ·rw [Jt]
   dsimp only
   rw[if_neg hk,if_neg hk]
   exact ih _
def zcl(h:∀y∈sc.names,y.2=.free→∃c,env.cells.lookup y.1=some c):closureFor sc env=pure (clOf sc env):=by
 unfold closureFor
 have e:=cl_fold (env:=env) sc.names [] h
 exact(congrArg (λt:Sem (List (Str×Addr))=>t >>= λcs=>pure cs) e).trans rfl
theorem clOf_in{env:Env}{x:Str}{c:Nc}:∀(l:List (Str×NameKind)) (cs:List (Str×Addr)),(∀y∈l,y.2=.free→∃c,env.cells.lookup y.1=some c)→(∀x c,cs.lookup x=some c→env.cells.lookup x=some c) →
  (l.foldl (λcs y=>if(y.2==NameKind.free)=true then(y.1,(env.cells.lookup y.1).getD 0)::cs else cs) cs).lookup x=some c→env.cells.lookup x=some c
 |[],cs,_,hc,e=>hc _ _ e
 | (n,k)::r,cs,h,hc,e=>by
  rw[Jt]at e
  refine clOf_in r _ (λy hy=>h y (Qf _ hy)) ?_ e
  by_cases hk:(k==NameKind.free)=true
  ·obtain ⟨a,ha⟩:=h (n,k) Qc (by simpa using hk)
   have ha':env.cells.lookup n=some a:=ha
   dsimp only
   rw[if_pos hk,ha']
   intro x c q
   rw[Wt]at q
   cases hx:x==n with
   |true =>
    rw[hx]at q
    have q':a=c:=Qk q
    have:x=n:=by simpa using hx
    rw[this,←q'];exact ha'
   |false =>
    rw[hx]at q
    exact hc x c q
  ·dsimp only
   rw[if_neg hk]
   exact hc
theorem zh5{env:Env}{x:Str}:∀(l:List (Str×NameKind)) (cs:List (Str×Addr)),((x,NameKind.free)∈l∨∃c,cs.lookup x=some c) →
  ∃c,(l.foldl (λcs y=>if(y.2==NameKind.free)=true then(y.1,(env.cells.lookup y.1).getD 0)::cs else cs) cs).lookup x=some c
 |[],cs,h=>by
  rcases h with h | h
  ·exact absurd h (by simp)
  ·exact h
 | (n,k)::r,cs,h=>by
  rw[Jt]
  refine zh5 r _ ?_
  rcases h with h | ⟨c,h⟩
  ·rcases Qe.mp h with e | e
   ·obtain ⟨rfl,rfl⟩:=Um e
    exact .inr ⟨(env.cells.lookup x).getD 0,by dsimp only;rw[if_pos (by rfl),List.lookup_cons];simp⟩
   ·exact .inl e
  ·refine .inr ?_
   dsimp only
   by_cases hk:(k==NameKind.free)=true
   ·rw [if_pos hk,Wt]
    cases hx:x==n with
    |true=>exact⟨_,rfl⟩
    |false=>exact⟨c,h⟩
   ·rw[if_neg hk];exact⟨c,h⟩
structure Blk(X:Cx)(sc:Scope)(M:Nh)(ix:Nq):Prop where
 kind:sc.kind=.function
 nocell:∀y∈sc.names,y.2≠.cell
 names:∀y∈sc.names,y.2=.local→sc.names.lookup y.1=some .local
 frees:∀y∈sc.names,y.2=.free→X.env.scope.names.lookup y.1=some .cell∨X.env.scope.names.lookup y.1=some .free
 len:ix.length=M.length
 nd:M.Nodup
 caps:∀(j i:Nat) (x:Str),M[j]?=some x→ix[j]?=some (some i)→X.N[i]?=some x∧sc.names.lookup x=some .free
def inner(ix:Nq)(σ:St):St:=ix.map λo=>match o with | none=>none | some i=>(σ[i]?).join
def zhk{sc:Scope}{env:Env}{x:Str}{oz:Option Str}(hn:∀ y∈sc.names,y.2=.cell→oz=some y.1)(h:(relabel sc env).names.lookup x=some .cell∨(relabel sc env).names.lookup x=some .free):(x,NameKind.free)∈sc.names∨oz=some x:=by
 have key:∀k',k'=.cell∨k'=.free→(x,k')∈(relabel sc env).names→(x,NameKind.free)∈sc.names∨oz=some x:=λk' gb hm=>by
  obtain⟨⟨n,k⟩,hy,e⟩:=Qh.mp hm
  dsimp only at e
  by_cases hb:(k==NameKind.free&&env.scope.kind==.function&&env.kindOf n==some .cell)=true
  ·rw [if_pos hb] at e
   obtain⟨rfl,_⟩:=Um e
   have hk:k=.free:=by
    have:=(Bool.and_eq_true_iff.mp (Bool.and_eq_true_iff.mp hb).1).1
    simpa using this
   rw[hk]at hy
   exact .inl hy
  ·rw [if_neg hb] at e
   obtain⟨rfl,rfl⟩:=Um e
   rcases gb with q | q
   ·exact .inr (hn _ hy q)
   ·rw[q]at hy;exact .inl hy
 rcases h with h | h
 ·exact key _ (.inl rfl) (Wf h)
 ·exact key _ (.inr rfl) (Wf h)
def ocl(oz:Option Str)(C:Nc)(cl:List (Str×Addr)):List (Str×Addr):=match oz with
 |none=>cl
 |some z=>(z,C+1)::cl
def och(oz:Option Str)(h:Nl):Heap:=match oz with
 |none=>h
 |some _=>h.push {cls:=.type "cell",data:=.cell none}
structure BlkG(X:Cx)(sc:Scope)(oz:Option Str)(M:Nh)(ix:Nq):Prop where
 kind:sc.kind=.function
 own:∀y∈sc.names,y.2=.cell→oz=some y.1
 one:∀n cl,cellsFrom (n+1) sc.names cl=ocl oz n cl
 psh:∀h,pushCells h sc.names=och oz h
 zc:∀z,oz=some z→sc.names.lookup z=some .cell
 names:∀y∈sc.names,y.2=.local→sc.names.lookup y.1=some .local
 frees:∀y∈sc.names,y.2=.free→X.env.scope.names.lookup y.1=some .cell∨X.env.scope.names.lookup y.1=some .free
 len:ix.length=M.length
 nd:M.Nodup
 caps:∀(j i:Nat) (x:Str),M[j]?=some x→ix[j]?=some (some i)→X.N[i]?=some x∧sc.names.lookup x=some .free
theorem zh7:∀{l:List (Str×NameKind)} (_:∀y∈l,y.2≠.cell),(∀n cl,cellsFrom n l cl=cl)∧∀h,pushCells h l=h
 |[],_=>⟨λ_ _=>rfl,λ_=>rfl⟩
 |(a,k)::t,h=>by
  obtain⟨h1,h2⟩:=zh7 λy hy=>h y (Qf _ hy)
  have hk:(k==NameKind.cell)=false:=beq_eq_false_iff_ne.mpr (h (a,k) Qc)
  exact⟨λn cl=>by unfold cellsFrom;rw[hk];exact h1 n cl,λg=>by unfold pushCells;rw[hk];exact h2 g⟩
def Blk.g{X:Cx}{sc:Scope}{M:Nh}{ix:Nq}(B:Blk X sc M ix):BlkG X sc none M ix :=
 ⟨B.kind,λy hy h=>absurd h (B.nocell y hy),λn cl=>(zh7 B.nocell).1 _ cl,(zh7 B.nocell).2,λ_ h=>(by cases h),B.names,B.frees,B.len,B.nd,B.caps⟩
def zej(X:Cx)(sc:Scope)(oz:Option Str)(M:Nh)(C:Nc)(aa:Nd)(ex:Nn)(s:Ng)(H:Hp):Cx :=
 {X with N:=M,s₀:=s,H₀:=H,env:=compEnvC sc (ocl oz C (clOf sc X.env)) C X.env,outer:=X.stack,ex:=ex,fn:=λx=>oz==some x,pn:=X.pn++aa,xe:=λ_ _=>False}
abbrev zc0(X:Cx)(sc:Scope)(M:Nh)(C:Nc)(aa:Nd)(ex:Nn)(s:Ng)(H:Hp):Cx:=zej X sc none M C aa ex s H
section
variable{M:Model}{A:Nm}{E:Nb}{s:Ng}
def newEnv_own{sc:Scope}{g:Nc}{cl:List (Str×Addr)}{q:Str}{env:Env}{oz:Option Str}{Q:Env→Shared→Prop}(one:∀n cl,cellsFrom (n+1) sc.names cl=ocl oz n cl)(psh:∀h,pushCells h sc.names=och oz h)(hQ:Q (newEnv sc s.heap.objs.size g (ocl oz s.heap.objs.size cl) q none .none (some env) builtinsNs) {s with heap:=och oz (s.heap.push {cls:=.type "dict",data:=.dict #[]})}) :
  wpAny M A (newFunctionEnv sc g cl [] q none .none (some env)) Q E s:=by
 simp only[newFunctionEnv,Option.isSome_some,if_true]
 refine wpAny_bind (wpAny_alloc ?_)
 refine wpAny_bind (wpAny_layCells _ (λname kind cells=>by cases hkc:kind==NameKind.cell<;>simp[hkc]) _ _ _ _ ?_)
 rw[psh,show({s with heap:=s.heap.push {cls:=.type "dict",data:=.dict #[]}}:Shared).heap.objs.size=s.heap.objs.size+1 from Wq ..,one]
 exact wpAny_pure hQ
end
section
variable{X:Cx}{sc:Scope}{oz:Option Str}{M:Nh}{ix:Nq}{aa:Nd}{σ:St}{H:Hp}{s:Ng}
def BlkG.clos(B:BlkG X sc oz M ix)(I:Inv X aa σ H s):∀y∈sc.names,y.2=.free→∃c,X.env.cells.lookup y.1=some c:=λy hy hf =>
 I.ok.has y.1 (by rcases B.frees y hy hf with z | z;exact .inl z;exact .inr z)
def Blk.clos(B:Blk X sc M ix)(I:Inv X aa σ H s):∀y∈sc.names,y.2=.free→∃c,X.env.cells.lookup y.1=some c:=B.g.clos I
def inv_blkG{ex:Nn}{s':Ng}{C:Nc}(B:BlkG X sc oz M ix)(I:Inv X aa σ H s)(hx:∀ b∈ex,FpOk X aa H b)(ai:∀ b∈ex,b < s.heap.objs.size)(hC:C=s.heap.objs.size)(hn:s'.heap.Ns C λ_=>none)(hz:∀z,oz=some z→s'.heap.IsCell (C+1) none)(hk:∀b o,s.heap.get? b=some o→s'.heap.get? b=some o)(hg:s'.gens=s.gens)(ho:s'.os=s.os):Inv (zej X sc oz M C aa ex s H) [] (inner ix σ) H s':=by
 have cls:=B.clos I
 have cin:∀x c,(clOf sc X.env).lookup x=some c→X.env.cells.lookup x=some c:=λx c e=>clOf_in sc.names [] cls (λ_ _ z=>by cases z) e
 have cne:∀x c,(clOf sc X.env).lookup x=some c→c<s.heap.objs.size:=λx c e=>by
  obtain⟨v,q⟩:=I.cell x c (cin x c e)
  exact q.lt
 have zne:∀c:Addr,c<s.heap.objs.size→c≠C+1:=λc h e=>by
  rw[e,hC]at h;exact absurd (Kj h) (Yp _)
 have zin:∀x c,(ocl oz C (clOf sc X.env)).lookup x=some c→(oz=some x∧c=C+1)∨oz≠some x∧(clOf sc X.env).lookup x=some c:=λx c e=>by
  cases oz with
  |none=>exact .inr ⟨λz=>(by cases z),e⟩
  |some zn =>
   have e:((zn,C+1)::clOf sc X.env).lookup x=some c:=e
   rw[Wt]at e
   cases q:x==zn with
   |true=>rw[q]at e;exact .inl ⟨by rw[eq_of_beq q],(Qk e).symm⟩
   |false=>rw[q]at e;exact .inr ⟨λz=>(by rw[Qk z,beq_self_eq_true]at q;cases q),e⟩
 have zout:∀x c,oz≠some x→(clOf sc X.env).lookup x=some c→(ocl oz C (clOf sc X.env)).lookup x=some c:=λx c hx e=>by
  cases oz with
  |none=>exact e
  |some zn =>
   show((zn,C+1)::clOf sc X.env).lookup x=_
   rw[Wt,beq_eq_false_iff_ne.mpr λz=>hx (by rw[z])];exact e
 refine⟨⟨I.ok.mod,?_,I.ok.glob,I.ok.blt,?_,λx y c h1 h2=>?_,λx hx=>?_,λx c h e=>?_,I.ok.hd,I.ok.frames,.inl rfl,λb hb=>?_,I.bs,?_,λb o e hb=>?_,λb hb=>?_,I.stack,I.stkFree⟩,
  ?_,?_,Un.kept hk,⟨_,hn,λj x v e1 e2 e3=>?_⟩,λx c e=>?_,?_,λx c e=>?_,λp hp=>?_,I.hok.kept hk,?_⟩
 ·show (relabel sc X.env).kind=.function
  exact B.kind
 ·show s.heap.objs.size≤C
  rw[hC];exact Qg _
 ·rcases zin x c h1 with ⟨a,b⟩ | ⟨_,a⟩ <;> rcases zin y c h2 with ⟨a',b'⟩ | ⟨_,a'⟩
  ·exact Qk (a.symm.trans a')
  ·exact absurd b (zne c (cne y c a'))
  ·exact absurd b' (zne c (cne x c a))
  ·exact I.ok.inj x y c (cin x c a) (cin y c a')
 ·by_cases q:oz=some x
  ·exact⟨C+1,by show(ocl oz C (clOf sc X.env)).lookup x=_;rw[q];show((x,C+1)::clOf sc X.env).lookup x=_;rw[Wt,beq_self_eq_true]⟩
  ·obtain ⟨c,hc⟩:=zh5 (env:=X.env) sc.names [] (.inl ((zhk B.own hx).resolve_right q))
   exact⟨c,zout x c q hc⟩
 ·have h':oz=some x:=by
   have:(oz==some x)=true:=h
   exact eq_of_beq this
  rcases zin x c e with⟨_,b⟩ | ⟨b,_⟩
  ·show s.heap.objs.size≤c
   rw[b,hC];exact Ub _
  ·exact absurd h' b
 ·have:=ai b hb
  refine⟨λz=>?_,λx c e=>(zin x c e).elim (λq h=>zne b this (h.symm.trans q.2)) λe=>(hx b hb).2.2.2.2.1 x c (cin x c e.2)⟩
  have z':b=C:=z
  rw[z',hC]at this
  exact Yp _ this
 ·exact Zl I.ok.bsz I.sz
 ·rcases (hx b hb).2.2.2.1 with z | z
  ·exact I.ok.noex b o e z
  ·have h1:b < X.base.objs.size:=Qr e
   have h2:=I.ok.bsz
   have h3:X.s₀.heap.objs.size≤b:=z
   exact absurd (Zj h1 (Zl h2 h3)) (Yp _)
 ·intro z
  rcases Qe.mp (I.stkSub b z) with q | q
  ·exact(hx b hb).2.1 q
  ·exact(hx b hb).2.2.1 q
 ·exact ho
 ·rw[hg];exact I.bare
 ·have hj:∃ i,ix[j]?=some (some i)∧σ[i]?=some (some v):=by
   unfold inner at e2
   rw[Qq]at e2
   cases q:ix[j]? with
   |none=>rw[q]at e2;cases e2
   | some o =>
    rw[q]at e2
    cases o with
    |none=>cases e2
    |some i =>
     have l0:(σ[i]?).join=some v:=Qk e2
     cases q2:σ[i]? with
     |none=>rw[q2]at l0;cases l0
     |some w=>rw[q2]at l0;exact⟨i,rfl,by rw[q2];exact congrArg some l0⟩
  obtain⟨i,hi,hσ⟩:=hj
  obtain⟨hN,bd⟩:=B.caps j i x e1 hi
  have hm:=Wf bd
  have cq:=B.frees (x,.free) hm rfl
  obtain⟨m,_,hl⟩:=I.loc
  obtain⟨u,ru,lk⟩:=hl i x v hN hσ (by rcases cq with z | z;exact .inr (.inl z);exact .inr (.inr z))
  refine⟨u,ru,.inr ?_⟩
  obtain⟨c,hc⟩:=zh5 (env:=X.env) sc.names [] (.inl hm)
  have bZ:=cin x c hc
  have lk2:s.heap.IsCell c (some u):=by
   rcases lk with⟨k,_⟩ | ⟨_,c',e',z⟩
   ·have k':X.env.scope.names.lookup x=some .local:=k
    rcases cq with q | q<;>(rw[show X.env.scope.names.lookup x=_ from q]at k';cases k')
   ·rw[bZ]at e';cases e';exact z
  refine⟨?_,c,zout x c (λq=>by rw[B.zc x q]at bd;cases bd) hc,?_⟩
  ·have e3':Vis (relabel sc X.env) x:=e3
   rcases e3' with z | z | z
   ·exfalso
    have:=@lookup_relabel_local
    have bD:∀(l:List (Str×NameKind)),l.lookup x=some .free→(l.map λ(y:Str×NameKind)=>match y with | (n,k)=>if(k==NameKind.free&&X.env.scope.kind==.function&&X.env.kindOf n==some .cell) then(n,NameKind.cell) else(n,k)).lookup x≠some .local:=by
     intro l
     induction l with
     |nil=>intro h;cases h
     | cons y r ih =>
      obtain⟨n,k⟩:=y
      intro h
      rw[Wt]at h
      rw[Ql]
      dsimp only
      by_cases hb:(k==NameKind.free&&X.env.scope.kind==.function&&X.env.kindOf n==some .cell)=true
      ·rw [if_pos hb,Wt]
       cases hx:x==n with
       |true=>intro q;cases q
       |false=>rw[hx]at h;exact ih h
      ·rw [if_neg hb,Wt]
       cases hx:x==n with
       |true =>
        rw[hx]at h
        intro q
        have h':k=NameKind.free:=Qk h
        have q':k=NameKind.local:=Qk q
        rw[h']at q';cases q'
       |false=>rw[hx]at h;exact ih h
    exact bD sc.names bd z
   ·exact .inl z
   ·exact .inr z
  ·obtain ⟨o,bg,iw⟩:=lk2
   exact⟨o,hk c o bg,iw⟩
 ·rcases zin x c e with ⟨a,b⟩ | ⟨_,b⟩
  ·rw[b];exact⟨none,hz x a⟩
  ·obtain ⟨v,o,bg,iw⟩:=I.cell x c (cin x c b)
   exact⟨v,o,hk c o bg,iw⟩
 ·show H C=none
  rw[hC]
  exact I.hok.fresh (Qg _)
 ·rcases zin x c e with ⟨_,b⟩ | ⟨_,b⟩
  ·rw[b];exact I.hok.fresh (by rw[hC];exact Ub _)
  ·exact I.freeC x c (cin x c b)
 ·have i8:p∈X.pn++aa:=by
   have:p∈(X.pn++aa)++[]:=hp
   rwa[Zu]at this
  obtain⟨e,n,ne,nf,d⟩:=I.pin p i8
  refine⟨hk _ _ e,n,?_,λz=>?_,d⟩
  ·intro z
   have z':p.1=C:=z
   have:=Qr e
   rw[z',hC]at this
   exact Yp _ this
  ·rcases Qe.mp (I.stkSub _ z) with q | q
   ·exact ne q
   ·exact nf q
 ·unfold inner
  rw[Qa]
  exact B.len
def inv_blk(B:Blk X sc M ix)(I:Inv X aa σ H s)(hx:∀b∈ex,FpOk X aa H b)(ai:∀b∈ex,b<s.heap.objs.size)(hC:C=s.heap.objs.size)(hn:s'.heap.Ns C λ_=>none)(hk:∀b o,s.heap.get? b=some o→s'.heap.get? b=some o)(hg:s'.gens=s.gens)(ho:s'.os=s.os):Inv (zc0 X sc M C aa ex s H) [] (inner ix σ) H s':=inv_blkG B.g I hx ai hC hn (λ_ h=>by cases h) hk hg ho
def PTs(X:Cx)(ifs:No)(t:TT):Prop :=
 ∀(aa:Nd) (s:Ng) (σ:St) (H:Hp) (Q:Bool→Hp→Prop),Inv X aa σ H s→t σ H Q →
  wpAny (model X.prog X.w) X.A (forIn ifs true λc r=>if r=true then do let ok ←isTrue c X.env (eval c X.env);pure (ForInStep.yield ok) else pure (ForInStep.yield r)) (TP X aa σ Q) X.xe s
def tAll:TT:=λ_ H Q=>Q true H
def zcu:PTs X [] tAll:=λ_ _ _ H _ I h=>wpAny_tests_nil ⟨H,I,h⟩
def zhl(h:PT X c t):PTs X [c] t:=λaa s σ H Q I q=>wpAny_tests_one (h aa s σ H Q I q)
def compLoop_any{prog:Ni}{w:Nk}{A:Nm}{s:Ng}{elt target iter:Expr}{ifs:No}{scope:Scope}{pos:Pos}{it ao:Value}{env:Env}{R:Nt}(I:Nat→Shared→Prop)(turn:∀ n s,I n s→wpAny (model prog w) A (pyNext it) (fun r s₁=>match r with
   |none=>R (.ok .next) s₁
   | some v=>wpAny (model prog w) A (letOwnedTupleGo target it v) (fun _ s₁'=>wpAny (model prog w) A (assign target env v) (fun _ s₂ =>
     wpAny (model prog w) A (forIn ifs true λc r=>if r=true then do let ok ←isTrue c env (eval c env);pure (ForInStep.yield ok) else pure (ForInStep.yield r)) (λok s₃ =>
      if ok=true then wpAny (model prog w) A (eval elt env) (λx s₄ =>
       wpAny (model prog w) A (call (.builtin "list.append") [ao,x]) (λ_ s₅=>∃m,m<n∧I m s₅) (λ_ _=>False) s₄) (λ_ _=>False) s₃
      else ∃m,m<n∧I m s₃) (λ_ _=>False) s₂) (λ_ _=>False) s₁') (λ_ _=>False) s₁) (λ_ _=>False) s)(n:Nat)(h:I n s):codeAny (model prog w) A (.compLoop (.ListComp elt [⟨target,iter,ifs,0⟩] scope pos) 0 it ao env) R s:=by
 refine codeAny_loop rfl I (λn s hI=>?_) n h
 show wpAny _ A ((compTurn (.ListComp elt [⟨target,iter,ifs,0⟩] scope pos) 0 it ao env).onRaise (λx=>do noteFrame x env;theTreesLotGoes x)) _ _ s
 refine wpAny_noted ?_
 rw[compTurn_list]
 refine wpAny_bind (wpAny_standAt (wpAny_bind (wpAny_mono (turn n s hI) (λr s₁ h₁=>?_) λ_ _ h'=>h'.elim)))
 cases r with
 |none=>exact wpAny_pure h₁
 | some v =>
  refine wpAny_bind (wpAny_mono h₁ (λ_ s₁' h₁'=>?_) λ_ _ h'=>h'.elim)
  refine wpAny_bind (wpAny_mono h₁' (λ_ s₂ h₂=>wpAny_bind (wpAny_mono h₂ (λok s₃ h₃=>?_) λ_ _ h'=>h'.elim)) λ_ _ h'=>h'.elim)
  cases ok with
  |false=>exact wpAny_pure ⟨rfl,h₃⟩
  |true =>
   exact wpAny_bind (wpAny_bind (wpAny_mono h₃ (λx s₄ h₄=>wpAny_bind (wpAny_mono h₄ (λ_ s₅ h₅=>wpAny_pure (wpAny_pure ⟨rfl,h₅⟩)) λ_ _ h'=>h'.elim)) λ_ _ h'=>h'.elim))
def rLC(g:TG)(tc:TT)(te:TE)(Q:VK)(J:It)(τ:St)(H1:Hp):Prop:=∃W:Nat→Nat→List V→St→Hp→Prop,(∃m,W 0 m [] τ H1)∧∀i m ys τ H,W i m ys τ H →
 (J.stop i H∧∀D,H D=none→Q (.ref D) (upd H D (.lst ys))) ∨
 (J.go i H∧ys.length<sizeLine∧∀x H',J.yld i H x H'→g x τ H' λ τ2 H2=>tc τ2 H2 λb H3=>if b=true then te τ2 H3 λy H4=>∃m',m'<m∧W (i+1) m' (ys++[y]) τ2 H4 else ∃m',m'<m∧W (i+1) m' ys τ2 H3)
def tLC(ix:Nq)(wi:TI)(g:TG)(tc:TT)(te:TE):TE:=λ σ H Q=>wi σ H λJ H1=>rLC g tc te Q J (inner ix σ) H1
def lc_blockG{tg elt iter:Expr}{ifs:No}{pos:Pos}{g:TG}{tc:TT}{te:TE}{fp:Nn}{it:Nc}{tn:Nat→Heap→Prop}{J:It}{Q:VK}{RR:Value→Addr→Result→Shared→Prop}{E:Nb}(B:BlkG X sc oz M ix)(hc:X.calm=true)(hg:∀C ex s H,PG (zej X sc oz M C aa ex s H) tg g)(ht:∀C ex s H,PTs (zej X sc oz M C aa ex s H) ifs tc)(he:∀C ex s H,PE (zej X sc oz M C aa ex s H) elt te)(I:Inv X aa σ H s)(T:Turn X.prog X.w X.K tg J fp it tn)(h0:tn 0 s.heap)(hf:∀b∈fp,FpOk X aa H b)(q:rLC g tc te Q J (inner ix σ) H)(pL:∀D C m ys H' s',Inv X aa σ (upd H' D (.lst ys)) s'→Q (.ref D) (upd H' D (.lst ys))→s'.heap.Ns C m→upd H' D (.lst ys) C=none→s.heap.objs.size<C→RR (.ref D) C (.ok .next) s') :
  wpAny (model X.prog X.w) X.A (newList []) (λao s₃=>wpAny (model X.prog X.w) X.A (newFunctionEnv sc X.env.globals (clOf sc X.env) [] X.env.qual none .none (some X.env)) (λcenv s₄ =>
   codeAny (model X.prog X.w) X.A (.compStart (.ListComp elt [⟨tg,iter,ifs,0⟩] sc pos) 0 (.ref it) ao {cenv with scope:=relabel sc X.env}) (RR ao cenv.locals) s₄) E s₃) E s:=by
 refine wpAny_newObj_type (newEnv_own B.one B.psh ?_)
 dsimp only
 generalize hD:s.heap.objs.size=D
 generalize je:s.heap.push {cls:=.type "list",dict:=none,data:=.seq ([]:List Value).toArray}=g2
 generalize lI:och oz (g2.push {cls:=.type "dict",data:=.dict #[]})=h₁
 have kp:∀(q:Nl) (b:Nc) (o:Obj),q.get? b=some o→(och oz q).get? b=some o:=λq b o e=>by
  cases oz with
  |none=>exact e
  |some _=>exact Qi _ e
 have hns₁:h₁.Ns g2.objs.size (λ_=>none):=lI▸(Heap.Ns.new g2 (.type "dict")).keeps λb o e=>kp _ b o e
 have hz₁:∀z,oz=some z→h₁.IsCell (g2.objs.size+1) none:=λz ez=>by
  have e:(g2.push {cls:=.type "dict",data:=.dict #[]}).objs.size=g2.objs.size+1:=Wq ..
  rw[←lI,←e,ez]
  exact⟨_,Zd _ rfl,rfl⟩
 have hC:g2.objs.size=D+1:=by rw[←je,Wq,hD]
 have k2:∀b o,s.heap.get? b=some o→g2.get? b=some o:=λb o e=>by rw[←je];exact Qi _ e
 have I3:Inv X aa σ H {s with heap:=g2}:=I.kept (t':=s.toks) k2
 have HD:H D=none:=I.hok.fresh (by rw[hD];exact Qg _)
 have fD:FpOk X aa H D:=I.fpOk (by rw[hD];exact Qg _) HD
 have D2:g2.get? D=some {cls:=.type "list",dict:=none,data:=.seq ([]:List Value).toArray}:=by rw[←je,←hD];exact Zd _ rfl
 have k1:∀b o,g2.get? b=some o→h₁.get? b=some o:=λb o e=>lI▸kp _ b o (Qi _ e)
 have fpx:∀b∈D::fp,FpOk X aa H b:=λb hb=>by
  rcases Qe.mp hb with e | e
  ·rw[e];exact fD
  ·exact hf b e
 have fplt:∀b∈D::fp,b<g2.objs.size:=λb hb=>by
  rcases Qe.mp hb with e | e
  ·rw[e,hC];exact Yr _
  ·obtain ⟨o,q,_⟩:=T.obj _ _ h0 b e
   exact Qr (k2 b o q)
 have fpD:D∉fp:=λhm=>by
  obtain⟨o,q,_⟩:=T.obj _ _ h0 D hm
  have:=Qr q
  rw[hD]at this
  exact Yp _ this
 generalize aF:zej X sc oz M g2.objs.size aa (D::fp) {s with heap:=g2} H=Y
 have IY:Inv Y [] (inner ix σ) H {s with heap:=h₁,toks:=s.toks+([]:List (Str×Value)).length}:=by
  rw[←aF]
  exact inv_blkG B I3 fpx fplt rfl hns₁ hz₁ k1 rfl rfl
 have Yg:=aF▸hg g2.objs.size (D::fp) {s with heap:=g2} H
 have Yt:=aF▸ht g2.objs.size (D::fp) {s with heap:=g2} H
 have Ye:=aF▸he g2.objs.size (D::fp) {s with heap:=g2} H
 have eP:Y.prog=X.prog:=by rw[←aF];rfl
 have eW:Y.w=X.w:=by rw[←aF];rfl
 have eK:Y.K=X.K:=by rw[←aF];rfl
 have eA:Y.A=X.A:=by rw[←aF];rfl
 have eC:Y.calm=true:=by rw[←aF];exact hc
 have eE:Y.env=compEnvC sc (ocl oz g2.objs.size (clOf sc X.env)) g2.objs.size X.env:=by rw[←aF];rfl
 have eX:Y.xe=λ_ _=>False:=by rw[←aF];rfl
 have eEx:Y.ex=D::fp:=by rw[←aF];rfl
 have eFs:Y.fs=frs X.stack:=by rw[←aF];rfl
 have ePn:Y.pn=X.pn++aa:=by rw[←aF];rfl
 have eL:Y.env.locals=g2.objs.size:=by rw[eE];rfl
 have vq:Y.H₀=H:=by rw[←aF];rfl
 have pX:Y.s₀={s with heap:=g2}:=by rw[←aF];rfl
 have fY:∀{H':Hp} {pl:Nd} {b:Nc},b∈D::fp→H' b=none→(∀p∈pl,p.1≠b)→FpOk Y pl H' b:=λ{H' pl b} hb hn hp=>by
  obtain⟨f0,f1,f2,f3,f4,f5⟩:=fpx b hb
  refine⟨hn,?_,?_,.inl (by rw[eEx];exact hb),IY.ok.exf b (by rw[eEx];exact hb) |>.2,λp i8=>?_⟩
  ·rw[eL];exact Zc (fplt b hb)
  ·rw [eFs]
   intro z
   rcases Qe.mp (I3.stkSub b z) with q | q
   ·exact f1 q
   ·exact f2 q
  ·rw [ePn] at i8
   rcases Qj.mp i8 with z | z
   ·exact f5 p z
   ·exact hp p z
 obtain⟨W,⟨m0,w0⟩,turn⟩:=q
 have loop:∀ sN:Shared,sN={ s with heap:=h₁,toks:=s.toks+([]:List (Str×Value)).length } →
   codeAny (model X.prog X.w) X.A (.compLoop (.ListComp elt [⟨tg,iter,ifs,0⟩] sc pos) 0 (.ref it) (.ref D) (compEnvC sc (ocl oz g2.objs.size (clOf sc X.env)) g2.objs.size X.env)) (RR (.ref D) g2.objs.size) sN:=by
  rintro sN rfl
  refine compLoop_any (λn s'=>Ex6 λi τ H' ys ae k=>Aj7 (Inv Y [] τ H' s') (tn i s'.heap) (∀b∈D::fp,H' b=none) (s'.heap.get? D=some {cls:=.type "list",data:=.seq (ae:Nj).toArray k}) (Vals ys ae) (ys.length≤sizeLine) (W i n ys τ H')) ?_ m0
   ⟨0,inner ix σ,H,[],[],0,IY,T.keep _ _ _ h0 λb _ o e=>k1 b o (k2 b o e),λb hb=>(fpx b hb).1,k1 _ _ D2,.nil,Zg _,w0⟩
  rintro n s5 ⟨i,τ,H5,ys,ae,k,I5,t5,n5,d5,v5,z5,w5⟩
  have oD:∀{s':Ng} {its':Nj} {k':Nat},s'.heap.get? D=some {cls:=.type "list",data:=.seq its'.toArray k'}→∀b∈[D],∃o,s'.heap.get? b=some o∧∀v,o.data≠.cell v:=λ{s' its' k'} e b hb=>by
   rw[Qb.mp hb]
   exact⟨_,e,λv z=>by cases z⟩
  have lg:Inv Y ([]++zcm [D] s5.heap) τ H5 s5:=I5.pinned (λb hb=>fY (by rw[Qb.mp hb];exact Qc) (n5 b (by rw[Qb.mp hb];exact Qc)) (by simp)) (oD d5)
  have pD:∀p∈zcm [D] s5.heap,p.1=D∧p.2={cls:=.type "list",data:=.seq ae.toArray k}:=λp hp=>by
   obtain⟨e1,e2⟩:=zfr hp
   have dY:p.1=D:=Qb.mp e1
   rw[dY,d5]at e2
   exact⟨dY,(Qk e2).symm⟩
  have fN:∀{H':Hp},(∀b∈fp,H' b=none)→∀b∈fp,FpOk Y ([]++zcm [D] s5.heap) H' b:=λhn b hb=>fY (Qf _ hb) (hn b hb) λp hp z=>by
   rw[Js]at hp
   rw[(pD p hp).1]at z
   exact fpD (z▸hb)
  rcases turn i n ys τ H5 w5 with⟨stop,qn⟩ | ⟨go,zl,step⟩
  ·have h6:=T.done Y eP eW eK eC i _ s5 τ H5 (fun _ _=>False) lg (fN fun b hb=>n5 b (Qf _ hb)) t5 stop
   rw[eA]at h6
   refine thn h6 λr s6 ⟨hr,I6⟩=>?_
   subst hr
   have d6:s6.heap.get? D=some {cls:=.type "list",data:=.seq ae.toArray k}:=by
    have hp:=zbz (fp:=[D]) (Qb.mpr rfl) d5
    exact(I6.pin (D,_) (Qo _ hp)).1
   have H5D:H5 D=none:=n5 D Qc
   obtain⟨mL,nL,_⟩:=I6.loc
   rw[eL]at nL
   have CD:g2.objs.size≠D:=by rw[hC];exact Ku _
   refine pL D _ mL ys H5 s6 ?_ (qn D H5D) nL ?_ (by rw[hC,hD];exact Yr _)
   ·have u6:=I6.base
    rw[eFs,eEx,vq,pX]at u6
    refine I3.call' (ch:=D::fp) (I6.os.trans (by rw[pX])) ⟨u6.keep,u6.slot,λb o e n hx=>?_,u6.there,λb xs e=>?_,λb o u e=>?_,λb ps e=>?_⟩ ?_ I6.bare λb hb=>?_
    ·rw[zad (λz=>hx (by rw[z];exact Qc))];exact u6.free b o e n hx
    ·rw[zad (zab e HD)];exact u6.tups b xs e
    ·rw[zad (zab e HD)];exact u6.frzs b o u e
    ·rw[zad (zab e HD)];exact u6.tbls b ps e
    ·have mh:=I6.hok
     rw[eP,eW]at mh
     intro b u e
     by_cases hb:b=D
     ·subst hb
      rw[zac]at e
      cases e
      exact⟨z5,ae,k,v5,d6⟩
     ·rw [zad hb] at e
      exact(mh b u e).stay (λc v _ q=>q) (λc q=>by rw[zad (zab q H5D)];exact q) λc xs q=>by rw[zad (zab q H5D)];exact q
    ·obtain ⟨f0,f1,f2,f3,f4,f5⟩:=fpx b hb
     exact⟨f3,f1,f4,f5⟩
   ·rw [zad CD]
    have:=I6.free
    rw[eL]at this
    exact this
  ·have h6:=T.item Y eP eW eK eC i _ s5 τ H5 (fun _ _=>False) lg (fN fun b hb=>n5 b (Qf _ hb)) t5 go
   rw[eA]at h6
   refine thn h6 λr s6 ⟨u,hr,h7⟩=>?_
   subst hr
   refine thn h7 λ_ s7 ⟨x,H7,I7,r7,y7,t7,n7⟩=>?_
   have w4:=I7.pinned (fN n7) (T.obj _ _ t7)
   have h8:=Yg _ s7 τ H7 x u _ w4 r7 (step x H7 y7)
   rw[eP,eW,eA,eX,eE]at h8
   refine thn h8 λ_ s8 ⟨τ8,H8,I8,q8⟩=>?_
   have h9:=Yt _ s8 τ8 H8 _ I8 q8
   rw[eP,eW,eA,eX,eE]at h9
   refine thn h9 λok s9 ⟨H9,I9,q9⟩=>?_
   have again:∀{τ':St} {H':Hp} {s':Ng},Inv Y (([]++zcm [D] s5.heap)++zcm fp s7.heap) τ' H' s'→s'.heap.get? D=some {cls:=.type "list",data:=.seq ae.toArray k}∧H' D=none∧tn (i+1) s'.heap∧∀b∈fp,H' b=none:=λ{τ' H' s'} I'=>by
    have pp:∀{b:Nc} {o:Obj},b∈fp→s7.heap.get? b=some o→s'.heap.get? b=some o∧H' b=none:=λ{b o} hb e =>
     let z:=I'.pin (b,o) (Qo _ (Qo _ (zbz hb e)))
     ⟨z.1,z.2.1⟩
    have hp:=zbz (fp:=[D]) (Qb.mpr rfl) d5
    have z:=I'.pin (D,_) (Qo _ (Qp _ hp))
    refine⟨z.1,z.2.1,T.keep _ _ _ t7 λb hb o e=>(pp hb e).1,λb hb=>?_⟩
    obtain⟨o,e,_⟩:=T.obj _ _ t7 b hb
    exact(pp hb e).2
   have drop:∀{pl:Nd} {τ':St} {H':Hp} {s':Ng},Inv Y pl τ' H' s'→Inv Y [] τ' H' s':=λI'=>I'.pins_of (by simp)
   cases ok with
   |false =>
    rw[if_neg (by decide)]at q9 ⊢
    obtain⟨m',hm,w9⟩:=q9
    obtain⟨d9,H9D,t9,n9⟩:=again I9
    exact⟨m',hm,i+1,τ8,H9,ys,ae,k,drop I9,t9,λb hb=>(Qe.mp hb).elim (λe=>e▸H9D) (n9 b),d9,v5,z5,w9⟩
   | true =>
    rw[if_pos rfl]at q9 ⊢
    have iI:=Ye _ s9 τ8 H9 _ I9 q9
    rw[eP,eW,eA,eX,eE]at iI
    refine thn iI λy jm ⟨yv,cQ,rJ,qi,m',hm,w10⟩=>?_
    obtain⟨vy,H10D,t10,n10⟩:=again rJ
    refine call_meets F.slot_list_append ⟨_,vy,rfl⟩ F.entry_list_append (F.args_list_append_2 _ _) (PySem.list_append D ae.toArray k y (by rw[Qv,←v5.length];assumption)) ⟨vy,?_⟩
    have q:=PySem.IsL.update vy (λa=>a.push y)
    have vt:(ae.toArray.push y)=(ae++[y]).toArray:=by simp
    rw[vt]at q
    have kk:∀b o,b≠D→jm.heap.get? b=some o→(jm.heap.update D (Obj.mapSeq λa=>a.push y)).get? b=some o:=λb o hb e=>(Ua jm.heap (Obj.mapSeq λa=>a.push y) (Qu hb)).trans e
    obtain⟨g0,g1,g2',g3,g4,g5⟩:=fY (pl:=[]) (H':=cQ) (b:=D) Qc H10D (by simp)
    have rH:=(drop rJ).turned (h':=jm.heap.update D (Obj.mapSeq λa=>a.push y)) (t':=jm.toks) (it:=D) kk H10D g1 g3 g4 g5
    exact⟨m',hm,i+1,τ8,cQ,ys++[yv],ae++[y],_,rH,T.keep _ _ _ t10 λb hb o e=>kk b o (λz=>fpD (z▸hb)) e,λb hb=>(Qe.mp hb).elim (λe=>e▸H10D) (n10 b),q,v5.append (.cons qi .nil),
     by rw[Qt,Xh];assumption,w10⟩
 exact codeAny_compStart_list (loop _ rfl) (T.self _ 0 _ _ _ (T.keep _ _ _ h0 λb _ o e=>k1 b o (k2 b o e)) (loop _ rfl))
def lc_block{tg elt iter:Expr}{ifs:No}{pos:Pos}{g:TG}{tc:TT}{te:TE}{fp:Nn}{it:Nc}{tn:Nat→Heap→Prop}{J:It}{Q:VK}{RR:Value→Addr→Result→Shared→Prop}{E:Nb}(B:Blk X sc M ix)(hc:X.calm=true)(hg:∀C ex s H,PG (zc0 X sc M C aa ex s H) tg g)(ht:∀C ex s H,PTs (zc0 X sc M C aa ex s H) ifs tc)(he:∀C ex s H,PE (zc0 X sc M C aa ex s H) elt te)(I:Inv X aa σ H s)(T:Turn X.prog X.w X.K tg J fp it tn)(h0:tn 0 s.heap)(hf:∀b∈fp,FpOk X aa H b)(q:rLC g tc te Q J (inner ix σ) H)(pL:∀D C m ys H' s',Inv X aa σ (upd H' D (.lst ys)) s'→Q (.ref D) (upd H' D (.lst ys))→s'.heap.Ns C m→upd H' D (.lst ys) C=none→s.heap.objs.size<C→RR (.ref D) C (.ok .next) s') :
  wpAny (model X.prog X.w) X.A (newList []) (λao s₃=>wpAny (model X.prog X.w) X.A (newFunctionEnv sc X.env.globals (clOf sc X.env) [] X.env.qual none .none (some X.env)) (λcenv s₄ =>
   codeAny (model X.prog X.w) X.A (.compStart (.ListComp elt [⟨tg,iter,ifs,0⟩] sc pos) 0 (.ref it) ao {cenv with scope:=relabel sc X.env}) (RR ao cenv.locals) s₄) E s₃) E s:=lc_blockG B.g hc hg ht he I T h0 hf q pL
def Inv.letgo{C:Nc}{m:Nf}{h':Nl}{s₀:Nl}(I:Inv X aa σ H s)(hn:s.heap.Ns C m)(hC:H C=none)(ai:X.env.locals<s₀.objs.size)(kQ:∀x c,X.env.cells.lookup x=some c→c<s₀.objs.size)(hp:∀p∈X.pn++aa,p.1<s₀.objs.size)(aJ:X.s₀.heap.objs.size≤s₀.objs.size)(hc:s₀.objs.size<C)(hs:Heap.SameBut C s.heap h'):Inv X aa σ H {s with heap:=h'} :=
 I.turned (t':=s.toks) (it:=C) (λb o hb e=>(hs.2 b hb).trans e) hC (Yb (Wm ai hc)) (.inr (Zl aJ (Uc hc))) (λx c e=>Zc (Wm (kQ x c e) hc)) λp q=>Zc (Wm (hp p q) hc)
def Inv.cl_lt(I:Inv X aa σ H s):∀x c,X.env.cells.lookup x=some c→c<s.heap.objs.size:=λx c e=>by
 obtain⟨v,q⟩:=I.cell x c e
 exact q.lt
def Inv.pin_lt(I:Inv X aa σ H s):∀p∈X.pn++aa,p.1<s.heap.objs.size:=λp hp=>Qr (I.pin p hp).1
def pe_lcC(B:BlkG X sc oz M ix)(hc:X.calm=true)(hi:PI X tg iter wi)(hg:∀C aa ex s H,PG (zej X sc oz M C aa ex s H) tg g)(ht:∀C aa ex s H,PTs (zej X sc oz M C aa ex s H) ifs tc)(he:∀C aa ex s H,PE (zej X sc oz M C aa ex s H) elt te)(hs:∀x,foldedSetIterable iter X.env x=pure x:=by intro _;rfl):PE X (.ListComp elt [⟨tg,iter,ifs,0⟩] sc pos) (tLC ix wi g tc te):=by
 intro aa s σ H Q I h
 rw[eval_ListComp]
 refine wpAny_comprehension_free (use:=none) rfl hs (zcl (B.clos I)) B.kind B.names (thn (hi aa s σ H _ I h) λv s1 h1=>thn h1 λitv s2 h2=>?_)
 obtain⟨it,fp,tn,J,H2,e,I2,T,cc,f2,q⟩:=h2
 subst e
 refine lc_blockG (RR:=λao C=>compPost (model X.prog X.w) X.A X.xe none (EP X aa σ Q) ao C) B hc (hg · aa) (ht · aa) (he · aa) I2 T cc f2 q ?_
 intro D C m ys H' s' I' q' hn hC ai
 refine⟨m,hn,λh' aO=>⟨.ref D,_,I'.letgo hn hC I2.lt I2.cl_lt I2.pin_lt I2.sz ai aO,rfl,q'⟩⟩
def pe_lc(B:Blk X sc M ix)(hc:X.calm=true)(hi:PI X tg iter wi)(hg:∀C aa ex s H,PG (zc0 X sc M C aa ex s H) tg g)(ht:∀C aa ex s H,PTs (zc0 X sc M C aa ex s H) ifs tc)(he:∀C aa ex s H,PE (zc0 X sc M C aa ex s H) elt te)(hs:∀x,foldedSetIterable iter X.env x=pure x:=by intro _;rfl):PE X (.ListComp elt [⟨tg,iter,ifs,0⟩] sc pos) (tLC ix wi g tc te):=pe_lcC B.g hc hi hg ht he hs
def ps_lc(hN:X.N.Nodup)(dh:X.N[i]?=some y)(hy:X.env.scope.names.lookup y=some .local)(B:Blk X sc M ix)(hc:X.calm=true)(hi:PI X tg iter wi)(hg:∀C aa ex s H,PG (zc0 X sc M C aa ex s H) tg g)(ht:∀C aa ex s H,PTs (zc0 X sc M C aa ex s H) ifs tc)(he:∀C aa ex s H,PE (zc0 X sc M C aa ex s H) elt te)(sY:swapsWith (.ListComp elt [⟨tg,iter,ifs,0⟩] sc pos) (some (.Name y py)) spos.line X.env=pure true)(hs:∀x,foldedSetIterable iter X.env x=pure x:=by intro _;rfl):PS X (.Assign [.Name y py] (.ListComp elt [⟨tg,iter,ifs,0⟩] sc pos) spos) (tAsg (tLC ix wi g tc te) (gName i)):=by
 intro aa s σ H D' I h
 rw[exec_Assign_Name_used _ _ _ _ sY]
 refine wpAny_bind (wpAny_standAt (wpAny_bind ?_))
 show wpAny _ X.A (do let _ ←comprehension (.ListComp elt [⟨tg,iter,ifs,0⟩] sc pos) sc X.env _ (newList []) false (eval iter X.env) (some (assign (.Name y py) X.env))) _ _ s
 refine wpAny_bind (wpAny_mono (wpAny_comprehension_free (use:=some (assign (.Name y py) X.env)) (Q:=λ_ s'=>SP X aa D' .next s') rfl hs (zcl (B.clos I)) B.kind B.names
  (thn (hi aa s σ H _ I h) λv s1 h1=>thn h1 λitv s2 h2=>?_)) (λ_ s' hq=>wpAny_pure (wpAny_pure hq)) λ_ _ e=>e)
 obtain⟨it,fp,tn,J,H2,e,I2,T,cc,f2,q⟩:=h2
 subst e
 refine lc_block (RR:=λao C=>compPost (model X.prog X.w) X.A X.xe (some (assign (.Name y py) X.env)) (λ_ s'=>SP X aa D' .next s') ao C) B hc (hg · aa) (ht · aa) (he · aa) I2 T cc f2 q ?_
 intro D C m ys H' s' I' q' hn hC ai
 show wpAny _ X.A (assign (.Name y py) X.env (.ref D)) _ _ s'
 refine wpAny_assign_Name (zfk I' hN dh (.inl hy) (v:=.ref D) rfl (λmf w6 ⟨a,sb,ha⟩=>?_) (.inr hy))
 have aC:C≠a:=by
  rcases ha with z | z
  ·rw[z];exact Yb (Wm I2.lt ai)
  ·exact Yb (Wm (I2.cl_lt _ _ z) ai)
 have ba:=hn.sameBut sb aC
 exact⟨m,ba,λh' aO=>⟨_,_,w6.letgo ba hC I2.lt I2.cl_lt I2.pin_lt I2.sz ai aO,q'⟩⟩
end
end L2
end
section
namespace Tm
open PySem PyProof.Rows
def gallopT:Bool→Keyed→Array Keyed→Nat→Nat→Nat→StateT SortSt Sem (Option Nat):=sortPriv% PySem.Builtin.gallop
def mergeLoT:Array Keyed→Array Keyed→StateT SortSt Sem (Array Keyed):=sortPriv% PySem.Builtin.mergeLo
def mergeHiT:Array Keyed→Array Keyed→StateT SortSt Sem (Array Keyed):=sortPriv% PySem.Builtin.mergeHi
section
variable{σ α β:Type}{M:Model}{A:Nm}{E:Nb}{s:Ng}{Q:α→σ→Prop}{st:σ}{c:Prop}[Decidable c]
def zcx(h:∀Q0:α→σ→Prop,(∀r ag,Q r ag→Q0 r ag)→wpS M A E s m Q0 st):wpS M A E s m Q st:=h Q λ_ _ z=>z
def jp_if{f:Unit→β→StateT σ Sem α}(h:∀z,wpS M A E s (f () z) Q st):wpS M A E s (if c then f () x else f () y) Q st:=by
 split
 ·exact h _
 ·exact h _
def zam{x y:StateT σ Sem α}(h1:c→wpS M A E s x Q st)(h2:¬c→wpS M A E s y Q st):wpS M A E s (if c then x else y) Q st:=by
 split
 next z=>exact h1 z
 next z=>exact h2 z
end
section
variable{prog:Ni}{w:Nk}{A:Nm}{E:Nb}{s:Ng}{kd:SortKind}{a₀:Array Keyed}
def Cmp(prog:Ni)(w:Nk)(A:Nm)(E:Nb)(s:Ng)(kd:SortKind)(a₀:Array Keyed):Prop :=
 ∀(x y:Keyed) (st:SortSt) (Q:Option Bool→SortSt→Prop),x∈a₀.toList→y∈a₀.toList→kindOf st=kd→(∀b,Q (some b) st)→wpS (model prog w) A E s (lt' x y) Q st
def Of(a₀ xs:Array Keyed):Prop:=∀(i:Nat) (p:Keyed),xs[i]?=some p→p∈a₀.toList
def za0{arr:Array Keyed}{i:Nat}{p:Keyed}{Q:Keyed→SortSt→Prop}{st:SortSt}(h:arr[i]?=some p)(q:Q p st):wpS (model prog w) A E s (elem' arr i) Q st:=by
 rw[elem'_eq,h];exact wpS_pure q
def beyondT(left:Bool)(ky:Keyed)(arr:Array Keyed)(i:Nat):StateT SortSt Sem (Option Bool):=do
 let x ←elem' arr i
 if left=true then lt' x ky else do
  let r ←lt' ky x
  pure (r.map λz=>!z)
def wpS_beyond{left:Bool}{ky:Keyed}{arr:Array Keyed}{i:Nat}{Q:Option Bool→SortSt→Prop}{st:SortSt}(C:Cmp prog w A E s kd a₀)(hk:kindOf st=kd)(hO:Of a₀ arr)(hy:ky∈a₀.toList)(hi:i<arr.size)(q:∀b,Q (some b) st):wpS (model prog w) A E s (beyondT left ky arr i) Q st:=by
 have e:=getElem?_pos arr i hi
 unfold beyondT
 refine wpS_bind (za0 e ?_)
 have m:=hO _ _ e
 cases left with
 |true=>exact C _ _ _ _ m hy hk q
 |false=>exact wpS_bind (C _ _ _ _ hy m hk λb=>wpS_pure (q _))
def zcg{left:Bool}{ky:Keyed}{arr:Array Keyed}{base n hint:Nat}{Q:Option Nat→SortSt→Prop}{st:SortSt}(C:Cmp prog w A E s kd a₀)(hk:kindOf st=kd)(hO:Of a₀ arr)(hy:ky∈a₀.toList)(hb:base+n≤arr.size)(hh:hint<n)(h:∀k,k≤n→Q (some k) st):wpS (model prog w) A E s (gallopT left ky arr base n hint) Q st:=by
 have ask:∀{i:Nat} {Q':Option Bool→SortSt→Prop},i<n→(∀b,Q' (some b) st)→wpS (model prog w) A E s (beyondT left ky arr (base+i)) Q' st:=λ{i Q'} hi q=>wpS_beyond C hk hO hy (by omega) q
 have last:∀(f:Nat→(Option (Option Nat)×Nat×Nat)→StateT SortSt Sem (ForInStep (Option (Option Nat)×Nat×Nat))) (lo hi:Nat),lo≤hi→hi≤n →
   (∀x l r Q',l≥r→Q' (ForInStep.done (none,l,r)) st→wpS (model prog w) A E s (f x (none,l,r)) Q' st) →
   (∀x l r Q',¬l≥r→r≤n→Q' (ForInStep.yield (none,l+(r-l)/2+1,r)) st→Q' (ForInStep.yield (none,l,l+(r-l)/2)) st→wpS (model prog w) A E s (f x (none,l,r)) Q' st) →
   wpS (model prog w) A E s (forIn [:n] (none,lo,hi) f) (λc ag=>ag=st∧∃k,c=(none,k,k)∧k≤n) st:=by
  intro f lo hi h1 h2 f1 f2
  refine wpS_forRange (I:=λx c ag=>Aj2 (ag=st) (Ex2 λl r=>Aj4 (c=(none,l,r)) (l≤r) (r≤n) (r-l≤n-x))) ?step ?fin ?init
  case init=>exact⟨rfl,lo,hi,rfl,h1,h2,by omega⟩
  case fin =>
   rintro c ag ⟨rfl,l,r,rfl,a1,a2,a3⟩
   have:l=r:=by omega
   subst this
   exact⟨rfl,l,rfl,a2⟩
  case step =>
   rintro x c ag _ hx ⟨rfl,l,r,rfl,a1,a2,a3⟩
   by_cases dR:l≥r
   ·refine f1 x l r _ dR ?_
    have:l=r:=Nat.le_antisymm a1 dR
    subst this
    exact⟨rfl,l,rfl,a2⟩
   ·exact f2 x l r _ dR a2 ⟨rfl,_,_,rfl,by omega,a2,by omega⟩ ⟨rfl,_,_,rfl,Yh _ _,by omega,by omega⟩
 unfold gallopT
 refine wpS_bind (ask (i:=hint) hh λb0=>?_)
 cases b0 with
 | true =>
  refine wpS_bind (wpS_mono (wpS_forRange
   (I:=λx c ag=>Aj2 (ag=st) (Ex2 λla of=>Aj4 (c=(none,la,of)) (hint+la<n) (la<of) (x<of)))
   (Q:=λc ag=>Aj2 (ag=st) (Ex2 λla of=>Aj3 (c=(none,la,of)) (hint+la<n) (la<of))) ?step ?fin ?init) ?post)
  case init=>exact⟨rfl,0,1,rfl,hh,Qg _,Qg _⟩
  case fin =>
   rintro c ag ⟨rfl,la,of,rfl,a2,a3,a4⟩
   exact⟨rfl,la,of,rfl,a2,a3⟩
  case step =>
   rintro x c ag _ hx ⟨rfl,la,of,rfl,a2,a3,a4⟩
   dsimp only
   refine zam (λ_=>wpS_pure ⟨rfl,la,of,rfl,a2,a3⟩) λdR=>wpS_bind (ask (i:=hint+of) (by omega) λb=>?_)
   cases b with
   |true=>exact wpS_pure ⟨rfl,of,2*of+1,rfl,by omega,by omega,by omega⟩
   |false=>exact wpS_pure ⟨rfl,la,of,rfl,a2,a3⟩
  case post =>
   rintro c ag ⟨rfl,la,of,rfl,a2,a3⟩
   refine wpS_bind (wpS_mono (last _ (hint+la+1) (hint+min of (n-hint)) (by omega) (by omega) ?_ ?_) ?_)
   ·intro x l r Q' dR q
    exact zam (λ_=>wpS_pure q) λz=>absurd dR z
   ·intro x l r Q' dR hr q1 q2
    refine zam (λz=>absurd z dR) λ_=>wpS_bind (ask (i:=l+(r-l)/2) (by omega) λb=>?_)
    cases b with
    |true=>exact wpS_pure q1
    |false=>exact wpS_pure q2
   ·rintro c ag ⟨rfl,k,rfl,b1⟩
    exact wpS_pure (h k b1)
 | false =>
  refine wpS_bind (wpS_mono (wpS_forRange
   (I:=λx c ag=>Aj2 (ag=st) (Ex2 λla of=>Aj4 (c=(none,la,of)) (la≤hint) (la<of) (x<of)))
   (Q:=λc ag=>Aj2 (ag=st) (Ex2 λla of=>Aj3 (c=(none,la,of)) (la≤hint) (la<of))) ?step ?fin ?init) ?post)
  case init=>exact⟨rfl,0,1,rfl,Zg _,Qg _,Qg _⟩
  case fin =>
   rintro c ag ⟨rfl,la,of,rfl,a2,a3,a4⟩
   exact⟨rfl,la,of,rfl,a2,a3⟩
  case step =>
   rintro x c ag _ hx ⟨rfl,la,of,rfl,a2,a3,a4⟩
   dsimp only
   refine zam (λ_=>wpS_pure ⟨rfl,la,of,rfl,a2,a3⟩) λdR=>wpS_bind (ask (i:=hint-of) (by omega) λb=>?_)
   cases b with
   |true=>exact wpS_pure ⟨rfl,la,of,rfl,a2,a3⟩
   |false=>exact wpS_pure ⟨rfl,of,2*of+1,rfl,by omega,by omega,by omega⟩
  case post =>
   rintro c ag ⟨rfl,la,of,rfl,a2,a3⟩
   refine wpS_bind (wpS_mono (last _ (hint+1-min of (hint+1)) (hint-la) (by omega) (by omega) ?_ ?_) ?_)
   ·intro x l r Q' dR q
    exact zam (λ_=>wpS_pure q) λz=>absurd dR z
   ·intro x l r Q' dR hr q1 q2
    refine zam (λz=>absurd z dR) λ_=>wpS_bind (ask (i:=l+(r-l)/2) (by omega) λb=>?_)
    cases b with
    |true=>exact wpS_pure q1
    |false=>exact wpS_pure q2
   ·rintro c ag ⟨rfl,k,rfl,b1⟩
    exact wpS_pure (h k b1)
end
section
variable{prog:Ni}{w:Nk}{A:Nm}{E:Nb}{s:Ng}{kd:SortKind}{a₀:Array Keyed}
variable{all out ra rb seg:List Keyed}
def Pm(all out ra rb:List Keyed):Prop:=(out++(ra++rb)).Perm all
def Pm.appA(j:Pm all out (seg++ra) rb):Pm all (out++seg) ra rb:=by
 unfold Pm at *
 rw[Qw,←Qw seg];exact j
def Pm.appB(j:Pm all out ra (seg++rb)):Pm all (out++seg) ra rb:=by
 unfold Pm at *
 rw[Qw]
 refine List.Perm.trans (Zz _ ?_) j
 rw[←Qw,←Qw]
 exact Yu.append_right _
def drop_cons{a:Array Keyed}{i:Nat}(h:i<a.size):a.toList.drop i=a[i]::a.toList.drop (i+1):=by
 rw[Kg (by simpa using h)];simp
def zcy{a:Array Keyed}{i:Nat}:(a.extract i a.size).toList=a.toList.drop i:=by
 simp[Qz]
def zf3{a:Array Keyed}{i k:Nat}(h:i+k≤a.size):(a.extract i (i+k)).toList++a.toList.drop (i+k)=a.toList.drop i:=by
 rw[Array.toList_extract,Kf]
 have:i+k-i=k:=by omega
 rw[this,←List.drop_drop,Yx]
abbrev Pa(a b o:Array Keyed)(i k:Nat):Prop:=Pm (a.toList++b.toList) o.toList (a.toList.drop i) (b.toList.drop k)
variable{a b o:Array Keyed}{i k n:Nat}
def Pa.pushA(j:Pa a b o i k)(h:i<a.size):Pa a b (o.push a[i]) (i+1) k:=by
 have:=Pm.appA (seg:=[a[i]]) (ra:=a.toList.drop (i+1)) (by rw[Xg,←drop_cons h];exact j)
 rwa[←Jg]at this
def Pa.pushB(j:Pa a b o i k)(h:k<b.size):Pa a b (o.push b[k]) i (k+1):=by
 have:=Pm.appB (seg:=[b[k]]) (rb:=b.toList.drop (k+1)) (by rw[Xg,←drop_cons h];exact j)
 rwa[←Jg]at this
def Pa.runA(j:Pa a b o i k)(h:i+n≤a.size):Pa a b (o++a.extract i (i+n)) (i+n) k:=by
 have:=Pm.appA (seg:=(a.extract i (i+n)).toList) (ra:=a.toList.drop (i+n)) (by rw[zf3 h];exact j)
 show Pm _ (o++a.extract i (i+n)).toList _ _
 rw[Ya];exact this
def Pa.runB(j:Pa a b o i k)(h:k+n≤b.size):Pa a b (o++b.extract k (k+n)) i (k+n):=by
 have:=Pm.appB (seg:=(b.extract k (k+n)).toList) (rb:=b.toList.drop (k+n)) (by rw[zf3 h];exact j)
 show Pm _ (o++b.extract k (k+n)).toList _ _
 rw[Ya];exact this
def Pa.end1(j:Pa a b o i k):(o++a.extract i++b.extract k).toList.Perm (a.toList++b.toList):=by
 rw[Ya,Ya,zcy,zcy,Qw];exact j
def Pa.end2(j:Pa a b o i k):(o++b.extract k++a.extract i).toList.Perm (a.toList++b.toList):=by
 rw[Ya,Ya,zcy,zcy,Qw]
 exact(Zz _ Yu).trans j
def SG(st ag:SortSt):Prop:=∃g,ag=SortSt.mk' (kindOf st) (arrOf st) (pendingOf st) g (failedOf st)
def wpS_mergeLo{Q:Array Keyed→SortSt→Prop}{st:SortSt}(C:Cmp prog w A E s kd a₀)(hk:kindOf st=kd)(oa:Of a₀ a)(ob:Of a₀ b)(ha:0 < a.size)(hb:0 < b.size)(h:∀(res:Array Keyed) (ag:SortSt),res.toList.Perm (a.toList++b.toList)→SG st ag→Q res ag):wpS (model prog w) A E s (mergeLoT a b) Q st:=by
 have ia_:∀i (hi:i<a.size),a[i]∈a₀.toList:=λi hi=>oa i _ (getElem?_pos a i hi)
 have ib_:∀i (hi:i<b.size),b[i]∈a₀.toList:=λi hi=>ob i _ (getElem?_pos b i hi)
 have ea:∀i (hi:i<a.size),a[i]?=some a[i]:=λi hi=>getElem?_pos a i hi
 have eb:∀i (hi:i<b.size),b[i]?=some b[i]:=λi hi=>getElem?_pos b i hi
 have sgk:∀{ag},SG st ag→kindOf ag=kd:=λ⟨g,e⟩=>by rw[e];exact hk
 unfold mergeLoT
 refine wpS_bind (wpS_lift (wpAny_rule ⟨rfl,?_⟩))
 refine wpS_bind (za0 (eb 0 hb) ?_)
 have j0:Pa a b (#[b[0]]:Array Keyed) 0 1:=by
  have j:Pa a b (#[]:Array Keyed) 0 0:=by show List.Perm _ _;simp
  exact j.pushB hb
 refine zam (λc1=>wpS_pure (h _ _ j0.end1 ⟨_,rfl⟩)) λc1=>zam (λc2=>wpS_pure (h _ _ j0.end2 ⟨_,rfl⟩)) λc2=>?_
 have vz:¬b.size=1:=λz=>c1 (by simp[z])
 have c2':¬a.size=1:=λz=>c2 (by simp[z])
 refine wpS_bind (wpS_get ?_)
 refine wpS_bind (wpS_mono (wpS_forRange
  (I:=λx c ag=>Aj2 (SG st ag) (Ex4 λo i k g=>Aj5 (c=(none,o,i,k,g)) (i+1<a.size) (k<b.size) (Pa a b o i k) (x≤i+k)))
  (Q:=λc ag=>Aj2 (SG st ag) (Ex2 λres r=>Aj2 (c=(some res,r)) (res.toList.Perm (a.toList++b.toList)))) ?step ?fin ?init) ?post)
 case init=>exact⟨⟨_,rfl⟩,_,0,1,_,rfl,by omega,by omega,j0,by omega⟩
 case fin =>
  rintro c ag ⟨_,o,i,k,g,rfl,a1,a2,a3,a4⟩
  exfalso;omega
 case post =>
  rintro c ag ⟨g,res,r,rfl,m⟩
  exact wpS_pure (h res ag m g)
 case step =>
  rintro x c aU _ hx ⟨g1,o1,i1,k1,mg,rfl,a1,a2,a3,a4⟩
  dsimp -zeta only
  refine wpS_bind (wpS_mono (wpS_forRange
   (I:=λy c ag=>Aj2 (ag=aU) (Ex5 λo i k ac bc=>Aj5 (c=(none,o,i,k,ac,bc)) (i+1<a.size) (k<b.size) (Pa a b o i k) (i1+k1+y≤i+k)))
   (Q:=λc ag=>Aj2 (ag=aU) ((Ex2 λres r=>Aj2 (c=(some res,r)) (res.toList.Perm (a.toList++b.toList)))∨Ex5 λo i k ac bc=>Aj5 (c=(none,o,i,k,ac,bc)) (i+1<a.size) (k<b.size) (Pa a b o i k) (i1+k1<i+k))) ?step1 ?fin1 ?init1) ?post1)
  case init1=>exact⟨rfl,o1,i1,k1,0,0,rfl,a1,a2,a3,Qg _⟩
  case fin1 =>
   rintro c ag ⟨_,o,i,k,ac,bc,rfl,b1,b2,b3,b4⟩
   exfalso;omega
  case step1 =>
   rintro y c cc _ hy ⟨rfl,o,i,k,ac,bc,rfl,b1,b2,b3,b4⟩
   have rF:i<a.size:=by omega
   dsimp -zeta only
   refine wpS_bind (za0 (eb k b2) (wpS_bind (za0 (ea i rF) (wpS_bind (C _ _ _ _ (ib_ k b2) (ia_ i rF) (sgk g1) λe=>?_)))))
   dsimp -zeta only
   refine zam (λ_=>?_) (λ_=>?_)
   ·refine wpS_bind (za0 (eb k b2) ?_)
    have j:=b3.pushB b2
    refine zam (λ_=>wpS_pure ⟨rfl,.inl ⟨_,_,rfl,j.end1⟩⟩) λd1=>?_
    have pY:¬k+1=b.size:=λz=>d1 (beq_iff_eq.mpr z)
    exact zam (λ_=>wpS_pure ⟨rfl,.inr ⟨_,i,k+1,_,_,rfl,b1,by omega,j,by omega⟩⟩) λ_=>wpS_pure ⟨rfl,_,i,k+1,_,_,rfl,b1,by omega,j,by omega⟩
   ·refine wpS_bind (za0 (ea i rF) ?_)
    have j:=b3.pushA rF
    refine zam (λ_=>wpS_pure ⟨rfl,.inl ⟨_,_,rfl,j.end2⟩⟩) λd1=>?_
    have pY:¬i+1+1=a.size:=λz=>d1 (beq_iff_eq.mpr z)
    exact zam (λ_=>wpS_pure ⟨rfl,.inr ⟨_,i+1,k,_,_,rfl,by omega,b2,j,by omega⟩⟩) λ_=>wpS_pure ⟨rfl,_,i+1,k,_,_,rfl,by omega,b2,j,by omega⟩
  case post1 =>
   rintro c cc ⟨rfl,⟨res,r,rfl,m⟩ | ⟨o2,i2,k2,ac2,bc2,rfl,b1,b2,b3,b4⟩⟩
   ·exact wpS_pure ⟨g1,res,_,rfl,m⟩
   dsimp -zeta only
   refine wpS_bind (wpS_lift (wpAny_rule ⟨rfl,?_⟩))
   refine wpS_bind (wpS_mono (wpS_forRange
    (I:=λy c ag=>Aj2 (SG st ag) (Ex6 λo i k g ac bc=>Aj5 (c=(none,o,i,k,g,ac,bc)) (i+1<a.size) (k<b.size) (Pa a b o i k) (i2+k2≤i+k)))
    (Q:=λc ag=>Aj2 (SG st ag) ((Ex2 λres r=>Aj2 (c=(some res,r)) (res.toList.Perm (a.toList++b.toList)))∨Ex6 λo i k g ac bc=>Aj5 (c=(none,o,i,k,g,ac,bc)) (i+1<a.size) (k<b.size) (Pa a b o i k) (i2+k2≤i+k))) ?step2 ?fin2 ?init2) ?post2)
   case init2=>exact⟨g1,o2,i2,k2,_,_,_,rfl,b1,b2,b3,Qg _⟩
   case fin2 =>
    rintro c ag ⟨g,o,i,k,g',ac,bc,rfl,c1,c2,c3,c4⟩
    exact⟨g,.inr ⟨o,i,k,g',ac,bc,rfl,c1,c2,c3,c4⟩⟩
   case post2 =>
    rintro c aw ⟨g3,⟨res,r,rfl,m⟩ | ⟨o3,i3,k3,g',vZ,vA,rfl,c1,c2,c3,c4⟩⟩
    ·exact wpS_pure ⟨g3,res,_,rfl,m⟩
    dsimp -zeta only
    refine wpS_bind (wpS_modify ?_)
    obtain⟨gg,e3⟩:=g3
    exact wpS_pure ⟨⟨_,by rw[e3]⟩,o3,i3,k3,_,rfl,c1,c2,c3,by omega⟩
   case step2 =>
    rintro y c aw _ hy ⟨g3,o3,i3,k3,mg3,vZ,vA,rfl,c1,c2,c3,c4⟩
    refine zcx λQ0 bn=>?_
    dsimp -zeta only
    have sgm:∀g',SG st (SortSt.mk' (kindOf aw) (arrOf aw) (pendingOf aw) g' (failedOf aw)):=λg'=>by
     obtain⟨g,e⟩:=g3
     exact⟨g',by rw[e]⟩
    extract_lets -underBinder +onlyGivenNames s1 out s2 ia s3 ib s4 mn s5 ac bc jp
    refine jp_if (f:=jp) λm'=>?_
    refine wpS_bind (wpS_modify ?_)
    refine wpS_bind (za0 (eb k3 c2) ?_)
    refine wpS_bind (zcg (base:=i3) (n:=a.size-i3) (hint:=0) C (sgk (sgm _)) oa (ib_ k3 c2) (by omega) (by omega) λk q1=>?_)
    dsimp -zeta only
    have jr:=c3.runA (n:=k) (by omega)
    extract_lets -underBinder +onlyGivenNames ac' jp2
    have h2:∀(n':Nat) (o':Array Keyed) (f1:n'+1<a.size),i3≤n'→Pa a b o' n' k3→wpS (model prog w) A E s (jp2 () o' n') Q0 (SortSt.mk' (kindOf aw) (arrOf aw) (pendingOf aw) m' (failedOf aw)):=by
     intro n' o' f1 f2 fJ
     have f0:n'<a.size:=by omega
     refine wpS_bind (za0 (eb k3 c2) ?_)
     have fK:=fJ.pushB c2
     refine zam (λ_=>wpS_pure (bn _ _ ⟨sgm _,.inl ⟨_,_,rfl,fK.end1⟩⟩)) λd=>?_
     have d':¬k3+1=b.size:=λz=>d (beq_iff_eq.mpr z)
     refine wpS_bind (za0 (ea n' f0) ?_)
     refine wpS_bind (zcg (base:=k3+1) (n:=b.size-(k3+1)) (hint:=0) C (sgk (sgm _)) ob (ia_ n' f0) (by omega) (by omega) λk' r1=>?_)
     dsimp -zeta only
     have js:=fK.runB (n:=k') (by omega)
     extract_lets -underBinder +onlyGivenNames bc' jp3
     have h3:∀(m2:Nat) (o2:Array Keyed) (p1:m2<b.size),k3+1≤m2→Pa a b o2 n' m2→wpS (model prog w) A E s (jp3 () o2 m2) Q0 (SortSt.mk' (kindOf aw) (arrOf aw) (pendingOf aw) m' (failedOf aw)):=by
      intro m2 o2 p1 p2 pJ
      refine wpS_bind (za0 (ea n' f0) ?_)
      have pK:=pJ.pushA f0
      refine zam (λ_=>wpS_pure (bn _ _ ⟨sgm _,.inl ⟨_,_,rfl,pK.end2⟩⟩)) λd=>?_
      have d2:¬n'+1+1=a.size:=λz=>d (beq_iff_eq.mpr z)
      exact zam (λ_=>wpS_pure (bn _ _ ⟨sgm _,.inr ⟨_,n'+1,m2,_,_,_,rfl,by omega,p1,pK,by omega⟩⟩)) λ_=>wpS_pure (bn _ _ ⟨sgm _,_,n'+1,m2,_,_,_,rfl,by omega,p1,pK,by omega⟩)
     refine zam (λkz=>?_) (λkz=>?_)
     ·refine zam (fun _=>wpS_pure (bn _ _ ⟨sgm _,.inl ⟨_,_,rfl,js.end1⟩⟩)) fun d4=>?_
      have d4':¬k3+1+k'=b.size:=λz=>d4 (beq_iff_eq.mpr z)
      exact h3 (k3+1+k') _ (by omega) (Yh _ _) js
     ·exact h3 (k3+1) _ (by omega) (Qg _) fK
    refine zam (λkz=>?_) (λkz=>?_)
    ·refine zam (fun _=>wpS_pure (bn _ _ ⟨sgm _,.inl ⟨_,_,rfl,jr.end2⟩⟩)) fun d=>zam (fun _=>wpS_pure (bn _ _ ⟨sgm _,.inl ⟨_,_,rfl,jr.end1⟩⟩)) fun e=>?_
     have d':¬i3+k+1=a.size:=λz=>d (beq_iff_eq.mpr z)
     have e':¬i3+k=a.size:=λz=>e (beq_iff_eq.mpr z)
     exact h2 (i3+k) _ (by omega) (Yh _ _) jr
    ·exact h2 i3 _ c1 (Qg _) c3
end
section
variable{prog:Ni}{w:Nk}{A:Nm}{E:Nb}{s:Ng}{kd:SortKind}{a₀:Array Keyed}
variable{a b o:Array Keyed}{na nb at_:Nat}
def zff:(a.extract 0 n).toList=a.toList.take n:=by simp
def zfa{a:Array Keyed}{i n:Nat}(hi:i≤n)(h:n≤a.size):a.toList.take i++(a.extract i n).toList=a.toList.take n:=by
 rw[Array.toList_extract,Kf]
 have e:a.toList.take i=(a.toList.take n).take i:=by rw[List.take_take];congr 1;omega
 have e2:(a.toList.drop i).take (n-i)=(a.toList.take n).drop i:=by rw[List.drop_take]
 rw[e,e2,Yx]
def Ph(a b o:Array Keyed)(na nb:Nat):Prop:=(a.toList.take na++(b.toList.take nb++o.toList)).Perm (a.toList++b.toList)
def mvA{t sg me u r all:List Keyed}(h:((t++sg)++(u++r)).Perm all)(hs:me.Perm sg):(t++(u++(r++me))).Perm all:=by
 refine List.Perm.trans ?_ h
 rw[Qw,←Qw u]
 exact Zz _ ((Zz _ hs).trans Yu)
def mvB{t sg me u r all:List Keyed}(h:(t++((u++sg)++r)).Perm all)(hs:me.Perm sg):(t++(u++(r++me))).Perm all:=by
 refine List.Perm.trans ?_ h
 rw[Qw]
 exact Zz _ (Zz _ ((Zz _ hs).trans Yu))
def Ph.runA(j:Ph a b o na nb)(hi:at_≤na)(h:na≤a.size):Ph a b (o++(a.extract at_ na).reverse) at_ nb:=by
 unfold Ph at *
 rw[←zfa hi h]at j
 rw[Ya,Jr]
 exact mvA j (Jd _)
def Ph.runB(j:Ph a b o na nb)(hi:at_≤nb)(h:nb≤b.size):Ph a b (o++(b.extract at_ nb).reverse) na at_:=by
 unfold Ph at *
 rw[←zfa hi h]at j
 rw[Ya,Jr]
 exact mvB j (Jd _)
def Ph.pushA(j:Ph a b o (na+1) nb)(h:na<a.size):Ph a b (o.push a[na]) na nb:=by
 unfold Ph at *
 rw[Qm (by simpa using h)]at j
 rw[Jg]
 exact mvA j (by simp)
def Ph.pushB(j:Ph a b o na (nb+1))(h:nb<b.size):Ph a b (o.push b[nb]) na nb:=by
 unfold Ph at *
 rw[Qm (by simpa using h)]at j
 rw[Jg]
 exact mvB j (by simp)
def Ph.end1(j:Ph a b o na nb):(a.extract 0 na++b.extract 0 nb++o.reverse).toList.Perm (a.toList++b.toList):=by
 rw[Ya,Ya,Jr,zff,zff,Qw]
 exact(Zz _ (Zz _ (Jd _))).trans j
def Ph.end2(j:Ph a b o na nb):(b.extract 0 nb++a.extract 0 na++o.reverse).toList.Perm (a.toList++b.toList):=by
 rw[Ya,Ya,Jr,zff,zff]
 refine List.Perm.trans ?_ j
 rw[←Qw]
 exact(Yu).append (Jd _)
def wpS_mergeHi{Q:Array Keyed→SortSt→Prop}{st:SortSt}(C:Cmp prog w A E s kd a₀)(hk:kindOf st=kd)(oa:Of a₀ a)(ob:Of a₀ b)(ha:0 < a.size)(hb:0 < b.size)(h:∀(res:Array Keyed) (ag:SortSt),res.toList.Perm (a.toList++b.toList)→SG st ag→Q res ag):wpS (model prog w) A E s (mergeHiT a b) Q st:=by
 have ia_:∀i (hi:i<a.size),a[i]∈a₀.toList:=λi hi=>oa i _ (getElem?_pos a i hi)
 have ib_:∀i (hi:i<b.size),b[i]∈a₀.toList:=λi hi=>ob i _ (getElem?_pos b i hi)
 have ea:∀i (hi:i<a.size),a[i]?=some a[i]:=λi hi=>getElem?_pos a i hi
 have eb:∀i (hi:i<b.size),b[i]?=some b[i]:=λi hi=>getElem?_pos b i hi
 have sgk:∀{ag},SG st ag→kindOf ag=kd:=λ⟨g,e⟩=>by rw[e];exact hk
 obtain⟨n0,hn0⟩:∃n0,a.size=n0+1:=⟨a.size-1,by omega⟩
 have gG:n0<a.size:=by omega
 have j0:Ph a b (#[a[n0]]:Array Keyed) n0 b.size:=by
  have j:Ph a b (#[]:Array Keyed) (n0+1) b.size:=by
   have e1:a.toList.take (n0+1)=a.toList:=Qz (by simp;omega)
   have e2:b.toList.take b.size=b.toList:=Qz (by simp)
   unfold Ph;rw[e1,e2];simp
  exact j.pushA gG
 unfold mergeHiT
 refine wpS_bind (wpS_lift (wpAny_rule ⟨rfl,?_⟩))
 have e2:a.size-1=n0:=by omega
 simp -zeta only [e2]
 refine wpS_bind (za0 (ea n0 gG) ?_)
 refine zam (λc1=>wpS_pure (h _ _ j0.end1 ⟨_,rfl⟩)) λc1=>zam (λc2=>wpS_pure (h _ _ j0.end2 ⟨_,rfl⟩)) λc2=>?_
 have vz:¬n0=0:=λz=>c1 (by simp[z])
 have c2':¬b.size=1:=λz=>c2 (by simp[z])
 refine wpS_bind (wpS_get ?_)
 obtain⟨n1,rfl⟩:∃n1,n0=n1+1:=⟨n0-1,by omega⟩
 obtain⟨m1,cD⟩:∃m1,b.size=m1+1+1:=⟨b.size-2,by omega⟩
 rw[cD]at j0
 refine wpS_bind (wpS_mono (wpS_forRange
  (I:=λx c ag=>Aj2 (SG st ag) (Ex4 λo i k g=>Aj5 (c=(none,i+1,k+1+1,o,g)) (i<a.size) (k+1<b.size) (Ph a b o (i+1) (k+1+1)) (i+k+x+4≤a.size+b.size)))
  (Q:=λc ag=>Aj2 (SG st ag) (Ex2 λres r=>Aj2 (c=(some res,r)) (res.toList.Perm (a.toList++b.toList)))) ?step ?fin ?init) ?post)
 case init=>exact⟨⟨_,rfl⟩,_,n1,m1,_,by rw[cD],by omega,by omega,j0,by omega⟩
 case fin =>
  rintro c ag ⟨_,o,i,k,g,rfl,a1,a2,a3,a4⟩
  exfalso;omega
 case post =>
  rintro c ag ⟨g,res,r,rfl,m⟩
  exact wpS_pure (h res ag m g)
 case step =>
  rintro x c aU _ hx ⟨g1,o1,i1,k1,mg,rfl,a1,a2,a3,a4⟩
  dsimp -zeta only
  refine wpS_bind (wpS_mono (wpS_forRange
   (I:=λy c ag=>Aj2 (ag=aU) (Ex5 λo i k ac bc=>Aj5 (c=(none,i+1,k+1+1,o,ac,bc)) (i<a.size) (k+1<b.size) (Ph a b o (i+1) (k+1+1)) (i+k+y≤i1+k1)))
   (Q:=λc ag=>Aj2 (ag=aU) ((Ex2 λres r=>Aj2 (c=(some res,r)) (res.toList.Perm (a.toList++b.toList)))∨Ex5 λo i k ac bc=>Aj5 (c=(none,i+1,k+1+1,o,ac,bc)) (i<a.size) (k+1<b.size) (Ph a b o (i+1) (k+1+1)) (i+k<i1+k1))) ?step1 ?fin1 ?init1) ?post1)
  case init1=>exact⟨rfl,o1,i1,k1,0,0,rfl,a1,a2,a3,Qg _⟩
  case fin1 =>
   rintro c ag ⟨_,o,i,k,ac,bc,rfl,b1,b2,b3,b4⟩
   exfalso;omega
  case step1 =>
   rintro y c cc _ hy ⟨rfl,o,i,k,ac,bc,rfl,b1,b2,b3,b4⟩
   dsimp -zeta only
   refine wpS_bind (za0 (eb (k+1) b2) (wpS_bind (za0 (ea i b1) (wpS_bind (C _ _ _ _ (ib_ (k+1) b2) (ia_ i b1) (sgk g1) λe=>?_)))))
   dsimp -zeta only
   refine zam (λ_=>?_) (λ_=>?_)
   ·refine wpS_bind (za0 (ea i b1) ?_)
    have j:=b3.pushA b1
    refine zam (λ_=>wpS_pure ⟨rfl,.inl ⟨_,_,rfl,j.end1⟩⟩) λd1=>?_
    have pY:¬i=0:=λz=>d1 (beq_iff_eq.mpr z)
    cases i with
    |zero=>exact absurd rfl pY
    |succ i'=>exact zam (λ_=>wpS_pure ⟨rfl,.inr ⟨_,i',k,_,_,rfl,by omega,b2,j,by omega⟩⟩) λ_=>wpS_pure ⟨rfl,_,i',k,_,_,rfl,by omega,b2,j,by omega⟩
   ·refine wpS_bind (za0 (eb (k+1) b2) ?_)
    have j:=b3.pushB b2
    refine zam (λ_=>wpS_pure ⟨rfl,.inl ⟨_,_,rfl,j.end2⟩⟩) λd1=>?_
    have pY:¬k+1=1:=λz=>d1 (beq_iff_eq.mpr z)
    cases k with
    |zero=>exact absurd rfl pY
    |succ k'=>exact zam (λ_=>wpS_pure ⟨rfl,.inr ⟨_,i,k',_,_,rfl,b1,by omega,j,by omega⟩⟩) λ_=>wpS_pure ⟨rfl,_,i,k',_,_,rfl,b1,by omega,j,by omega⟩
  case post1 =>
   rintro c cc ⟨rfl,⟨res,r,rfl,m⟩ | ⟨o2,i2,k2,ac2,bc2,rfl,b1,b2,b3,b4⟩⟩
   ·exact wpS_pure ⟨g1,res,_,rfl,m⟩
   dsimp -zeta only
   refine wpS_bind (wpS_lift (wpAny_rule ⟨rfl,?_⟩))
   refine wpS_bind (wpS_mono (wpS_forRange
    (I:=λy c ag=>Aj2 (SG st ag) (Ex6 λo i k g ac bc=>Aj5 (c=(none,i+1,k+1+1,o,g,ac,bc)) (i<a.size) (k+1<b.size) (Ph a b o (i+1) (k+1+1)) (i+k≤i2+k2)))
    (Q:=λc ag=>Aj2 (SG st ag) ((Ex2 λres r=>Aj2 (c=(some res,r)) (res.toList.Perm (a.toList++b.toList)))∨Ex6 λo i k g ac bc=>Aj5 (c=(none,i+1,k+1+1,o,g,ac,bc)) (i<a.size) (k+1<b.size) (Ph a b o (i+1) (k+1+1)) (i+k≤i2+k2))) ?step2 ?fin2 ?init2) ?post2)
   case init2=>exact⟨g1,o2,i2,k2,_,_,_,rfl,b1,b2,b3,Qg _⟩
   case fin2 =>
    rintro c ag ⟨g,o,i,k,g',ac,bc,rfl,c1,c2,c3,c4⟩
    exact⟨g,.inr ⟨o,i,k,g',ac,bc,rfl,c1,c2,c3,c4⟩⟩
   case post2 =>
    rintro c aw ⟨g3,⟨res,r,rfl,m⟩ | ⟨o3,i3,k3,g',vZ,vA,rfl,c1,c2,c3,c4⟩⟩
    ·exact wpS_pure ⟨g3,res,_,rfl,m⟩
    dsimp -zeta only
    refine wpS_bind (wpS_modify ?_)
    obtain⟨gg,e3⟩:=g3
    exact wpS_pure ⟨⟨_,by rw[e3]⟩,o3,i3,k3,_,rfl,c1,c2,c3,by omega⟩
   case step2 =>
    rintro y c aw _ hy ⟨g3,o3,i3,k3,mg3,vZ,vA,rfl,c1,c2,c3,c4⟩
    refine zcx λQ0 bn=>?_
    dsimp -zeta only
    have sgm:∀g',SG st (SortSt.mk' (kindOf aw) (arrOf aw) (pendingOf aw) g' (failedOf aw)):=λg'=>by
     obtain⟨g,e⟩:=g3
     exact⟨g',by rw[e]⟩
    extract_lets -underBinder +onlyGivenNames s1 na s2 nb s3 out s4 mn s5 ac bc jp
    refine jp_if (f:=jp) λm'=>?_
    refine wpS_bind (wpS_modify ?_)
    refine wpS_bind (za0 (eb (k3+1) c2) ?_)
    refine wpS_bind (zcg (n:=i3+1) (hint:=i3) C (sgk (sgm _)) oa (ib_ (k3+1) c2) (by omega) (by omega) λrG q1=>?_)
    dsimp -zeta only
    have jr:=c3.runA (at_:=rG) q1 (by omega)
    extract_lets -underBinder +onlyGivenNames kk ac' jp2
    have h2:∀(n':Nat) (o':Array Keyed) (f1:n'<a.size),n'≤i3→Ph a b o' (n'+1) (k3+1+1)→wpS (model prog w) A E s (jp2 () (n'+1) o') Q0 (SortSt.mk' (kindOf aw) (arrOf aw) (pendingOf aw) m' (failedOf aw)):=by
     intro n' o' f1 f2 fJ
     refine wpS_bind (za0 (eb (k3+1) c2) ?_)
     have fK:=fJ.pushB c2
     refine zam (λ_=>wpS_pure (bn _ _ ⟨sgm _,.inl ⟨_,_,rfl,fK.end2⟩⟩)) λd=>?_
     have d':¬k3+1=1:=λz=>d (beq_iff_eq.mpr z)
     refine wpS_bind (za0 (ea n' f1) ?_)
     refine wpS_bind (zcg (n:=k3+1) (hint:=k3) C (sgk (sgm _)) ob (ia_ n' f1) (by omega) (by omega) λqb r1=>?_)
     dsimp -zeta only
     have js:=fK.runB (at_:=qb) r1 (by omega)
     extract_lets -underBinder +onlyGivenNames lu bc' jp3
     have h3:∀(m2:Nat) (o2:Array Keyed) (p1:m2+1<b.size),m2≤k3→Ph a b o2 (n'+1) (m2+1+1)→wpS (model prog w) A E s (jp3 () (m2+1+1) o2) Q0 (SortSt.mk' (kindOf aw) (arrOf aw) (pendingOf aw) m' (failedOf aw)):=by
      intro m2 o2 p1 p2 pJ
      refine wpS_bind (za0 (ea n' f1) ?_)
      have pK:=pJ.pushA f1
      refine zam (λ_=>wpS_pure (bn _ _ ⟨sgm _,.inl ⟨_,_,rfl,pK.end1⟩⟩)) λd=>?_
      have d2:¬n'=0:=λz=>d (beq_iff_eq.mpr z)
      cases n' with
      |zero=>exact absurd rfl d2
      |succ t=>exact zam (λ_=>wpS_pure (bn _ _ ⟨sgm _,.inr ⟨_,t,m2,_,_,_,rfl,by omega,p1,pK,by omega⟩⟩)) λ_=>wpS_pure (bn _ _ ⟨sgm _,_,t,m2,_,_,_,rfl,by omega,p1,pK,by omega⟩)
     refine zam (λkz=>?_) (λkz=>?_)
     ·refine zam (fun _=>wpS_pure (bn _ _ ⟨sgm _,.inl ⟨_,_,rfl,js.end2⟩⟩)) fun d4=>zam (fun _=>wpS_pure (bn _ _ ⟨sgm _,.inl ⟨_,_,rfl,js.end1⟩⟩)) fun d5=>?_
      have d4':¬qb=1:=λz=>d4 (beq_iff_eq.mpr z)
      have d5':¬qb=0:=λz=>d5 (beq_iff_eq.mpr z)
      obtain⟨m2,e2⟩:∃m2,qb=m2+1+1:=⟨qb-2,by omega⟩
      have:=h3 m2 _ (by omega) (by omega) (by rw[←e2];exact js)
      rw[←e2]at this
      exact this
     ·obtain ⟨m2,e2⟩:∃ m2,k3=m2+1:=⟨k3 - 1,by omega⟩
      have:=h3 m2 _ (by omega) (by omega) (by rw[←e2];exact fK)
      rw[←e2]at this
      exact this
    refine zam (λkz=>?_) (λkz=>?_)
    ·refine zam (fun _=>wpS_pure (bn _ _ ⟨sgm _,.inl ⟨_,_,rfl,jr.end1⟩⟩)) fun d=>?_
     have d':¬rG=0:=λz=>d (beq_iff_eq.mpr z)
     obtain⟨n',e1⟩:∃n',rG=n'+1:=⟨rG-1,by omega⟩
     have:=h2 n' _ (by omega) (by omega) (by rw[←e1];exact jr)
     rw[←e1]at this
     exact this
    ·exact h2 i3 _ c1 (Qg _) c3
end
section
variable{prog:Ni}{w:Nk}{A:Nm}{E:Nb}{s:Ng}{kd:SortKind}{a₀:Array Keyed}{p:Array (Nat×Nat×Nat)}{lo:Nat}
structure Bs(kd:SortKind)(a₀:Array Keyed)(p:Array (Nat×Nat×Nat))(st:SortSt):Prop where
 kind:kindOf st=kd
 failed:failedOf st=none
 pend:pendingOf st=p
 perm:(arrOf st).Perm a₀
def Bs.size{st:SortSt}(B:Bs kd a₀ p st):(arrOf st).size=a₀.size:=B.perm.size_eq
def Bs.mem{st:SortSt}(B:Bs kd a₀ p st){i:Nat}(hi:i<a₀.size):∃q,(arrOf st)[i]?=some q∧q∈a₀.toList:=by
 have dh:i<(arrOf st).size:=by rw[B.size];exact hi
 exact⟨_,getElem?_pos _ i dh,(Yf.mp B.perm).mem_iff.mp (by simp)⟩
def zgj{st:SortSt}{i j:Nat}{Q:Option Bool→SortSt→Prop}(C:Cmp prog w A E s kd a₀)(B:Bs kd a₀ p st)(hi:i<a₀.size)(hj:j<a₀.size)(h:∀b,Q (some b) st):wpS (model prog w) A E s (ltAt' i j) Q st:=by
 obtain⟨x,e1,m1⟩:=B.mem hi
 obtain⟨y,e2,m2⟩:=B.mem hj
 rw[ltAt'_eq]
 refine wpS_bind (wpS_get ?_)
 refine wpS_bind (za0 e1 (wpS_bind (za0 e2 ?_)))
 exact C x y st Q m1 m2 B.kind h
def Bs.mirror{st:SortSt}(B:Bs kd a₀ p st)(i j k:Nat):Bs kd a₀ p (setArr st (mirror (arrOf st) i j k)):=⟨B.kind,B.failed,B.pend,(mirror_perm _ _ _ _).trans B.perm⟩
def Bs.bubble{st:SortSt}(B:Bs kd a₀ p st)(src d:Nat):Bs kd a₀ p (setArr st (bubble (arrOf st) src d)):=⟨B.kind,B.failed,B.pend,(bubble_perm _ _ _).trans B.perm⟩
def wpS_binary{st:SortSt}{n ok:Nat}{Q:Bool→SortSt→Prop}(C:Cmp prog w A E s kd a₀)(hn:lo+n≤a₀.size)(B:Bs kd a₀ p st)(h:∀ag,Bs kd a₀ p ag→Q true ag):wpS (model prog w) A E s (binarySort' lo n ok) Q st:=by
 rw[binarySort'_eq]
 refine wpS_bind (wpS_mono (wpS_forRange (I:=λk c ag=>Aj2 (c=(none,())) (Bs kd a₀ p ag)) (Q:=λc ag=>Aj2 (c=(none,())) (Bs kd a₀ p ag)) ?step (λ_ _ z=>z) ⟨rfl,B⟩) ?post)
 case post =>
  rintro c ag ⟨rfl,B'⟩
  exact wpS_pure (h ag B')
 case step =>
  rintro k c ag hak ik ⟨rfl,B'⟩
  refine wpS_bind (wpS_mono (wpS_forRange
   (I:=λx c dw=>Aj2 (dw=ag) (Ex2 λl r=>Aj4 (c=(none,l,r)) (l≤r) (r≤k) (r-l≤k-x)))
   (Q:=λc dw=>Aj2 (dw=ag) (Ex1 λl=>Aj2 (c=(none,l,l)) (l≤k))) ?is ?if_ ?ii) ?ip)
  case ii=>exact⟨rfl,0,k,rfl,Zg _,Qg _,Qg _⟩
  case if_ =>
   rintro c dw ⟨rfl,l,r,rfl,b1,b2,b3⟩
   have:l=r:=by omega
   subst this
   exact⟨rfl,l,rfl,b2⟩
  case is =>
   rintro x c dw _ hx ⟨rfl,l,r,rfl,b1,b2,b3⟩
   dsimp only
   refine zam (λge=>?_) λge=>wpS_bind (zgj C B' (by omega) (by omega) λb=>?_)
   ·have:l=r:=Nat.le_antisymm b1 ge
    subst this
    exact wpS_pure ⟨rfl,l,rfl,b2⟩
   ·cases b with
    |true=>exact wpS_pure ⟨rfl,l,(l+r)/2,rfl,by omega,by omega,by omega⟩
    |false=>exact wpS_pure ⟨rfl,(l+r)/2+1,r,rfl,by omega,b2,by omega⟩
  case ip =>
   rintro c dw ⟨rfl,l,rfl,b2⟩
   show wpS _ _ _ _ (do moveDown' (lo+k) (lo+l);pure (ForInStep.yield (none,()))) _ _
   rw[moveDown'_eq]
   exact wpS_bind (wpS_modify (wpS_pure ⟨rfl,B'.bubble _ _⟩))
def jp_rev{α:Type}{c:Prop}[Decidable c]{i j:Nat}{f:Unit→StateT SortSt Sem α}{Q:α→SortSt→Prop}{st:SortSt}(B:Bs kd a₀ p st)(h:∀ag,Bs kd a₀ p ag→wpS (model prog w) A E s (f ()) Q ag):wpS (model prog w) A E s (if c then reverseSlice' i j >>= f else f ()) Q st:=by
 split
 ·exact wpS_bind (wpS_reverse (h _ (B.mirror _ _ _)))
 ·exact h _ B
def wpS_count{st:SortSt}{nrem:Nat}{Q:Option Nat→SortSt→Prop}(C:Cmp prog w A E s kd a₀)(hn:lo+nrem≤a₀.size)(h1:1≤nrem)(B:Bs kd a₀ p st)(h:∀m ag,Bs kd a₀ p ag→1≤m→m≤nrem→Q (some m) ag):wpS (model prog w) A E s (countRun' lo nrem) Q st:=by
 have asc:∀(f:Nat→(Option (Option Nat)×Nat)→StateT SortSt Sem (ForInStep (Option (Option Nat)×Nat))) (a:Nat) (aU:SortSt),1≤a→a≤nrem →
   (∀x y Q',1≤y→y<nrem→Q' (ForInStep.done (none,y)) aU→Q' (ForInStep.yield (none,y+1)) aU→wpS (model prog w) A E s (f x (none,y)) Q' aU) →
   wpS (model prog w) A E s (forIn [a:nrem] (none,a) f) (λc ag=>Aj2 (ag=aU) (Ex1 λn=>Aj3 (c=(none,n)) (a≤n) (n≤nrem))) aU:=by
  intro f a aU a1 a2 hf
  refine wpS_forRange (I:=λx c ag=>Aj2 (ag=aU) (c=(none,x))) ?step ?fin ⟨rfl,rfl⟩
  case fin =>
   rintro c ag ⟨rfl,rfl⟩
   rw[show max a nrem=nrem by omega]
   exact⟨rfl,nrem,rfl,a2,Qg _⟩
  case step =>
   rintro x c ag g1 g2 ⟨rfl,rfl⟩
   exact hf x x _ (by omega) g2 ⟨rfl,x,rfl,g1,Uc g2⟩ ⟨rfl,rfl⟩
 have two:∀{aU:SortSt},Bs kd a₀ p aU→∀{y:Nat},1≤y→y<nrem→lo+y<a₀.size∧lo+y-1<a₀.size:=λ_ y y1 y2=>⟨by omega,by omega⟩
 rw[countRun'_eq]
 refine wpS_bind (wpS_mono (asc _ 1 st (Qg _) h1 ?_) ?_)
 ·intro x y Q' y1 y2 q1 q2
  refine wpS_bind (zgj C B (two B y1 y2).1 (two B y1 y2).2 λb=>?_)
  cases b with
  |true=>exact wpS_pure q1
  |false=>exact wpS_pure q2
 rintro c ag ⟨rfl,n,rfl,n1,n2⟩
 refine zcx λQ0 bn=>?_
 refine zam (λd=>wpS_pure (bn _ _ (h n _ B n1 n2))) λd=>?_
 have d':n<nrem:=by have:¬n=nrem:=λz=>d (beq_iff_eq.mpr z);omega
 extract_lets -underBinder +onlyGivenNames jp
 have oH:∀aU,Bs kd a₀ p aU→wpS (model prog w) A E s (jp ()) Q0 aU:=by
  intro aU B1
  refine wpS_bind (wpS_lift (wpAny_rule ⟨rfl,?_⟩))
  refine wpS_bind (wpS_mono (wpS_forRange
   (I:=λx c cc=>Ex1 λq=>Aj4 (c=(none,x,q)) (Bs kd a₀ p cc) (2≤x) (x≤nrem))
   (Q:=λc cc=>Ex2 λx q=>Aj4 (c=(none,x,q)) (Bs kd a₀ p cc) (2≤x) (x≤nrem)) ?step ?fin ⟨0,rfl,B1,by omega,d'⟩) ?post)
  case fin =>
   rintro c cc ⟨q,rfl,b1,b2,b3⟩
   exact⟨_,q,rfl,b1,b2,b3⟩
  case step =>
   rintro x c cc x1 x2 ⟨q,rfl,b1,b2,b3⟩
   refine zcx λQ1 gM=>?_
   refine wpS_bind (zgj (i:=lo+x) (j:=lo+x-1) C b1 (by omega) (by omega) λe1=>?_)
   cases e1 with
   |true =>
    refine zam (λ_=>?_) (λz=>absurd rfl z)
    exact jp_rev b1 λaw B3=>wpS_pure (gM _ _ ⟨0,rfl,B3,by omega,x2⟩)
   |false =>
    refine zam (λz=>absurd z (by decide)) λ_=>wpS_bind (zgj (i:=lo+x-1) (j:=lo+x) C b1 (by omega) (by omega) λe2=>?_)
    cases e2 with
    |true=>exact zam (λ_=>wpS_pure (gM _ _ ⟨x,q,rfl,b1,b2,b3⟩)) (λz=>absurd rfl z)
    |false=>exact zam (λz=>absurd z (by decide)) λ_=>wpS_pure (gM _ _ ⟨q+1,rfl,b1,by omega,x2⟩)
  case post =>
   rintro c cc ⟨x,q,rfl,b1,b2,b3⟩
   refine jp_rev b1 λaw B3=>?_
   refine wpS_bind (wpS_reverse ?_)
   have B6:=B3.mirror lo (lo+x) ((lo+x-lo)/2)
   refine wpS_bind (wpS_mono (asc _ x _ (by omega) b3 ?_) ?_)
   ·intro z y Q' y1 y2 q1 q2
    refine wpS_bind (zgj C B6 (two B6 y1 y2).1 (two B6 y1 y2).2 λb=>?_)
    cases b with
    |true=>exact wpS_pure q1
    |false=>exact wpS_pure q2
   ·rintro c st6 ⟨rfl,m,rfl,m1,m2⟩
    exact wpS_pure (bn _ _ (h m _ B6 (by omega) m2))
 refine zam (λd2=>?_) λd2=>oH _ B
 refine wpS_bind (zgj C B (by omega) (by omega) λe=>?_)
 cases e with
 |true=>exact zam (λ_=>wpS_pure (bn _ _ (h n _ B n1 n2))) (λz=>absurd rfl z)
 |false=>exact zam (λz=>absurd z (by decide)) λ_=>wpS_bind (wpS_reverse (oH _ (B.mirror _ _ _)))
end
def PL:List (Nat×Nat×Nat)→Nat→Nat→Prop
 |[],off,tot=>off=tot
 |q::ps,off,tot=>q.1=off∧0<q.2.1∧PL ps (off+q.2.1) tot
def PL.split{gv:List (Nat×Nat×Nat)}{tot:Nat}:∀{cY:List (Nat×Nat×Nat)} {off:Nat},PL (cY++gv) off tot→∃mid,PL cY off mid∧PL gv mid tot:=by
 intro cY
 induction cY with
 |nil=>intro off h;exact⟨off,rfl,h⟩
 |cons q ps ih =>
  intro off h
  obtain⟨mid,a,b⟩:=ih h.2.2
  exact⟨mid,⟨h.1,h.2.1,a⟩,b⟩
def PL.join{gv:List (Nat×Nat×Nat)}{mid tot:Nat}:∀{cY:List (Nat×Nat×Nat)} {off:Nat},PL cY off mid→PL gv mid tot→PL (cY++gv) off tot:=by
 intro cY
 induction cY with
 |nil=>intro off a b;cases(show off=mid from a);exact b
 |cons q ps ih=>intro off a b;exact⟨a.1,a.2.1,ih a.2.2 b⟩
def PL.len{tot:Nat}:∀{ps:List (Nat×Nat×Nat)} {off:Nat},PL ps off tot→off+ps.length≤tot:=by
 intro ps
 induction ps with
 |nil=>intro off h;exact Nat.le_of_eq h
 |cons q ps ih =>
  intro off h
  have:=ih h.2.2
  have:=h.2.1
  rw[Qx];omega
def put_back{sa:Nat}:∀ (l:List Keyed) (n:Nat) (arr:Array Keyed) (F M S:List Keyed),arr.toList=F++(M++S)→F.length=sa+n→M.length=l.length →
  ((l.zipIdx n).foldl (λ(a:Array Keyed) (q:Keyed×Nat)=>a.setIfInBounds (sa+q.2) q.1) arr).toList=F++(l++S):=by
 intro l
 induction l with
 |nil =>
  intro n arr F M S e _ hl
  have:M=[]:=List.length_eq_zero_iff.mp (by simpa using hl)
  rw[this]at e
  simpa using e
 | cons p l ih =>
  intro n arr F M S e hf hl
  cases M with
  |nil=>simp at hl
  | cons m M =>
   rw[List.zipIdx_cons,Jt]
   have e2:(arr.setIfInBounds (sa+n) p).toList=(F++[p])++(M++S):=by
    rw[Array.toList_setIfInBounds,e,←hf,List.set_append_right _ _ (Qg _),Nat.sub_self]
    simp
   rw[ih (n+1) _ (F++[p]) M S e2 (by rw[Qt];simp;omega) (by simpa using hl)]
   simp
section
variable{prog:Ni}{w:Nk}{A:Nm}{E:Nb}{s:Ng}{kd:SortKind}{a₀:Array Keyed}
structure Rn(kd:SortKind)(a₀:Array Keyed)(tot:Nat)(st:SortSt):Prop where
 kind:kindOf st=kd
 failed:failedOf st=none
 perm:(arrOf st).Perm a₀
 pend:PL (pendingOf st).toList 0 tot
 le:tot≤a₀.size
def of_perm{xs:Array Keyed}(h:xs.Perm a₀):Of a₀ xs:=λi p e=>by
 refine(Yf.mp h).mem_iff.mp ?_
 have:xs.toList[i]?=some p:=by simpa using e
 exact Yq this
def of_ext{xs:Array Keyed}(h:xs.Perm a₀)(i j:Nat):Of a₀ (xs.extract i j):=λk p e=>by
 have e1:(xs.extract i j).toList[k]?=some p:=by rw[Wz];exact e
 have:=Yq e1
 rw[Array.toList_extract,Kf]at this
 exact(Yf.mp h).mem_iff.mp (List.mem_of_mem_drop (Jn this))
def wpS_set{Q:PUnit→SortSt→Prop}{st ag:SortSt}(h:Q ⟨⟩ ag):wpS (model prog w) A E s (set ag:StateT SortSt Sem PUnit) Q st:=by
 unfold wpS;rw[StateT.run_set];exact wpAny_pure ⟨rfl,h⟩
def zfi{i tot:Nat}{Q:Bool→SortSt→Prop}{st:SortSt}(C:Cmp prog w A E s kd a₀)(R:Rn kd a₀ tot st)(hi:i+1 < (pendingOf st).size)(h:∀ag,Rn kd a₀ tot ag→(pendingOf ag).size+1=(pendingOf st).size→Q true ag):wpS (model prog w) A E s (mergeAt' i) Q st:=by
 obtain⟨cY,q1,q2,gv,hp,hl⟩:∃cY q1 q2 gv,(pendingOf st).toList=cY++q1::q2::gv∧cY.length=i:=by
  have h1:i<(pendingOf st).toList.length:=by simp;omega
  have h2:i+1<(pendingOf st).toList.length:=by simp;omega
  refine⟨(pendingOf st).toList.take i,(pendingOf st).toList[i],(pendingOf st).toList[i+1],(pendingOf st).toList.drop (i+2),?_,by rw[Zh];omega⟩
  rw[←Kg h2,←Kg h1,Yx]
 have pr:=R.pend
 rw[hp]at pr
 obtain⟨sa,pr1,e1,hA,e2,hB,rR⟩:=pr.split
 obtain⟨aD,na,pw⟩:=q1
 obtain⟨sb',nb,pw2⟩:=q2
 dsimp only at e1 hA e2 hB rR
 subst e1 e2
 have x1:(pendingOf st)[i]?=some (aD,na,pw):=by
  have:(pendingOf st)[i]?=(pendingOf st).toList[i]?:=by simp
  rw[this,hp,←hl];simp
 have x2:(pendingOf st)[i+1]?=some (aD+na,nb,pw2):=by
  have:(pendingOf st)[i+1]?=(pendingOf st).toList[i+1]?:=by simp
  rw[this,hp,←hl];simp
 have hsz:aD+na+nb≤(arrOf st).size:=by
  have:=rR.len
  have:=R.le
  rw[R.perm.size_eq];omega
 have oA:=of_perm R.perm
 have mem:∀j (hj:j<(arrOf st).size),(arrOf st)[j]∈a₀.toList:=λj hj=>oA j _ (getElem?_pos _ j hj)
 have fin:∀(ag:SortSt),kindOf ag=kd→failedOf ag=none→(arrOf ag).Perm a₀→pendingOf ag=((pendingOf st).setIfInBounds i (aD,na+nb,pw)).eraseIdxIfInBounds (i+1)→Q true ag:=by
  intro ag m3 m4 m5 m6
  have e:(pendingOf ag).toList=cY++(aD,na+nb,pw)::gv:=by
   rw[m6]
   have e1:((pendingOf st).setIfInBounds i (aD,na+nb,pw)).toList=cY++(aD,na+nb,pw)::(aD+na,nb,pw2)::gv:=by
    rw[Array.toList_setIfInBounds,hp,←hl,List.set_append_right _ _ (Qg _),Nat.sub_self]
    rfl
   rw[Array.toList_eraseIdxIfInBounds,e1,←hl,List.eraseIdx_append_of_length_le (Yh _ _)]
   simp
  refine h ag ⟨m3,m4,m5,?_,R.le⟩ ?_
  ·rw [e]
   exact pr1.join ⟨rfl,Nat.add_pos_left hA _,by rw[←Nat.add_assoc];exact rR⟩
  ·rw[←Ys,←Ys,e,hp];simp;omega
 unfold mergeAt'
 refine wpS_bind (wpS_get ?_)
 rw[x1,x2]
 dsimp only
 refine wpS_bind (wpS_set ?_)
 have lO:aD+na<(arrOf st).size:=by omega
 refine wpS_bind (za0 (getElem?_pos (arrOf st) (aD+na) lO) ?_)
 refine wpS_bind (zcg (arr:=arrOf st) (base:=aD) (n:=na) (hint:=0) C R.kind oA (mem _ lO) (by omega) hA λk k1=>?_)
 refine zam (λc1=>wpS_pure (fin _ R.kind R.failed R.perm rfl)) λc1=>?_
 have vz:¬na-k=0:=λz=>c1 (beq_iff_eq.mpr z)
 have hla:aD+k+(na-k)-1<(arrOf st).size:=by omega
 refine wpS_bind (za0 (getElem?_pos (arrOf st) (aD+k+(na-k)-1) hla) ?_)
 refine wpS_bind (zcg (arr:=arrOf st) (base:=aD+na) (n:=nb) (hint:=nb-1) C R.kind oA (mem _ hla) (by omega) (by omega) λm n1=>?_)
 refine zam (λc2=>wpS_pure (fin _ R.kind R.failed R.perm rfl)) λc2=>?_
 have c2':¬m=0:=λz=>c2 (beq_iff_eq.mpr z)
 have qc:(arrOf st).toList=(arrOf st).toList.take (aD+k)++((((arrOf st).extract (aD+k) (aD+na)).toList++((arrOf st).extract (aD+na) (aD+na+m)).toList)++(arrOf st).toList.drop (aD+na+m)):=by
  rw[←Qw,←Qw,zfa (by omega) (by omega),zfa (by omega) (by omega),Yx]
 have oX:=of_ext R.perm (aD+k) (aD+na)
 have oY:=of_ext R.perm (aD+na) (aD+na+m)
 have zX:0<((arrOf st).extract (aD+k) (aD+na)).size:=by rw[Array.size_extract];omega
 have zY:0<((arrOf st).extract (aD+na) (aD+na+m)).size:=by rw[Array.size_extract];omega
 have done:∀(res:Array Keyed) (ag:SortSt),res.toList.Perm (((arrOf st).extract (aD+k) (aD+na)).toList++((arrOf st).extract (aD+na) (aD+na+m)).toList)→SG (SortSt.mk' (kindOf st) (arrOf st) (((pendingOf st).setIfInBounds i (aD,na+nb,pw)).eraseIdxIfInBounds (i+1)) (gallopOf st) (failedOf st)) ag →
   wpS (model prog w) A E s (do
    modify λz=>SortSt.mk' (kindOf z) (res.toList.zipIdx.foldl (λ(a:Array Keyed) (q:Keyed×Nat)=>a.setIfInBounds (aD+k+q.2) q.1) (arrOf z)) (pendingOf z) (gallopOf z) (failedOf z)
    let z ←get
    pure (failedOf z).isNone) Q ag:=by
  intro res ag mg ⟨g,est⟩
  subst est
  refine wpS_bind (wpS_modify (wpS_bind (wpS_get ?_)))
  have om:failedOf st=none:=R.failed
  show wpS _ _ _ _ (pure (failedOf st).isNone) _ _
  rw[om]
  refine wpS_pure (fin _ R.kind rfl ?_ rfl)
  have pb:=put_back (sa:=aD+k) res.toList 0 (arrOf st) _ _ _ qc (by rw[Zh,Ys];omega) mg.length_eq.symm
  refine Yf.mpr (List.Perm.trans ?_ (Yf.mp R.perm))
  refine List.Perm.trans (List.Perm.of_eq pb) ?_
  conv=>rhs;rw[qc]
  exact Zz _ (List.Perm.append_right _ mg)
 exact zam (λ_=>wpS_bind (wpS_mergeLo C R.kind oX oY zX zY done)) λ_=>wpS_bind (wpS_mergeHi C R.kind oX oY zX zY done)
end
section
variable{prog:Ni}{w:Nk}{A:Nm}{E:Nb}{s:Ng}{kd:SortKind}{a₀:Array Keyed}
def PL.congr:∀{ps ll:List (Nat×Nat×Nat)} {off:Nat},(ps.map λq=>(q.1,q.2.1))=(ll.map λq=>(q.1,q.2.1))→PL ps off tot→PL ll off tot:=by
 intro ps
 induction ps with
 |nil =>
  intro ll off e h
  cases ll with
  |nil=>exact h
  |cons q r=>cases e
 | cons q ps ih =>
  intro ll off e h
  cases ll with
  |nil=>cases e
  |cons q' r =>
   rw[Ql,Ql]at e
   obtain⟨e1,e2⟩:=List.cons.inj e
   obtain⟨e3,e4⟩:=Um e1
   exact⟨e3.symm.trans h.1,e4▸h.2.1,ih e2 (e4▸h.2.2)⟩
def map_mod(f:Nat×Nat×Nat→Nat×Nat×Nat)(hf:∀q,((f q).1,(f q).2.1)=(q.1,q.2.1))(l:List (Nat×Nat×Nat))(i:Nat):((l.modify i f).map λq=>(q.1,q.2.1))=l.map λq=>(q.1,q.2.1):=by
 apply List.ext_getElem?
 intro k
 rw[Qq,Qq,List.getElem?_modify]
 cases l[k]? with
 |none=>simp
 |some q =>
  by_cases e:i=k
  ·simp[e];exact Um (hf q)
  ·simp[e]
def Rn.mod{tot:Nat}{st:SortSt}(R:Rn kd a₀ tot st)(i:Nat)(f:Nat×Nat×Nat→Nat×Nat×Nat)(hf:∀q,((f q).1,(f q).2.1)=(q.1,q.2.1)):Rn kd a₀ tot (setPending st ((pendingOf st).modify i f)) :=
 ⟨R.kind,R.failed,R.perm,by
  show PL ((pendingOf st).modify i f).toList 0 tot
  rw[Array.toList_modify]
  exact R.pend.congr (map_mod f hf _ i).symm,R.le⟩
def zfh{st:SortSt}{Q:Unit→SortSt→Prop}(C:Cmp prog w A E s kd a₀)(hk:kindOf st=kd)(hf:failedOf st=none)(hp:(arrOf st).Perm a₀)(cC:pendingOf st=#[])(h:∀ag,(arrOf ag).Perm a₀→failedOf ag=none→Q () ag):wpS (model prog w) A E s sortRuns' Q st:=by
 have R0:Rn kd a₀ 0 st:=⟨hk,hf,hp,by rw[cC];rfl,Zg _⟩
 rw[sortRuns'_eq]
 refine wpS_bind (wpS_get ?_)
 dsimp -zeta only
 have hz:(arrOf st).size=a₀.size:=hp.size_eq
 rw[hz]
 refine wpS_bind (wpS_mono (wpS_forRange
  (I:=λx c ag=>Ex1 λtot=>Aj3 (c=(none,tot)) (Rn kd a₀ tot ag) (x≤tot))
  (Q:=λc ag=>Ex1 λtot=>Aj3 (c=(none,tot)) (Rn kd a₀ tot ag) (a₀.size≤tot)) ?step ?fin ⟨0,rfl,R0,Zg _⟩) ?post)
 case fin =>
  rintro c ag ⟨tot,rfl,R,hx⟩
  exact⟨tot,rfl,R,by omega⟩
 case step =>
  rintro x c aU _ hx ⟨tot,rfl,R,lB⟩
  refine zcx λQ0 bn=>?_
  refine zam (λc0=>wpS_pure (bn _ _ ⟨tot,rfl,R,c0⟩)) λc0=>?_
  have B0:Bs kd a₀ (pendingOf aU) aU:=⟨R.kind,R.failed,rfl,R.perm⟩
  refine wpS_bind (wpS_count (lo:=tot) (nrem:=a₀.size-tot) C (by omega) (by omega) B0 λm cc B2 m1 m2=>?_)
  dsimp -zeta only
  extract_lets -underBinder +onlyGivenNames n0 jp
  have oH:∀(n':Nat) (aw:SortSt),1≤n'→tot+n'≤a₀.size→Bs kd a₀ (pendingOf aU) aw→wpS (model prog w) A E s (jp () n') Q0 aw:=by
   intro n' aw l1 l2 B3
   have R3:Rn kd a₀ tot aw:=⟨B3.kind,B3.failed,B3.perm,by rw[B3.pend];exact R.pend,R.le⟩
   have push:∀aQ,Rn kd a₀ tot aQ→Rn kd a₀ (tot+n') (setPending aQ ((pendingOf aQ).push (tot,n',0))):=λaQ R4 =>
    ⟨R4.kind,R4.failed,R4.perm,by show PL ((pendingOf aQ).push _).toList 0 _;rw[Jg];exact R4.pend.join ⟨rfl,l1,rfl⟩,l2⟩
   refine wpS_bind (wpS_get ?_)
   extract_lets -underBinder +onlyGivenNames jp2
   have oG:∀aQ,Rn kd a₀ tot aQ→wpS (model prog w) A E s (jp2 ()) Q0 aQ:=λaQ R4=>wpS_bind (wpS_modify (wpS_pure (bn _ _ ⟨tot+n',rfl,push aQ R4,by omega⟩)))
   cases(pendingOf aw).back? with
   |none=>exact oG _ R3
   | some q =>
    obtain⟨s1,n1,o1⟩:=q
    refine wpS_bind (wpS_mono (wpS_forRange (I:=λ_ c aQ=>Aj2 (c=(none,())) (Rn kd a₀ tot aQ)) (Q:=λc aQ=>Aj2 (c=(none,())) (Rn kd a₀ tot aQ)) ?istep (λ_ _ z=>z) ⟨rfl,R3⟩) ?ipost)
    case istep =>
     rintro y c aQ _ _ ⟨rfl,R4⟩
     refine zcx λQ1 gM=>wpS_bind (wpS_get ?_)
     dsimp only
     by_cases hs:(pendingOf aQ).size>1
     ·rw [if_pos hs,getElem?_pos (pendingOf aQ) ((pendingOf aQ).size - 2) (by omega)]
      refine zam (λ_=>wpS_pure (gM _ _ ⟨rfl,R4⟩)) λ_=>wpS_bind (zfi C R4 (by omega) λmd R5 _=>?_)
      exact zam (λz=>absurd z (by decide)) λ_=>wpS_pure (gM _ _ ⟨rfl,R5⟩)
     ·rw [if_neg hs]
      exact wpS_pure (gM _ _ ⟨rfl,R4⟩)
    case ipost =>
     rintro c aQ ⟨rfl,R4⟩
     exact wpS_bind (wpS_modify (oG _ (R4.mod _ _ λq=>rfl)))
  refine zam (λc1=>?_) λc1=>oH m cc m1 (by omega) B2
  have vz:m<minRun' a₀.size a₀.size 0:=c1
  refine wpS_bind (wpS_lift (wpAny_rule ⟨rfl,?_⟩))
  refine wpS_bind (wpS_binary (lo:=tot) (n:=min (a₀.size-tot) (minRun' a₀.size a₀.size 0)) C (by omega) B2 λaw B3=>?_)
  exact zam (λz=>absurd z (by decide)) λ_=>oH _ aw (by omega) (by omega) B3
 case post =>
  rintro c aU ⟨tot,rfl,R,hx⟩
  refine wpS_bind (wpS_mono (wpS_forRange (I:=λ_ c aQ=>Aj2 (c=(none,())) (Rn kd a₀ tot aQ)) (Q:=λc aQ=>Aj2 (c=(none,())) (Rn kd a₀ tot aQ)) ?istep (λ_ _ z=>z) ⟨rfl,R⟩) ?ipost)
  case istep =>
   rintro y c aQ _ _ ⟨rfl,R4⟩
   refine zcx λQ1 gM=>wpS_bind (wpS_get ?_)
   dsimp only
   refine zam (λ_=>wpS_pure (gM _ _ ⟨rfl,R4⟩)) λhs=>wpS_bind (zfi C R4 ?_ λmd R5 _=>?_)
   ·repeat' split
    all_goals omega
   ·exact zam (λz=>absurd z (by decide)) λ_=>wpS_pure (gM _ _ ⟨rfl,R5⟩)
  case ipost =>
   rintro c aQ ⟨rfl,R4⟩
   exact wpS_pure (h aQ R4.perm R4.failed)
end
end Tm
end
section
namespace Tm
open PySem PyProof.Rows PySem.W
section
variable{O:KeyOrd}{kf:Nat→O.α}{n:Nat}{s:Ng}{cmp:Nat→Nat→(Bool→Shared→Prop)→Shared→Prop}
def kk(kf:Nat→O.α)(p:Array Nat)(i:Nat):O.α:=kf (p.getD i 0)
def kk_rev{p:Array Nat}{i j:Nat}(hj:j≤p.size)(k:Nat):kk kf (kas_rev p i j) k=if i≤k∧k<j then kk kf p (i+j-1-k) else kk kf p k:=by
 unfold kk kas_rev
 simp only[Wr,getElem?_mirror_all hj k]
 split<;>rfl
def kk_bub(hs:a<p.size)(hd:d≤a)(k:Nat):kk kf (bubble p a d) k=if k=a-d then kk kf p a else if a-d<k∧k≤a then kk kf p (k-1) else kk kf p k:=by
 unfold kk
 simp only[Wr,getElem?_bubble hs d hd k]
 repeat' split
 all_goals rfl
def Up(kf:Nat→O.α)(p:Array Nat)(k:Nat):Prop:=∀i j,i≤j→j<k→O.kle (kk kf p i) (kk kf p j)
def Dn(kf:Nat→O.α)(p:Array Nat)(k:Nat):Prop:=∀i j,i≤j→j<k→O.kle (kk kf p j) (kk kf p i)
def Up.snoc{p:Array Nat}{a:Nat}(h1:1≤a)(h:Up kf p a)(e:O.kle (kk kf p (a-1)) (kk kf p a)):Up kf p (a+1):=λi j aW hj=>by
 by_cases z:j<a
 ·exact h i j aW z
 obtain rfl:j=a:=by omega
 by_cases z2:i=j
 ·subst z2;exact Ju _
 ·exact Ur (h i (j-1) (by omega) (by omega)) e
def Dn.snoc{p:Array Nat}{a:Nat}(h1:1≤a)(h:Dn kf p a)(e:O.kle (kk kf p a) (kk kf p (a-1))):Dn kf p (a+1):=λi j aW hj=>by
 by_cases z:j<a
 ·exact h i j aW z
 obtain rfl:j=a:=by omega
 by_cases z2:i=j
 ·subst z2;exact Ju _
 ·exact Ur e (h i (j-1) (by omega) (by omega))
structure Ar(n:Nat)(p:Array Nat):Prop where
 sz:p.size=n
 lt:∀i,0<n→p.getD i 0<n
 pm:p.Perm (List.toArray (List.range n))
def Ar.of(h:p.Perm (List.toArray (List.range n))):Ar n p:=by
 have z:p.size=n:=by rw[h.size_eq];simp
 refine⟨z,λi h0=>?_,h⟩
 by_cases hi:i<p.size
 ·have:p[i]∈List.range n:=(Yf.mp h).mem_iff.mp (by simp)
  rw[Wr,getElem?_pos p i hi]
  exact Uo.mp this
 ·rw[Wr,getElem?_neg p i hi];exact h0
def Ar.rev{p:Array Nat}(h:Ar n p)(i j:Nat):Ar n (kas_rev p i j):=.of ((mirror_perm _ _ _ _).trans h.pm)
def Ar.bub(h:Ar n p)(i j:Nat):Ar n (bubble p i j):=.of ((bubble_perm _ _ _).trans h.pm)
variable(h0:0<n)(hc:∀i j C,i<n→j<n→C (O.blt (kf i) (kf j)) s→cmp i j C s)
include h0 hc
theorem t_ask{p:Array Nat}(P:Ar n p){α:Type}{i j:Nat}{k:Bool→KasT α}{Q:α→Shared→Prop}(h1:O.klt (kk kf p i) (kk kf p j)→(k true).kasWp cmp Q s)(h2:O.kle (kk kf p j) (kk kf p i)→(k false).kasWp cmp Q s):(KasT.ask (p.getD i 0) (p.getD j 0) k).kasWp cmp Q s:=by
 refine hc _ _ _ (P.lt _ h0) (P.lt _ h0) ?_
 cases e:O.blt (kf (p.getD i 0)) (kf (p.getD j 0)) with
 |true=>exact h1 e
 |false=>exact h2 e
theorem t_asc(P:Ar n p){Q:Nat→Shared→Prop}:∀(f a:Nat),1≤a→a+f≤n→Up kf p a→(∀m,a≤m→m≤a+f→Up kf p m→(m=a+f∨O.klt (kk kf p m) (kk kf p (m-1)))→Q m s)→(kas_asc p f a).kasWp cmp Q s
 |0,a,_,_,hs,h=>h a (Qg _) (Qg _) hs (.inl rfl)
 |f+1,a,h1,hn,hs,h=>t_ask h0 hc P (λe=>h a (Qg _) (by omega) hs (.inr e)) λe=>t_asc P f (a+1) (by omega) (by omega) (hs.snoc h1 e) λm h2 h3=>h m (by omega) (by omega)|>λq h4 h5=>q h4 (h5.imp (by omega) id)
theorem t_desc{Q:Array Nat×Nat×Nat→Shared→Prop}:∀(f:Nat) (p:Array Nat) (a q:Nat),Ar n p→1≤a→a+f≤n→Dn kf p a→q<a→(∀i,a-(q+1)≤i→i<a→kk kf p i=kk kf p (a-1))→(∀p' m q',Ar n p'→a≤m→m≤a+f→Dn kf p' m→q'<m→(∀i,m-(q'+1)≤i→i<m→kk kf p' i=kk kf p' (m-1))→Q (p',m,q') s)→(kas_desc f p a q).kasWp cmp Q s
 |0,p,a,q,P,_,_,hs,hq,he,h=>h p a q P (Qg _) (Qg _) hs hq he
 | f+1,p,a,q,P,h1,hn,hs,hq,he,h=>by
  have again:∀p',Ar n p'→Dn kf p' (a+1)→∀q'<a+1,(∀i,a+1-(q'+1)≤i→i<a+1→kk kf p' i=kk kf p' (a+1-1))→(kas_desc f p' (a+1) q').kasWp cmp Q s:=λp' P' aO q' hW bV=>t_desc f p' (a+1) q' P' (by omega) (by omega) aO hW bV λp2 m q2 P2 h3 h4=>h p2 m q2 P2 (by omega) (by omega)
  have one:∀(p':Array Nat) (i:Nat),a+1-(0+1)≤i→i<a+1→kk kf p' i=kk kf p' (a+1-1):=λp' i h2 h3=>by rw[show i=a+1-1 by omega]
  refine t_ask h0 hc P (λe=>?_) λe=>?_
  ·rw [if_pos rfl]
   have same:∀k,kk kf (kas_rev p (a-(q+1)) a) k=kk kf p k:=λk=>by
    rw[kk_rev (by rw[P.sz];omega)]
    split
    ·rw[he _ (by omega) (by omega),he k (by omega) (by omega)]
    ·rfl
   split
   ·refine again _ (P.rev _ _) (fun i j aW hj=>?_) 0 (by omega) (one _)
    rw[same,same]
    exact hs.snoc h1 (Kc e) i j aW hj
   ·exact again _ P (hs.snoc h1 (Kc e)) 0 (by omega) (one _)
  ·rw [if_neg (by simp)]
   refine t_ask h0 hc P (λe2=>?_) λe2=>?_
   ·rw[if_pos rfl];exact h p a q P (Qg _) (by omega) hs hq he
   ·rw [if_neg (by simp)]
    have eq:=KeyOrd.kle_antisymm e2 e
    refine again _ P (hs.snoc h1 e2) (q+1) (by omega) λi h2 h3=>?_
    rw[Nat.add_sub_cancel]
    by_cases z:i=a
    ·rw[z]
    ·rw[he i (by omega) (by omega),eq]
theorem t_tail(P:Ar n p)(h1:1≤m)(hm:m≤n)(hs:Dn kf p m)(h:∀p' k,Ar n p'→1≤k→k≤n→Up kf p' k→Q (k,p') s):(kas_tail3 m n p).kasWp cmp Q s:=by
 unfold kas_tail3
 rw[Kp]
 refine t_asc h0 hc (P.rev 0 m) _ m h1 (by omega) (λi j aW hj=>?_) λk h2 h3 h4 _=>h _ k (P.rev 0 m) (by omega) (by omega) h4
 rw[kk_rev (by rw[P.sz];omega),kk_rev (by rw[P.sz];omega),if_pos (by omega),if_pos (by omega)]
 exact hs _ _ (by omega) (by omega)
theorem t_dpart(P:Ar n p)(hm:m+1≤n)(hs:Dn kf p (m+1))(h:∀p' k,Ar n p'→1≤k→k≤n→Up kf p' k→Q (k,p') s):(kas_descPart m n p).kasWp cmp Q s:=by
 unfold kas_descPart
 rw[Kp]
 refine t_desc h0 hc _ p (m+1) 0 P (by omega) (by omega) hs (by omega) (λi h2 h3=>by rw[show i=m+1-1 by omega]) λp' k q P' h2 h3 aO hq he=>?_
 dsimp only
 split
 ·refine t_tail h0 hc (P'.rev _ _) (by omega) (by omega) (fun i j aW hj=>?_) h
  have same:∀i,kk kf (kas_rev p' (k-(q+1)) k) i=kk kf p' i:=λi=>by
   rw[kk_rev (by rw[P'.sz];omega)]
   split
   ·rw[he _ (by omega) (by omega),he i (by omega) (by omega)]
   ·rfl
  rw[same,same]
  exact aO i j aW hj
 ·exact t_tail h0 hc P' (by omega) (by omega) aO h
theorem t_count(P:Ar n p){Q:Nat×Array Nat→Shared→Prop}(h:∀p' k,Ar n p'→1≤k→k≤n→Up kf p' k→Q (k,p') s):(kas_count n p).kasWp cmp Q s:=by
 unfold kas_count
 rw[Kp]
 refine t_asc h0 hc P _ 1 (Qg _) (by omega) (λi j aW hj=>by rw[show i=j by omega];exact Ju _) λm h1 h2 hs hor=>?_
 split
 ·exact h p m P h1 (by omega) hs
 rename_i az
 have ki:m≠n:=by simpa using az
 have ai:=hor.resolve_left (by omega)
 split
 ·refine t_ask h0 hc P (fun _=>?_) fun e=>?_
  ·rw[if_pos rfl];exact h p m P h1 (by omega) hs
  ·rw [if_neg (by simp)]
   have all:∀k,k<m→kk kf p k=kk kf p (m-1):=λk hk=>KeyOrd.kle_antisymm (hs k (m-1) (by omega) (by omega)) (Ur e (hs 0 k (by omega) hk))
   have same:∀k,kk kf (kas_rev p 0 m) k=kk kf p k:=λk=>by
    rw[kk_rev (by rw[P.sz];omega)]
    split
    ·rw[all _ (by omega),all k (by omega)]
    ·rfl
   refine t_dpart h0 hc (P.rev 0 m) (by omega) (Dn.snoc h1 (λi j aW hj=>?_) (by rw[same,same];exact Kc ai)) h
   rw[same,same,all i (by omega),all j hj]
   exact Ju _
 ·obtain rfl:m=1:=by omega
  exact t_dpart h0 hc P (by omega) (Dn.snoc (Qg _) (λi j aW hj=>by rw[show i=j by omega];exact Ju _) (Kc ai)) h
theorem t_place{k:Nat}(P:Ar n p)(hs:Up kf p k){Q:Nat→Shared→Prop}:∀(f l r:Nat),l≤r→r≤k→r-l≤f→(∀i,i<l→O.kle (kk kf p i) (kk kf p k))→(∀i,r≤i→i<k→O.klt (kk kf p k) (kk kf p i))→(∀l,l≤k→(∀i,i<l→O.kle (kk kf p i) (kk kf p k))→(∀i,l≤i→i<k→O.klt (kk kf p k) (kk kf p i))→Q l s)→(kas_place p k f l r).kasWp cmp Q s
 |0,l,r,h1,h2,h3,h4,h5,h=>h l (by omega) h4 λi q=>h5 i (by omega)
 | f+1,l,r,h1,h2,h3,h4,h5,h=>by
  unfold kas_place
  split
  ·exact h l (by omega) h4 λi q=>h5 i (by omega)
  ·refine t_ask h0 hc P (fun e=>?_) fun e=>?_
   ·rw [if_pos rfl]
    exact t_place P hs f l _ (by omega) (by omega) (by omega) h4 (λi q1 q2=>KeyOrd.klt_of_klt_of_kle e (hs _ _ q1 q2)) h
   ·rw [if_neg (by simp)]
    exact t_place P hs f _ r (by omega) h2 (by omega) (λi q=>Ur (hs i ((l+r)/2) (by omega) (by omega)) e) h5 h
theorem t_bin(h:∀p,Ar n p→Up kf p n→Q p s):∀(f:Nat) (p:Array Nat) (k:Nat),Ar n p→Up kf p k→k+f=n→(kas_bin f p k).kasWp cmp Q s
 |0,p,k,P,hs,e=>h p P (by rwa[←e])
 | f+1,p,k,P,hs,e=>by
  unfold kas_bin
  rw[Kp]
  refine t_place h0 hc P hs k 0 k (by omega) (by omega) (by omega) (λi q=>absurd q (by omega)) (λi q1 q2=>absurd q2 (by omega)) λl hl lH hhi=>t_bin h f _ (k+1) (P.bub _ _) (λi j aW hj=>?_) (by omega)
  have hk:k<p.size:=by rw[P.sz];omega
  rw[kk_bub hk (by omega),kk_bub hk (by omega),show k-(k-l)=l by omega]
  repeat' split
  all_goals first
   |(exfalso;omega)
   |exact Ju _
   |exact lH _ (by omega)
   |exact Kc (hhi _ (by omega) (by omega))
   |exact hs _ _ (by omega) (by omega)
theorem t_sort(h:∀p,Ar n p→Up kf p n→Q p s):(kas_sort n).kasWp cmp Q s:=by
 unfold kas_sort
 rw[Kp]
 refine t_count h0 hc (.of (Array.Perm.refl _)) λp k P h1 h2 hs=>?_
 dsimp only
 split
 ·exact t_bin h0 hc h _ p _ P (by rwa[Nat.max_eq_left h1]) (by omega)
 ·exact h p P (by rwa[show k=n by omega]at hs)
end
open AutoSeq1 (wpAny_loadPart')
open MeetsSeq MeetsSeq2 MeetsSeq3 SeqRoads2
section
variable{prog:Ni}{w:Nk}{A:Nm}{E:Nb}{s:Ng}{R:List Value→Prop}{vs:Nj}
structure zb4(prog:Ni)(w:Nk)(A:Nm)(E:Nb)(s:Ng)(R:List Value→Prop)(vs:Nj):Prop where
 few:vs.length<2→R vs
 go:2≤vs.length→∃kd:SortKind,(∀Q:SortKind→Shared→Prop,Q kd s→wpAny (model prog w) A (keyKind' vs.toArray) Q E s) ∧
  ∀Q:Unit→SortSt→Prop,(∀ag,(arrOf ag).Perm (pairsOf vs)→failedOf ag=none→R ((arrOf ag).toList.map (·.2))→Q () ag)→wpS (model prog w) A E s sortRuns' Q (SortSt.mk' kd (vs.toArray.zip vs.toArray) #[] 7 none)
def zdh(vs:Nj):(pairsOf vs).toList=vs.map λv=>(v,v):=by
 rw[pairsOf_toList]
 induction vs with
 |nil=>rfl
 |cons v r ih=>rw[List.zip_cons_cons,Ql,ih]
def perm_back{l:List Keyed}{vs:Nj}(h:l.Perm (vs.map λv=>(v,v))):(l.map (·.2)).Perm vs:=by
 have:=h.map (·.2)
 rwa[Zi,show((λ(p:Keyed)=>p.2)∘λv=>(v,v))=id from rfl,List.map_id]at this
def cmp_of{kd:SortKind}(h:∀x y,x∈vs→y∈vs→∀(Q:Bool→Shared→Prop) (E':Value→Shared→Prop),(∀b,Q b s)→wpAny (model prog w) A (keyLt' kd x y) Q E' s):Cmp prog w A E s kd (pairsOf vs):=by
 intro x y st Q hx hy hk q
 rw[zdh]at hx hy
 obtain⟨v,hv,rfl⟩:=Qh.mp hx
 obtain⟨u,hu,rfl⟩:=Qh.mp hy
 rw[lt'_eq]
 refine wpS_bind (wpS_get ?_)
 rw[hk]
 refine wpS_bind (wpS_lift (wpAny_attempt (h v u hv hu _ _ λb=>⟨rfl,?_⟩)))
 exact wpS_pure (q b)
def zb4.any(h:2≤vs.length→∃kd:SortKind,(∀Q:SortKind→Shared→Prop,Q kd s→wpAny (model prog w) A (keyKind' vs.toArray) Q E s)∧∀x y,x∈vs→y∈vs→∀(Q:Bool→Shared→Prop) (E':Nb),(∀b,Q b s)→wpAny (model prog w) A (keyLt' kd x y) Q E' s):zb4 prog w A E s (λ_=>True) vs :=
 ⟨fun _=>trivial,fun h2=>by
  obtain⟨kd,a1,a2⟩:=h h2
  exact⟨kd,a1,λQ q=>zfh (cmp_of a2) rfl rfl (Array.Perm.refl _) rfl λag p1 p2=>q ag p1 p2 trivial⟩⟩
def zb4.ord{O:KeyOrd}{kv:Value→O.α}(h:2≤vs.length→∃ kd:SortKind,(∀ Q:SortKind→Shared→Prop,Q kd s→wpAny (model prog w) A (keyKind' vs.toArray) Q E s)∧∀ x y,x∈vs→y∈vs→∀ (Q:Bool→Shared→Prop) (E':Nb),Q (O.blt (kv x) (kv y)) s→wpAny (model prog w) A (keyLt' kd x y) Q E' s):zb4 prog w A E s (fun ws=>vs.length < 64→ws.Pairwise fun x y=>O.kle (kv x) (kv y)) vs:=by
 refine⟨λh2 _=>?_,λh2=>?_⟩
 ·obtain _ | ⟨v,_ | ⟨v',r⟩⟩:=vs
  ·exact List.Pairwise.nil
  ·exact Wn _ _
  ·exact absurd h2 (by simp)
 obtain⟨kd,a1,a2⟩:=h h2
 refine⟨kd,a1,λQ q=>?_⟩
 by_cases qY:vs.length<64
 ·have at_:∀ i,i < vs.length→vs.getD i .none∈vs:=fun i hi=>by
   rw[Zq,Qd hi]
   exact Zb hi
  have st0:SortSt.mk' kd (vs.toArray.zip vs.toArray) #[] 7 none=kas_st kd (pairsOf vs) (List.toArray (List.range vs.length)):=by
   unfold kas_st
   rw[←pairsOf_size vs,kas_range]
   rfl
  rw[st0]
  refine kas_runs (κ:=kd) (it:=pairsOf vs) (E:=E) (Q:=λr st s'=>s'=s∧Q r st) (G:=λp s'=>Aj3 (s'=s) (Ar vs.length p) (Up (O:=O) (λi=>kv (vs.getD i .none)) p vs.length)) h2 qY (λp ag s' hz ha hf ⟨hs,P,U⟩=>⟨hs,q ag ?_ hf λ_=>?_⟩) (t_sort (O:=O) (kf:=λi=>kv (vs.getD i .none)) (by omega) (λi j C hi hj hC=>?_) λp P U=>⟨rfl,P,U⟩)
  ·have:=(Yf.mp P.pm).map (kas_item (pairsOf vs))
   rw[←Kx,←Kx,←pairsOf_size vs,kas_range]at this
   rw[ha]
   exact Yf.mpr this
  ·rw [ha,Kx,Zi,Wo,Ke]
   intro i j hi hj aW
   have e:∀k (hk:k<p.toList.length),kv ((kas_item (pairsOf vs) p.toList[k]).2)=kk (λi=>kv (vs.getD i .none)) p k:=λk hk=>by
    unfold kk
    rw[kas_item_eq,Wr,getElem?_pos p k (by simpa using hk)]
    rfl
   show O.kle (kv _) (kv _)
   dsimp only[Function.comp]
   rw[e i hi,e j hj]
   exact U i j (Uc aW) (by simpa[P.sz] using hj)
  ·unfold kas_cmp
   rw[kas_item_eq,kas_item_eq]
   exact a2 _ _ (at_ i hi) (at_ j hj) _ _ hC
 ·exact zfh (cmp_of λx y hx hy Q' E' q'=>a2 x y hx hy Q' E' (q' _)) rfl rfl (Array.Perm.refl _) rfl λag p1 p2=>q ag p1 p2 λz=>absurd z qY
abbrev strO:KeyOrd:=strKind.toKeyOrd
def kvS(v:Value):List Nat:=(strOf v).cps.toList
def zha(hv:∀v∈vs,∃x t,v=.str x t):zb4 prog w A E s (λws=>vs.length<64→ws.Pairwise λx y=>strO.kle (kvS x) (kvS y)) vs:=by
 refine .ord λh2=>⟨oneType',λQ q=>kas_kind (T:=.type "str") h2 (λv hm=>?_) (by decide) (by decide) q,λx y hx hy Q E' q=>?_⟩
 ·obtain ⟨x,t,rfl⟩:=hv v hm
  exact Looks.of_pure rfl
 ·obtain ⟨a,t,rfl⟩:=hv x hx
  obtain⟨b,u,rfl⟩:=hv y hy
  rw[keyLt'_oneType]
  exact oneLt_str q
def sort_list{a:Nc}{n:Nat}{P:Fin→Shared→Prop}(ho:s.heap.get? a=some (seqObj "list" vs.toArray n))(hz:vs.length≤sizeLine)(hS:∀s':Shared,(∀b o,b≠a→s.heap.get? b=some o→s'.heap.get? b=some o)→zb4 prog w A E s' R vs)(h:∀ws:List Value,ws.Perm vs→R ws→P (.done (.ret .none)) {s with heap:=sortedHeap s.heap a vs ws.toArray}) :
  wpAny (model prog w) A (Builtin.«list.sort» ⟨[.ref a],[]⟩) P E s:=by
 have lt:a<s.heap.objs.size:=Qr ho
 rw[list_sort_plain]
 refine wpAny_bind (listItems_at ho rfl (wpAny_bind (listUpdate_at ho rfl ?_ (hsz:=by simpa using hz) (hsz2:=by simp))))
 obtain⟨e1,k1⟩:∃e,(s.heap.update a (Obj.mapSeq λ_=>#[])).get? a=some (seqObj "list" #[] e):=⟨_,get?_update_seq ho λ_=>#[]⟩
 refine wpAny_bind (seqEpoch_at k1 rfl (wpAny_bind (wpAny_newTuple (wpAny_bind (wpAny_newList (wpAny_holding ?_))))))
 show wpAny (model prog w) A _ P E {s with heap:=((s.heap.update a (Obj.mapSeq λ_=>#[])).push (seqObj "tuple" vs.toArray 0)).push (seqObj "list" #[] 0)}
 generalize hg:((s.heap.update a (Obj.mapSeq λ_=>#[])).push (seqObj "tuple" vs.toArray 0)).push (seqObj "list" #[] 0)=g
 have k6:g.get? a=some (seqObj "list" #[] e1):=by
  rw[←hg]
  exact Qi _ (Qi _ k1)
 have kk:∀b o,b≠a→s.heap.get? b=some o→g.get? b=some o:=λb o hb e=>by
  rw[←hg]
  exact Qi _ (Qi _ ((Ua s.heap _ (Qu hb)).trans e))
 have eh:∀out,sortedHeap s.heap a vs out=g.update a (Obj.mapSeq λ_=>out):=λout=>by rw[←hg];rfl
 have S:=hS {s with heap:=g} kk
 dsimp only
 have fin:∀(l:Array Keyed),l.toList.Perm (vs.map λv=>(v,v))→R (l.toList.map (·.2))→P (.done (.ret .none)) {s with heap:=g.update a (Obj.mapSeq λ_=>l.map (·.2))}:=λl p1 p2=>by
  have:=h _ (perm_back p1) p2
  rw[eh]at this
  rw[show l.map (·.2)=(l.toList.map (·.2)).toArray by rw[←Kx]]
  exact this
 have lz:vs.toArray.size=vs.length:=Qv
 have szOk:∀l:Array Keyed,l.toList.Perm (vs.map λv=>(v,v))→(l.map (·.2)).size≤sizeLine+1:=λl p1=>by
  rw[Array.size_map,←Ys,p1.length_eq,Qa];exact zar16 ‹_›
 by_cases few:vs.toArray.size<2
 ·rw [if_pos few,if_pos few]
  refine wpAny_bind (wpAny_pure ?_)
  rw[StateT.run_pure]
  have pr:(pairsOf vs).toList.Perm (vs.map λv=>(v,v)):=by rw[zdh]
  refine wpAny_bind (wpAny_pure (wpAny_bind (seqEpoch_at k6 rfl (wpAny_bind (listUpdate_at k6 rfl ?_ (hsz:=by simp) (hsz2:=szOk (pairsOf vs) pr))))))
  simp only[bne_self_eq_false,Ja,if_false]
  refine wpAny_pure (fin (pairsOf vs) pr ?_)
  rw[zdh,Zi,show((λ(p:Keyed)=>p.2)∘λv=>(v,v))=id from rfl,List.map_id]
  exact S.few (by rw[←lz];exact few)
 ·rw [if_neg few,if_neg few]
  obtain⟨kd,ask,C⟩:=S.go (by omega)
  refine wpAny_bind (ask _ ?_)
  refine wpAny_bind (wpAny_mono (C (λ_ ag=>Aj3 ((arrOf ag).Perm (pairsOf vs)) (failedOf ag=none) (R ((arrOf ag).toList.map (·.2)))) λag p1 p2 p3=>⟨p1,p2,p3⟩) ?_ λ_ _ e=>e)
  rintro⟨⟨⟩,ag⟩ s' ⟨rfl,p1,p2,p3⟩
  have pr:(arrOf ag).toList.Perm (vs.map λv=>(v,v)):=by rw[←zdh];exact Yf.mp p1
  dsimp only
  refine wpAny_bind (seqEpoch_at k6 rfl (wpAny_bind (listUpdate_at k6 rfl ?_ (hsz:=by simp) (hsz2:=szOk (arrOf ag) pr))))
  rw[p2]
  simp only[bne_self_eq_false,Ja,if_false]
  exact wpAny_pure (fin _ pr p3)
def zeo{x:Value}{G:List Value→Prop}{R:List Value→List Value→Prop}{Q:Nb}(v4:∀(E':Nb) (R:List Value→Shared→Prop),(∀(g:Nl) (tk:Nat) (vs:Nj),(∀b o,s.heap.get? b=some o→g.get? b=some o)→s.heap.objs.size≤g.objs.size→G vs→R vs {s with heap:=g,toks:=tk})→wpAny (model prog w) A.in1 (collect x) R E' s)(hz:∀vs,G vs→vs.length≤sizeLine)(hS:∀vs,G vs→∀(A':Around) (E':Value→Shared→Prop) (s':Shared),A'.units≤A.units+8→(∀b o,s.heap.get? b=some o→s'.heap.get? b=some o)→zb4 prog w A' E' s' (R vs) vs)(h:∀(vs ws:Nj) (l:Nc) (g:Nl) (tk e:Nat),G vs→ws.Perm vs→R vs ws→s.heap.objs.size≤l→(∀b o,s.heap.get? b=some o→g.get? b=some o)→g.get? l=some (seqObj "list" ws.toArray e)→Q (.ref l) {s with heap:=g,toks:=tk}) :
  wpAny (model prog w) A (call (.builtin "sorted") [x]) Q E s:=by
 refine Calls.call_function_entry kind_sorted plain_sorted entry_sorted (args_sorted1 _) ?_
 unfold Builtin.«sorted»
 refine wpAny_bind (m:=checkCount "sorted" 1 1 _) (wpAny_pure (wpAny_bind (v4 _ _ λg tk vs kg le hG=>?_)))
 have hzv:=hz vs hG
 refine wpAny_bind (wpAny_newList ?_ (hsz:=hzv))
 have o1:(g.push (seqObj "list" vs.toArray 0)).get? g.objs.size=some (seqObj "list" vs.toArray 0):=Zd _ rfl
 show wpAny _ _ _ _ _ {s with heap:=g.push (seqObj "list" vs.toArray 0),toks:=tk}
 refine wpAny_bind (wpAny_holding (wpAny_call_entry slot_list_sort ⟨_,o1,rfl⟩ entry_list_sort (sort_list (R:=R vs) o1 hzv (λs' k=>hS vs hG _ _ s' ?_ λb o e=>k b o (λz=>?_) (Qi _ (kg b o e))) λws p1 p2=>⟨_,rfl,?_⟩) (args_list_sort _)))
 ·show A.units+1+1≤A.units+8
  omega
 ·have lt:b < g.objs.size:=Qr (kg b o e)
  rw[z]at lt
  exact absurd lt (Yp _)
 ·obtain ⟨e,he⟩:=sortedHeap_at (out:=ws.toArray) o1
  refine wpAny_pure ⟨_,rfl,h vs ws _ _ _ e hG p1 p2 le (λb o q=>?_) he⟩
  have lt:b<g.objs.size:=Qr (kg b o q)
  rw[sortedHeap_old (Zc lt) (by rw[size_push'];exact Uj lt)]
  exact Qi _ (kg b o q)
def zf6{T:String}{r d:Nc}{n:Nat}{P:Nat→Value→Prop}{OK:Heap→Prop}{R:List Value→Shared→Prop}(K:KdlSrc prog w T r d n P OK)(hh:A.handled=none)(ok:OK s.heap)(hn:n≤sizeLine)(h:∀(g:Nl) (tk:Nat) (ao:Array Value),(∀b o,s.heap.get? b=some o→g.get? b=some o)→s.heap.objs.size≤g.objs.size→ItemsOf P ao n→R ao.toList {s with heap:=g,toks:=tk}) :
  wpAny (model prog w) A (collect (.ref r)) R E s:=by
 have there:=K.there _ ok
 unfold collect
 refine wpAny_bind (wpAny_runValue (codeAny_builtin entry_proto_collect' ?_))
 rw[We PySem.F.plain_proto_collect _]
 show wpAny _ A.in1 (newList [] >>= λl =>
  again (.builtin "list.__iadd__" ⟨[l,.ref r],[]⟩)) _ _ s
 refine wpAny_bind (wpAny_newObj_type (wpAny_pure ⟨plainId_quiet PySem.F.plain_list_iadd _,codeAny_builtin entry_list_iadd' ?_⟩))
 rw[We PySem.F.plain_list_iadd _]
 show wpAny _ A.in1 (Builtin.List.listExtendWith (.ref s.heap.objs.size)
  (.ref r) (.ref s.heap.objs.size)) _ _ _
 have l9:(s.heap.push {cls:=.type "list",data:=.seq ([]:List Value).toArray}).get? s.heap.objs.size=some {cls:=.type "list",data:=.seq #[]}:=Zd _ rfl
 refine wpAny_mono (kdl_extend (A:=A) (s:={s with heap:=s.heap.push {cls:=.type "list",data:=.seq ([]:List Value).toArray}})
  (R:=fun (q:Result) (s':Ng)=>∃ (g:Nl) (tk:Nat) (ao:Array Value) (c:Nat),q=.ok (.ret (.ref s.heap.objs.size))∧s'={ s with heap:=g,toks:=tk } ∧
   (∀b o,s.heap.get? b=some o→g.get? b=some o)∧g.get? s.heap.objs.size=some {cls:=.type "list",dict:=none,data:=.seq ao c,slots:=#[]}∧ItemsOf P ao n)
  K hh (K.keep _ _ ok λb _ o e=>Qi _ e) s.heap.objs.size (Yb there.1) (Yb there.2) (.ref s.heap.objs.size) 0 l9
  (λg tk ao c hk hS ha=>⟨g,tk,ao,c,rfl,rfl,λb o e=>hk b o (Zc (Qr e)) (Qi _ e),hS,ha⟩) hn) (λfin s' x=>?_) λe s' x=>?_
 ·cases fin with
  |done f =>
   obtain⟨g,tk,ao,c,e,rfl,hk,hS,ha⟩:=x
   cases e
   show wpAny _ A (load s.heap.objs.size >>= _) _ _ _
   exact wpAny_bind (wpAny_load hS (wpAny_pure (h g tk ao hk (Uc (Qr hS)) ha)))
  |again c1 =>
   refine⟨x.1,codeAny_mono x.2 λq s2 y=>?_⟩
   obtain⟨g,tk,ao,c,rfl,rfl,hk,hS,ha⟩:=y
   show wpAny _ A (load s.heap.objs.size >>= _) _ _ _
   exact wpAny_bind (wpAny_load hS (wpAny_pure (h g tk ao hk (Uc (Qr hS)) ha)))
 ·obtain ⟨_,_,_,_,e',_⟩:=x
  cases e'
def sorted_any{Q:Nb}(hl:s.heap.IsList l vs.toArray)(hz:vs.length≤sizeLine)(hS:∀(A':Around) (E':Value→Shared→Prop) (s':Shared),A'.units≤A.units+8→(∀b o,s.heap.get? b=some o→s'.heap.get? b=some o)→zb4 prog w A' E' s' R vs)(h:∀(ws:Nj) (l:Nc) (g:Nl) (tk e:Nat),ws.Perm vs→R ws→s.heap.objs.size≤l→(∀b o,s.heap.get? b=some o→g.get? b=some o)→g.get? l=some (seqObj "list" ws.toArray e)→Q (.ref l) {s with heap:=g,toks:=tk}) :
  wpAny (model prog w) A (call (.builtin "sorted") [.ref l]) Q E s :=
 zeo (G:=λus=>us=vs) (R:=λ_=>R) (λE' R' hR=>collect_list hl (hR _ _ _ (λb o e=>(Ua _ _ (Qu (Zc (Qr e)))).trans (Qi _ e)) (by rw[Heap.size_update,size_push'];exact Ub _) rfl) hz) (λus e=>e▸hz) (λus e=>e▸hS) λus ws l g tk e e' p1 p2=>h ws l g tk e (e'▸p1) p2
end
def str_ext{a b:Str}(h:a.cps.toList=b.cps.toList):a=b:=by
 cases a;cases b
 exact congrArg _ (Ky.mp h)
def str_ne{a b:Str}(h:¬a=b):¬a.cps.toList=b.cps.toList:=λq=>h (str_ext q)
def pairO(O P:KeyOrd):KeyOrd where
 α:=O.α×P.α
 blt a b:=O.blt a.1 b.1||(!O.blt b.1 a.1&&P.blt a.2 b.2)
 irrefl a:=by rw[O.irrefl,P.irrefl];rfl
 trans a b c h1 h2:=by
  simp only[Bool.or_eq_true,Jk,Jf]at *
  rcases h1 with h1 | ⟨n1,h1⟩
  ·rcases h2 with h2 | ⟨n2,h2⟩
   ·exact .inl (O.trans _ _ _ h1 h2)
   ·exact .inl (KeyOrd.klt_of_klt_of_kle h1 n2)
  ·rcases h2 with h2 | ⟨n2,h2⟩
   ·exact .inl (KeyOrd.klt_of_kle_of_klt n1 h2)
   ·exact .inr ⟨Ur n1 n2,P.trans _ _ _ h1 h2⟩
 negTrans a b c h:=by
  simp only[Bool.or_eq_true,Jk,Jf]at *
  rcases h with h | ⟨n,h⟩
  ·rcases O.negTrans _ b.1 _ h with q | q
   ·exact .inl (.inl q)
   ·exact .inr (.inl q)
  ·cases e1:O.blt a.1 b.1 with
   |true=>exact .inl (.inl rfl)
   | false =>
    cases e2:O.blt b.1 c.1 with
    |true=>exact .inr (.inl rfl)
    |false =>
     have n1:O.blt b.1 a.1=false:=Ur (O:=O) (a:=a.1) (b:=c.1) (c:=b.1) n e2
     have n2:O.blt c.1 b.1=false:=Ur (O:=O) (a:=b.1) (b:=a.1) (c:=c.1) e1 n
     rcases P.negTrans _ b.2 _ h with q | q
     ·exact .inl (.inr ⟨n1,q⟩)
     ·exact .inr (.inr ⟨n2,q⟩)
 total a b h1 h2:=by
  simp only[Bool.or_eq_false_iff,Bool.and_eq_false_iff,Bool.not_eq_false']at *
  have e1:=O.total _ _ h1.1 h2.1
  obtain⟨a1,a2⟩:=a
  obtain⟨b1,b2⟩:=b
  simp only at e1 h1 h2
  subst e1
  have i:=O.irrefl a1
  rw[i]at h1 h2
  have p1:P.blt a2 b2=false:=h1.2.elim (λz=>by cases z) id
  have p2:P.blt b2 a2=false:=h2.2.elim (λz=>by cases z) id
  rw[P.total _ _ p1 p2]
def zh0(h:Nl):Value→List Value
 | .ref a=>match h.get? a with
  |some o=>match o.data with
   |.seq xs _=>xs.toList
   |_=>[]
  |none=>[]
 |_=>[]
def itemsAt_ref(e:h.get? a=some o)(d:o.data=.seq xs n):zh0 h (.ref a)=xs.toList:=by
 unfold zh0
 dsimp only
 rw[e]
 dsimp only
 rw[d]
def kvP(h:Nl)(v:Value):List Nat×List Nat:=(kvS ((zh0 h v).getD 0 .none),kvS ((zh0 h v).getD 1 .none))
def ze8(h:Nl)(v:Value)(x:Str)(q:Value):Prop:=∃a o t n,v=.ref a∧h.get? a=some o∧o.cls=.type "tuple" ∧ o.data=.seq #[.str x t,q] n
def ze8.key(p:ze8 h v x q):kvP h v=(x.cps.toList,kvS q):=by
 obtain⟨a,o,t,n,rfl,e,c,d⟩:=p
 unfold kvP
 rw[itemsAt_ref e d]
 rfl
theorem katTups(k:∀b o,h.get? b=some o→s.get? b=some o):∀(vs:Nj),(∀v∈vs,∃x q,ze8 h v x q)→∃fs,KatTups s vs fs∧fs.length=vs.length∧∀f∈fs,∃x t,f=.str x t
 |[],_=>⟨[],.nil,rfl,λf hf=>by cases hf⟩
 |v::vs,hv=>by
  obtain⟨fs,h1,h2,h3⟩:=katTups k vs λu hu=>hv u (Qf _ hu)
  obtain⟨x,q,a,o,t,n,rfl,e,c,d⟩:=hv v Qc
  refine⟨.str x t::fs,.cons (k _ _ e) c d rfl h1,by rw[Qx,Qx,h2],λf hf=>?_⟩
  rcases Qe.mp hf with z | z
  ·exact⟨x,t,z⟩
  ·exact h3 f z
section
variable{prog:Ni}{w:Nk}{A:Nm}{E:Nb}{s:Ng}{vs:Nj}{h:Nl}
def kind_tups(k:∀b o,h.get? b=some o→s.heap.get? b=some o)(hv:∀v∈vs,∃x q,ze8 h v x q)(h2:2≤vs.length)(q:Q (tuples' true) s):wpAny (model prog w) A (keyKind' vs.toArray) Q E s:=by
 obtain⟨fs,h1,h3,h4⟩:=katTups k vs hv
 refine kat_kind (T:=.type "str") h1 (by omega) (λf hf=>?_) (by decide) q
 obtain⟨x,t,rfl⟩:=h4 f hf
 exact Looks.of_pure rfl
def blt_p:(pairO strO strO).blt (x,y) (x',y')=if x=x' then decide (y<y') else decide (x<x'):=by
 show(decide (x<x')||(!decide (x'<x)&&decide (y<y')))=_
 split
 ·rename_i e
  subst e
  rw[decide_eq_false (Wv x)];rfl
 ·rename_i ne
  by_cases h1:x<x'
  ·rw[decide_eq_true h1];rfl
  ·rw[decide_eq_false h1,decide_eq_true (Kh λh2=>ne (strO.total _ _ (decide_eq_false h1) (decide_eq_false h2)))];rfl
def zd4(k:∀ b o,h.get? b=some o→s.heap.get? b=some o)(hv:∀ v∈vs,∃ x q,ze8 h v x q)(hd:∀ v∈vs,∀ u∈vs,∀ x p q,ze8 h v x p→ze8 h u x q→v=u∨∃ y t y' t',p=.str y t∧q=.str y' t'):zb4 prog w A E s (fun ws=>vs.length < 64→ws.Pairwise fun x y=>(pairO strO strO).kle (kvP h x) (kvP h y)) vs:=by
 refine .ord λh2=>⟨tuples' true,λQ q=>kind_tups k hv h2 q,λv v' hx hy Q E' q=>?_⟩
 have same:=hd v hx v' hy
 obtain⟨x,z,p⟩:=hv v hx
 obtain⟨x',z',p'⟩:=hv v' hy
 have P:=p
 have P':=p'
 rw[P.key,P'.key,blt_p]at q
 obtain⟨a,o,t,n,rfl,e,c,d⟩:=p
 obtain⟨a',o',t',n',rfl,e',c',d'⟩:=p'
 refine kat_lt (k _ _ e) d (k _ _ e') d' ?_
 show KatLex _ _ _ _ _ _ [(Value.str x t,Value.str x' t'),(z,z')] 0 s
 refine kat_cons (wpAny_eqBool_str ?_)
 by_cases ex:x=x'
 ·subst ex
  rw[if_pos rfl]at q
  rw[decide_eq_true rfl]
  refine kat_yes (kat_cons ?_)
  rcases same x z z' P P' with e2 | ⟨y,u,y',u',rfl,rfl⟩
  ·cases e2
   rw[e]at e'
   cases e'
   rw[d]at d'
   have d2:(#[Value.str x t,z]:Array Value)=#[Value.str x t',z']:=by injection d'
   have d3:z=z':=by
    have:=congrArg (λa:Array Value=>a[1]?) d2
    simpa using this
   subst d3
   rw[decide_eq_false (Wv _)]at q
   exact SeqAt.EqAt.same z _ _ _ _ (kat_yes (kat_nil q))
  ·refine wpAny_eqBool_str ?_
   by_cases ey:y=y'
   ·subst ey
    rw[show kvS (Value.str y u')=kvS (Value.str y u) from rfl,decide_eq_false (Wv _)]at q
    rw[decide_eq_true rfl]
    exact kat_yes (kat_nil q)
   ·rw [decide_eq_false ey]
    exact kat_no (kat_one _ _ (lt_str q))
 ·rw [decide_eq_false ex]
  rw[if_neg (str_ne ex)]at q
  exact kat_no (oneLt_str q)
end
def lt_loopAt(l b:Nc)(xs ys:List (Str×Tok))(n n2:Nat)(k:Nat) :
  ∀ i:Nat,min xs.length ys.length - i=k→i≤min xs.length ys.length→Meets (Builtin.«list.__eq__.loop» ⟨[.ref l,.ref b,rawInt i,rawInt 0],[]⟩)
   (fun A R s=>s.heap.get? l=some { cls:=.type "list",data:=.seq (strValues xs).toArray n }∧s.heap.get? b=some { cls:=.type "list",data:=.seq (strValues ys).toArray n2 } ∧
    ∀z,R (.ok (.ret (.bool z))) s):=by
 have get:∀(zs:List (Str×Tok)) (i:Nat),(strValues zs).toArray[((i:Nat):Int).toNat]?=zs[i]?.map λp=>Value.str p.1 p.2:=λzs i=>by
  simp[strValues]
 induction k with
 | zero =>
  intro i hk ua prog w A R s h
  obtain⟨hp,g,d,tk,os⟩:=s;obtain⟨hl,hb,h⟩:=h
  wp_walk using wpAny_loadPart' hl,wpAny_loadPart' hb
  rw[get,get]
  by_cases hx:i<xs.length
  ·have hy:ys[i]?=none:=by simp;lia
   rw[hy,Qd hx]
   dsimp only[Option.map_some,Option.map_none]
   wp_walk using wpAny_loadPart' hl,wpAny_loadPart' hb
   exact h _
  ·have cw:xs[i]?=none:=by simp;lia
   rw[cw]
   dsimp only[Option.map_some,Option.map_none]
   wp_walk using wpAny_loadPart' hl,wpAny_loadPart' hb
   exact h _
 | succ k ih =>
  intro i hk ua prog w A R s h
  obtain⟨hp,g,d,tk,os⟩:=s;obtain⟨hl,hb,h⟩:=h
  wp_walk using wpAny_loadPart' hl,wpAny_loadPart' hb
  have hx:i<xs.length:=by lia
  have hy:i<ys.length:=by lia
  rw[get,get,Qd hx,Qd hy]
  dsimp only[Option.map_some]
  have hc:((i:Int)+1)=((i+1:Nat):Int):=by push_cast;rfl
  refine wpAny_bind (wpAny_eqBool_str ?_)
  by_cases he:xs[i].1=ys[i].1
  ·rw [decide_eq_true he]
   wp_walk
   rw[hc]
   exact⟨plainId_quiet plain_eq_loop _,codeAny_builtin entry_eq_loop (by
    rw[We plain_eq_loop _]
    exact ih (i+1) (by lia) (by lia) prog w A R _ ⟨hl,hb,h⟩)⟩
  ·rw [decide_eq_false he]
   wp_walk using wpAny_loadPart' hl,wpAny_loadPart' hb
   rw[get,get,Qd hx,Qd hy]
   dsimp only[Option.map_some]
   refine wpAny_bind (show wpAny _ _ (compareOp .Lt (Value.str xs[i].1 xs[i].2) (Value.str ys[i].1 ys[i].2)) _ _ _ from lt_str ?_)
   wp_walk
   exact h _
def list_ltAt(l b:Nc)(xs ys:List (Str×Tok))(n n2:Nat):Meets (Builtin.«list.__lt__» ⟨[.ref l,.ref b],[]⟩)
   (fun A R s=>s.heap.get? l=some { cls:=.type "list",data:=.seq (strValues xs).toArray n }∧s.heap.get? b=some { cls:=.type "list",data:=.seq (strValues ys).toArray n2 } ∧
    ∀z,R (.ok (.ret (.bool z))) s):=by
 intro prog w A R s h
 obtain⟨hp,g,d,tk,os⟩:=s;obtain⟨hl,hb,h⟩:=h
 have f3:=AutoSeq1.sub_list_list
 wp_walk using wpAny_loadPart' hl,wpAny_loadPart' hb
 exact⟨plainId_quiet plain_eq_loop _,codeAny_builtin entry_eq_loop (by
  rw[We plain_eq_loop _]
  exact lt_loopAt l b xs ys n n2 _ 0 rfl (Zg _) prog w A R _ ⟨hl,hb,h⟩)⟩
section
variable{prog:Ni}{w:Nk}{A:Nm}{E:Nb}{s:Ng}
def zgc{vs:Nj}{h:Nl}(hu:A.units<cLine)(k:∀b o,h.get? b=some o→s.heap.get? b=some o)(hv:∀v∈vs,∃a xs n,v=.ref a∧h.get? a=some {cls:=.type "list",data:=.seq (strValues xs).toArray n}):zb4 prog w A E s (λ_=>True) vs:=by
 refine .any λh2=>⟨oneType',λQ q=>kas_kind (T:=.type "list") h2 (λv hm=>?_) (by decide) (by decide) q,λx y hx hy Q E' q=>?_⟩
 ·obtain ⟨a,xs,n,rfl,e⟩:=hv v hm
  exact(Looks.ld (k _ _ e)).andThen .now
 ·obtain ⟨a,xs,n,rfl,e⟩:=hv x hx
  obtain⟨b,ys,m,rfl,e'⟩:=hv y hy
  rw[keyLt'_oneType,oneLt'_eq]
  simp only[if_true]
  refine wpAny_bind (wpAny_cRoomFor hu ?_)
  refine wpAny_bind (wpAny_callSpecialIfBound?_slot ⟨_,k _ _ e,rfl⟩ F.slot_list_lt (call_meets F.slot_list_lt ⟨_,k _ _ e,rfl⟩ F.entry_list_lt (F.args_list_lt_2 _ _) (list_ltAt a b xs ys n m) ⟨k _ _ e,k _ _ e',λz=>?_⟩))
  exact wpAny_truthy_bool (q _)
end
end Tm
end
section
namespace L2
open PySem PySem.Spec PyProof.Rows
def for_strs{K:Na}{a:Nc}{zs:Nh}{g:TG}{tb:TS}{D:Ends}{σ:St}{H:Hp}(Pv:Nat→St→Hp→Prop)(h0:Pv 0 σ H)(hl:∀i σ H,i≤(zs.map V.str).length→Pv i σ H→SqL K H a (zs.map V.str))(hs:∀i (hi:i<zs.length) σ H,Pv i σ H→g (.str zs[i]) σ H λ σ2 H2=>tb {D with nx:=Pv (i+1),ct:=Pv (i+1),bk:=D.nx} σ2 H2)(hd:∀σ H,Pv (zs.map V.str).length σ H→D.nx σ H) :
  ∃W:Nat→Nat→St→Hp→Prop,(∃m,W 0 m σ H)∧∀i m σ H,W i m σ H →
   ((Itl K a).stop i H∧D.nx σ H)∨((Itl K a).go i H∧∃N:St→Hp→Prop,(∀σ' H',N σ' H'→∃m',m'<m∧W (i+1) m' σ' H')∧∀x H',(Itl K a).yld i H x H'→g x σ H' λ σ2 H2=>tb {D with nx:=N,ct:=N,bk:=D.nx} σ2 H2) :=
 zbv Pv h0 hl (λi x σ H e p=>by
  have hi:i<zs.length:=by
   have:=(Za.mp e).1
   rwa[Qa]at this
  rw[Qq,Qd hi]at e
  cases e
  exact hs i hi σ H p) hd
section
variable{X:Cx}
inductive RrIndex(x:V)(vs:List V)(H:Hp)(Q:VK):Prop
 |mk (l:Nc) (xs:List V) (y:V) (j:Nat) (h0:x=.ref l) (h1:vs=[y]) (h2:H l=some (.lst xs)) (h3:zdk y=true) (h4:xs.all zdk=true) (h5:(∃z,xs[j]?=some z∧eqV z y=true)) (h6:(∀m z,m<j→xs[m]?=some z→eqV z y=false)) (h7:Q (.int j) H):RrIndex x vs H Q
def rIndex:V→List V→Hp→VK→Prop:=λx vs H Q=>RrIndex x vs H Q
def zhx:MtM X "list.index" rIndex:=by
 intro aa s σ H x vs v us Q I rx rv h
 obtain⟨l,xs,y,j,rfl,rfl,hH,fy,fs,⟨z,hz,ez⟩,bD,q⟩:=h
 cases rx
 obtain⟨u,rfl,ru⟩:=rv.one
 obtain⟨zz,ae,n,r,hl,e⟩:=I.lstM hH
 have hn:=zeg
 obtain⟨wv,hw,cG⟩:=r.get hz
 have hj:j<ae.length:=(Za.mp hw).1
 have fl:∀{i:Nat} {a:V},xs[i]?=some a→zdk a=true:=λ{i a} q=>Ut.mp fs a (Yq q)
 refine call_meets F.slot_list_index ⟨_,e,rfl⟩ F.entry_list_index (F.args_list_index_2 _ _)
  (SeqAt.list_indexAt l ae.toArray n none #[] u (eqU y) j (by simpa using hj) (by lia) ?_ ?_) ⟨e,λa ha=>zdi ru fy r fs a (by simpa using ha),?_⟩
 ·have e1:ae[j]=wv:=by
   have:=Qd hj
   rw[this]at hw;exact Qk hw
  show eqU y (ae.toArray[j])=true
  rw[Jo,e1,eqU_of cG (fl hz)]
  exact ez
 ·intro m hm ai
  have u7:m<ae.length:=by simpa using hm
  have cD:m<xs.length:=by exact zar6 ‹_› ‹_›
  have gx:xs[m]?=some xs[m]:=Qd cD
  obtain⟨wm,mZ,rm⟩:=r.get gx
  have e1:ae[m]=wm:=by
   have:=Qd u7
   rw[this]at mZ;exact Qk mZ
  show eqU y (ae.toArray[m])=false
  rw[Jo,e1,eqU_of rm (fl gx)]
  exact bD m _ ai gx
 ·exact⟨.int j,H,I.tok _,⟨_,rfl⟩,q⟩
inductive RrInsert(x:V)(vs:List V)(H:Hp)(Q:VK):Prop
 |mk (l:Nc) (xs:List V) (y:V) (k:Nat) (h0:x=.ref l) (h1:vs=[.int k,y]) (h2:H l=some (.lst xs)) (h3:xs.length<sizeLine) (h4:k≤xs.length) (h5:Q .non (upd H l (.lst (xs.take k++y::xs.drop k)))):RrInsert x vs H Q
def rInsert:V→List V→Hp→VK→Prop:=λx vs H Q=>RrInsert x vs H Q
def mt_insert:MtM X "list.insert" rInsert:=by
 intro aa s σ H x vs v us Q I rx rv h
 obtain⟨l,xs,y,k,rfl,rfl,hH,hz,hk,q⟩:=h
 cases rx
 obtain⟨u1,u,rfl,⟨t,rfl⟩,ru⟩:=rv.two
 obtain⟨zz,ae,n,r,hl,e⟩:=I.lstM hH
 have hn:=zeg
 obtain⟨i,hi⟩:∃i:Int,i=(k:Int):=⟨_,rfl⟩
 have ut:¬(!Builtin.List.listFitsIndex i)=true:=by
  rw[fitsIndex_both (by lia) (by lia)]
  exact Zf
 have hsz:ae.toArray.size≤sizeLine:=by rw[Qv];exact zdp ‹_› ‹_›
 have M:=AutoSeq1.list_insert_list_int_val_1 l ae.toArray n i t u ut hsz
 rw[←hi]
 refine call_meets F.slot_list_insert ⟨_,e,rfl⟩ F.entry_list_insert (F.args_list_insert_3 _ _ _) M ⟨e,?_⟩
 refine⟨.non,_,I.lset (its':=ae.take k++u::ae.drop k) hH e ?_ ((r.take k).append (.cons ru (r.drop k))) ?_,rfl,q⟩
 ·have e1:¬ (i < 0):=by lia
  have e2:min i.toNat ae.toArray.size=k:=by rw[Qv];lia
  show(ae.toArray.extract 0 (if i<0 then(i+((ae.toArray.size:Nat):Int)).toNat else min i.toNat ae.toArray.size)).push u++ae.toArray.extract (if i<0 then(i+((ae.toArray.size:Nat):Int)).toNat else min i.toNat ae.toArray.size)=_
  rw[if_neg e1,e2]
  apply Ky.mp
  simp
  rw[Qz (by rw[Jj];exact Qg _)]
 ·simp;lia
theorem zd0:∀{zs:Nh} {ae:Nj},Vals (zs.map V.str) ae→∃l:List (Str×Tok),ae=PySem.strValues l∧l.map (·.1)=zs
 |[],_,.nil=>⟨[],rfl,rfl⟩
 |z::zs,_,.cons r t=>by
  obtain⟨tk,rfl⟩:=r
  obtain⟨l,rfl,e⟩:=zd0 t
  exact⟨(z,tk)::l,rfl,by rw[Ql,e]⟩
def call_isi_str:zcc X (.builtin "isinstance") (λxs H Q=>Ex1 λz=>Aj2 (xs=[.str z,.ty "str"]) (Q (.bl true) H)):=by
 intro aa s σ H xs us Q I r h
 obtain⟨z,rfl,q⟩:=h
 obtain⟨u,w',rfl,⟨t,rfl⟩,e⟩:=vals2 r
 have e':w'=Value.type "str" := e
 subst e'
 exact IsiPair.str_str ⟨.bl true,H,I,rfl,q⟩
def zg3{aa:Nd}{s:Ng}{σ:St}{H:Hp}{p:Nc}{ys:List V}(hc:X.calm=true)(I:Inv X aa σ H s)(hq:SqL X.K H p ys){Q:Nb}(h:∀ (ae:Nj) (It:Nc) (h1:Nl),Vals ys ae→Walks X.prog X.w X.A.in1 It [It,p] [It] ae.toArray.size (fun i v=>ae.toArray[i]?=some v) (fun i h=>h.IsListIter It p i∧h.IsList p ae.toArray)→(h1.IsListIter It p 0∧h1.IsList p ae.toArray)→(∀ b∈[It,p],b < h1.objs.size) →
   (∀(h':Nl) (tk:Nat),(∀b o,b∉[It]→h1.get? b=some o→h'.get? b=some o)→Inv X aa σ H {s with heap:=h',toks:=tk})→Q (.ref It) {s with heap:=h1}) :
  wpAny (model X.prog X.w) X.A.in1 (pyIter (.ref p)) Q X.xe s:=by
 obtain⟨ae,rv,pl,hz⟩:=I.list hq
 refine wpAny_pyIter_list pl.isList ?_
 have lt:p<s.heap.objs.size:=by obtain⟨o,n,e,_⟩:=pl;exact Qr e
 refine h ae s.heap.objs.size _ rv (Walks.list (show X.A.in1.handled=none from I.ok.hd hc) _ _ (Zc lt) _) ⟨⟨_,Zd _ rfl,rfl,rfl⟩,?_⟩ (λb hb=>?_) λh' tk k=>I.kept (t':=tk) λb o e=>?_
 ·obtain ⟨o,e,r⟩:=pl.isList
  exact⟨o,Qi _ e,r⟩
 ·rcases Qe.mp hb with e | e
  ·rw[e];simp[Heap.push]
  ·rw[Qb.mp e];simp[Heap.push];exact Uj lt
 ·exact k b o (λz=>absurd (Qr e) (by rw[Qb.mp z];exact Yp _)) (Qi _ e)
theorem zdr(ns:List Int):∀k,k≤ns.length→preSum (λi=>ns.getD i 0) k=(ns.take k).sum
 |0,_=>rfl
 |k+1,h=>by
  show preSum (λi=>ns.getD i 0) k+ns.getD k 0=_
  have hk:k<ns.length:=h
  rw[zdr ns k (by exact Uc ‹_›),Qm hk,List.sum_append,List.sum_singleton]
  congr 1
  simp[List.getD,hk]
theorem zgk:∀{ns:List Int} {ae:Nj},Vals (ns.map V.int) ae→∀(i:Nat) (v:Value),ae[i]?=some v→∃t,v=Value.int (ns.getD i 0) t
 |[],_,.nil,i,v,e=>by simp at e
 |n::ns,_,.cons r t,0,v,e=>by
  obtain⟨tk,rfl⟩:=r
  simp at e;subst e
  exact⟨tk,rfl⟩
 |n::ns,_,.cons r t,i+1,v,e=>by
  obtain⟨tk,h⟩:=zgk t i v (by simpa using e)
  exact⟨tk,by rw[h];simp⟩
def sum_small{ns:List Int}(hb:∀n∈ns,0≤n∧n≤1000000):0≤ns.sum∧ns.sum≤1000000*(ns.length:Int):=by
 induction ns with
 |nil=>simp
 |cons a r ih =>
  have h1:=hb a Qc
  have h2:=ih λn hn=>hb n (Qf _ hn)
  rw[Zk,Qx]
  lia
def call_sum(hc:X.calm=true):zcc X (.builtin "sum") (λxs H Q=>Ex2 λ(p:Nc) (ns:List Int)=>Aj5 (xs=[.ref p]) (SqL X.K H p (ns.map V.int)) (ns.length≤1000000) (∀n∈ns,0≤n∧n≤1000000) (Q (.int ns.sum) H)):=by
 intro aa s σ H xs us Q I r h
 obtain⟨p,ns,rfl,hq,hl,hb,q⟩:=h
 obtain⟨u,rfl,rx⟩:=vals1 r
 cases rx
 refine call_sum_walk (zg3 hc I hq λae It h1 rv W st lt keep=>⟨It,_,_,_,_,_,λi=>ns.getD i 0,rfl,W,st,lt,λi v e=>zgk rv i v (by simpa using e),λj hj=>?_,λh' tk t' k=>⟨.int ns.sum,H,keep h' tk k,⟨t',?_⟩,q⟩⟩)
 ·have ak:=rv.length
  rw[Qa]at ak
  have oN:j<ns.length:=by rw[ak];simpa using hj
  have s1:=sum_small (ns:=ns.take (j+1)) λn hn=>hb n (Jn hn)
  rw[Zh]at s1
  have g:ns.getD j 0=ns[j]:=by simp[List.getD,oN]
  have g2:=hb _ (Zb oN)
  refine⟨?_,?_⟩
  ·show InLong (ns.getD j 0)
   rw[g];unfold InLong;lia
  ·rw [zdr ns (j+1) oN]
   unfold InLong;lia
 ·have ak:=rv.length
  rw[Qa]at ak
  rw[Qv,zdr ns _ (by lia),←ak,Qz (Qg _)]
theorem zgl:∀{bs:List Bool} {ae:Nj},Vals (bs.map V.bl) ae→∀(i:Nat) (v:Value),ae[i]?=some v→v=Value.bool (bs.getD i true)
 |[],_,.nil,i,v,e=>by simp at e
 |n::ns,_,.cons r t,0,v,e=>by
  cases r
  simp at e;subst e
  rfl
 |n::ns,_,.cons r t,i+1,v,e=>by
  have h:=zgl t i v (by simpa using e)
  rw[h];simp
def all_range(bs:List Bool):(List.range bs.length).all (λi=>bs.getD i true)=bs.all id:=by
 rw[Wi,Ut,Ut]
 constructor
 ·intro h x hx
  obtain⟨i,hi,e⟩:=Zo hx
  have:=h i (Uo.mpr hi)
  simp[List.getD,hi]at this
  rw[←e];exact this
 ·intro h i hi
  have dh:=Uo.mp hi
  simp[List.getD,dh]
  exact h _ (Zb dh)
def call_all(hc:X.calm=true):zcc X (.builtin "all") (λxs H Q=>Ex2 λ(p:Nc) (bs:List Bool)=>Aj3 (xs=[.ref p]) (SqL X.K H p (bs.map V.bl)) (Q (.bl (bs.all id)) H)):=by
 intro aa s σ H xs us Q I r h
 obtain⟨p,bs,rfl,hq,q⟩:=h
 obtain⟨u,rfl,rx⟩:=vals1 r
 cases rx
 refine call_all_walk (zg3 hc I hq λae It h1 rv W st lt keep=>⟨It,_,_,_,_,_,λi=>bs.getD i true,rfl,W,st,λi v s' Q' E' e q'=>?_,λh' tk k=>⟨.bl (bs.all id),H,keep h' tk k,?_,q⟩⟩)
 ·have e':=zgl rv i v (by simpa using e)
  subst e'
  exact wpAny_truthy_bool q'
 ·have ak:=rv.length
  rw[Qa]at ak
  show Value.bool _=Value.bool _
  rw[Qv,←ak,all_range]
end
end L2
end
section
namespace L2
open PySem PySem.Spec PyProof.Rows Tm
def Vals.perm{ws us:Nj}(p:ws.Perm us):∀{ys:List V},Vals ys us→∃zs,zs.Perm ys∧Vals zs ws:=by
 induction p with
 |nil=>intro ys r;cases r;exact⟨[],.nil,.nil⟩
 | cons x q ih =>
  intro ys r
  cases r with
  |cons r1 r2 =>
   obtain⟨zs,h1,h2⟩:=ih r2
   exact⟨_::zs,h1.cons _,.cons r1 h2⟩
 | swap x y l =>
  intro ys r
  cases r with
  |cons r1 r2 =>
   cases r2 with
   |cons r3 r4=>exact⟨_,List.Perm.swap ..,.cons r3 (.cons r1 r4)⟩
 |trans _ _ ih1 ih2 =>
  intro ys r
  obtain⟨zs,h1,h2⟩:=ih2 r
  obtain⟨jj,h3,h4⟩:=ih1 h2
  exact⟨jj,h3.trans h1,h4⟩
theorem Vals.pairwise{α:Type}{R:α→α→Prop}{kv:Value→α}{kV:V→α}:∀{zs:List V} {ws:Nj},Vals zs ws→(∀v∈zs,∀u,RelV v u→kv u=kV v)→ws.Pairwise (λa b=>R (kv a) (kv b))→zs.Pairwise λa b=>R (kV a) (kV b)
 |_,_,.nil,_,_=>.nil
 |v::zs,u::ws,.cons r t,hk,h=>by
  rw[Ka]at h ⊢
  refine⟨λb hb=>?_,Vals.pairwise t (λv hv=>hk v (Qf _ hv)) h.2⟩
  obtain⟨i,hi,e⟩:=Zo hb
  obtain⟨x,hx,rx⟩:=Vals.get t (i:=i) (x:=b) (by rw[Qd hi,e])
  have:=h.1 x (Yq hx)
  rw[hk v Qc u r,hk b (Qf _ hb) x rx]at this
  exact this
section
variable{X:Cx}
def zfl{aa:Nd}{s:Ng}{σ:St}{H:Hp}{p:Nc}{ys:List V}{R:List Value→List Value→Prop}{Q:VK}(I:Inv X aa σ H s)(hq:SqL X.K H p ys)(hS:∀ae,Vals ys ae→∀(A':Around) (E':Value→Shared→Prop) (s':Shared),A'.units≤X.A.units+8→(∀b o,s.heap.get? b=some o→s'.heap.get? b=some o)→zb4 X.prog X.w A' E' s' (R ae) ae)(h:∀(l:Nc) (ws:List V) (ae us:Nj),H l=none→ws.Perm ys→Vals ys ae→Vals ws us→R ae us→Q (.ref l) (upd H l (.lst ws))) :
  wpAny (model X.prog X.w) X.A (call (.builtin "sorted") [.ref p]) (EP X aa σ Q) X.xe s:=by
 obtain⟨ae,r,pl,hz⟩:=I.list hq
 refine sorted_any pl.isList (by rw[←r.length];exact hz) (hS ae r) λws l g tk e p1 p2 le k he=>?_
 obtain⟨zs,q1,q2⟩:=Vals.perm p1 r
 exact⟨.ref l,_,I.laid (t':=tk) k le (show zbi X.prog X.w _ g _ (.lst zs) from⟨by rw[q1.length_eq];exact hz,ws,e,q2,he⟩),rfl,h l zs ae ws (I.hok.fresh le) q1 r q2 p2⟩
def leS(x y:Str):Prop:=¬y.cps.toList<x.cps.toList
def txV:V→List Nat
 |.str x=>x.cps.toList
 |_=>[]
def strs_perm{ws:List V}{zs:Nh}(pm:ws.Perm (zs.map V.str)):∃ts:List Str,ws=ts.map V.str∧ts.Perm zs:=by
 have a1:∀v∈ws,∃x,v=V.str x:=λv hv=>by
  obtain⟨x,_,e⟩:=Qh.mp (pm.mem_iff.mp hv)
  exact⟨x,e.symm⟩
 have a2:∃ts:List Str,ws=ts.map V.str:=by
  clear pm
  induction ws with
  |nil=>exact⟨[],rfl⟩
  |cons v r ih =>
   obtain⟨ts,e⟩:=ih λv hv=>a1 v (Qf _ hv)
   obtain⟨x,e2⟩:=a1 v Qc
   exact⟨x::ts,by rw[e,e2];rfl⟩
 obtain⟨ts,rfl⟩:=a2
 refine⟨ts,rfl,?_⟩
 have:=pm.map (λv=>match v with | .str x=>x | _=>Str.empty)
 rw[Zi,Zi]at this
 simpa[Function.comp_def] using this
def vals_all_str{zs:Nh}{ae:Nj}(r:Vals (zs.map V.str) ae):∀v∈ae,∃x t,v=.str x t:=λv hv=>by
 obtain⟨l,rfl,e⟩:=zd0 r
 obtain⟨pr,_,e2⟩:=Qh.mp hv
 exact⟨_,_,e2.symm⟩
def txV_str{zs:Nh}:∀v∈zs.map V.str,∀u,RelV v u→kvS u=txV v:=λv hv u ru=>by
 obtain⟨x,_,rfl⟩:=Qh.mp hv
 obtain⟨t,rfl⟩:=ru
 rfl
def strs_out{zs ts:Nh}{ae us:Nj}(r:Vals (zs.map V.str) ae)(r2:Vals (ts.map V.str) us)(p:ae.length<64→us.Pairwise λx y=>strO.kle (kvS x) (kvS y))(h:zs.length<64):ts.Pairwise leS:=by
 have p2:=Vals.pairwise (R:=λa b=>strO.kle a b) (kV:=txV) r2 txV_str (p (by rw[←r.length,Qa];exact h))
 rw[Wo]at p2
 exact p2.imp of_decide_eq_false
def zg7(I:Inv X aa σ H s)(e:H a=some (.tup [.str x,z])):∃q,RelV z q∧ze8 s.heap (.ref a) x q:=by
 obtain⟨_,ae,r,o,e1,c,n,d⟩:=I.hok a _ e
 obtain⟨u,w',rfl,⟨t,rfl⟩,rz⟩:=vals2 r
 exact⟨w',rz,a,o,t,n,rfl,e1,c,d⟩
def vals_back(r:Vals ys ae):∀v∈ae,∃b∈ys,RelV b v:=λv hv=>by
 obtain⟨i,hi,e⟩:=Zo hv
 have hl:=r.length
 have aE:i<ys.length:=by exact zar6 ‹_› ‹_›
 obtain⟨u,hu,ru⟩:=r.get (i:=i) (Qd aE)
 rw[Qd hi,e]at hu
 cases hu
 exact⟨_,Zb aE,ru⟩
def ze9(a:ze8 h v x p)(b:ze8 h v y q):x=y∧p=q:=by
 obtain⟨a,o,t,n,rfl,e,c,d⟩:=a
 obtain⟨a',o',t',n',e0,e',c',d'⟩:=b
 cases e0
 rw[e]at e'
 cases e'
 rw[d]at d'
 have d2:(#[Value.str x t,p]:Array Value)=#[Value.str y t',q]:=by injection d'
 have d3:=congrArg (λa:Array Value=>a[0]?) d2
 have d4:=congrArg (λa:Array Value=>a[1]?) d2
 simp at d3 d4
 exact⟨d3.1,d4⟩
def rowV(H:Hp):V→List Nat
 |.ref a=>match H a with
  |some (.tup [x,_])=>txV x
  |_=>[]
 |_=>[]
def zd9(e:H a=some (.tup [x,y])):rowV H (.ref a)=txV x:=by
 unfold rowV;dsimp only;rw[e]
def ze7:zcc X (.builtin "sorted") (λxs H Q=>Ex2 λ(p:Nc) (ys:List V)=>Aj5 (xs=[.ref p]) (SqL X.K H p ys) (∀v∈ys,∃a x z,v=.ref a∧H a=some (.tup [.str x,z])) (∀v∈ys,∀u∈ys,rowV H v=rowV H u→v=u) (∀(l:Nc) (ws:List V),H l=none→ws.Perm ys→(ys.length<64→ws.Pairwise λa b=>strO.kle (rowV H a) (rowV H b))→Q (.ref l) (upd H l (.lst ws)))):=by
 intro aa s σ H xs us Q I r h
 obtain⟨p,ys,rfl,hq,hy,hd,q⟩:=h
 obtain⟨u,rfl,rx⟩:=vals1 r
 cases rx
 have back:∀ae,Vals ys ae→∀v∈ae,∃b∈ys,RelV b v∧∃a x z q,b=.ref a∧v=.ref a∧H a=some (.tup [.str x,z])∧ze8 s.heap v x q:=λae r v hv=>by
  obtain⟨b,hb,rb⟩:=vals_back r v hv
  obtain⟨a,x,z,rfl,e2⟩:=hy b hb
  have rb':=rb
  cases rb
  obtain⟨q',_,T⟩:=zg7 I e2
  exact⟨_,hb,rb',a,x,z,q',rfl,rfl,e2,T⟩
 refine zfl I hq (λae r A' E' s' _ k=>zd4 k (λv hv=>?_) λv hv u hu x p q T T'=>?_) λl ws ae us hl p1 r1 r2 p2=>q l ws hl p1 λqY=>?_
 ·obtain ⟨b,hb,rb,a,x,z,q,_,_,_,T⟩:=back ae r v hv
  exact⟨x,q,T⟩
 ·obtain ⟨b,hb,rb,a,x1,z,q1,rfl,rfl,e1,T1⟩:=back ae r v hv
  obtain⟨c,hc,rc,a',x2,z',q2,rfl,rfl,e2,T2⟩:=back ae r u hu
  have h1:=(ze9 T T1).1
  have h2:=(ze9 T' T2).1
  subst h1
  subst h2
  have:=hd _ hb _ hc (by rw[zd9 e1,zd9 e2])
  cases this
  exact .inl rfl
 ·refine Vals.pairwise (R:=fun a b=>strO.kle a b) (kv:=fun u=>(kvP s.heap u).1) r2 (fun v hv u ru=>?_) ((p2 (by rw [← r1.length];exact qY)).imp fun h=>(Bool.or_eq_false_iff.mp h).1)
  obtain⟨a,x,z,rfl,e2⟩:=hy v (p1.mem_iff.mp hv)
  cases ru
  obtain⟨q',_,T⟩:=zg7 I e2
  rw[T.key,zd9 e2]
  rfl
def zev(hu:X.A.units+8<cLine):zcc X (.builtin "sorted") (λxs H Q=>Ex2 λ(p:Nc) (ys:List V)=>Aj4 (xs=[.ref p]) (SqL X.K H p ys) (∀v∈ys,∃a zs,v=.ref a∧H a=some (.lst (List.map V.str zs))) (∀(l:Nc) (ws:List V),H l=none→ws.Perm ys→Q (.ref l) (upd H l (.lst ws)))):=by
 intro aa s σ H xs us Q I r h
 obtain⟨p,ys,rfl,hq,hy,q⟩:=h
 obtain⟨u,rfl,rx⟩:=vals1 r
 cases rx
 refine zfl I hq (λae r A' E' s' hA k=>zgc (by exact Nat.lt_of_le_of_lt ‹_› ‹_›) k λv hv=>?_) λl ws _ _ hl p1 _ _ _=>q l ws hl p1
 obtain⟨b,hb,ru⟩:=vals_back r v hv
 obtain⟨a,zs,rfl,e2⟩:=hy b hb
 cases ru
 obtain⟨_,cZ,n,r2,e3⟩:=I.hok a _ e2
 obtain⟨l2,rfl,_⟩:=zd0 r2
 exact⟨a,l2,n,rfl,e3⟩
def dk_at{aa:Nd}{s:Ng}{σ:St}{H:Hp}{d:Nc}{kvs:List (Key×V)}(I:Inv X aa σ H s)(rd:Rd H d (.dK kvs)) :
  kvs.length≤sizeLine∧(d==sysModules)=false∧∃vs ep,KV kvs vs∧s.heap.DictAt (zar X.prog X.w) d vs ep∧vs.length=kvs.length:=by
 obtain⟨z,y,vs,r,hd⟩:=rd.ok I.hok
 obtain⟨ep,ha⟩:=hd.dictAt
 exact⟨z,y,vs,ep,r,ha,(Yo r).symm⟩
def KV.get{kvs:List (Key×V)}{vs:List (Key×Value)}(r:KV kvs vs){i:Nat}(e:vs[i]?=some (k,x)):∃v,kvs[i]?=some (k,v)∧RelV v x:=by
 induction r generalizing i with
 |nil=>simp at e
 | cons h t ih =>
  cases i with
  |zero =>
   simp at e
   subst e
   exact⟨_,by simp;exact Uu h.1 rfl,h.2⟩
  |succ j =>
   obtain⟨v,h1,h2⟩:=ih (i:=j) (by simpa using e)
   exact⟨v,by simpa using h1,h2⟩
def key_rel(h:(zar P w).is k v=true):RelV (kV k) v:=by
 rcases zbg h with⟨i,t,rfl,rfl⟩ | ⟨x,t,rfl,rfl⟩
 ·exact⟨t,rfl⟩
 ·exact⟨t,rfl⟩
def keys_vals{P:Ni}{w:Nk}{kvs:List (Key×V)}{vs:List (Key×Value)}{ao:Array Value}(r:KV kvs vs)(hl:vs.length=kvs.length)(h:ItemsOf (λi v=>∃k x,vs[i]?=some (k,x)∧(zar P w).is k v=true) ao vs.length):Vals (kvs.map λp=>kV p.1) ao.toList:=by
 have g:∀(i:Nat),i<kvs.length→∃v,ao.toList[i]?=some v∧RelV (kV ((kvs.map Prod.fst).getD i (.inl 0))) v:=λi hi=>by
  have aE:i<ao.size:=by rw[h.1];exact zar6 ‹_› ‹_›
  have e:ao[i]?=some ao[i]:=by simp[aE]
  obtain⟨k,x,e1,e2⟩:=h.2 i _ e
  obtain⟨v',e3,_⟩:=KV.get r e1
  refine⟨ao[i],by rw[Wz];exact e,?_⟩
  have e4:(kvs.map Prod.fst).getD i (.inl 0)=k:=by
   rw[Zq,Qq,e3];rfl
  rw[e4]
  exact key_rel e2
 have hsz:ao.toList.length=kvs.length:=by rw[Ys,h.1];exact hl
 clear h r hl
 generalize ao.toList=l at g hsz
 induction kvs generalizing l with
 |nil =>
  have:l=[]:=List.length_eq_zero_iff.mp hsz
  subst this
  exact .nil
 | cons p t ih =>
  cases l with
  |nil=>cases hsz
  | cons u us =>
   refine .cons ?_ (ih us (λi hi=>?_) (by simpa using hsz))
   ·obtain ⟨v,e1,e2⟩:=g 0 (by simp)
    simp at e1
    subst e1
    exact e2
   ·obtain ⟨v,e1,e2⟩:=g (i+1) (by simpa using hi)
    exact⟨v,by simpa using e1,by simpa using e2⟩
def zgg(hc:X.calm=true):zcc X (.type "list") (λxs H Q=>Ex2 λ(d:Nc) (kvs:List (Key×V))=>Aj3 (xs=[.ref d]) (Rd H d (.dK kvs)) (∀l,H l=none→Q (.ref l) (upd H l (.lst (kvs.map λp=>kV p.1))))):=by
 intro aa s σ H xs us Q I r h
 obtain⟨d,kvs,rfl,hq,q⟩:=h
 obtain⟨u,rfl,rx⟩:=vals1 r
 cases rx
 obtain⟨z,lo,vs,ep,rk,ha,hl⟩:=dk_at I hq
 refine PySem.W.kdl_call (PySem.W.kdl_dict lo) (I.ok.hd hc) ha (by rw[hl];exact z) λh' tk ao c k e hi=>?_
 have rv:=keys_vals rk hl hi
 exact⟨.ref _,_,I.laid (t':=tk) k (Qg _) (show zbi X.prog X.w _ h' _ (.lst _) from⟨by rw[Qa];exact z,ao.toList,c,rv,by rw[e]⟩),rfl,q _ (I.hok.fresh (Qg _))⟩
def zc3(hc:X.calm=true):zcc X (.builtin "sorted") (λxs H Q=>Ex3 λ(d:Nc) (kvs:List (Key×V)) (zs:Nh)=>Aj4 (xs=[.ref d]) (Rd H d (.dK kvs)) ((kvs.map λp=>kV p.1)=zs.map V.str) (∀(l:Nc) (ws:Nh),H l=none→ws.Perm zs→(zs.length<64→ws.Pairwise leS)→Q (.ref l) (upd H l (.lst (ws.map V.str))))):=by
 intro aa s σ H xs us Q I r h
 obtain⟨d,kvs,zs,rfl,hq,ez,q⟩:=h
 obtain⟨u,rfl,rx⟩:=vals1 r
 cases rx
 obtain⟨z,lo,vs,ep,rk,ha,hl⟩:=dk_at I hq
 refine zeo (G:=λae=>Vals (zs.map V.str) ae) (λE' R hR=>zf6 (PySem.W.kdl_dict lo) (show X.A.in1.handled=none from I.ok.hd hc) ha (by rw[hl];exact z) λg tk ao k le hi=>hR g tk _ k le (ez▸keys_vals rk hl hi))
  (λae r=>by rw[←r.length,←ez,Qa];exact z) (λae r A' E' s' _ _=>zha (vals_all_str r)) λae ws l g tk e r p1 p2 le k he=>?_
 obtain⟨jj,q1,q2⟩:=Vals.perm p1 r
 obtain⟨ts,rfl,p3⟩:=strs_perm q1
 refine⟨.ref l,_,I.laid (t':=tk) k le (show zbi X.prog X.w _ g _ (.lst _) from⟨?_,ws,e,q2,he⟩),rfl,q l ts (I.hok.fresh le) p3 (strs_out r q2 p2)⟩
 rw[q1.length_eq,←ez,Qa];exact z
end
section
variable{X:Cx}{aa:Nd}{σ:St}{H:Hp}{s:Ng}
def Inv.freeze(I:Inv X aa σ H s)(hd:H d=some u)(ho:s.heap.get? d=some o)(mu:Mut (some u)):Inv X aa σ (upd H d (.frz o u)) s:=by
 have ne:∀b,H b=none→b≠d:=λb e z=>by rw[z,hd]at e;cases e
 have nt:∀b xs,H b=some (.tup xs)→b≠d:=λb xs e z=>by rw[z,hd]at e;cases e;exact mu
 have nf:∀b o' u',H b=some (.frz o' u')→b≠d:=λb o' u' e z=>by rw[z,hd]at e;cases e;exact mu
 have nb:∀b ps,H b=some (.tbl ps)→b≠d:=λb ps e z=>by rw[z,hd]at e;cases e;exact mu
 have no:∀b a,H b=some (.own a)→b≠d:=λb a e z=>by rw[z,hd]at e;cases e;exact mu
 refine I.un (h':=s.heap) (t':=s.toks) ⟨λb o e _ _ _=>e,λb o e _ _ _=>⟨o.slots,e⟩,λb o e n _=>by rw[zad (ne b n)];exact n,λb o e _=>⟨o,e⟩,λb xs e=>by rw[zad (nt b xs e)];exact e,
  λb o' u' e=>by rw[zad (nf b o' u' e)];exact e,λb ps e=>⟨#[],by rw[zad (nb b ps e),e];simp⟩⟩ λb v e=>?_
 by_cases hb:b=d
 ·subst hb
  rw[zac]at e
  cases e
  exact⟨ho,(I.hok b u hd).stay (λc v _ q=>q) (λc q=>by rw[zad (no c _ q)];exact q) λc xs q=>by rw[zad (nt c xs q)];exact q⟩
 ·rw [zad hb] at e
  exact(I.hok b v e).stay (λc v _ q=>q) (λc q=>by rw[zad (no c _ q)];exact q) λc xs q=>by rw[zad (nt c xs q)];exact q
def Inv.thaw(I:Inv X aa σ H s)(hd:H d=some (.frz o u))(hx:∀o' u',X.H₀ d≠some (.frz o' u')):Inv X aa σ (upd H d u) s:=by
 have ne:∀b,H b=none→b≠d:=λb e z=>by rw[z,hd]at e;cases e
 have nt:∀b xs,H b=some (.tup xs)→b≠d:=λb xs e z=>by rw[z,hd]at e;cases e
 have nb:∀b ps,H b=some (.tbl ps)→b≠d:=λb ps e z=>by rw[z,hd]at e;cases e
 have no:∀b a,H b=some (.own a)→b≠d:=λb a e z=>by rw[z,hd]at e;cases e
 have B:=I.base
 refine⟨I.ok,I.os,I.bare,⟨B.keep,B.slot,λb o e n hx=>?_,B.there,λb xs e=>?_,λb o' u' e=>?_,λb ps e=>?_⟩,I.loc,I.cell,?_,λx c e=>?_,λp hp=>?_,λb v e=>?_,I.len⟩
 ·have:=B.free b o e n hx
  rw[zad (ne b this)];exact this
 ·have:=B.tups b xs e
  rw[zad (nt b xs this)];exact this
 ·have:=B.frzs b o' u' e
  have nd:b≠d:=λz=>hx o' u' (z▸e)
  rw[zad nd];exact this
 ·obtain ⟨m,q⟩:=B.tbls b ps e
  exact⟨m,by rw[zad (nb b _ q)];exact q⟩
 ·rw[zad (ne _ I.free)];exact I.free
 ·rw[zad (ne c (I.freeC x c e))];exact I.freeC x c e
 ·obtain ⟨h1,h2,h3⟩:=I.pin p hp
  exact⟨h1,by rw[zad (ne _ h2)];exact h2,h3⟩
 ·by_cases hb:b=d
  ·subst hb
   rw[zac]at e
   cases e
   exact(show s.heap.get? b=some o∧zbi X.prog X.w H s.heap b u from I.hok b _ hd).2.stay (λc v _ q=>q) (λc q=>by rw[zad (no c _ q)];exact q) λc xs q=>by rw[zad (nt c xs q)];exact q
  ·rw [zad hb] at e
   exact(I.hok b v e).stay (λc v _ q=>q) (λc q=>by rw[zad (no c _ q)];exact q) λc xs q=>by rw[zad (nt c xs q)];exact q
inductive Thaw(X:Cx)(R:Hp→Prop)(H':Hp):Prop
 |mk (d:Nc) (o:Obj) (u:HO) (h:H' d=some (.frz o u)) (n:∀o' u',X.H₀ d≠some (.frz o' u')) (q:R (upd H' d u)):Thaw X R H'
def tThaw(X:Cx)(t:TE):TE:=λ σ H Q=>t σ H λv H'=>Thaw X (Q v) H'
def pe_thaw(h:PE X e t):PE X e (tThaw X t):=by
 intro aa s σ H Q I q
 refine thn (h aa s σ H _ I q) λu s' ⟨v,H',I',r,d,o,w',e1,e2,e3⟩=>?_
 exact⟨v,_,I'.thaw e1 e2,r,e3⟩
def sThaw(X:Cx)(t:TS):TS:=λD σ H=>t {nx:=λ σ' H'=>Thaw X (D.nx σ') H',rt:=λv H'=>Thaw X (D.rt v) H',bk:=λ σ' H'=>Thaw X (D.bk σ') H',ct:=λ σ' H'=>Thaw X (D.ct σ') H'} σ H
def zeq{st:Stmt}{t:TS}(h:PS X st t):PS X st (sThaw X t):=by
 intro aa s σ H D I q
 refine thn (h aa s σ H _ I q) λf s' z=>?_
 cases f with
 |next=>obtain⟨σ',H',I',d,o,w',e1,e2,e3⟩:=z;exact⟨σ',_,I'.thaw e1 e2,e3⟩
 |brk=>obtain⟨σ',H',I',d,o,w',e1,e2,e3⟩:=z;exact⟨σ',_,I'.thaw e1 e2,e3⟩
 |cont=>obtain⟨σ',H',I',d,o,w',e1,e2,e3⟩:=z;exact⟨σ',_,I'.thaw e1 e2,e3⟩
 |ret u=>obtain⟨v,σ',H',I',r,d,o,w',e1,e2,e3⟩:=z;exact⟨v,σ',_,I'.thaw e1 e2,r,e3⟩
def Itd(d:Nc)(o:Obj)(kvs:List (Key×V)):It :=
 ⟨λi H=>H d=some (.frz o (.dK kvs))∧i<kvs.length,λi H x H'=>H'=H∧∃p,kvs[i]?=some p∧x=kV p.1,λi H=>H d=some (.frz o (.dK kvs))∧kvs.length≤i⟩
def frz_at(I:Inv X aa σ H s)(e:H d=some (.frz o (.dK kvs))):s.heap.get? d=some o∧zbi X.prog X.w H s.heap d (.dK kvs):=I.hok d _ e
def zgx{h:Nl}{kvs:List (Key×V)}{vs vs':List (Key×Value)}{ep ep':Nat}(ho:h.get? d=some o)(a:h.DictAt (zar P w) d vs ep)(o':Obj)(h':Nl)(bg:h'.get? d=some o):h'.DictAt (zar P w) d vs ep:=by
 obtain⟨q,es,e,r⟩:=a
 rw[ho]at e
 cases e
 exact⟨o,es,bg,r⟩
theorem turn_dict{P:Ni}{w:Nk}{K:Na}{tg:Expr}{o:Obj}{kvs:List (Key×V)}{vs:List (Key×Value)}{ep:Nat}{h0:Nl}(d it:Nc)(rk:KV kvs vs)(hl:vs.length=kvs.length)(h00:h0.get? d=some o)(l9:h0.DictAt (zar P w) d vs ep) :
  Turn P w K tg (Itd d o kvs) [it] it (λi h=>h.IsKeyIter it d i vs.length ep) where
 mem:=by simp
 obj:=λi h st b hb=>by
  have e:b=it:=by simpa using hb
  subst e
  obtain⟨o,e,c,d⟩:=st
  exact⟨o,e,λv z=>by rw[d]at z;cases z⟩
 keep:=λi h h' st k=>st.at λo e=>k it (by simp) o e
 item:=by
  intro X hP hw hK hc i aa s σ H E I hf st hg
  subst hP hw hK
  obtain⟨fz,hi⟩:=hg
  obtain⟨ho,_⟩:=frz_at I fz
  have DA:s.heap.DictAt (zar X.prog X.w) d vs ep:=zgx (kvs:=kvs) (vs':=vs) (ep':=ep) h00 l9 o s.heap ho
  obtain⟨f0,f1,f2,f3,f4,f5⟩:=hf it (by simp)
  have aE:i<vs.length:=by exact zar6 ‹_› ‹_›
  obtain⟨v',e3,_⟩:=KV.get rk (i:=i) (k:=vs[i].1) (x:=vs[i].2) (Qd aE)
  refine wpAny_pyNext_dict_item st DA (k:=vs[i].1) (v:=vs[i].2) (Qd aE) λkey h' hk ag sb=>?_
  have I1:Inv X aa σ H {s with heap:=h'}:=I.turned (t':=s.toks) (λb o hb e=>(sb.2 b hb).trans e) f0 f1 f3 f4 f5
  obtain⟨o2,e,c,d2⟩:=id ag
  exact⟨key,rfl,go_of (s:={s with heap:=h'}) e c d2 (by decide) ⟨kV vs[i].1,H,I1,key_rel hk,⟨rfl,_,e3,rfl⟩,ag,λb hb=>(hf b hb).1⟩⟩
 done:=by
  intro X hP hw hK hc i aa s σ H E I hf st hg
  subst hP hw hK
  obtain⟨fz,hi⟩:=hg
  obtain⟨ho,_⟩:=frz_at I fz
  have DA:s.heap.DictAt (zar X.prog X.w) d vs ep:=zgx (kvs:=kvs) (vs':=vs) (ep':=ep) h00 l9 o s.heap ho
  obtain⟨f0,f1,f2,f3,f4,f5⟩:=hf it (by simp)
  exact wpAny_pyNext_dict_end (I.ok.hd hc) st DA (Xj (by omega)) λh' eb=>⟨rfl,I.turned (t':=s.toks) (λb o hb e=>eb b o hb e) f0 f1 f3 f4 f5⟩
 self:=λ_ _ _ _ _ st h=>wpAny_pyIter_keyiter st h
inductive RIDi(x:V)(H:Hp)(R:It→Hp→Prop):Prop
 |mk (d:Nc) (kvs:List (Key×V)) (e:x=.ref d) (h:H d=some (.dK kvs)) (q:∀o,R (Itd d o kvs) (upd H d (.frz o (.dK kvs)))):RIDi x H R
def iDict(td:TE):TI:=λ σ H R=>td σ H λx H1=>RIDi x H1 R
def zds{tg l:Expr}{tl:TE}(hl:PE X l tl):PI X tg l (iDict tl):=by
 intro aa s σ H R I h
 refine thn (hl aa s σ H _ I h) λv s1 ⟨x,H1,I1,r1,q1⟩=>?_
 obtain⟨d,kvs,e,hd,q⟩:=q1
 subst e
 cases r1
 obtain⟨z,lo,vs,ep,rk,ha,ah⟩:=dk_at I1 (.inl hd)
 obtain⟨o,es,ho,r⟩:=id ha
 refine wpAny_pyIter_dict lo ha ?_
 have I2:=I1.freeze hd ho trivial
 have I3:Inv X aa σ (upd H1 d (.frz o (.dK kvs))) {s1 with heap:=s1.heap.push {cls:=.type "dict_keyiterator",data:=.fields #[.ref d,.int 0 0,.int vs.length 0,.int ep 0]}}:=I2.kept (t':=s1.toks) λb o e=>Qi _ e
 refine⟨s1.heap.objs.size,[s1.heap.objs.size],_,_,_,rfl,I3,turn_dict d _ rk ah ho ha,⟨_,Zd _ rfl,rfl,rfl⟩,λb hb=>?_,q o⟩
 have e:b=s1.heap.objs.size:=by simpa using hb
 subst e
 exact I2.fpOk (Qg _) (I2.hok.fresh (Qg _))
end
def zfe{d:Nc}{o:Obj}{kvs:List (Key×V)}{g:TG}{tb:TS}{D:Ends}{σ:St}{H:Hp}(Pv:Nat→St→Hp→Prop)(h0:Pv 0 σ H)(hl:∀i σ H,i≤kvs.length→Pv i σ H→H d=some (.frz o (.dK kvs)))(hs:∀i p σ H,kvs[i]?=some p→Pv i σ H→g (kV p.1) σ H λ σ2 H2=>tb {D with nx:=Pv (i+1),ct:=Pv (i+1),bk:=D.nx} σ2 H2)(hd:∀σ H,Pv kvs.length σ H→D.nx σ H) :
  ∃W:Nat→Nat→St→Hp→Prop,(∃m,W 0 m σ H)∧∀i m σ H,W i m σ H →
   ((Itd d o kvs).stop i H∧D.nx σ H)∨((Itd d o kvs).go i H∧∃N:St→Hp→Prop,(∀σ' H',N σ' H'→∃m',m'<m∧W (i+1) m' σ' H')∧∀x H',(Itd d o kvs).yld i H x H'→g x σ H' λ σ2 H2=>tb {D with nx:=N,ct:=N,bk:=D.nx} σ2 H2):=by
 refine⟨λi m σ H=>m=kvs.length-i∧i≤kvs.length∧Pv i σ H,⟨kvs.length,by simp,Zg _,h0⟩,?_⟩
 rintro i m σ H ⟨rfl,hi,p⟩
 have q:=hl i σ H hi p
 by_cases ai:i<kvs.length
 ·refine .inr ⟨⟨q,ai⟩,Pv (i+1),fun σ' H' p'=>⟨kvs.length - (i+1),by exact zar1 ‹_›,rfl,ai,p'⟩,fun x H' y=>?_⟩
  obtain⟨e,pr,e2,rfl⟩:=y
  subst e
  exact hs i pr σ _ e2 p
 ·have e:i=kvs.length:=by exact zar3 ‹_› ‹_›
  subst e
  exact .inl ⟨⟨q,Qg _⟩,hd σ H p⟩
end L2
end
section
namespace Enu
open PySem PyProof.Rows
open AutoSeq1 (wpAny_loadPart')
section
variable{prog:Ni}{w:Nk}{A:Nm}{E:Nb}{s:Ng}
def next_item(st:s.heap.IsTupleIter j t i)(ht:s.heap.IsTuple t xs)(hx:xs[i]?=some x)(hQ:∀g,g.IsTupleIter j t (i+1)→Heap.SameBut j s.heap g→Q x {s with heap:=g}):wpAny (model prog w) A (Builtin.SmallTypes.nextOf (.ref j)) Q E s:=by
 obtain⟨o,ho,hc,hd⟩:=id st
 obtain⟨p,hp,_,k,hk⟩:=ht
 unfold Builtin.SmallTypes.nextOf
 refine wpAny_bind (wpAny_callSpecial?_slot (name:=Str.ofString "__next__") st.typeIs Uv (wpAny_call_entry Uv st.typeIs F.entry_tuple_iterator_next ?_ (F.args_tuple_iterator_next_1 _)))
 show wpAny _ _ (field (.ref j) 0 >>= _) _ _ s
 refine wpAny_bind (wpAny_field ho hd (x:=.ref t) rfl ?_)
 show wpAny _ _ (if(Value.ref t==.none)=true then _ else _) _ _ s
 rw[if_neg (show ¬((Value.ref t==.none)=true) from Zf)]
 show wpAny _ _ (field (.ref j) 1 >>= _) _ _ s
 refine wpAny_bind (wpAny_field ho hd (x:=.int i 0) rfl ?_)
 show wpAny _ _ (seqItems? (.ref t) >>= _) _ _ s
 refine wpAny_bind (wpAny_seqItems hp hk ?_)
 simp only[Uk,hx]
 refine wpAny_bind (wpAny_setField ho hd (by simp) (wpAny_pure ⟨x,rfl,wpAny_pure (hQ _ ⟨_,Jx _ ho (Obj.isFreed_of_fields (Kt hd _)),(Obj.cls_mapFields ..).trans hc,by rw[Kt hd];simp[rawInt]⟩ (Km ..))⟩))
def next_end(hh:A.handled=none)(st:s.heap.IsTupleIter j t i)(ht:s.heap.IsTuple t xs)(hx:xs[i]?=none)(hE:∀g e,Heap.ExtBut j s.heap g→(∃o,g.get? e=some o∧o.cls=.type "StopIteration")→E (.ref e) {s with heap:=g}):wpAny (model prog w) A (Builtin.SmallTypes.nextOf (.ref j)) Q E s:=by
 obtain⟨o,ho,hc,hd⟩:=id st
 obtain⟨p,hp,_,k,hk⟩:=ht
 unfold Builtin.SmallTypes.nextOf
 refine wpAny_bind (wpAny_callSpecial?_slot (name:=Str.ofString "__next__") st.typeIs Uv (wpAny_call_entry Uv st.typeIs F.entry_tuple_iterator_next ?_ (F.args_tuple_iterator_next_1 _)))
 show wpAny _ _ (field (.ref j) 0 >>= _) _ _ s
 refine wpAny_bind (wpAny_field ho hd (x:=.ref t) rfl ?_)
 show wpAny _ _ (if(Value.ref t==.none)=true then _ else _) _ _ s
 rw[if_neg (show ¬((Value.ref t==.none)=true) from Zf)]
 show wpAny _ _ (field (.ref j) 1 >>= _) _ _ s
 refine wpAny_bind (wpAny_field ho hd (x:=.int i 0) rfl ?_)
 show wpAny _ _ (seqItems? (.ref t) >>= _) _ _ s
 refine wpAny_bind (wpAny_seqItems hp hk ?_)
 simp only[Uk,hx]
 refine wpAny_bind (wpAny_rule (wpAny_bind (wpAny_setField ho hd (by simp) ?_)))
 show wpAny _ _ (newExc (.type "StopIteration") [] >>= _) _ _ _
 refine wpAny_bind ?_
 simp only[newExc,newTuple]
 refine wpAny_bind (wpAny_newObj_type (wpAny_bind (m:=firstArgMember _ _) (wpAny_of_eq (a:=Value.none) (by first | rfl | (simp only[firstArgMember];rfl)) (wpAny_newObj_type ?_ (by size_fits)))) (by size_fits))
 simp only[raiseNew]
 refine wpAny_bind (wpAny_handled ?_)
 first | rw[show A.in1.handled=none from hh] | rw[hh]
 refine wpAny_bind (wpAny_pure (wpAny_throw (hE _ _ (((Km ..).extBut.push _).push _) ⟨_,Zd _ rfl,rfl⟩)))
theorem drawsT(hh:A.handled=none)(j t:Nc)(az:t≠j)(xs:Array Value) :
  Draws prog w A j [j,t] xs.size (λi v=>xs[i]?=some v) (λi h=>h.IsTupleIter j t i∧h.IsTuple t xs) where
 live:=λ_ _ st=>let⟨o,ho,_⟩:=st.1;⟨o,ho⟩
 frame:=λi h h' st k=>⟨st.1.at λo e=>k j (by simp) o e,let⟨o,e,r⟩:=st.2;⟨o,k t (by simp) o e,r⟩⟩
 item:=λi s Q E hi st hQ=>by
  refine next_item st.1 st.2 (x:=xs[i]) (by simp[hi]) λg a b=>?_
  obtain⟨o,e,r⟩:=st.2
  exact hQ _ g s.toks (by simp[hi]) ⟨a,o,(b.2 t az).trans e,r⟩ b
 done:=λs Q E st hE=>next_end hh st.1 st.2 (by simp) hE
def new_tuple(t:Nc)(xs:Array Value)(n:Nat)(dct:Option Addr)(sl:Array (Option Value)) :
  Meets (Builtin.«enumerate.__new__» ⟨[.type "enumerate",.ref t],[]⟩) (λ_ R s=>s.heap.get? t=some {cls:=.type "tuple",dict:=dct,data:=.seq xs n,slots:=sl} ∧
   R (.ok (.ret (.ref (s.heap.push {cls:=.type "tuple_iterator",data:=.fields #[.ref t,.int 0 0]}).objs.size)))
    {s with heap:=(s.heap.push {cls:=.type "tuple_iterator",data:=.fields #[.ref t,.int 0 0]}).push {cls:=.type "enumerate",data:=.fields #[.none,.bool false,.ref s.heap.objs.size,rawInt 0,.none,.none]}}) :=
 .of_wp λprog w A R s h=>by
  obtain⟨hp,g,d,tk,os⟩:=s;obtain⟨hl,h⟩:=h
  have t6:=sub_enumerate
  have hL:Heap.IsTuple (Shared.heap ⟨hp,g,d,tk,os⟩) t xs:=⟨_,hl,rfl,n,rfl⟩
  wp_walk using wpAny_loadPart' hl
  refine wpAny_stack_any λst=>wpAny_pure ?_
  split
  ·rename_i c _ _ _ _ _
   cases(c==Value.type "enumerate")<;>(wp_walk using wpAny_loadPart' hl,wpAny_pyIter_tuple hL;exact⟨_,rfl,h⟩)
  ·wp_walk using wpAny_loadPart' hl,wpAny_pyIter_tuple hL
   exact⟨_,rfl,h⟩
def call_enum(hL:s.heap.IsTuple t xs)(h:∀g,IsEnum g (s.heap.objs.size+1) s.heap.objs.size 0 .none→g.IsTupleIter s.heap.objs.size t 0→g.objs.size=s.heap.objs.size+2→(∀b o,s.heap.get? b=some o→g.get? b=some o)→Q (.ref (s.heap.objs.size+1)) {s with heap:=g}) :
  wpAny (model prog w) A (call (.type "enumerate") [.ref t]) Q E s:=by
 obtain⟨⟨c,dct,dt,sl⟩,hl,hc,n,hd⟩:=hL
 replace hc:c=.type "tuple" := hc
 replace hd:dt=.seq xs n:=hd
 subst hc hd
 refine callType_new F.called_enumerate (by decide) (F.typeCall_enumerate_1 _) (F.newCall_enumerate_1 _) (λobj=>F.args_object_init_2 obj _) F.entry_enumerate_new (new_tuple t xs n dct sl) ⟨hl,?_⟩
 have hz:(s.heap.push {cls:=.type "tuple_iterator",data:=.fields #[.ref t,.int 0 0]}).objs.size=s.heap.objs.size+1:=Wq ..
 show _∧_
 rw[hz]
 have he:IsEnum ((s.heap.push {cls:=.type "tuple_iterator",data:=.fields #[.ref t,.int 0 0]}).push {cls:=.type "enumerate",data:=.fields #[.none,.bool false,.ref s.heap.objs.size,rawInt 0,.none,.none]}) (s.heap.objs.size+1) s.heap.objs.size 0 .none:=by
  have q:=Zd (s.heap.push {cls:=.type "tuple_iterator",data:=.fields #[.ref t,.int 0 0]}) (o:={cls:=.type "enumerate",data:=.fields #[.none,.bool false,.ref s.heap.objs.size,rawInt 0,.none,.none]}) rfl
  rw[hz]at q;exact q
 exact⟨⟨_,he,rfl⟩,h _ he ⟨_,Qi _ (Zd _ rfl),rfl,rfl⟩ (by rw[Wq,hz]) λb o x=>Qi _ (Qi _ x)⟩
end
end Enu
namespace L2
open PySem PySem.Spec PyProof.Rows Enu
def Ite(a:Nc)(K:Na):It :=
 ⟨λi H=>∃xs,SqT K H a xs∧i<xs.length,λi H x H'=>∃y t,(∀xs,SqT K H a xs→xs[i]?=some y)∧H t=none∧x=.ref t∧H'=upd H t (.tup [.int i,y]),λi H=>∃xs,SqT K H a xs∧xs.length≤i⟩
theorem turn_enum{P:Ni}{w:Nk}{K:Na}{elts:No}{kk:Nat}{pos:Pos}(a e j:Nc)(dS:e≠j)(gK:a≠j)(ve:e≠a) :
  Turn P w K (.Tuple elts kk pos) (Ite a K) [e,j] e (λi h=>(∃old,IsEnum h e j i old)∧h.IsTupleIter j a i) where
 mem:=by simp
 obj:=λi h st b hb=>by
  rcases Qe.mp hb with z | z
  ·subst z
   obtain⟨old,q⟩:=st.1
   exact⟨_,q,λv z=>by
    have z':Data.fields _=Data.cell v:=z
    cases z'⟩
  ·rw [Qb.mp z]
   obtain⟨o,q,c,d⟩:=st.2
   exact⟨o,q,λv z=>by rw[d]at z;cases z⟩
 keep:=λi h h' st k=>⟨let⟨old,q⟩:=st.1;⟨old,k e (by simp) _ q⟩,st.2.at λo q=>k j (by simp) o q⟩
 item:=by
  intro X hP hw hK hc i aa s σ H E I hf st hg
  subst hP hw hK
  obtain⟨xs,hq,hi⟩:=hg
  obtain⟨ae,rv,p,hz⟩:=I.tuple hq
  have hl:=rv.length
  obtain⟨⟨old,he⟩,hit⟩:=st
  have hh:X.A.in1.handled=none:=I.ok.hd hc
  refine wpAny_pyNext_enum_itemD (drawsT hh j a gK ae.toArray) he ⟨hit,p⟩ (by simp;exact zar7 ‹_› ‹_›) dS (by simp[dS,ve]) λx g tk hP ho hs hT hsz hk=>⟨.ref s.heap.objs.size,rfl,?_⟩
  have fr:∀b,b∈[e,j]→FpOk X aa H b:=hf
  obtain⟨e0,e1,e2,e3,e4,e5⟩:=hf e (by simp)
  obtain⟨j0,j1,j2,j3,j4,j5⟩:=hf j (by simp)
  have pQ:∀b u,H b=some u→b≠e∧b≠j:=λb u q=>⟨λz=>(by rw[z,e0]at q;cases q),λz=>(by rw[z,j0]at q;cases q)⟩
  have I1:Inv X aa σ H {s with heap:=g,toks:=tk+1}:=by
   refine I.step (g':=s.gens) (d':=s.drawn) (ch:=[e,j]) (λb hb=>?_) (λb o _ _ hc q _=>hk b o (λz=>hc (by simp[z])) (λz=>hc (by simp[z])) q) (λb o _ _ hc q _=>⟨o.slots,hk b o (λz=>hc (by simp[z])) (λz=>hc (by simp[z])) q⟩) (λ_ _ _ _ n=>n)
    (λb o hc q=>⟨o,hk b o (λz=>hc (by simp[z])) (λz=>hc (by simp[z])) q⟩) (λ_ _ q=>q) (λ_ _ _ q=>q) (λb ps q=>⟨#[],by rw[q];simp⟩) (λm hm=>?_) (λb u q=>?_) I.bare
   ·rcases Qe.mp hb with z | z
    ·subst z;exact⟨e3,e1,e4,e5⟩
    ·rw[Qb.mp z];exact⟨j3,j1,j4,j5⟩
   ·obtain ⟨o,es,ep,q,r⟩:=hm
    exact⟨o,es,ep,hk _ o (Qu e1) (Qu j1) q,r⟩
   ·refine (I.hok b u q).stay (fun c v hc z=>?_) (fun _ z=>z) fun _ _ z=>z
    have pk:c≠e∧c≠j:=by
     rcases hc with rfl | hc
     ·exact pQ c u q
     ·exact pQ c _ hc
    exact hk c v pk.1 pk.2 z
  obtain⟨y,hy⟩:∃y,xs[i]?=some y:=⟨xs[i],Qd hi⟩
  obtain⟨u,hu,ru⟩:=rv.get hy
  have pN:ae[i]?=some x:=by simpa using hP
  rw[hu]at pN
  have sM:u=x:=Qk pN
  subst sM
  have hN:H s.heap.objs.size=none:=I.hok.fresh (Qg _)
  refine wpAny_letOwnedTupleGo_enum ho λg' bV aO=>?_
  have nT:s.heap.objs.size≠e:=Yb (Qr he)
  have nJ:s.heap.objs.size≠j:=by obtain⟨o,q,_⟩:=hit;exact Yb (Qr q)
  have I2:Inv X aa σ H {s with heap:=g',toks:=tk+1}:=Inv.turned (s:={s with heap:=g,toks:=tk+1}) (t':=tk+1) (it:=e) I1 (λb o hb q=>(aO.2 b hb).trans q) e0 e1 e3 e4 e5
  have pI:g'.get? s.heap.objs.size=some {cls:=.type "tuple",data:=.seq #[.int i tk,u]}:=(aO.2 _ nT).trans hT
  have I3:Inv X aa σ (upd H s.heap.objs.size (.tup [.int i,y])) {s with heap:=g',toks:=tk+1}:=by
   refine⟨I2.ok,I2.os,I2.bare,⟨I2.base.keep,I2.base.slot,λb o q n hx=>?_,I2.base.there,λb zs q=>?_,λb o v q=>?_,λb ps q=>?_⟩,I2.loc,I2.cell,?_,λz c q=>?_,λpp hp=>?_,λb v q=>?_,I2.len⟩
   ·have lt:b < s.heap.objs.size:=Zj (Qr q) I.sz
    rw[zad (Zc lt)];exact I2.base.free b o q n hx
   ·have:=I2.base.tups b zs q
    rw[zad (zab this hN)];exact this
   ·have:=I2.base.frzs b o v q
    rw[zad (zab this hN)];exact this
   ·obtain ⟨m,z⟩:=I2.base.tbls b ps q
    exact⟨m,by rw[zad (zab z hN)];exact z⟩
   ·rw[zad (Zc I.lt)];exact I2.free
   ·rw[zad (Zc (I.cl_lt z c q))];exact I2.freeC z c q
   ·obtain ⟨h1,h2,h3⟩:=I2.pin pp hp
    exact⟨h1,by rw[zad (Zc (I.pin_lt pp hp))];exact h2,h3⟩
   ·by_cases hb:b=s.heap.objs.size
    ·subst hb
     rw[zac]at q
     cases q
     exact⟨by show 2≤sizeLine;decide,[.int i tk,u],.cons ⟨tk,rfl⟩ (.cons ru .nil),_,pI,rfl,_,rfl⟩
    ·rw [zad hb] at q
     exact(I2.hok b v q).stay (λc v _ z=>z) (λc z=>by rw[zad (zab z hN)];exact z) λc zs z=>by rw[zad (zab z hN)];exact z
  refine⟨.ref s.heap.objs.size,_,I3,rfl,⟨y,_,λys jA=>by rw[I.tuple_inj jA hq];exact hy,hN,rfl,rfl⟩,⟨⟨u,by simpa using bV⟩,?_⟩,λb hb=>?_⟩
  ·exact hs.1.at λo q=>(aO.2 j (Qu dS)).trans q
  ·rcases Qe.mp hb with z | z
   ·rw[z,zad (Qu nT)];exact e0
   ·rw[Qb.mp z,zad (Qu nJ)];exact j0
 done:=by
  intro X hP hw hK hc i aa s σ H E I hf st hg
  subst hP hw hK
  obtain⟨xs,hq,hi⟩:=hg
  obtain⟨ae,rv,p,hz⟩:=I.tuple hq
  have hl:=rv.length
  obtain⟨⟨old,he⟩,hit⟩:=st
  obtain⟨j0,j1,j2,j3,j4,j5⟩:=hf j (by simp)
  have hh:X.A.in1.handled=none:=I.ok.hd hc
  have hT:s.TypeIs (.ref e) "enumerate" := ⟨_,he,rfl⟩
  unfold pyNext
  refine wpAny_bind (wpAny_attempt (wpAny_callSpecial?_slot (name:=Str.ofString "__next__") hT Jy (wpAny_call_entry Jy hT F.entry_enumerate_next ?_ (F.args_enumerate_next_1 _))))
  show wpAny _ _ (field (.ref e) 2 >>= _) _ _ _
  refine wpAny_bind (wpAny_field he rfl (x:=.ref j) rfl (wpAny_bind (next_end hh hit p (by simp;exact zdp ‹_› ‹_›) λg x hg hx=>?_)))
  obtain⟨o,ho,hc⟩:=hx
  refine wpAny_bind (wpAny_isInstance (T := "StopIteration") (b:=true) ⟨o,ho,hc⟩ isSubtype_stop (wpAny_pure ⟨rfl,?_⟩))
  exact I.turned (t':=s.toks) (λb o hb q=>hg b o hb q) j0 j1 j3 j4 j5
 self:=λA i s Q E st h=>by
  obtain⟨⟨old,he⟩,_⟩:=st
  exact wpAny_pyIter_enum he h
end L2
end
section
namespace L2
open PySem PySem.Spec PyProof.Rows Enu
section
variable{X:Cx}
def iEnum(K:Na)(ta:TA):TI:=λ σ H R=>ta σ H λvs H1=>∃a,vs=[.ref a]∧(∃xs,SqT K H1 a xs)∧R (Ite a K) H1
def pi_enum(hg:Gl X "enumerate")(hm:X.mg "enumerate" = none)(ha:PA X [a] ta)(hs:starEach [a] X.env=[(false,eval a X.env)]:=by rfl) :
  PI X (.Tuple elts kk tpos) (.Call (.Name "enumerate" p) [a] [] pos) (iEnum X.K ta):=by
 intro aa s σ H R I h
 refine Call_ (zdo I hg hm boot_enumerate (Yn (thn (ha pos aa s σ H _ I h) λus s1 ⟨vs,H1,I1,r1,q1⟩=>?_) hs rfl))
 obtain⟨t,e,⟨xs,hq⟩,q⟩:=q1
 subst e
 obtain⟨u,rfl,ru⟩:=vals1 r1
 cases ru
 obtain⟨ae,rv,pl,hz⟩:=I1.tuple hq
 have lt:t<s1.heap.objs.size:=by obtain⟨o,q,_⟩:=pl;exact Qr q
 refine call_enum pl λg he hit hsz k=>wpAny_pyIter_enum he ?_
 have I2:Inv X aa σ H1 {s1 with heap:=g}:=I1.kept (t':=s1.toks) k
 refine⟨s1.heap.objs.size+1,[s1.heap.objs.size+1,s1.heap.objs.size],_,_,H1,rfl,I2,turn_enum t _ _ (Ku _) (Zc lt) (Yb (Uj lt)),⟨⟨_,he⟩,hit⟩,λb hb=>?_,q⟩
 have cM:s1.heap.objs.size≤b:=by
  rcases Qe.mp hb with z | z
  ·rw[z];exact Ub _
  ·rw[Qb.mp z];exact Qg _
 exact I1.fpOk cM (I1.hok.fresh cM)
def for_enum{K:Na}{a:Nc}{xs:List V}{g:TG}{tb:TS}{D:Ends}{σ:St}{H:Hp}(Pv:Nat→St→Hp→Prop)(h0:Pv 0 σ H)(hl:∀i σ H,i≤xs.length→Pv i σ H→H a=some (.tup xs))(hs:∀i x t σ H,xs[i]?=some x→Pv i σ H→H t=none→g (.ref t) σ (upd H t (.tup [.int i,x])) λ σ2 H2=>tb {D with nx:=Pv (i+1),ct:=Pv (i+1),bk:=D.nx} σ2 H2)(hd:∀σ H,Pv xs.length σ H→D.nx σ H) :
  ∃W:Nat→Nat→St→Hp→Prop,(∃m,W 0 m σ H)∧∀i m σ H,W i m σ H →
   ((Ite a K).stop i H∧D.nx σ H)∨((Ite a K).go i H∧∃N:St→Hp→Prop,(∀σ' H',N σ' H'→∃m',m'<m∧W (i+1) m' σ' H')∧∀x H',(Ite a K).yld i H x H'→g x σ H' λ σ2 H2=>tb {D with nx:=N,ct:=N,bk:=D.nx} σ2 H2):=by
 refine⟨λi m σ H=>m=xs.length-i∧i≤xs.length∧Pv i σ H,⟨xs.length,by simp,Zg _,h0⟩,?_⟩
 rintro i m σ H ⟨rfl,hi,p⟩
 have q:=hl i σ H hi p
 by_cases ai:i<xs.length
 ·refine .inr ⟨⟨xs,SqT.of q,ai⟩,Pv (i+1),fun σ' H' p'=>⟨xs.length - (i+1),by exact zar1 ‹_›,rfl,ai,p'⟩,fun x H' y=>?_⟩
  obtain⟨z,t,e1,e3,rfl,rfl⟩:=y
  exact hs i z t σ H (e1 xs (SqT.of q)) p e3
 ·have e:i=xs.length:=by exact zar3 ‹_› ‹_›
  subst e
  exact .inl ⟨⟨xs,SqT.of q,Qg _⟩,hd σ H p⟩
def Its(x:Str):It:=⟨λi _=>i<x.cps.size,λi H v H'=>H'=H∧∃c,x.cps[i]?=some c∧v=.str ⟨#[c]⟩,λi _=>x.cps.size≤i⟩
theorem turn_str{P:Ni}{w:Nk}{K:Na}{tg:Expr}{x:Str}{t:Tok}(it:Nc):Turn P w K tg (Its x) [it] it (λi h=>h.IsStrIter it "str_ascii_iterator" x t i) where
 mem:=by simp
 obj:=λi h st b hb=>by
  rw[Qb.mp hb]
  obtain⟨o,e,c,d⟩:=st
  exact⟨o,e,λv z=>by rw[d]at z;cases z⟩
 keep:=λi h h' st k=>let⟨o,ho,r⟩:=st;⟨o,k it (by simp) o ho,r⟩
 item:=by
  intro X hP hw hK hc i aa s σ H E I hf st hg
  subst hP hw hK
  obtain⟨f0,f1,f2,f3,f4,f5⟩:=hf it (by simp)
  have hi:i<x.cps.size:=hg
  refine wpAny_pyNext_ascii_item st (c:=x.cps[i]) (by simp[hi]) λh' ag sb=>?_
  have I1:Inv X aa σ H {s with heap:=h',toks:=s.toks+1}:=I.turned (λb o hb e=>(sb.2 b hb).trans e) f0 f1 f3 f4 f5
  obtain⟨o,e,c,d⟩:=id ag
  exact⟨_,rfl,go_of (s:={s with heap:=h',toks:=s.toks+1}) e c d (by decide) ⟨.str ⟨#[x.cps[i]]⟩,H,I1,⟨_,rfl⟩,⟨rfl,_,by simp[hi],rfl⟩,ag,λb hb=>(hf b hb).1⟩⟩
 done:=by
  intro X hP hw hK hc i aa s σ H E I hf st hg
  subst hP hw hK
  obtain⟨f0,f1,f2,f3,f4,f5⟩:=hf it (by simp)
  have hi:x.cps.size≤i:=hg
  exact wpAny_pyNext_ascii_end (I.ok.hd hc) st (by simp[hi]) λh' eb=>⟨rfl,I.turned (t':=s.toks) (λb o hb e=>eb b o hb e) f0 f1 f3 f4 f5⟩
 self:=λ_ _ _ _ _ st h=>wpAny_pyIter_striter_ascii st h
def iStr(tl:TE):TI:=λ σ H R=>tl σ H λv H1=>∃x:Str,v=.str x∧x.cps.all (· < 128)=true∧R (Its x) H1
def pi_str{tg l:Expr}{tl:TE}(hl:PE X l tl):PI X tg l (iStr tl):=by
 intro aa s σ H R I h
 refine thn (hl aa s σ H _ I h) λv s1 ⟨y,H1,I1,r1,q1⟩=>?_
 obtain⟨x,e,ha,q⟩:=q1
 subst e
 obtain⟨t,rfl⟩:=r1
 refine wpAny_pyIter_ascii ha ?_
 refine⟨s1.heap.objs.size,[s1.heap.objs.size],_,_,H1,rfl,I1.kept (t':=s1.toks) λb o e=>Qi _ e,turn_str (t:=t) _,⟨_,Zd _ rfl,rfl,rfl⟩,λb hb=>?_,q⟩
 rw[Qb.mp hb]
 exact I1.fpOk (Qg _) (I1.hok.fresh (Qg _))
def op_le_str:OpR X (compareOp .LtE) (λx y H Q=>Ex2 λi j=>Aj3 (x=.str i) (y=.str j) (Q (.bl (!decide (j.cps.toList<i.cps.toList))) H)):=by
 intro aa s σ H x y v u Q I rx ry h
 obtain⟨i,j,rfl,rfl,q⟩:=h
 obtain⟨t,rfl⟩:=rx
 obtain⟨t',rfl⟩:=ry
 exact PySem.P.le_str (zbc I q rfl)
end
end L2
end
section
namespace L2
open PySem PySem.Spec PyProof.Rows
section
variable{X:Cx}{aa:Nd}{σ:St}{H:Hp}{s:Ng}
inductive RrNil(neg:Bool)(K:Na)(x:V)(y:V)(H:Hp)(Q:VK):Prop
 |mk (l:_) (b:_) (xs:_) (h0:x=.ref l) (h1:y=.ref b) (h2:SqL K H l xs) (h3:SqL K H b []) (h4:Q (.bl (if neg then !xs.isEmpty else xs.isEmpty)) H):RrNil neg K x y H Q
def rNil(neg:Bool)(K:Na):R2:=λx y H Q=>RrNil neg K x y H Q
def op_eq_nil(hu:X.A.units<cLine):OpR X (compareOp .Eq) (rNil false X.K):=by
 intro aa s σ H x y v u Q I rx ry h
 obtain⟨l,b,xs,rfl,rfl,h1,h2,q⟩:=h
 cases rx;cases ry
 obtain⟨ae,r,pl,_⟩:=I.list h1
 obtain⟨cZ,r2,jo,_⟩:=I.list h2
 cases r2
 cases r with
 |nil=>exact SeqAt.eq_listAt (e:=λ_=>true) pl.isList jo.isList rfl hu (λj h1 _=>by simp at h1) ⟨.bl true,H,I,rfl,q⟩
 |cons a t=>exact SeqAt.eq_list_lengthsAt pl.isList jo.isList (by simp) hu ⟨.bl false,H,I,rfl,q⟩
def op_ne_nil(hu:X.A.units<cLine):OpR X (compareOp .NotEq) (rNil true X.K):=by
 intro aa s σ H x y v u Q I rx ry h
 obtain⟨l,b,xs,rfl,rfl,h1,h2,q⟩:=h
 cases rx;cases ry
 obtain⟨ae,r,pl,_⟩:=I.list h1
 obtain⟨cZ,r2,jo,_⟩:=I.list h2
 cases r2
 cases r with
 |nil=>exact SeqAt.RcNeAt.lists (e:=λ_=>true) pl.isList jo.isList rfl hu (λj h1 _=>by simp at h1) _ _ _ _ ⟨.bl false,H,I,rfl,q⟩
 |cons a t=>exact SeqAt.RcNeAt.lists_lengths pl.isList jo.isList (by simp) hu _ _ _ _ ⟨.bl true,H,I,rfl,q⟩
def op_mul_str:OpR X (binaryOp .Mult) (λx y H Q=>Ex2 λ(z:Str) (n:Nat)=>Aj5 (x=.str z) (y=.int n) (z.length≤1000) (n≤1000) (Q (.str (Txt.mul z n)) H)):=by
 intro aa s σ H x y v u Q I rx ry h
 obtain⟨z,n,rfl,rfl,h1,h2,q⟩:=h
 obtain⟨t,rfl⟩:=rx
 obtain⟨t',rfl⟩:=ry
 exact SB.mul (mulOk_of 1000 1000 h1 (by lia) (by lia) (by decide) (by decide)) λt' k=>⟨.str _,H,I.tok _,⟨t',rfl⟩,q⟩
theorem argBest_lt:∀k,argBest bt k≤k
 |0=>Qg _
 |k+1=>by
  show(if bt (k+1) (argBest bt k)=true then k+1 else argBest bt k)≤k+1
  split
  ·exact Qg _
  ·exact Nat.le_succ_of_le (argBest_lt k)
theorem zc1(f:Nat→List Nat):∀k j,j≤k→¬f j<f (argBest (λi j=>decide (f i<f j)) k)
 |0,j,h=>by
  have:j=0:=by lia
  subst this
  exact Wv _
 | k+1,j,h=>by
  show ¬f j<f (if decide (f (k+1)<f (argBest (λi j=>decide (f i<f j)) k))=true then k+1 else argBest (λi j=>decide (f i<f j)) k)
  by_cases ai:f (k+1)<f (argBest (λi j=>decide (f i<f j)) k)
  ·rw [if_pos (decide_eq_true ai)]
   by_cases hj:j=k+1
   ·subst hj;exact Wv _
   ·intro z
    exact zc1 f k j (by lia) (List.lt_trans z ai)
  ·rw [if_neg (by simpa using ai)]
   by_cases hj:j=k+1
   ·subst hj;exact ai
   ·exact zc1 f k j (by lia)
def zia(hc:X.calm=true):zcc X (.builtin "min") (λxs H Q=>Ex2 λ(p:Nc) (zs:Nh)=>Aj4 (xs=[.ref p]) (SqL X.K H p (zs.map V.str)) (zs≠[]) (∀z∈zs,(∀y∈zs,leS z y)→Q (.str z) H)):=by
 intro aa s σ H xs us Q I r h
 obtain⟨p,zs,rfl,hq,az,q⟩:=h
 obtain⟨u,rfl,rx⟩:=vals1 r
 cases rx
 have da:0<zs.length:=Uf.mpr az
 refine call_min_walk (zg3 hc I hq λae It h1 rv W st lt keep=>⟨It,_,_,_,_,_,λi j=>decide ((zs.getD i Str.empty).cps.toList<(zs.getD j Str.empty).cps.toList),rfl,W,st,lt,?_,λi j vi vj s' Q' E' hi hj hW=>?_,λv h' tk hv k=>?_⟩)
 ·have:=rv.length
  rw[Qa]at this
  rw[Qv];exact zar7 ‹_› ‹_›
 ·have gs:∀ (i:Nat) (v:Value),ae.toArray[i]?=some v→∃ t,v=.str (zs.getD i Str.empty) t:=fun i v e=>by
   have e':ae[i]?=some v:=by simpa using e
   have hi:i<ae.length:=(Za.mp e').1
   have hl:=rv.length
   rw[Qa]at hl
   have aE:i<zs.length:=by exact zar6 ‹_› ‹_›
   obtain⟨u,e2,t,e3⟩:=rv.get (i:=i) (x:=.str zs[i]) (by simp[aE])
   rw[e']at e2
   cases e2
   exact⟨t,by rw[e3];simp[List.getD,aE]⟩
  obtain⟨t1,rfl⟩:=gs i vi hi
  obtain⟨t2,rfl⟩:=gs j vj hj
  exact lt_str hW
 ·have hl:=rv.length
  rw[Qa]at hl
  have hk:=argBest_lt (bt:=λi j=>decide ((zs.getD i Str.empty).cps.toList<(zs.getD j Str.empty).cps.toList)) (ae.toArray.size-1)
  generalize hb:argBest (λi j=>decide ((zs.getD i Str.empty).cps.toList<(zs.getD j Str.empty).cps.toList)) (ae.toArray.size-1)=b at hv hk
  have cb:b<zs.length:=by rw[Qv]at hk;lia
  have iR:ae[b]?=some v:=by simpa using hv
  obtain⟨u,e2,t,e3⟩:=rv.get (i:=b) (x:=.str zs[b]) (by simp[cb])
  rw[iR]at e2
  cases e2
  refine⟨.str zs[b],H,keep h' tk k,⟨t,e3⟩,q _ (Zb cb) λy hy=>?_⟩
  obtain⟨j,hj,ej⟩:=Zo hy
  have:=zc1 (λi=>(zs.getD i Str.empty).cps.toList) (ae.toArray.size-1) j (by rw[Qv];lia)
  rw[hb]at this
  have g1:zs.getD b Str.empty=zs[b]:=by simp[List.getD,cb]
  have g2:zs.getD j Str.empty=y:=by simp[List.getD,hj,ej]
  rw[g1,g2]at this
  exact this
end
section
variable{X:Cx}
def call_dict_of:zcc X (.type "dict") (λxs H Q=>Ex2 λ(d:Nc) (kvs:List (Key×V))=>Aj3 (xs=[.ref d]) (Rd H d (.dK kvs)) (∀l,H l=none→Q (.ref l) (upd H l (.dK kvs)))):=by
 intro aa s σ H xs us Q I r h
 obtain⟨d,kvs,rfl,hq,q⟩:=h
 obtain⟨u,rfl,rx⟩:=vals1 r
 cases rx
 obtain⟨z,lo,vs,ep,rk,ha,hl⟩:=dk_at I hq
 refine kt_call_dict lo ha.dictOf (by rw[hl];exact z) λh' hd sb=>?_
 have lt:d<s.heap.objs.size:=ha.lt_size
 have k:∀b o,s.heap.get? b=some o→h'.get? b=some o:=λb o e=>(sb.2 b (Zc (Qr e))).trans (Qi _ e)
 have nS:(s.heap.objs.size==sysModules)=false:=beq_eq_false_iff_ne.mpr (Yb I.big)
 exact⟨.ref _,_,I.laid (t':=s.toks) k (Qg _) (show zbi X.prog X.w _ h' _ (.dK kvs) from⟨z,nS,vs,rk,hd⟩),rfl,q _ (I.hok.fresh (Qg _))⟩
def eqV_self{x:V}(f:zdk x=true):eqV x x=true:=by
 cases x with
 |non=>rfl
 |bl b=>exact beq_self_eq_true b
 |int i=>exact beq_self_eq_true i
 |str z=>exact beq_self_eq_true z
 |_=>cases f
def KV.value{kvs:List (Key×V)}{vs:List (Key×Value)}(r:KV kvs vs){k:Key}{v:V}(nd:(kvs.map (·.1)).Nodup)(h:(k,v)∈kvs):∃ y,valueAt vs k=some y∧RelV v y:=by
 induction r with
 |nil=>cases h
 | @cons p q ps qs e t ih =>
  rw[Ql,Qs]at nd
  rcases Qe.mp h with z | z
  ·refine ⟨q.2,?_,?_⟩
   ·unfold valueAt
    rw[Wc (by rw[←e.1,←z];simp)]
    rfl
   ·have:=e.2
    rw[←z]at this
    exact this
  ·obtain ⟨y,h1,h2⟩:=ih nd.2 z
   refine⟨y,?_,h2⟩
   have ne:p.1≠k:=λw=>nd.1 (by rw[w];exact Qh.mpr ⟨_,z,rfl⟩)
   unfold valueAt at h1 ⊢
   rw[Wd (by rw[←e.1];simpa using ne)]
   exact h1
def zgr(hu:X.A.units<cLine):OpR X (compareOp .NotEq) (λx y H Q=>Ex3 λa b kvs=>Aj7 (x=.ref a) (y=.ref b) (Rd H a (.dK kvs)) (Rd H b (.dK kvs)) ((kvs.map (·.1)).Nodup) (∀p∈kvs,zdk p.2=true) (Q (.bl false) H)):=by
 intro aa s σ H x y v u Q I rx ry h
 obtain⟨a,b,kvs,rfl,rfl,h1,h2,nd,fl,q⟩:=h
 cases rx;cases ry
 obtain⟨z,lo,vs,ep,rk,ha,hl⟩:=dk_at I h1
 obtain⟨z2,lo2,vs2,ep2,rk2,pH,ak⟩:=dk_at I h2
 have uh:∀(ks:List (Key×V)) (us:List (Key×Value)),KV ks us→(∀p∈ks,p∈kvs)→PySem.W.KeqHits X.A.in1 s vs2 us true:=by
  intro ks us r
  induction r with
  |nil=>intro _;exact .nil
  |@cons p q' ps qs e t ih =>
   intro hm
   have hp:(p.1,p.2)∈kvs:=hm p Qc
   obtain⟨y,e1,e2⟩:=KV.value rk2 nd hp
   have f:=fl p (hm p Qc)
   have hE:=eqAt_V (A:=X.A.in1) (s:=s) e.2 e2 f f
   rw[eqV_self f]at hE
   obtain⟨k1,v1⟩:=q'
   have hk:p.1=k1:=e.1
   rw[hk]at e1
   exact PySem.W.KeqHits.hit (e:=true) (b:=true) e1 hE (ih λp hp=>hm p (Qf _ hp))
 refine PySem.W.keq_ne lo lo2 ha.dictOf pH.dictOf hu (λ_=>uh kvs vs rk λp hp=>hp) ⟨.bl false,H,I,?_,q⟩
 show Value.bool _=Value.bool false
 have:vs.length=vs2.length:=by omega
 rw[this]
 simp
end
end L2
end
section
namespace SetT
open PySem PyProof.Rows PySem.Spec
section
variable{prog:Ni}{w:Nk}{A:Nm}{R:Nt}{I:Nc}{fp wr:Nn}{G:Array GenState→Array GenState→Prop}{n:Nat}{P:Nat→Value→Prop}{St:Nat→Shared→Prop}
def loop(W:WalksS prog w A.in1 I fp wr G n P St)(S:Nc)(lQ:S∉fp)(zs:Nh)(hz:zs.length=n)(nd:zs.Nodup)(jH:∀i v,P i v→∃t,v=.str (zs.getD i Str.empty) t)(hb:n+1<scanBound) :
  ∀(k i:Nat) (s:Ng),n-i=k→i≤n→St i s→s.heap.SetOf (PySem.strKind prog w) S (λx=>decide (x∈zs.take i)) i →
   (∀s',Moved (S::wr) G s s'→s'.heap.SetOf (PySem.strKind prog w) S (λx=>decide (x∈zs.take n)) n→R (.ok (.ret .none)) s')→codeAny (model prog w) A (.builtin "set.update.loop" ⟨[.ref S,.ref I],[]⟩) R s:=by
 have hSw:S∉wr:=λh=>lQ (W.sub _ h)
 have sub:∀b∈wr,b∈S::wr:=λb q=>Qf _ q
 intro k
 induction k with
 |zero =>
  intro i s hk hi ap hS hR
  obtain rfl:i=n:=by lia
  refine codeAny_builtin F.entry_set_update_loop ?_
  rw[We F.plain_set_update_loop _]
  show wpAny _ A.in1 (pyNext (.ref I) >>= _) _ _ s
  refine wpAny_bind (W.done s _ _ ap λs' hm=>(show wpAny _ A.in1 (ret Value.none) _ _ s' from wpAny_pure (hR s' (hm.mono sub) ?_)))
  obtain⟨o,es,ep,t,ho,rest⟩:=hS
  exact⟨o,es,ep,t,hm.heap S _ hSw ho,rest⟩
 | succ k ih =>
  intro i s hk hi ap hS hR
  have lt:i<n:=by lia
  refine codeAny_builtin F.entry_set_update_loop ?_
  rw[We F.plain_set_update_loop _]
  show wpAny _ A.in1 (pyNext (.ref I) >>= _) _ _ s
  refine wpAny_bind (W.item i s _ _ lt ap λv s' hP tf hm=>?_)
  obtain⟨t,rfl⟩:=jH i v hP
  have aE:i<zs.length:=by exact zar6 ‹_› ‹_›
  have eg:zs.getD i Str.empty=zs[i]:=by simp[List.getD,aE]
  rw[eg]
  have jd:s'.heap.SetOf (PySem.strKind prog w) S (λx=>decide (x∈zs.take i)) i:=by
   obtain⟨o,es,ep,tb,ho,rest⟩:=hS
   exact⟨o,es,ep,tb,hm.heap S _ hSw ho,rest⟩
  show wpAny _ A.in1 (holding [Value.str zs[i] t] (setAdd S (.str zs[i] t)) >>= _) _ _ s'
  refine wpAny_bind (wpAny_holding ?_)
  unfold setAdd
  refine wpAny_holding (wpAny_bind ((PySem.strKind prog w).pyHash (k:=zs[i]) (by simp[PySem.strKind,Value.isStrOf]) ?_))
  have nin:decide (zs[i]∈zs.take i)=false:=decide_eq_false λq=>by
   obtain⟨j,hj,e⟩:=Zo q
   rw[Zh]at hj
   rw[Wp]at e
   have:=(Yi nd).mp e
   lia
  refine wpAny_setAddHashed_of (knd:=PySem.strKind prog w) (k:=zs[i]) (by simp[PySem.strKind,Value.isStrOf]) rfl jd (by lia) λg sb hS2=>?_
  have hSi:g.SetOf (PySem.strKind prog w) S (λx=>decide (x∈zs.take (i+1))) (i+1):=by
   refine SetOf_congr hS2 (λx=>?_) (by simp only[nin];simp)
   rw[Wi]
   simp only[Bool.or_eq_true,decide_eq_true_eq]
   rw[Qm aE,Qj,Qb]
  refine wpAny_pure ⟨plainId_quiet F.plain_set_update_loop _,ih (i+1) _ (by lia) lt (W.frame _ s' _ _ tf (by first | exact Qg _ | exact Ub _) λb q o e=>?_) hSi λs2 cD hS3=>hR s2 (Moved.trans W.gtrans ((hm.mono sub).then_heap (by first | exact Qg _ | exact Ub _) λb o q e=>?_) cD) hS3⟩
  ·rw[sb.2 b (λz:b=S=>lQ (by rw[←z];exact q))];exact e
  ·rw[sb.2 b (λz:b=S=>q (by rw[z];exact Qc))];exact e
end
section
variable{prog:Ni}{w:Nk}{A:Nm}{E:Nb}{s:Ng}
def call_set{l:Nc}{ae:Nj}{zs:Nh}{Q:Nb}(hh:A.handled=none)(hl:s.heap.IsList l ae.toArray)(hz:zs.length=ae.length)(nd:zs.Nodup)(jH:∀(i:Nat) (v:Value),ae[i]?=some v→∃t,v=.str (zs.getD i Str.empty) t)(hb:ae.length+1<scanBound)(h:∀(g:Nl) (tk:Nat),g.SetOf (PySem.strKind prog w) s.heap.objs.size (λx=>decide (x∈zs)) zs.length→(∀b o,s.heap.get? b=some o→g.get? b=some o)→Q (.ref s.heap.objs.size) {s with heap:=g,toks:=tk}) :
  wpAny (model prog w) A (call (.type "set") [.ref l]) Q E s:=by
 obtain⟨c,tl,hmro⟩:=Wj.mro
 have hmade:=Wj.made
 have t6:=Wj.sub
 refine wpAny_call (codeAny_of_tree (show wpAny _ _ (callAny (.type "set") _) _ _ _ from wpAny_pure ⟨Code.quiet_builtin _ (by decide +kernel),codeAny_builtin PySem.F.entry_type_call ?_⟩))
 rw[Around.under_plain (weight_type_call_type "set" [.ref l] []) rfl]
 have h1:=Wj.notType
 have h2:=Wj.canCreate
 have lK:=PySem.F.typeCall_set_1 (.ref l)
 repeat(any_goals (first | assumption | wp_step))
 refine codeAny_mono (code_set_new_1 (.ref l) (E:=E) (Q₁:=λobj s₁=>∃led:Bool,obj=.ref s.heap.objs.size∧s₁={s with heap:=s.heap.push {cls:=.type "set",dict:=none,data:=.set #[] 0 (.fresh 0 0 led)}}) λled=>⟨led,rfl,rfl⟩) λr s1 hr=>?_
 cases r with
 |error e=>exact hr
 | ok fl =>
  cases fl with
  | ret obj =>
   obtain⟨led,rfl,rfl⟩:=hr
   have hS:(s.heap.push {cls:=.type "set",dict:=none,data:=.set #[] 0 (.fresh 0 0 led)}).get? s.heap.objs.size=some {cls:=.type "set",dict:=none,data:=.set #[] 0 (.fresh 0 0 led)}:=Zd _ rfl
   have hT:Shared.TypeIs {s with heap:=s.heap.push {cls:=.type "set",dict:=none,data:=.set #[] 0 (.fresh 0 0 led)}} (.ref s.heap.objs.size) "set" := ⟨_,hS,rfl⟩
   have hli:=Wj.init.lookup
   have v7:=Wj.init.bind (.ref s.heap.objs.size)
   repeat(any_goals (first | assumption | wp_step))
   refine codeAny_mono (codeAny_call_builtin (R:=wants (λr s₂=>r=.none∧∃g tk,s₂={s with heap:=g,toks:=tk}∧g.SetOf (PySem.strKind prog w) s.heap.objs.size (λx=>decide (x∈zs)) zs.length∧(∀b o,s.heap.get? b=some o→g.get? b=some o)) E)
    Wj.init.plain PySem.F.entry_set_init (check_set_init_1 hT ?_)) λr2 s2 d8=>?_
   ·obtain ⟨ol,hol,kQ,nl,lJ⟩:=hl
    obtain⟨ocls,odict,odata,oslots⟩:=ol
    simp only at kQ lJ
    subst kQ;subst lJ
    have tP:(s.heap.push {cls:=.type "set",dict:=none,data:=.set #[] 0 (.fresh 0 0 led)}).get? l=some {cls:=.type "list",dict:=odict,data:=.seq ae.toArray nl,slots:=oslots}:=Qi _ hol
    have hsls:=PySem.F.sub_list_set
    have hslf:=PySem.F.sub_list_frozenset
    have az:(Value.type "list" == Value.type "dict")=false:=by decide
    have bJ:(s.heap.push {cls:=.type "set",dict:=none,data:=.set #[] 0 (.fresh 0 0 led)}).IsList l ae.toArray:=⟨_,tP,rfl,nl,rfl⟩
    unfold Builtin.«set.__init__» noKeywords Builtin.Frozenset.updateFrom
    generalize hPI:pyIter=PI
    wp_walk
    subst hPI
    refine wpAny_pyIter_list bJ (wpAny_bind (wpAny_runValue ?_))
    have hlS:l<s.heap.objs.size:=Qr hol
    have hh3:A.in1.in1.in1.handled=none:=by simp[hh]
    have z1:(s.heap.push {cls:=.type "set",dict:=none,data:=.set #[] 0 (.fresh 0 0 led)}).objs.size=s.heap.objs.size+1:=Wq ..
    have tW:l≠(s.heap.push {cls:=.type "set",dict:=none,data:=.set #[] 0 (.fresh 0 0 led)}).objs.size:=by rw[z1];exact Zc (Uj hlS)
    have lQ:s.heap.objs.size∉[(s.heap.push {cls:=.type "set",dict:=none,data:=.set #[] 0 (.fresh 0 0 led)}).objs.size,l]:=by
     rw[z1];simp only[Qe,Wa,or_false,not_or]
     exact⟨Zc (Yr _),Yb hlS⟩
    refine loop ((Walks.list hh3 _ l tW ae.toArray).toS) s.heap.objs.size lQ zs (by rw[Qv];exact hz) nd (λi v hv=>jH i v (by simpa using hv)) (by rw[Qv];exact hb) _ 0 _ rfl (Zg _) ⟨⟨_,Zd _ rfl,rfl,rfl⟩,(bJ.push _)⟩ ?_ ?_
    ·exact SetOf_congr ((setObjOf_fresh (knd:=PySem.strKind prog w) led).setOf (Qi _ hS) (by unfold scanBound;exact Nat.le_add_left _ _)) (λ_=>by simp) rfl
    ·intro s' hm jd
     obtain⟨g,g',d',rO,rT⟩:=s'
     have eg:g'=s.gens:=hm.gens
     have ed:d'=s.drawn:=hm.drawn
     have eo:rT=s.os:=hm.os
     subst eg;subst ed;subst eo
     show wpAny _ _ _ _ _ _
     refine wpAny_pure (show wpAny _ _ (ret Value.none) _ _ _ from wpAny_pure ⟨rfl,g,rO,rfl,?_,λb o e=>?_⟩)
     ·have e1:ae.toArray.size=zs.length:=by rw [Qv,hz]
      rw[e1,Qz (Qg _)]at jd
      exact jd
     ·have lO:b < s.heap.objs.size:=Qr e
      refine hm.heap b o ?_ (Qi _ (Qi _ e))
      rw[z1]
      simp only[Qe,Wa,or_false,not_or]
      exact⟨Zc lO,Zc (Uj lO)⟩
   ·cases r2 with
    |error e=>exact d8
    | ok fl2 =>
     cases fl2 with
     |ret r =>
      obtain⟨rfl,g,tk,rfl,jd,gb⟩:=d8
      repeat(any_goals (first | assumption | wp_step))
      exact h _ _ jd gb
     |_=>exact d8.elim
  |_=>exact hr.elim
end
end SetT
namespace L2
open PySem PySem.Spec PyProof.Rows
def setO(P:Ni)(w:Nk)(a:Nc)(zs:Nh):HO:=.ext λh=>h.SetOf (PySem.strKind P w) a (λx=>decide (x∈zs)) zs.length
section
variable{X:Cx}
def zh9(hc:X.calm=true):zcc X (.type "set") (λxs H Q=>Ex2 λ(p:Nc) (zs:Nh)=>Aj5 (xs=[.ref p]) (SqL X.K H p (zs.map V.str)) zs.Nodup (zs.length≤1000) (∀l,H l=none→Q (.ref l) (upd H l (setO X.prog X.w l zs)))):=by
 intro aa s σ H xs us Q I r h
 obtain⟨p,zs,rfl,hq,nd,hz,q⟩:=h
 obtain⟨u,rfl,rx⟩:=vals1 r
 cases rx
 obtain⟨ae,rv,pl,_⟩:=I.list hq
 have hl:=rv.length
 rw[Qa]at hl
 refine SetT.call_set (zs:=zs) (I.ok.hd hc) pl.isList hl nd (λi v e=>?_) (by unfold scanBound;lia) λg tk hS k=>?_
 ·have hi:i < ae.length:=(Za.mp e).1
  have aE:i<zs.length:=by exact zar6 ‹_› ‹_›
  obtain⟨u,e2,t,e3⟩:=rv.get (i:=i) (x:=.str zs[i]) (by simp[aE])
  rw[e]at e2
  cases e2
  exact⟨t,by rw[e3];simp[List.getD,aE]⟩
 ·refine ⟨.ref _,_,I.laid (t':=tk) k (Qg _) (show zbi X.prog X.w _ g _ (setO X.prog X.w s.heap.objs.size zs) from ⟨hS,?_,fun h1 h2 p1 k1=>?_⟩),rfl,q _ (I.hok.fresh (Qg _))⟩
  ·obtain ⟨o,_,_,_,e,_⟩:=hS
   exact⟨o,e⟩
  ·obtain ⟨o,es,ep,t,e,rest⟩:=p1
   exact⟨o,es,ep,t,k1 o e,rest⟩
def zic:zcc X (.builtin "len") (λxs H Q=>Ex2 λ(p:Nc) (zs:Nh)=>Aj4 (xs=[.ref p]) (H p=some (setO X.prog X.w p zs)) (zs.length≤1000) (Q (.int zs.length) H)):=by
 intro aa s σ H xs us Q I r h
 obtain⟨p,zs,rfl,hq,hz,q⟩:=h
 obtain⟨u,rfl,rx⟩:=vals1 r
 cases rx
 obtain⟨⟨o,es,ep,t,ho,bQ,hd,uW,hmem,hb,hf,hn⟩,_⟩:=(show zbi X.prog X.w H s.heap p (setO X.prog X.w p zs) from I.hok p _ hq)
 exact call_len_set ho bQ hd hf (by rw[hn];lia) ⟨.int zs.length,H,I.tok _,⟨_,by rw[hn]⟩,q⟩
end
end L2
end
section
namespace DictR
open PySem PyProof.Rows PySem.Spec
def miss_keys:typeLookup (.type "list") "keys" = pure none:=am_miss_of_fast (by decide +kernel)
section
variable{prog:Ni}{w:Nk}{A:Nm}{E:Nb}{s:Ng}
def no_keys{a:Nc}{xs:Array Value}{k:Nat}{sl:Array (Option Value)}{Q:Option Value→Shared→Prop}(hx:s.heap.get? a=some {cls:=.type "list",dict:=none,data:=.seq xs k,slots:=sl})(hA:A.handled=none)(h:∀g tk,(∀b o,s.heap.get? b=some o→g.get? b=some o)→Q none {s with heap:=g,toks:=tk}):wpAny (model prog w) A (getAttr? (.ref a) "keys") Q E s:=by
 obtain⟨hp,g,d,tk,os⟩:=s
 have hT:∀t',(⟨hp,g,d,t',os⟩:Shared).TypeIs (.ref a) "list" := λ_=>⟨_,hx,rfl⟩
 have f1:=sub_AttributeError
 have f3:=Xk.lookup
 have f4:=Xk.bind (.ref a)
 have f5:=am_list_getattr_none
 unfold getAttr? getAttrBy? getAttrBy
 repeat(any_goals (first | assumption | exact hT _ | ((with_reducible show wpAny _ _ (call (Value.builtin "list.__getattribute__") _ _) _ _ _);refine call_meets Xk (hT _) am_entry_list_getattribute (F.args_list_getattribute_2 _ _) (meets_getattribute_miss_list a xs k sl "keys" _ miss_keys (by decide +kernel) (by decide +kernel)) ⟨hx,hA,λh' rO e cw=>?_⟩) | wp_step))
 obtain⟨t',u',he⟩:=cw.there
 show wpAny _ _ (getattributeRaised _ _ _ _ _ _ _) _ _ _
 unfold getattributeRaised
 repeat(any_goals (first | assumption | wp_step))
 exact h h' rO cw.keeps
def zgw:entryFor table "dict.update.loop" = some Builtin.«dict.update.loop»:=entryFor_of_tree (by kernel_rfl)
def zdg:plainId "dict.update.loop" = true:=by decide +kernel
structure Row(K:Type) where
 a:Addr
 o:Obj
 k:K
 key:Value
 val:Value
 n:Nat
variable{K:Type}[DecidableEq K]{knd:KeyKind prog w K}
def RowAt(knd:KeyKind prog w K)(h:Nl)(r:Row K):Prop:=h.get? r.a=some r.o∧r.o.cls=.type "tuple" ∧ r.o.data=.seq #[r.key,r.val] r.n∧knd.is r.k r.key=true
def stored_new{kvs:List (K×Value)}(h:k∉kvs.map (·.1)):stored kvs k v=kvs++[(k,v)]:=by
 unfold stored
 rw[if_neg]
 intro z
 obtain⟨p,hp,e⟩:=Yw.mp z
 exact h (Qh.mpr ⟨p,hp,of_decide_eq_true e⟩)
def loop{R:Nt}{I l:Nc}(hh:A.handled=none)(rows:List (Row K))(d:Nc)(uY:d≠I)(lJ:d≠l)(hlI:l≠I)(hr:∀ r∈rows,r.a≠d∧r.a≠I)(nd:(rows.map (·.k)).Nodup)(hz:rows.length≤sizeLine) :
  ∀(m i:Nat) (s:Ng),rows.length-i=m→i≤rows.length→s.heap.IsListIter I l i→s.heap.IsList l (rows.map λr=>Value.ref r.a).toArray→(∀r∈rows,RowAt knd s.heap r)→s.heap.DictOf knd d ((rows.take i).map λr=>(r.k,r.val)) →
   (∀g tk,(∀b o,b≠d→b≠I→s.heap.get? b=some o→g.get? b=some o)→g.DictOf knd d (rows.map λr=>(r.k,r.val))→R (.ok (.ret .none)) {s with heap:=g,toks:=tk}) →
   codeAny (model prog w) A (.builtin "dict.update.loop" ⟨[.ref d,.ref I,rawInt i,.none],[]⟩) R s:=by
 intro m
 induction m with
 |zero =>
  intro i s hm hi st hl hR hd hQ
  obtain rfl:i=rows.length:=by lia
  refine codeAny_builtin zgw ?_
  rw[We zdg _]
  show wpAny _ A.in1 (pyNext (.ref I) >>= _) _ _ s
  refine wpAny_bind (wpAny_pyNext_list_end (show A.in1.handled=none from hh) st hl (by simp) λg eb=>?_)
  show wpAny _ A.in1 (Builtin.Dict.addKeywords d [] >>= λ_=>ret Value.none) _ _ _
  refine wpAny_bind (show wpAny _ A.in1 (pure ()) _ _ _ from wpAny_pure (wpAny_pure (hQ g s.toks (λb o _ hb e=>eb b o hb e) ?_)))
  rw[Qz (Qg _)]at hd
  exact hd.extBut eb uY
 | succ m ih =>
  intro i s hm hi st hl hR hd hQ
  have lt:i<rows.length:=by lia
  obtain⟨e1,e2,e3,e4⟩:=hR rows[i] (Zb lt)
  obtain⟨n1,n2⟩:=hr rows[i] (Zb lt)
  refine codeAny_builtin zgw ?_
  rw[We zdg _]
  show wpAny _ A.in1 (pyNext (.ref I) >>= _) _ _ s
  refine wpAny_bind (wpAny_pyNext_list_item st hl (x:=.ref rows[i].a) (by simp[lt]) λg ag sb=>?_)
  have k1:∀b o,b≠I→s.heap.get? b=some o→g.get? b=some o:=λb o hb e=>(sb.2 b hb).trans e
  have kJ:g.DictOf knd d ((rows.take i).map λr=>(r.k,r.val)):=hd.sameBut sb uY
  refine wpAny_bind (wpAny_holding ?_)
  refine wpAny_bind (wpAny_tryCatch ?_)
  show wpAny _ A.in1 (Builtin.Dict.pairItems (.ref rows[i].a)) _ _ _
  unfold Builtin.Dict.pairItems
  refine wpAny_bind (wpAny_typeOf (T := "tuple") ⟨_,k1 _ _ n2 e1,e2⟩ ?_)
  rw[if_pos (by decide)]
  refine wpAny_bind (wpAny_seqItems (k1 _ _ n2 e1) e3 (wpAny_pure ?_))
  show wpAny _ A.in1 (holding [rows[i].key,rows[i].val] (dictSet d rows[i].key rows[i].val)) _ _ _
  have nk:rows[i].k∉((rows.take i).map λr=>(r.k,r.val)).map (·.1):=by
   rw[Zi]
   intro q
   obtain⟨r,aA,d8⟩:=Qh.mp q
   obtain⟨j,hj,ej⟩:=Zo aA
   rw[Zh]at hj
   rw[Wp]at ej
   have oM:j<rows.length:=by lia
   have:(rows.map (·.k))[j]'(by simpa using oM)=(rows.map (·.k))[i]'(by simpa using lt):=by
    rw[Zm,Zm,ej];exact d8
   have:=(Yi nd).mp this
   lia
  refine wpAny_holding (wpAny_dictSet_pairs (knd:=knd) e4 kJ (λg2 hd2 sb2=>?_) (by rw[Qa,Zh];lia))
  rw[stored_new nk]at hd2
  have pi:g2.DictOf knd d ((rows.take (i+1)).map λr=>(r.k,r.val)):=by
   rw[Qm lt,Qn];exact hd2
  have k2:∀b o,b≠d→b≠I→s.heap.get? b=some o→g2.get? b=some o:=λb o gJ cb e=>(sb2.2 b gJ).trans (k1 b o cb e)
  have hc:((i:Int)+1)=((i+1:Nat):Int):=by push_cast;rfl
  refine wpAny_pure ⟨plainId_quiet zdg _,?_⟩
  rw[hc]
  refine ih (i+1) _ (by lia) lt ?_ ?_ (λr nQ=>?_) pi λg3 tk3 k3 uZ=>?_
  ·obtain ⟨o,q,z⟩:=ag
   exact⟨o,(sb2.2 I (Qu uY)).trans q,z⟩
  ·obtain ⟨o,q,z⟩:=hl
   exact⟨o,k2 l o (Qu lJ) hlI q,z⟩
  ·obtain ⟨q1,q2⟩:=hR r nQ
   exact⟨k2 _ _ (hr r nQ).1 (hr r nQ).2 q1,q2⟩
  ·exact hQ g3 tk3 (λb o gJ cb e=>k3 b o gJ cb (k2 b o gJ cb e)) uZ
def call{l:Nc}{rows:List (Row K)}{Q:Nb}{xk:Nat}(hh:A.handled=none)(hl:s.heap.get? l=some {cls:=.type "list",data:=.seq (rows.map λr=>Value.ref r.a).toArray xk})(hR:∀r∈rows,RowAt knd s.heap r)(nd:(rows.map (·.k)).Nodup)(hz:rows.length≤sizeLine)(h:∀g tk,g.DictOf knd s.heap.objs.size (rows.map λr=>(r.k,r.val))→(∀b o,s.heap.get? b=some o→g.get? b=some o)→Q (.ref s.heap.objs.size) {s with heap:=g,toks:=tk}) :
  wpAny (model prog w) A (call (.type "dict") [.ref l]) Q E s:=by
 refine callType_codes (Q₁:=λobj s₁=>obj=.ref s.heap.objs.size∧s₁={s with heap:=s.heap.push {cls:=.type "dict",data:=.dict #[]}}) PySem.F.kt_called_dict (PySem.F.kt_typeCall_dict_1 _) PySem.F.entry_dict_init (kt_code_dict_new _ ⟨rfl,rfl⟩) ?_
 rintro obj s₁ ⟨rfl,rfl⟩
 have aZ:(s.heap.push {cls:=.type "dict",data:=.dict #[]}).DictOf knd s.heap.objs.size []:=Heap.DictOf.new s.heap
 refine⟨aZ.typeIs,PySem.F.args_dict_init_2 _ _,?_⟩
 unfold Builtin.«dict.__init__»
 refine wpAny_bind ?_
 unfold Builtin.Dict.selfAndRest
 refine wpAny_bind (wpAny_notOrdered_dict aZ.typeIs (show wpAny _ _ (pure (s.heap.objs.size,[Value.ref l])) _ _ _ from wpAny_pure ?_))
 show wpAny _ _ (Builtin.Dict.updateFrom "dict.__init__" s.heap.objs.size (.ref l) [] .none) _ _ _
 unfold Builtin.Dict.updateFrom
 have bJ:(s.heap.push {cls:=.type "dict",data:=.dict #[]}).get? l=some {cls:=.type "list",data:=.seq (rows.map λr=>Value.ref r.a).toArray xk}:=Qi _ hl
 refine wpAny_bind (wpAny_typeOf (T := "list") ⟨_,bJ,rfl⟩ ?_)
 rw[if_pos (by decide)]
 refine wpAny_bind (no_keys bJ (by first | exact hh | (show A.handled=none;exact hh)) λg tk kg=>?_)
 simp only[Option.isNone_none,if_true]
 refine wpAny_bind (wpAny_rule ?_)
 have ltl:l<s.heap.objs.size:=Qr hl
 have dg:g.DictOf knd s.heap.objs.size []:=by
  obtain⟨o,es,ep,q,z⟩:=aZ
  exact⟨o,es,ep,kg _ _ q,z⟩
 have hlg:g.IsList l (rows.map λr=>Value.ref r.a).toArray:=⟨_,kg _ _ bJ,rfl,xk,rfl⟩
 have ltd:s.heap.objs.size<g.objs.size:=by
  obtain⟨o,es,ep,q,z⟩:=dg
  exact Qr q
 have lts:∀b o,s.heap.get? b=some o→b≠s.heap.objs.size∧b≠g.objs.size:=λb o e=>⟨Zc (Qr e),Zc (Wm (Qr e) ltd)⟩
 refine wpAny_bind (wpAny_pyIter_list (s:={s with heap:=g,toks:=tk}) hlg (wpAny_pure ⟨plainId_quiet zdg _,?_⟩))
 refine loop (knd:=knd) (I:=g.objs.size) (l:=l) (by first | exact hh | (show A.handled=none;exact hh)) rows s.heap.objs.size (Zc ltd) (Yb ltl) (Zc (Wm ltl ltd)) (λr hr=>lts r.a r.o (hR r hr).1) nd hz _ 0 _ rfl (Zg _) ⟨_,Zd _ rfl,rfl,rfl⟩ ?_ (λr hr=>?_) ?_ λg2 tk2 k2 hd=>?_
 ·obtain ⟨o,q,z⟩:=hlg
  exact⟨o,Qi _ q,z⟩
 ·obtain ⟨q1,q2⟩:=hR r hr
  exact⟨Qi _ (kg _ _ (Qi _ q1)),q2⟩
 ·exact dg.push _
 ·exact⟨rfl,h g2 tk2 hd λb o e=>k2 b o (lts b o e).1 (lts b o e).2 (Qi _ (kg _ _ (Qi _ e)))⟩
end
end DictR
end
section
namespace L2
open PySem PySem.Spec PyProof.Rows
section
variable{X:Cx}
abbrev RowsAt(H:Hp):List Addr→List (Str×V)→Prop:=Paired λa p=>H a=some (.tup [.str p.1,p.2])
theorem rows_of(I:Inv X aa σ H s):∀{as:Nn} {ps:List (Str×V)},RowsAt H as ps →
  ∃rows:List (DictR.Row Key),rows.map (·.a)=as∧(∀r∈rows,DictR.RowAt (zar X.prog X.w) s.heap r)∧rows.map (·.k)=ps.map (λp=>Sum.inr p.1)∧KV (ps.map λp=>((Sum.inr p.1:Key),p.2)) (rows.map λr=>(r.k,r.val))
 |_,_,.nil=>⟨[],rfl,λr hr=>(by cases hr),rfl,.nil⟩
 | a::as,p::ps,.cons h t=>by
  obtain⟨rows,e1,e2,e3,e4⟩:=rows_of I t
  obtain⟨_,ae,r,o,q,c,n,d⟩:=I.hok a _ h
  obtain⟨u,w',rfl,⟨tk,rfl⟩,rz⟩:=vals2 r
  refine⟨⟨a,o,Sum.inr p.1,.str p.1 tk,w',n⟩::rows,by rw[Ql,e1],λx hx=>?_,by rw[Ql,Ql,e3],.cons ⟨rfl,rz⟩ e4⟩
  rcases Qe.mp hx with z | z
  ·subst z
   exact⟨q,c,d,zft _ _ _ _⟩
  ·exact e2 x z
def zgh(hc:X.calm=true):zcc X (.type "dict") (fun xs H Q=>Ex3 fun (p:Nc) (as:Nn) (ps:List (Str×V))=>Aj5 (xs=[.ref p]) (H p=some (.lst (as.map V.ref))) (RowsAt H as ps) ((ps.map (·.1)).Nodup) (∀ l,H l=none→Q (.ref l) (upd H l (.dK (ps.map fun p=>((Sum.inr p.1:Key),p.2)))))):=by
 intro aa s σ H xs us Q I r h
 obtain⟨p,as,ps,rfl,hp,hr,nd,q⟩:=h
 obtain⟨u,rfl,rx⟩:=vals1 r
 cases rx
 obtain⟨hz,ae,n,rv,hl,e⟩:=I.lstM hp
 obtain⟨rows,e1,e2,e3,e4⟩:=rows_of I hr
 have eits:ae=rows.map λr=>Value.ref r.a:=by
  have dY:=e1
  clear hz hl e hp e4 e3 e2 hr e1 q
  induction rows generalizing as ae with
  |nil=>subst dY;cases rv;rfl
  | cons r rs ih =>
   cases as with
   |nil=>cases dY
   | cons a as =>
    rw[Ql]at dY rv
    injection dY with h1 h2
    cases rv with
    |cons r1 r2 =>
     cases r1
     rw[Ql,h1,ih _ _ r2 h2]
 subst eits
 have ah:rows.length≤sizeLine:=by rw[Qa]at hz hl;rw[Qa]at hl;exact zdp ‹_› ‹_›
 have ndk:(rows.map (·.k)).Nodup:=by
  rw[e3,show(λp:Str×V=>(Sum.inr p.1:Key))=(Sum.inr:Str→Key)∘(λp:Str×V=>p.1) from rfl,←Zi]
  exact List.Pairwise.map _ (λa b z q=>z (Ws q)) nd
 refine DictR.call (knd:=zar X.prog X.w) (rows:=rows) (xk:=n) (I.ok.hd hc) e e2 ndk ah λg tk hd k=>?_
 have nS:(s.heap.objs.size==sysModules)=false:=beq_eq_false_iff_ne.mpr (Yb I.big)
 refine⟨.ref _,_,I.laid (t':=tk) k (Qg _) (show zbi X.prog X.w _ g _ (.dK _) from⟨?_,nS,_,e4,hd⟩),rfl,q _ (I.hok.fresh (Qg _))⟩
 have:=Yo e4
 rw[Qa,Qa]at this
 rw[Qa];omega
end
def zh4{prog:Ni}{w:Nk}{A:Nm}{s:Ng}{kx vx target iter:Expr}{ifs:No}{scope:Scope}{pos:Pos}{it:Value}{D:Nc}{env:Env}{R:Nt}(I:Nat→Shared→Prop)(turn:∀ n s,I n s→wpAny (model prog w) A (pyNext it) (fun r s₁=>match r with
   |none=>R (.ok .next) s₁
   | some v=>wpAny (model prog w) A (letOwnedTupleGo target it v) (fun _ s₁'=>wpAny (model prog w) A (assign target env v) (fun _ s₂ =>
     wpAny (model prog w) A (forIn ifs true λc r=>if r=true then do let ok ←isTrue c env (eval c env);pure (ForInStep.yield ok) else pure (ForInStep.yield r)) (λok s₃ =>
      if ok=true then wpAny (model prog w) A (eval kx env) (λkv s₄=>wpAny (model prog w) A (eval vx env) (λvv s₅ =>
       wpAny (model prog w) A (dictSet D kv vv) (λ_ s₆=>∃m,m<n∧I m s₆) (λ_ _=>False) s₅) (λ_ _=>False) s₄) (λ_ _=>False) s₃
      else ∃m,m<n∧I m s₃) (λ_ _=>False) s₂) (λ_ _=>False) s₁') (λ_ _=>False) s₁) (λ_ _=>False) s)(n:Nat)(h:I n s):codeAny (model prog w) A (.compLoop (.DictComp kx vx [⟨target,iter,ifs,0⟩] scope pos) 0 it (.ref D) env) R s:=by
 refine codeAny_loop rfl I (λn s hI=>?_) n h
 show wpAny _ A ((compTurn (.DictComp kx vx [⟨target,iter,ifs,0⟩] scope pos) 0 it (.ref D) env).onRaise (λx=>do noteFrame x env;theTreesLotGoes x)) _ _ s
 refine wpAny_noted ?_
 rw[compTurn_dict]
 refine wpAny_bind (wpAny_standAt (wpAny_bind (wpAny_mono (turn n s hI) (λr s₁ h₁=>?_) λ_ _ h'=>h'.elim)))
 cases r with
 |none=>exact wpAny_pure h₁
 | some v =>
  refine wpAny_bind (wpAny_mono h₁ (λ_ s₁' h₁'=>?_) λ_ _ h'=>h'.elim)
  refine wpAny_bind (wpAny_mono h₁' (λ_ s₂ h₂=>wpAny_bind (wpAny_mono h₂ (λok s₃ h₃=>?_) λ_ _ h'=>h'.elim)) λ_ _ h'=>h'.elim)
  cases ok with
  |false=>exact wpAny_pure ⟨rfl,h₃⟩
  |true =>
   exact wpAny_bind (wpAny_bind (wpAny_mono h₃ (λkv s₄ h₄=>wpAny_bind (wpAny_holding (wpAny_mono h₄ (λvv s₅ h₅=>wpAny_bind (wpAny_standAt (wpAny_holding (wpAny_mono h₅ (λ_ s₆ h₆=>wpAny_pure ⟨rfl,h₆⟩) λ_ _ h'=>h'.elim)))) λ_ _ h'=>h'.elim))) λ_ _ h'=>h'.elim))
section
variable{X:Cx}{sc:Scope}{M:Nh}{ix:Nq}{aa:Nd}{σ:St}{H:Hp}{s:Ng}
def rDC(g:TG)(tc:TT)(tk tv:TE)(Q:VK)(J:It)(τ:St)(H1:Hp):Prop:=∃W:Nat→Nat→List (Key×V)→St→Hp→Prop,(∃m,W 0 m [] τ H1)∧∀i m ys τ H,W i m ys τ H →
 (J.stop i H∧∀D,H D=none→Q (.ref D) (upd H D (.dK ys))) ∨
 (J.go i H∧ys.length<sizeLine∧∀x H',J.yld i H x H'→g x τ H' λ τ2 H2=>tc τ2 H2 λb H3=>if b=true then tk τ2 H3 λkv H4=>tv τ2 H4 λy H5=>∃k,kv=kV k∧∃m',m'<m∧W (i+1) m' (putK ys k y) τ2 H5 else ∃m',m'<m∧W (i+1) m' ys τ2 H3)
def tDC(ix:Nq)(wi:TI)(g:TG)(tc:TT)(tk tv:TE):TE:=λ σ H Q=>wi σ H λJ H1=>rDC g tc tk tv Q J (inner ix σ) H1
def dc_block{tg kx vx iter:Expr}{ifs:No}{pos:Pos}{g:TG}{tc:TT}{tk tv:TE}{fp:Nn}{it:Nc}{tn:Nat→Heap→Prop}{J:It}{Q:VK}{RR:Value→Addr→Result→Shared→Prop}{E:Nb}(B:Blk X sc M ix)(hc:X.calm=true)(hg:∀C ex s H,PG (zc0 X sc M C aa ex s H) tg g)(ht:∀C ex s H,PTs (zc0 X sc M C aa ex s H) ifs tc)(hk:∀C ex s H,PE (zc0 X sc M C aa ex s H) kx tk)(he:∀C ex s H,PE (zc0 X sc M C aa ex s H) vx tv)(I:Inv X aa σ H s)(T:Turn X.prog X.w X.K tg J fp it tn)(h0:tn 0 s.heap)(hf:∀b∈fp,FpOk X aa H b)(q:rDC g tc tk tv Q J (inner ix σ) H)(pL:∀D C m ys H' s',Inv X aa σ (upd H' D (.dK ys)) s'→Q (.ref D) (upd H' D (.dK ys))→s'.heap.Ns C m→upd H' D (.dK ys) C=none→s.heap.objs.size<C→RR (.ref D) C (.ok .next) s') :
  wpAny (model X.prog X.w) X.A newDict (λao s₃=>wpAny (model X.prog X.w) X.A (newFunctionEnv sc X.env.globals (clOf sc X.env) [] X.env.qual none .none (some X.env)) (λcenv s₄ =>
   codeAny (model X.prog X.w) X.A (.compStart (.DictComp kx vx [⟨tg,iter,ifs,0⟩] sc pos) 0 (.ref it) ao {cenv with scope:=relabel sc X.env}) (RR ao cenv.locals) s₄) E s₃) E s:=by
 refine wpAny_newObj_type (wpAny_newFunctionEnv B.nocell (by intro y hy;simp at hy) (λh₁ hns₁ hsb₁=>?_) B.kind)
 dsimp only at hns₁ hsb₁ ⊢
 generalize hD:s.heap.objs.size=D at hns₁ hsb₁ ⊢
 generalize je:s.heap.push {cls:=.type "dict",dict:=none,data:=.dict #[]}=g2 at hns₁ hsb₁ ⊢
 have hC:g2.objs.size=D+1:=by rw[←je,Wq,hD]
 have k2:∀b o,s.heap.get? b=some o→g2.get? b=some o:=λb o e=>by rw[←je];exact Qi _ e
 have I3:Inv X aa σ H {s with heap:=g2}:=I.kept (t':=s.toks) k2
 have HD:H D=none:=I.hok.fresh (by rw[hD];exact Qg _)
 have fD:FpOk X aa H D:=I.fpOk (by rw[hD];exact Qg _) HD
 have D2:g2.get? D=some {cls:=.type "dict",dict:=none,data:=.dict #[]}:=by rw[←je,←hD];exact Zd _ rfl
 have nS:(D==sysModules)=false:=beq_eq_false_iff_ne.mpr (by rw[←hD];exact Yb I.big)
 have k1:∀b o,g2.get? b=some o→h₁.get? b=some o:=λb o e=>by
  have hb:b≠g2.objs.size:=Zc (Qr e)
  exact(hsb₁.2 b hb).trans (Qi _ e)
 have DN:h₁.DictOf (zar X.prog X.w) D []:=by
  have q:g2.DictOf (zar X.prog X.w) D []:=by rw[←je,←hD];exact Heap.DictOf.new s.heap
  obtain⟨o,es,ep,e,r⟩:=q
  exact⟨o,es,ep,k1 _ _ e,r⟩
 have fpx:∀b∈D::fp,FpOk X aa H b:=λb hb=>by
  rcases Qe.mp hb with e | e
  ·rw[e];exact fD
  ·exact hf b e
 have fplt:∀b∈D::fp,b<g2.objs.size:=λb hb=>by
  rcases Qe.mp hb with e | e
  ·rw[e,hC];exact Yr _
  ·obtain ⟨o,q,_⟩:=T.obj _ _ h0 b e
   exact Qr (k2 b o q)
 have fpD:D∉fp:=λhm=>by
  obtain⟨o,q,_⟩:=T.obj _ _ h0 D hm
  have:=Qr q
  rw[hD]at this
  exact Yp _ this
 generalize aF:zc0 X sc M g2.objs.size aa (D::fp) {s with heap:=g2} H=Y
 have IY:Inv Y [] (inner ix σ) H {s with heap:=h₁,toks:=s.toks+([]:List (Str×Value)).length}:=by
  rw[←aF]
  exact inv_blk B I3 fpx fplt rfl hns₁ k1 rfl rfl
 have Yg:=aF▸hg g2.objs.size (D::fp) {s with heap:=g2} H
 have Yt:=aF▸ht g2.objs.size (D::fp) {s with heap:=g2} H
 have Yk:=aF▸hk g2.objs.size (D::fp) {s with heap:=g2} H
 have Ye:=aF▸he g2.objs.size (D::fp) {s with heap:=g2} H
 have eP:Y.prog=X.prog:=by rw[←aF];rfl
 have eW:Y.w=X.w:=by rw[←aF];rfl
 have eK:Y.K=X.K:=by rw[←aF];rfl
 have eA:Y.A=X.A:=by rw[←aF];rfl
 have eC:Y.calm=true:=by rw[←aF];exact hc
 have eE:Y.env=compEnvC sc (clOf sc X.env) g2.objs.size X.env:=by rw[←aF];rfl
 have eX:Y.xe=λ_ _=>False:=by rw[←aF];rfl
 have eEx:Y.ex=D::fp:=by rw[←aF];rfl
 have eFs:Y.fs=frs X.stack:=by rw[←aF];rfl
 have ePn:Y.pn=X.pn++aa:=by rw[←aF];rfl
 have eL:Y.env.locals=g2.objs.size:=by rw[eE];rfl
 have vq:Y.H₀=H:=by rw[←aF];rfl
 have pX:Y.s₀={s with heap:=g2}:=by rw[←aF];rfl
 have fY:∀{H':Hp} {pl:Nd} {b:Nc},b∈D::fp→H' b=none→(∀p∈pl,p.1≠b)→FpOk Y pl H' b:=λ{H' pl b} hb hn hp=>by
  obtain⟨f0,f1,f2,f3,f4,f5⟩:=fpx b hb
  refine⟨hn,?_,?_,.inl (by rw[eEx];exact hb),IY.ok.exf b (by rw[eEx];exact hb) |>.2,λp i8=>?_⟩
  ·rw[eL];exact Zc (fplt b hb)
  ·rw [eFs]
   intro z
   rcases Qe.mp (I3.stkSub b z) with q | q
   ·exact f1 q
   ·exact f2 q
  ·rw [ePn] at i8
   rcases Qj.mp i8 with z | z
   ·exact f5 p z
   ·exact hp p z
 obtain⟨W,⟨m0,w0⟩,turn⟩:=q
 have loop:∀ sN:Shared,sN={ s with heap:=h₁,toks:=s.toks+([]:List (Str×Value)).length } →
   codeAny (model X.prog X.w) X.A (.compLoop (.DictComp kx vx [⟨tg,iter,ifs,0⟩] sc pos) 0 (.ref it) (.ref D) (compEnvC sc (clOf sc X.env) g2.objs.size X.env)) (RR (.ref D) g2.objs.size) sN:=by
  rintro sN rfl
  refine zh4 (λn s'=>Ex5 λi τ H' ys vs=>Aj7 (Inv Y [] τ H' s') (tn i s'.heap) (∀b∈D::fp,H' b=none) (s'.heap.DictOf (zar X.prog X.w) D vs) (KV ys vs) (ys.length≤sizeLine) (W i n ys τ H')) ?_ m0
   ⟨0,inner ix σ,H,[],[],IY,T.keep _ _ _ h0 λb _ o e=>k1 b o (k2 b o e),λb hb=>(fpx b hb).1,DN,.nil,Zg _,w0⟩
  rintro n s5 ⟨i,τ,H5,ys,vs,I5,t5,n5,dd5,v5,z5,w5⟩
  obtain⟨o5,vo,vp,d5,rp⟩:=id dd5
  have nc5:∀v,o5.data≠.cell v:=λv z=>by
   obtain⟨_,q,_⟩:=rp
   rw[q]at z;cases z
  have oD:∀b∈[D],∃o,s5.heap.get? b=some o∧∀v,o.data≠.cell v:=λb hb=>by
   rw[Qb.mp hb]
   exact⟨_,d5,nc5⟩
  have lg:Inv Y ([]++zcm [D] s5.heap) τ H5 s5:=I5.pinned (λb hb=>fY (by rw[Qb.mp hb];exact Qc) (n5 b (by rw[Qb.mp hb];exact Qc)) (by simp)) oD
  have pD:∀p∈zcm [D] s5.heap,p.1=D∧p.2=o5:=λp hp=>by
   obtain⟨e1,e2⟩:=zfr hp
   have dY:p.1=D:=Qb.mp e1
   rw[dY,d5]at e2
   exact⟨dY,(Qk e2).symm⟩
  have fN:∀{H':Hp},(∀b∈fp,H' b=none)→∀b∈fp,FpOk Y ([]++zcm [D] s5.heap) H' b:=λhn b hb=>fY (Qf _ hb) (hn b hb) λp hp z=>by
   rw[Js]at hp
   rw[(pD p hp).1]at z
   exact fpD (z▸hb)
  rcases turn i n ys τ H5 w5 with⟨stop,qn⟩ | ⟨go,zl,step⟩
  ·have h6:=T.done Y eP eW eK eC i _ s5 τ H5 (fun _ _=>False) lg (fN fun b hb=>n5 b (Qf _ hb)) t5 stop
   rw[eA]at h6
   refine thn h6 λr s6 ⟨hr,I6⟩=>?_
   subst hr
   have d6:s6.heap.get? D=some o5:=by
    have hp:=zbz (fp:=[D]) (Qb.mpr rfl) d5
    exact(I6.pin (D,_) (Qo _ hp)).1
   have H5D:H5 D=none:=n5 D Qc
   obtain⟨mL,nL,_⟩:=I6.loc
   rw[eL]at nL
   have CD:g2.objs.size≠D:=by rw[hC];exact Ku _
   refine pL D _ mL ys H5 s6 ?_ (qn D H5D) nL ?_ (by rw[hC,hD];exact Yr _)
   ·have u6:=I6.base
    rw[eFs,eEx,vq,pX]at u6
    refine I3.call' (ch:=D::fp) (I6.os.trans (by rw[pX])) ⟨u6.keep,u6.slot,λb o e n hx=>?_,u6.there,λb xs e=>?_,λb o u e=>?_,λb ps e=>?_⟩ ?_ I6.bare λb hb=>?_
    ·rw[zad (λz=>hx (by rw[z];exact Qc))];exact u6.free b o e n hx
    ·rw[zad (zab e HD)];exact u6.tups b xs e
    ·rw[zad (zab e HD)];exact u6.frzs b o u e
    ·rw[zad (zab e HD)];exact u6.tbls b ps e
    ·have mh:=I6.hok
     rw[eP,eW]at mh
     intro b u e
     by_cases hb:b=D
     ·subst hb
      rw[zac]at e
      cases e
      exact⟨z5,nS,vs,v5,o5,vo,vp,d6,rp⟩
     ·rw [zad hb] at e
      exact(mh b u e).stay (λc v _ q=>q) (λc q=>by rw[zad (zab q H5D)];exact q) λc xs q=>by rw[zad (zab q H5D)];exact q
    ·obtain ⟨f0,f1,f2,f3,f4,f5⟩:=fpx b hb
     exact⟨f3,f1,f4,f5⟩
   ·rw [zad CD]
    have:=I6.free
    rw[eL]at this
    exact this
  ·have h6:=T.item Y eP eW eK eC i _ s5 τ H5 (fun _ _=>False) lg (fN fun b hb=>n5 b (Qf _ hb)) t5 go
   rw[eA]at h6
   refine thn h6 λr s6 ⟨u,hr,h7⟩=>?_
   subst hr
   refine thn h7 λ_ s7 ⟨x,H7,I7,r7,y7,t7,n7⟩=>?_
   have w4:=I7.pinned (fN n7) (T.obj _ _ t7)
   have h8:=Yg _ s7 τ H7 x u _ w4 r7 (step x H7 y7)
   rw[eP,eW,eA,eX,eE]at h8
   refine thn h8 λ_ s8 ⟨τ8,H8,I8,q8⟩=>?_
   have h9:=Yt _ s8 τ8 H8 _ I8 q8
   rw[eP,eW,eA,eX,eE]at h9
   refine thn h9 λok s9 ⟨H9,I9,q9⟩=>?_
   have again:∀{τ':St} {H':Hp} {s':Ng},Inv Y (([]++zcm [D] s5.heap)++zcm fp s7.heap) τ' H' s'→s'.heap.get? D=some o5∧H' D=none∧tn (i+1) s'.heap∧∀b∈fp,H' b=none:=λ{τ' H' s'} I'=>by
    have pp:∀{b:Nc} {o:Obj},b∈fp→s7.heap.get? b=some o→s'.heap.get? b=some o∧H' b=none:=λ{b o} hb e =>
     let z:=I'.pin (b,o) (Qo _ (Qo _ (zbz hb e)))
     ⟨z.1,z.2.1⟩
    have hp:=zbz (fp:=[D]) (Qb.mpr rfl) d5
    have z:=I'.pin (D,_) (Qo _ (Qp _ hp))
    refine⟨z.1,z.2.1,T.keep _ _ _ t7 λb hb o e=>(pp hb e).1,λb hb=>?_⟩
    obtain⟨o,e,_⟩:=T.obj _ _ t7 b hb
    exact(pp hb e).2
   have drop:∀{pl:Nd} {τ':St} {H':Hp} {s':Ng},Inv Y pl τ' H' s'→Inv Y [] τ' H' s':=λI'=>I'.pins_of (by simp)
   cases ok with
   |false =>
    rw[if_neg (by decide)]at q9 ⊢
    obtain⟨m',hm,w9⟩:=q9
    obtain⟨d9,H9D,t9,n9⟩:=again I9
    exact⟨m',hm,i+1,τ8,H9,ys,vs,drop I9,t9,λb hb=>(Qe.mp hb).elim (λe=>e▸H9D) (n9 b),⟨o5,vo,vp,d9,rp⟩,v5,z5,w9⟩
   | true =>
    rw[if_pos rfl]at q9 ⊢
    have iI:=Yk _ s9 τ8 H9 _ I9 q9
    rw[eP,eW,eA,eX,eE]at iI
    refine thn iI λkv jm ⟨kw,cQ,rJ,qi,q10⟩=>?_
    have vn:=Ye _ jm τ8 cQ _ rJ q10
    rw[eP,eW,eA,eX,eE]at vn
    refine thn vn λy rP ⟨yv,lh,rH,r11,kk,ek,m',hm,w11⟩=>?_
    subst ek
    obtain⟨d11,H11D,t11,n11⟩:=again rH
    have vw:rP.heap.DictOf (zar X.prog X.w) D vs:=⟨o5,vo,vp,d11,rp⟩
    have ko:(zar X.prog X.w).is kk kv=true:=by
     cases kk with
     |inl i=>obtain⟨t,rfl⟩:=qi;exact keyIs_int i t
     |inr x=>obtain⟨t,rfl⟩:=qi;exact keyIs_str x t
    refine wpAny_dictSet_pairs (knd:=zar X.prog X.w) ko vw (λh' iw sb=>?_) (by rw[←Yo v5];assumption)
    have kkp:∀b o,b≠D→rP.heap.get? b=some o→h'.get? b=some o:=λb o hb e=>(sb.2 b hb).trans e
    obtain⟨g0,g1,g2',g3,g4,g5⟩:=fY (pl:=[]) (H':=lh) (b:=D) Qc H11D (by simp)
    have I12:=(drop rH).turned (h':=h') (t':=rP.toks+1) (it:=D) kkp H11D g1 g3 g4 g5
    refine⟨m',hm,i+1,τ8,lh,putK ys kk yv,stored vs kk y,I12,T.keep _ _ _ t11 λb hb o e=>kkp b o (λz=>fpD (z▸hb)) e,λb hb=>(Qe.mp hb).elim (λe=>e▸H11D) (n11 b),iw,v5.put kk r11,?_,w11⟩
    unfold putK
    split
    ·rw[Qa];exact z5
    ·rw[Qt,Xh];assumption
 exact codeAny_compStart_dict (loop _ rfl) (T.self _ 0 _ _ _ (T.keep _ _ _ h0 λb _ o e=>k1 b o (k2 b o e)) (loop _ rfl))
def ps_dc(hN:X.N.Nodup)(dh:X.N[i]?=some y)(hy:X.env.scope.names.lookup y=some .local)(B:Blk X sc M ix)(hc:X.calm=true)(hi:PI X tg iter wi)(hg:∀C aa ex s H,PG (zc0 X sc M C aa ex s H) tg g)(ht:∀C aa ex s H,PTs (zc0 X sc M C aa ex s H) ifs tc)(hk:∀C aa ex s H,PE (zc0 X sc M C aa ex s H) kx tk)(he:∀C aa ex s H,PE (zc0 X sc M C aa ex s H) vx tv)(sY:swapsWith (.DictComp kx vx [⟨tg,iter,ifs,0⟩] sc pos) (some (.Name y py)) spos.line X.env=pure true)(hs:∀x,foldedSetIterable iter X.env x=pure x:=by intro _;rfl):PS X (.Assign [.Name y py] (.DictComp kx vx [⟨tg,iter,ifs,0⟩] sc pos) spos) (tAsg (tDC ix wi g tc tk tv) (gName i)):=by
 intro aa s σ H D' I h
 rw[exec_Assign_Name_used _ _ _ _ sY]
 refine wpAny_bind (wpAny_standAt (wpAny_bind ?_))
 show wpAny _ X.A (do let _ ←comprehension (.DictComp kx vx [⟨tg,iter,ifs,0⟩] sc pos) sc X.env _ newDict false (eval iter X.env) (some (assign (.Name y py) X.env))) _ _ s
 refine wpAny_bind (wpAny_mono (wpAny_comprehension_free (use:=some (assign (.Name y py) X.env)) (Q:=λ_ s'=>SP X aa D' .next s') rfl hs (zcl (B.clos I)) B.kind B.names
  (thn (hi aa s σ H _ I h) λv s1 h1=>thn h1 λitv s2 h2=>?_)) (λ_ s' hq=>wpAny_pure (wpAny_pure hq)) λ_ _ e=>e)
 obtain⟨it,fp,tn,J,H2,e,I2,T,cc,f2,q⟩:=h2
 subst e
 refine dc_block (RR:=λao C=>compPost (model X.prog X.w) X.A X.xe (some (assign (.Name y py) X.env)) (λ_ s'=>SP X aa D' .next s') ao C) B hc (hg · aa) (ht · aa) (hk · aa) (he · aa) I2 T cc f2 q ?_
 intro D C m ys H' s' I' q' hn hC ai
 show wpAny _ X.A (assign (.Name y py) X.env (.ref D)) _ _ s'
 refine wpAny_assign_Name (zfk I' hN dh (.inl hy) (v:=.ref D) rfl (λmf w6 ⟨a,sb,ha⟩=>?_) (.inr hy))
 have aC:C≠a:=by
  rcases ha with z | z
  ·rw[z];exact Yb (Wm I2.lt ai)
  ·exact Yb (Wm (I2.cl_lt _ _ z) ai)
 have ba:=hn.sameBut sb aC
 exact⟨m,ba,λh' aO=>⟨_,_,w6.letgo ba hC I2.lt I2.cl_lt I2.pin_lt I2.sz ai aO,q'⟩⟩
end
section
variable{prog:Ni}{w:Nk}{A:Nm}{s:Ng}{elt tg1 it1 target iter:Expr}{ifs:No}{scope:Scope}{pos:Pos}{it ao:Value}{env:Env}{R:Nt}
end
section
variable{X:Cx}{sc:Scope}{M:Nh}{ix:Nq}{aa:Nd}{σ:St}{H:Hp}{s:Ng}
end
end L2
end
section
namespace RawD
open PySem PyProof.Rows PySem.W
def At(h:Nl)(a:Nc)(es:Array DictEntry)(ep:Nat):Prop:=∃o,h.get? a=some o∧o.ExactDict∧o.data=.dict es ep
def At.typeIs{s:Ng}{a:Nc}{es:Array DictEntry}{ep:Nat}(x:At s.heap a es ep):s.TypeIs (.ref a) "dict" := let⟨o,e,c,_⟩:=x;⟨o,e,c.1⟩
def At.keep{h g:Nl}{a:Nc}{es:Array DictEntry}{ep:Nat}(x:At h a es ep)(k:∀o,h.get? a=some o→g.get? a=some o):At g a es ep:=let⟨o,e,r⟩:=x;⟨o,k _ e,r⟩
section
variable{prog:Ni}{w:Nk}{A:Nm}{E:Nb}{s:Ng}{d:Nc}{es:Array DictEntry}{ep:Nat}
def iter{Q:Nb}(nS:(d==sysModules)=false)(m:At s.heap d es ep)(q:Q (.ref s.heap.objs.size) {s with heap:=s.heap.push {cls:=.type "dict_keyiterator",data:=.fields #[.ref d,.int 0 0,.int es.size 0,.int ep 0]}}):wpAny (model prog w) A (pyIter (.ref d)) Q E s:=by
 obtain⟨o,ho,hc,hd⟩:=id m
 refine wpAny_pyIter_slot m.typeIs F.slot_dict_iter (wpAny_call_entry F.slot_dict_iter m.typeIs F.entry_dict_iter ?_ (F.args_dict_iter_1 _))
 unfold Builtin.«dict.__iter__»
 refine wpAny_bind ?_
 unfold Builtin.Dict.dictSlotNone
 refine wpAny_bind (wpAny_notOrdered_dict m.typeIs (show wpAny _ _ (pure (Value.ref d)) _ _ s from wpAny_pure ?_))
 show wpAny _ _ (Builtin.Dict.showsAll d >>= _) _ _ s
 unfold Builtin.Dict.showsAll
 rw[if_neg (by rw[nS];exact Zf)]
 refine wpAny_bind (wpAny_pure (wpAny_bind (wpAny_dictEntries ho hd (wpAny_bind (wpAny_dictEpoch ho hd ?_)))))
 refine wpAny_bind (wpAny_newObj_type (wpAny_pure ⟨_,rfl, "dict_keyiterator",_,⟨_,Zd _ rfl,rfl⟩,Wu.lookup,?_⟩))
 simpa[rawInt] using q
def item{j:Nc}{i:Nat}{Q:Option Value→Shared→Prop}(st:s.heap.IsKeyIter j d i es.size ep)(m:At s.heap d es ep)(hi:i<es.size)(hQ:∀g,g.IsKeyIter j d (i+1) es.size ep→Heap.SameBut j s.heap g→Q (some es[i].key) {s with heap:=g}):wpAny (model prog w) A (pyNext (.ref j)) Q E s:=by
 obtain⟨o,ho,hc,hd⟩:=id st
 obtain⟨od,ic,ar,kI⟩:=id m
 unfold pyNext
 refine wpAny_bind (wpAny_attempt (wpAny_callSpecial?_slot (name:=Str.ofString "__next__") st.typeIs Wu (wpAny_call_entry Wu st.typeIs F.entry_dict_keyiterator_next ?_ (F.args_dict_keyiterator_next_1 _))))
 refine wpAny_bind (wpAny_pure (wpAny_bind (wpAny_bind ?_)))
 first | refine wpAny_bind (wpAny_typeNameOfWhole_keyiter st.typeIs (wpAny_pure ?_)) | refine wpAny_bind (wpAny_typeNameOf_keyiter st.typeIs (wpAny_pure ?_))
 refine wpAny_bind (wpAny_fieldsOf ho hd ?_)
 have jZ:Builtin.Dict_items.ownsTuple "dict_keyiterator" = false:=by decide
 simp only[jZ,Ja,if_false]
 show wpAny _ _ (if(Value.ref d==.none)=true then _ else _) _ _ s
 rw[if_neg (show ¬((Value.ref d==.none)=true) from Zf)]
 refine wpAny_bind (wpAny_pure (wpAny_bind (wpAny_dictEntries ic kI ?_)))
 rw[if_neg (by simp)]
 refine wpAny_bind (wpAny_pure (wpAny_bind (wpAny_dictEpoch ic kI ?_)))
 rw[if_neg (by simp)]
 refine wpAny_pure ?_
 simp only[show ¬((i:Int)<0) from by lia,if_false,Uk,Ki hi]
 refine wpAny_bind ?_
 first | refine wpAny_bind (wpAny_typeNameOfWhole_keyiter st.typeIs (wpAny_pure ?_)) | refine wpAny_bind (wpAny_typeNameOf_keyiter st.typeIs (wpAny_pure ?_))
 refine wpAny_bind (wpAny_isOneOf_keyiter st.typeIs ?_)
 show wpAny _ _ (setField (.ref j) 1 (rawInt ((i:Int)+1)) >>= _) _ _ s
 refine wpAny_bind (wpAny_setField ho hd (by simp) ?_)
 have ag:(s.heap.update j (Obj.mapFields (·.setIfInBounds 1 (rawInt ((i:Int)+1))))).IsKeyIter j d (i+1) es.size ep :=
  ⟨_,Jx _ ho (Obj.isFreed_of_fields (Kt hd _)),(Obj.cls_mapFields ..).trans hc,by rw[Kt hd];simp[rawInt]⟩
 refine wpAny_bind (wpAny_holding (wpAny_bind (wpAny_isOneOf_keyiter (s:={s with heap:=s.heap.update j (Obj.mapFields (·.setIfInBounds 1 (rawInt ((i:Int)+1))))}) ag.typeIs ?_)))
 show wpAny _ _ (pure es[i].key) _ _ _
 exact wpAny_pure (wpAny_pure ⟨_,rfl,wpAny_pure (hQ _ ag (Km ..))⟩)
def done{j:Nc}{i:Nat}{Q:Option Value→Shared→Prop}(hh:A.handled=none)(st:s.heap.IsKeyIter j d i es.size ep)(m:At s.heap d es ep)(hi:es.size≤i)(hQ:∀g,Heap.ExtBut j s.heap g→Q none {s with heap:=g}):wpAny (model prog w) A (pyNext (.ref j)) Q E s:=by
 obtain⟨o,ho,hc,hd⟩:=id st
 obtain⟨od,ic,ar,kI⟩:=id m
 unfold pyNext
 refine wpAny_bind (wpAny_attempt (wpAny_callSpecial?_slot (name:=Str.ofString "__next__") st.typeIs Wu (wpAny_call_entry Wu st.typeIs F.entry_dict_keyiterator_next ?_ (F.args_dict_keyiterator_next_1 _))))
 refine wpAny_bind (wpAny_pure (wpAny_bind (wpAny_bind ?_)))
 first | refine wpAny_bind (wpAny_typeNameOfWhole_keyiter st.typeIs (wpAny_pure ?_)) | refine wpAny_bind (wpAny_typeNameOf_keyiter st.typeIs (wpAny_pure ?_))
 refine wpAny_bind (wpAny_fieldsOf ho hd ?_)
 have jZ:Builtin.Dict_items.ownsTuple "dict_keyiterator" = false:=by decide
 simp only[jZ,Ja,if_false]
 show wpAny _ _ (if(Value.ref d==.none)=true then _ else _) _ _ s
 rw[if_neg (show ¬((Value.ref d==.none)=true) from Zf)]
 refine wpAny_bind (wpAny_pure (wpAny_bind (wpAny_dictEntries ic kI ?_)))
 rw[if_neg (by simp)]
 refine wpAny_bind (wpAny_pure (wpAny_bind (wpAny_dictEpoch ic kI ?_)))
 rw[if_neg (by simp)]
 refine wpAny_pure ?_
 simp only[show ¬((i:Int)<0) from by lia,if_false,Uk,Array.getElem?_eq_none hi]
 refine wpAny_bind ?_
 first | refine wpAny_bind (wpAny_typeNameOfWhole_keyiter st.typeIs (wpAny_pure ?_)) | refine wpAny_bind (wpAny_typeNameOf_keyiter st.typeIs (wpAny_pure ?_))
 show wpAny _ _ (setField (.ref j) 0 .none >>= _) _ _ s
 refine wpAny_bind (wpAny_setField ho hd (by simp) ?_)
 show wpAny _ _ (newExc (.type "StopIteration") [] >>= _) _ _ _
 refine wpAny_bind ?_
 simp only[newExc,newTuple]
 refine wpAny_bind (wpAny_newObj_type (wpAny_bind (m:=firstArgMember _ _) (wpAny_of_eq (a:=Value.none) (by first | rfl | (simp only[firstArgMember];rfl)) (wpAny_newObj_type ?_ (by size_fits)))) (by size_fits))
 simp only[raiseNew]
 refine wpAny_bind (wpAny_handled ?_)
 first | rw[show A.in1.handled=none from hh] | rw[hh]
 refine wpAny_bind (wpAny_pure (wpAny_throw ?_))
 refine wpAny_bind (wpAny_isInstance (T := "StopIteration") (b:=true) ⟨_,Zd _ rfl,rfl⟩ isSubtype_stop ?_)
 exact wpAny_pure (hQ _ (((Km ..).extBut.push _).push _))
theorem src(nS:(d==sysModules)=false):KdlSrc prog w "dict" d d es.size (λi v=>∃e,es[i]?=some e∧v=e.key) (λh=>At h d es ep) where
 type:=λ_ m=>m.typeIs
 there:=λ_ m=>let⟨_,e,_⟩:=m;⟨Qr e,Qr e⟩
 keep:=λ_ _ m k=>m.keep λo e=>k d (.inl rfl) o e
 notList:=by decide
 notTuple:=by decide
 hint:=λ_ _ _ _ m q=>kdl_hint_dict m.typeIs q
 iter:=λA s hh m=>by
  have lt:d<s.heap.objs.size:=let⟨_,e,_⟩:=m;Qr e
  refine⟨_,λi h=>h.IsKeyIter s.heap.objs.size d i es.size ep∧At h d es ep,λ_ _ q=>iter nS m q,?_,⟨_,Zd _ rfl,rfl,rfl⟩,m.keep λo e=>Qi _ e⟩
  exact
   {sub:=fun b hb=>by simp at hb;simp [hb]
    frame:=λi h g st k=>⟨st.1.at λo e=>k _ (by simp) o e,st.2.keep λo e=>k d (by simp) o e⟩
    item:=λi s' Q E hi st hQ=>item st.1 st.2 hi λg a b=>hQ _ g s'.toks ⟨_,Ki hi,rfl⟩ ⟨a,st.2.keep λo e=>(b.2 d (Zc lt)).trans e⟩ λc o hc e=>(b.2 c (λz=>hc (by simp[z]))).trans e
    done:=λs' Q E st hQ=>done hh st.1 st.2 (Qg _) λg a=>hQ g s'.toks λc o hc e=>a c o (λz=>hc (by simp[z])) e
    self:=λ_ _ _ _ st q=>wpAny_pyIter_keyiter st.1 q}
end
end RawD
namespace L2
open PySem PySem.Spec PyProof.Rows Tm
def kP(q:Str×Str):List Key:=[Sum.inr q.1,Sum.inr q.2]
abbrev zbn(H:Hp):List Addr→List (Str×Str)→Prop:=Paired λb r=>H b=some (.tup [.str r.1,.str r.2])
section
variable{X:Cx}
def zdt{α β:Type}{R:α→β→Prop}{as dk:List α}(p:dk.Perm as):∀{bs:List β},Paired R as bs→∃lV,lV.Perm bs∧Paired R dk lV:=by
 induction p with
 |nil=>intro bs r;cases r;exact⟨[],.nil,.nil⟩
 | cons x q ih =>
  intro bs r
  cases r with
  |cons r1 r2 =>
   obtain⟨zs,h1,h2⟩:=ih r2
   exact⟨_::zs,h1.cons _,.cons r1 h2⟩
 | swap x y l =>
  intro bs r
  cases r with
  |cons r1 r2 =>
   cases r2 with
   |cons r3 r4=>exact⟨_,List.Perm.swap ..,.cons r3 (.cons r1 r4)⟩
 |trans _ _ ih1 ih2 =>
  intro bs r
  obtain⟨zs,h1,h2⟩:=ih2 r
  obtain⟨jj,h3,h4⟩:=ih1 h2
  exact⟨jj,h3.trans h1,h4⟩
def pairs_mem{H:Hp}{as:Nn}{qs:Nr}(r:zbn H as qs){a:Nc}(ha:a∈as):∃r:Str×Str,H a=some (.tup [.str r.1,.str r.2]):=by
 induction r with
 |nil=>cases ha
 |cons h t ih =>
  rcases Qe.mp ha with zz | zz
  ·subst zz;exact⟨_,h⟩
  ·exact ih zz
def zgf(hc:X.calm=true):zcc X (.builtin "sorted") (fun xs H Q=>Ex3 fun (d:Nc) (kvs:List (List Key×V)) (qs:Nr)=>Aj4 (xs=[.ref d]) (H d=some (.dT kvs)) (kvs.map (·.1)=qs.map kP) (∀ (l:Nc) (as:Nn) (ws:Nr),H l=none→ws.Perm qs→zbn H as ws→Q (.ref l) (upd H l (.lst (as.map V.ref))))):=by
 intro aa s σ H xs us Q I r h
 obtain⟨d,kvs,qs,rfl,hq,ek,q⟩:=h
 obtain⟨u,rfl,rx⟩:=vals1 r
 cases rx
 obtain⟨z,lo,ts,rk,o,es,ep,e1,e2,e3,e4,e5⟩:=(show zbi X.prog X.w H s.heap d (.dT kvs) from I.hok d _ hq)
 have l9:RawD.At s.heap d es ep:=⟨o,e1,e2,e3⟩
 have ah:kvs.length=ts.length:=Yo rk
 have bf:es.size=ts.length:=by rw[←Ys,e4,Qa]
 have iX:zbn H (ts.map λt=>t.2.1) qs:=by
  clear e4 e5 bf ah l9 z q hq
  induction rk generalizing qs with
  |nil =>
   cases qs with
   |nil=>exact .nil
   |cons a b=>cases ek
  | @cons p t ps ts' h1 t1 ih =>
   cases qs with
   |nil=>cases ek
   |cons a b =>
    rw[Ql,Ql]at ek
    injection ek with k1 k2
    refine .cons ?_ (ih _ k2)
    have:=h1.2.1
    rw[k1]at this
    exact this
 have ni:∀ao:Array Value,ItemsOf (λi v=>∃e,es[i]?=some e∧v=e.key) ao es.size→ao.toList=(ts.map λt=>t.2.1).map Value.ref:=λao hi=>by
  apply List.ext_getElem?
  intro i
  rw[Qq,Qq]
  by_cases ai:i<es.size
  ·have u8:i < ao.size:=by rw [hi.1];exact ai
   have a1:ao[i]?=some ao[i]:=Ki u8
   obtain⟨e,h1,h2⟩:=hi.2 i _ a1
   rw[Wz,a1,h2]
   have h3:es.toList[i]?=some e:=by rw[Wz];exact h1
   rw[e4,Qq]at h3
   cases ht:ts[i]? with
   |none=>rw[ht]at h3;cases h3
   |some t =>
    rw[ht]at h3
    have h4:entryOfKey (tupleKind (zar X.prog X.w)) t=e:=Qk h3
    rw[←h4];rfl
  ·have a1:ao.toList[i]?=none:=by rw [Wz];exact Array.getElem?_eq_none (by rw [hi.1];lia)
   have a2:ts[i]?=none:=Xj (by lia)
   rw[a1,a2];rfl
 have hvr:∀as:List Addr,Vals (as.map V.ref) (as.map Value.ref):=λas=>by
  induction as with
  |nil=>exact .nil
  |cons a r ih=>exact .cons rfl ih
 refine zeo (R:=λae ws=>ae.length<64→ws.Pairwise λx y=>(pairO strO strO).kle (kvP s.heap x) (kvP s.heap y)) (G:=λae=>ae=(ts.map λt=>t.2.1).map Value.ref) (λE' R hR=>zf6 (RawD.src lo) (show X.A.in1.handled=none from I.ok.hd hc) l9 (by lia) λg tk ao k le hi=>hR g tk _ k le (ni ao hi))
  (λae e=>by rw[e,Qa,Qa];exact zdp ‹_› ‹_›) (λae e A' E' s' _ k=>?_) λae ws l g tk e r p1 p2 le k he=>?_
 ·have all:∀ v∈ae,∃ x y t,ze8 s.heap v x (.str y t):=fun v hv=>by
   rw[e]at hv
   obtain⟨a,ha,rfl⟩:=Qh.mp hv
   obtain⟨rr,nQ⟩:∃r:Str×Str,H a=some (.tup [.str r.1,.str r.2]):=pairs_mem iX ha
   obtain⟨q',⟨t,rfl⟩,T⟩:=zg7 I nQ
   exact⟨_,_,t,T⟩
  refine zd4 k (λv hv=>let⟨x,y,t,T⟩:=all v hv;⟨x,_,T⟩) λv hv u hu x p q T T'=>.inr ?_
  obtain⟨_,y,t,T1⟩:=all v hv
  obtain⟨_,y',t',T2⟩:=all u hu
  exact⟨y,t,y',t',(ze9 T T1).2,(ze9 T' T2).2⟩
 ·subst r
  obtain⟨as,rfl,p3⟩:∃as:List Addr,ws=as.map Value.ref∧as.Perm (ts.map λt=>t.2.1):=by
   have key:∀{ws:Nj} {bs:Nn},ws.Perm (bs.map Value.ref)→∃as:List Addr,ws=as.map Value.ref∧as.Perm bs:=λ{ws bs} pm=>by
    have a2:∃as:List Addr,ws=as.map Value.ref:=by
     have a1:∀v∈ws,∃a,v=Value.ref a:=λv hv=>by
      obtain⟨a,_,e⟩:=Qh.mp (pm.mem_iff.mp hv)
      exact⟨a,e.symm⟩
     clear pm
     induction ws with
     |nil=>exact⟨[],rfl⟩
     |cons v r ih =>
      obtain⟨as,e⟩:=ih λv hv=>a1 v (Qf _ hv)
      obtain⟨x,e2⟩:=a1 v Qc
      exact⟨x::as,by rw[e,e2];rfl⟩
    obtain⟨as,rfl⟩:=a2
    refine⟨as,rfl,?_⟩
    have:=pm.map (λv=>match v with | .ref a=>a | _=>0)
    rw[Zi,Zi]at this
    simpa[Function.comp_def] using this
   exact key p1
  obtain⟨qs',q1,q2⟩:=zdt p3 iX
  refine⟨.ref l,_,I.laid (t':=tk) k le (show zbi X.prog X.w _ g _ (.lst _) from⟨?_,as.map Value.ref,e,hvr as,he⟩),rfl,q l as qs' (I.hok.fresh le) q1 q2⟩
  rw[Qa,p3.length_eq,Qa];exact zdp ‹_› ‹_›
end
end L2
end
section
set_option Elab.async false
set_option linter.all false
namespace L2
open PySem PySem.Spec PyProof.Rows
def fsk{N P:Nh}{sc:Scope}(a:sc.kind=.function:=by rfl)(b:sc.isCoroutine=false:=by rfl)(c:sc.isGenerator=false:=by rfl)(d:N.Nodup:=by decide +kernel)(e:N.take P.length=P:=by rfl)(f:∀x∈P,sc.names.lookup x=some .local∨sc.names.lookup x=some .cell:=by decide +kernel)(g:∀y∈sc.names,y.2≠.free:=by decide +kernel):zan N P sc:=⟨a,b,c,d,e,f,g⟩
section
variable{X:Cx}
def zat(i:Nat){x:Str}{e:Expr}{te:TE}{pos aN:Pos}(hN:X.N.Nodup)(he:PE X e te)(hi:X.N[i]?=some x:=by rfl)(hx:Loc X.env.scope x:=by exact Or.inl rfl)(hs:swapsWith e (some (.Name x aN)) pos.line X.env=pure false:=by rfl)(hf:X.fn x=true∨X.env.scope.names.lookup x=some .local:=by first | exact .inl rfl | exact .inr rfl | assumption) :
  PS X (.Assign [.Name x aN] e pos) (tAsg te (gName i)):=ps_set hN hi hx he hs hf
def zbb(i:Nat){x:Str}{pos:Pos}(hN:X.N.Nodup)(hi:X.N[i]?=some x:=by rfl)(hx:Loc X.env.scope x:=by exact Or.inl rfl)(hf:X.fn x=true∨X.env.scope.names.lookup x=some .local:=by first | exact .inl rfl | exact .inr rfl | assumption):PG X (.Name x pos) (gName i):=pg_name hN hi hx hf
def zcf{o i:Expr}{td ty:TE}{pos:Pos}(hu:X.A.units+1<cLine)(ho:PE X o td)(hi:PE X i ty)(hs:NoSl i:=by exact λ_ _=>rfl):PE X (.Subscript o i pos) (tDGet td ty):=pe_dget hu ho hi hs
end
end L2
namespace L2
open PySem PySem.Spec PyProof.Rows
def Fun.okL{P:Ni}{w:Nk}{K:Na}{mg:Nf}{base:Nl}{x qual:Str}{st:Stmt}{f:Nc}{fd:Np}{N ps:Nh}{k:Nat}{sp:Sp}(F:Fun K x qual st f fd)(S:zan N ps (zag st))(aK:∀ (cdv:Value) (A:Nm) (outer:List Env) (s:Ng) (H:Hp) (vs:List V) (Q:VK) (E:XK),Room k (A.deeper (envOfC qual (zag st) s.heap.objs.size f cdv))→sp vs H Q E →
   ∃t,PSs (cxOf CX0 P w K mg base N qual (zag st) f cdv A outer s H E).nox (zbs st) t∧t {nx:=λ_ H'=>Q .non H',rt:=Q} (start N vs) H)(len:∀vs H Q E,sp vs H Q E→vs.length=ps.length:=by intro _ _ _ _ h;cases h;subst_vars;rfl):FnOk P w K mg base CX0 (k+1) f fd ps sp:=F.ok S len aK
end L2
end
section
namespace K21
open PySem L2
abbrev qR:Str := "_law_rounds_here"
abbrev qP:Str := "_law_pot_here"
abbrev qM:Str := "_law_many"
abbrev qO:Str := "_law_other"
abbrev qH:Str := "_law_hues_here"
abbrev qD:Str := "_law_draw"
abbrev qS:Str := "_law_script"
abbrev qN:Str := "_law_names_here"
abbrev qB:Str := "_law_beside"
def top(i:Nat):Stmt:=PySem.Challenge.pw_fivehues_k34_no_chains.main.body.getD i (.Pass ⟨0,0,0,0⟩)
def eOf:Stmt→Expr
 |.Assign _ e _=>e
 |.Return (some e) _=>e
 |.For _ e _ _ _=>e
 |.While e _ _ _=>e
 |_=>.Name "" ⟨0,0,0,0⟩
def bOf:Stmt→List Stmt
 |.For _ _ b _ _=>b
 |.If _ b _ _=>b
 |_=>[]
def aOf(i:Nat):Expr→Expr
 |.Call _ a _ _=>a.getD i (.Name "" ⟨0,0,0,0⟩)
 |.BinOp l _ r _=>[l,r].getD i l
 |.BoolOp _ a _=>a.getD i (.Name "" ⟨0,0,0,0⟩)
 |.Compare _ _ a _=>a.getD i (.Name "" ⟨0,0,0,0⟩)
 |e=>e
def scOf:Expr→Scope
 |.ListComp _ _ sc _=>sc
 |.DictComp _ _ _ sc _=>sc
 |_=>{kind:=.function,names:=[],isGenerator:=false,isCoroutine:=false}
abbrev sAt(s:Stmt)(i:Nat):Stmt:=(zbs s).getD i (.Pass ⟨0,0,0,0⟩)
abbrev bAt(s:Stmt)(i:Nat):Stmt:=(bOf s).getD i (.Pass ⟨0,0,0,0⟩)
def Pot(H:Hp)(p:Nc)(b m:Int):Prop:=H p=some (.lst [.int b,.int m])∧0≤b∧0≤m∧m<2147483648
inductive IspTake(vs:List V)(H:Hp)(Q:VK):Prop
 |mk (p:Nc) (b m n:Int) (h0:vs=[.ref p,.int n]) (h1:Pot H p b m) (h2:0<n) (h3:n<1073741824) (h4:∀(d b' m':Int) (H':Hp),0≤d→d<n→Pot H' p b' m'→(∀c o,H c=some o→c≠p→H' c=some o)→Q (.int d) H'):IspTake vs H Q
def zd3:Sp:=λvs H Q _=>IspTake vs H Q
section
variable{P:Ni}{w:Nk}{K:Na}{mg:Nf}{base:Nl}
end
end K21
end
section
namespace Wb
section
variable{α:Type}[DecidableEq α]
def nxt(zs:List α)(x:α):α:=zs.getD ((zs.idxOf x+1)%zs.length) x
def ins(zs:List α):Option α→α→List α
 |none,n=>n::zs
 |some c,n=>zs.take (zs.idxOf c+1)++n::zs.drop (zs.idxOf c+1)
abbrev Rs(α:Type):=List (α×List α)
def row(rs:Rs α)(x:α):List α:=((rs.find? λp=>decide (p.1=x)).map (·.2)).getD []
def zay(rs:Rs α)(x:α)(r:List α):Rs α:=rs.map λp=>if p.1=x then(p.1,r) else p
def stp(rs:Rs α)(s:α×α):α×α:=(s.2,nxt (row rs s.2) s.1)
end
end Wb
namespace K21
open PySem L2 Wb
def Keep(xs:Nn)(H H':Hp):Prop:=∀c o,H c=some o→c∉xs→H' c=some o
def Keep.refl:Keep xs H H:=λ_ _ e _=>e
def Keep.trans(a:Keep xs H H1)(b:Keep xs H1 H2):Keep xs H H2:=λc o e n=>b c o (a c o e n) n
def Keep.sub(a:Keep xs H H1)(h:∀x∈xs,x∈ys):Keep ys H H1:=λc o e n=>a c o e λz=>n (h c z)
def Keep.new(h:H l=none):Keep xs H (upd H l o):=λc u e _=>by rw[zad (zab e h)];exact e
def Keep.wr(h:l∈xs):Keep xs H (upd H l o):=λc u e n=>by rw[zad (λz=>n (by rw[z];exact h))];exact e
abbrev Ent:=Str×List Str×Addr
structure RAt(H:Hp)(d:Nc)(es:List Ent):Prop where
 dc:H d=some (.dK (es.map λe=>((Sum.inr e.1:Key),V.ref e.2.2)))
 ro:∀e∈es,H e.2.2=some (.lst (e.2.1.map V.str))
 nd:(es.map (·.1)).Nodup
def rsOf(es:List Ent):Rs Str:=es.map λe=>(e.1,e.2.1)
def RAt.keep(r:RAt H d es)(k:Keep xs H H')(hd:d∉xs)(h:∀e∈es,e.2.2∉xs):RAt H' d es:=⟨k _ _ r.dc hd,λe he=>k _ _ (r.ro e he) (h e he),r.nd⟩
def zb6{es:List Ent}(nd:(es.map (·.1)).Nodup){e:Ent}(h:e∈es):valV (es.map fun e=>((Sum.inr e.1:Key),V.ref e.2.2)) (Sum.inr e.1)=some (.ref e.2.2):=by
 induction es with
 |nil=>cases h
 | cons a t ih =>
  rw[Ql,Qs]at nd
  rw[Ql]
  rcases Qe.mp h with z | z
  ·subst z;exact zcd rfl
  ·rw [zbj]
   ·exact ih nd.2 z
   ·intro q
    exact nd.1 (by rw[Ws q];exact Qh.mpr ⟨e,z,rfl⟩)
def val_out{es:List Ent}{x:Str}(h:x∉es.map (·.1)):valV (es.map λe=>((Sum.inr e.1:Key),V.ref e.2.2)) (Sum.inr x)=none:=by
 induction es with
 |nil=>rfl
 |cons a t ih =>
  rw[Ql,Qe,not_or]at h
  rw[Ql,zbj]
  ·exact ih h.2
  ·intro q;exact h.1 (Ws q).symm
def zbl(nd:(es.map (·.1)).Nodup)(h:e∈es):row (rsOf es) e.1=e.2.1:=by
 unfold row rsOf
 induction es with
 |nil=>cases h
 | cons a t ih =>
  rw[Ql,Qs]at nd
  rw[Ql]
  rcases Qe.mp h with z | z
  ·subst z;rw[Wc (by simp)];rfl
  ·rw [Wd]
   ·exact ih nd.2 z
   ·intro q
    exact nd.1 (by rw[of_decide_eq_true q];exact Qh.mpr ⟨e,z,rfl⟩)
def setE(es:List Ent)(x:Str)(r:Nh)(a:Nc):List Ent:=es.map λe=>if e.1=x then(e.1,r,a) else e
def zb1(es:List Ent)(x:Str)(r:Nh)(a:Nc):rsOf (setE es x r a)=zay (rsOf es) x r:=by
 unfold rsOf setE zay
 rw[Zi,Zi]
 refine Wg λe _=>?_
 show(λe:Ent=>(e.1,e.2.1)) (if e.1=x then(e.1,r,a) else e)=if e.1=x then(e.1,r) else(e.1,e.2.1)
 by_cases h:e.1=x
 ·rw[if_pos h,if_pos h]
 ·rw[if_neg h,if_neg h]
def put_new{es:List Ent}{x:Str}{r:Nh}{a:Nc}(h:x∉es.map (·.1)):putK (es.map λe=>((Sum.inr e.1:Key),V.ref e.2.2)) (Sum.inr x) (.ref a)=(es++[(x,r,a)]).map λe=>((Sum.inr e.1:Key),V.ref e.2.2):=by
 rw[zea _ (val_out h),Qn]
 rfl
def zaw(es:List Ent)(x:Str)(r:Nh)(a:Nc):(setE es x r a).map (·.1)=es.map (·.1):=by
 unfold setE
 rw[Zi]
 refine Wg λe _=>?_
 show(if e.1=x then(e.1,r,a) else e).1=e.1
 split<;>rfl
def cut_to{xs:List V}{k:Nat}(h:k≤xs.length):cutV xs none (some (k:Int))=xs.take k:=by
 unfold cutV
 have e1:HT.sIx xs.length 0 none=0:=rfl
 have e2:HT.sIx xs.length xs.length (some (k:Int))=k:=by rw[HT.sIx_nat];omega
 rw[e1,e2];simp
def zfg{xs:List V}{k:Nat}(h:k≤xs.length):cutV xs (some (k:Int)) none=xs.drop k:=by
 unfold cutV
 have e1:HT.sIx xs.length 0 (some (k:Int))=k:=by rw[HT.sIx_nat];omega
 have e2:HT.sIx xs.length xs.length none=xs.length:=rfl
 rw[e1,e2,Qz (by rw[Jj];exact Qg _)]
def idx_lt{zs:Nh}{x:Str}(h:x∈zs):zs.idxOf x<zs.length:=List.idxOf_lt_length_iff.mpr h
def zh1{zs:Nh}{x:Str}(h:x∈zs):(∃ z,(zs.map V.str)[zs.idxOf x]?=some z∧eqV z (.str x)=true)∧∀ m z,m < zs.idxOf x→(zs.map V.str)[m]?=some z→eqV z (.str x)=false:=by
 refine⟨⟨.str x,?_,beq_self_eq_true x⟩,λm z hm e=>?_⟩
 ·rw[Qq,Qd (idx_lt h),List.getElem_idxOf];rfl
 ·rw [Qq] at e
  have cD:m<zs.length:=Wm hm (idx_lt h)
  rw[Qd cD]at e
  cases e
  show(zs[m]==x)=false
  refine beq_eq_false_iff_ne.mpr λq=>?_
  have az:∀(l:Nh) (j:Nat) (hj:j<l.length),l[j]=x→l.idxOf x≤j:=by
   intro l
   induction l with
   |nil=>intro j hj;simp at hj
   | cons a t ih =>
    intro j hj e
    rw[Xc]
    cases j with
    |zero =>
     have e':a=x:=e
     rw[e'];simp
    | succ i =>
     have:=ih i (by simpa using hj) (by simpa using e)
     by_cases h:a=x
     ·rw[h];simp
     ·have hb:(a == x)=false:=beq_eq_false_iff_ne.mpr h
      rw[hb];simp;assumption
  have:=az zs m cD q
  omega
def zcj(zs:Nh):(zs.map V.str).all zdk=true:=by
 rw[Ut];intro v hv;obtain⟨x,_,rfl⟩:=Qh.mp hv;rfl
end K21
end
section
namespace K21
open PySem L2 Wb
def zf5:Option Str→V
 |none=>.non
 |some c=>.str c
section
variable{P:Ni}{w:Nk}{K:Na}{mg:Nf}{base:Nl}
end
end K21
end
section
namespace Wb
section
variable{α:Type}[DecidableEq α]
def itr(rs:Rs α)(s:α×α):Nat→α×α
 |0=>s
 |n+1=>stp rs (itr rs s n)
def IsSt(rs:Rs α)(s:α×α):Prop:=∃p∈rs,p.1=s.2∧s.1∈p.2
def zif(rs:Rs α):List (α×α):=rs.flatMap λp=>p.2.map λx=>(x,p.1)
def zfu{rs:Rs α}{s:α×α}:s∈zif rs↔IsSt rs s:=by
 unfold zif IsSt
 rw[List.mem_flatMap]
 constructor
 ·rintro ⟨p,hp,h⟩
  obtain⟨x,hx,rfl⟩:=Qh.mp h
  exact⟨p,hp,rfl,hx⟩
 ·rintro ⟨p,hp,e,hx⟩
  exact⟨p,hp,Qh.mpr ⟨s.1,hx,by rw[e]⟩⟩
def Clo(rs:Rs α):Prop:=∀s,IsSt rs s→IsSt rs (stp rs s)
theorem zfz{rs:Rs α}(c:Clo rs){s:α×α}(h:IsSt rs s):∀n,IsSt rs (itr rs s n)
 |0=>h
 |n+1=>c _ (zfz c h n)
def run(rs:Rs α)(s:α×α)(n:Nat):List (α×α):=(List.range n).map (itr rs s)
def run_succ(rs:Rs α)(s:α×α)(n:Nat):run rs s (n+1)=run rs s n++[itr rs s n]:=by
 unfold run;rw[List.range_succ,List.map_append];rfl
def zef{l m:List (α×α)}(nd:l.Nodup)(h:∀x∈l,x∈m):l.length≤m.length:=by
 induction l generalizing m with
 |nil=>exact Zg _
 |cons a t ih =>
  rw[Qs]at nd
  have ha:=h a Qc
  have:=ih (m:=m.erase a) nd.2 λx hx=>(List.mem_erase_of_ne (λe=>nd.1 (by rw[←e];exact hx))).mpr (h x (Qf _ hx))
  rw[Yl ha]at this
  have hp:0<m.length:=Yj ha
  rw[Qx];lia
end
end Wb
namespace K21
open PySem L2 Wb
section
variable{P:Ni}{w:Nk}{K:Na}{mg:Nf}{base:Nl}
def zbn.keep{H H':Hp}{as:Nn}{qs:Nr}(r:zbn H as qs)(k:∀b x y,H b=some (.tup [x,y])→H' b=some (.tup [x,y])):zbn H' as qs:=by
 induction r with
 |nil=>exact .nil
 |cons h t ih=>exact .cons (k _ _ _ h) ih
def zbn.snoc{H:Hp}{as:Nn}{qs:Nr}{a:Nc}{q:Str×Str}(r:zbn H as qs)(h:H a=some (.tup [.str q.1,.str q.2])):zbn H (as++[a]) (qs++[q]):=by
 induction r with
 |nil=>exact .cons h .nil
 |cons h' t ih=>exact .cons h' ih
end
end K21
end
section
namespace Wb
section
variable{α:Type}[DecidableEq α]
structure Gen(G:Rs α→Prop):Prop where
 clo:∀rs,G rs→Clo rs
 nd:∀rs,G rs→(rs.map (·.1)).Nodup
 sub:∀rs,G rs→∀p∈rs,p.2.Nodup∧∀x∈p.2,x∈rs.map (·.1)
 sy:∀rs,G rs→∀p∈rs,∀x∈p.2,p.1∈row rs x
 nil:G []
 new:∀rs x,G rs→x∉rs.map (·.1)→G (rs++[(x,[])])
 leaf:∀rs x p c,G rs→x∉rs.map (·.1)→p∈rs→(∀y,c=some y→y∈p.2)→(c=none→p.2=[])→G (zay (zay (rs++[(x,[])]) p.1 (ins p.2 c x)) x [p.1])
 tie:∀rs c p n,G rs→p∈rs→c∈p.2→(itr rs (c,p.1) n).2≠p.1→(itr rs (c,p.1) n).2∉p.2 →
  G (zay (zay rs p.1 (ins p.2 (some c) (itr rs (c,p.1) n).2)) (itr rs (c,p.1) n).2 (ins (row rs (itr rs (c,p.1) n).2) (some (itr rs (c,p.1) n).1) p.1))
def ze1{l m:List α}(nd:l.Nodup)(h:∀x∈l,x∈m):l.length≤m.length:=by
 induction l generalizing m with
 |nil=>exact Zg _
 |cons a t ih =>
  rw[Qs]at nd
  have ha:=h a Qc
  have:=ih (m:=m.erase a) nd.2 λx hx=>(List.mem_erase_of_ne (λe=>nd.1 (by rw[←e];exact hx))).mpr (h x (Qf _ hx))
  rw[Yl ha]at this
  have hp:0<m.length:=Yj ha
  rw[Qx];lia
def Gen.rows{G:Rs α→Prop}(g:Gen G){rs:Rs α}(h:G rs):∀p∈rs,p.2.length≤rs.length:=λp hp=>by
 obtain⟨a,b⟩:=g.sub rs h p hp
 have:=ze1 a b
 rwa[Qa]at this
def Gen.steps{G:Rs α→Prop}(g:Gen G){rs:Rs α}(h:G rs)(hl:rs.length≤40):(zif rs).length≤1600:=by
 have key:∀(l:Rs α) (n:Nat),(∀p∈l,p.2.length≤n)→(zif l).length≤l.length*n:=by
  intro l n
  induction l with
  |nil=>intro _;simp[zif]
  |cons a t ih =>
   intro hh
   have h1:=ih λp hp=>hh p (Qf _ hp)
   have h2:=hh a Qc
   unfold zif at h1 ⊢
   rw[List.flatMap_cons,Qt,Qa,Qx,Nat.succ_mul]
   lia
 have:=key rs rs.length (g.rows h)
 have:rs.length*rs.length≤40*40:=Nat.mul_le_mul hl hl
 exact Zl ‹_› ‹_›
end
end Wb
namespace K21
open PySem L2 Wb
def zbt{H:Hp}{p a:Nc}{b m:Int}{zs:Nh}(h:Pot H p b m)(ha:H a=some (.lst (zs.map V.str))):a≠p:=zax ha h.1 (by
 intro z
 have z':zs.map V.str=[.int b,.int m]:=by injection z
 cases zs with
 |nil=>cases z'
 |cons x t=>rw[Ql]at z';injection z' with z1 _;cases z1)
def pot_nd{H:Hp}{p d:Nc}{b m:Int}{kvs:List (Key×V)}(h:Pot H p b m)(hd:H d=some (.dK kvs)):d≠p:=zax hd h.1 (by intro z;cases z)
def RAt.pot{H H':Hp}{d p:Nc}{b m:Int}{es:List Ent}(r:RAt H d es)(h:Pot H p b m)(k:Keep [p] H H'):RAt H' d es :=
 r.keep k (by simpa using pot_nd h r.dc) λe he=>by simpa using zbt h (r.ro e he)
def Pot.keep{H H':Hp}{p:Nc}{b m:Int}{xs:Nn}(h:Pot H p b m)(k:Keep xs H H')(hp:p∉xs):Pot H' p b m:=⟨k _ _ h.1 hp,h.2⟩
def zba{H H':Hp}{p:Nc}(h:∀c o,H c=some o→c≠p→H' c=some o):Keep [p] H H':=λc o e n=>h c o e λz=>n (by rw[z];exact Qb.mpr rfl)
section
variable{P:Ni}{w:Nk}{K:Na}{mg:Nf}{base:Nl}
def zf2{x:Str}{zs:Nh}:inV (.str x) (zs.map V.str)=decide (x∈zs):=by
 unfold inV
 rw[Wi,Yw,decide_eq_true_iff]
 constructor
 ·rintro ⟨v,hv,e⟩
  obtain⟨y,hy,rfl⟩:=Qh.mp hv
  have e':y=x:=eq_of_beq e
  rw[←e'];exact hy
 ·intro h
  exact⟨.str x,Qh.mpr ⟨x,h,rfl⟩,beq_self_eq_true x⟩
def zcq{c:Bool}{A B:Prop}(h:c=false)(b:B):if c=true then A else B:=by rw[h];exact iteF b
def zdj{c:Bool}{A B:Prop}(h:c=true)(a:A):if c=true then A else B:=by rw[h];exact iteT a
def op_ne_nilK{X:Cx}{K:Na}(hK:X.K=K)(hu:X.A.units<cLine):OpR X (compareOp .NotEq) (rNil true K):=hK▸op_ne_nil hu
end
end K21
end
section
namespace K21
open PySem L2 Wb
def rat_new(R:RAt H d es)(hx:x∉es.map (·.1))(ha:H a=some (.lst (r.map V.str))) :
  RAt (upd H d (.dK (putK (es.map λe=>((Sum.inr e.1:Key),V.ref e.2.2)) (Sum.inr x) (.ref a)))) d (es++[(x,r,a)]):=by
 refine⟨by rw[zac,put_new (r:=r) hx],λe he=>?_,?_⟩
 ·have key:∀ {b:Nc} {xs:List V},H b=some (.lst xs)→(upd H d (.dK (putK (es.map fun e=>((Sum.inr e.1:Key),V.ref e.2.2)) (Sum.inr x) (.ref a)))) b=some (.lst xs):=fun {b xs} hb=>by
   rw[zad (zax hb R.dc (by intro z;cases z))];exact hb
  rcases Qj.mp he with z | z
  ·exact key (R.ro e z)
  ·rw[Qb.mp z];exact key ha
 ·rw [Qn,Ze]
  refine⟨R.nd,Qs.mpr ⟨by simp,Zn⟩,λy hy z hz=>?_⟩
  have ce:z=x:=by simpa using hz
  rw[ce]
  exact λe=>hx (e▸hy)
def keys_strs(es:List Ent):((es.map λe=>((Sum.inr e.1:Key),V.ref e.2.2)).map λp=>kV p.1)=(es.map (·.1)).map V.str:=by
 rw[Zi,Zi];rfl
section
variable{P:Ni}{w:Nk}{K:Na}{mg:Nf}{base:Nl}
end
def ze6(z:Str):Prop:=1≤z.length∧z.length≤8∧∀c∈z.cps.toList,97≤c∧c≤122
def nodup_of_map{α β:Type}{f:α→β}{l:List α}(h:(l.map f).Nodup):l.Nodup:=by
 induction l with
 |nil=>exact Zn
 |cons a t ih =>
  rw[Ql,Qs]at h
  exact Qs.mpr ⟨λz=>h.1 (Qh.mpr ⟨a,z,rfl⟩),ih h.2⟩
def zhv{α β:Type}{f:α→β}{l:List α}(nd:l.Nodup)(h:∀a∈l,∀b∈l,f a=f b→a=b):(l.map f).Nodup:=by
 induction l with
 |nil=>exact Zn
 |cons a t ih =>
  rw[Qs]at nd
  rw[Ql,Qs]
  refine⟨λz=>?_,ih nd.2 λx hx y hy=>h x (Qf _ hx) y (Qf _ hy)⟩
  obtain⟨b,hb,e⟩:=Qh.mp z
  exact nd.1 (h b (Qf _ hb) a Qc e▸hb)
def zda:Str := "abcdefghijklmnopqrstuvwxyz"
def letters_at:∀i:Fin 26,zda.cps.toList[i.1]?=some (97+i.1):=by decide +kernel
def zdw:zda.length≤sizeLine:=by decide +kernel
def zfw{j:Int}(h0:0≤j)(h1:j<26):atI zda.cps.toList j=some (97+j.toNat):=by
 obtain⟨n,rfl⟩:=Zt h0
 exact zap (letters_at ⟨n,by exact zar8 ‹_›⟩)
section
variable{P:Ni}{w:Nk}{K:Na}{mg:Nf}{base:Nl}
end
def zal(k:Keep xs H H')(h:H' l=none)(hx:l∉xs):H l=none:=by
 cases z:H l with
 |none=>rfl
 |some o=>rw[k _ _ z hx]at h;cases h
section
variable{P:Ni}{w:Nk}{K:Na}{mg:Nf}{base:Nl}
end
end K21
end
section
namespace K21
open PySem L2 Wb Tm
def leS_anti(a b:Str)(h:leS a b)(g:leS b a):a=b:=by
 have e:a.cps.toList=b.cps.toList:=List.le_antisymm (List.not_lt.mp h) (List.not_lt.mp g)
 cases a;cases b
 congr 1
 exact Ky.mp e
end K21
end
section
namespace K21
open PySem L2 Wb
abbrev sWeb:Stmt:=top 34
structure TAt(H:Hp)(d:Nc)(es:List Ent):Prop where
 dc:H d=some (.dK (es.map λe=>((Sum.inr e.1:Key),V.ref e.2.2)))
 ro:∀e∈es,H e.2.2=some (.tup (e.2.1.map V.str))
 nd:(es.map (·.1)).Nodup
def TAt.keep(r:TAt H d es)(k:Keep xs H H')(hd:d∉xs)(h:∀e∈es,e.2.2∉xs):TAt H' d es:=⟨k _ _ r.dc hd,λe he=>k _ _ (r.ro e he) (h e he),r.nd⟩
structure WAt(H:Hp)(C x dx d:Nc)(es:List Ent):Prop where
 ob:H x=some (.ins C dx [("rounds",.ref d)])
 ta:TAt H d es
def WAt.keep(r:WAt H C x dx d es)(k:Keep xs H H')(hx:x∉xs)(hd:d∉xs)(h:∀e∈es,e.2.2∉xs):WAt H' C x dx d es :=
 ⟨k _ _ r.ob hx,r.ta.keep k hd h⟩
def WAt.pot(r:WAt H C x dx d es)(h:Pot H p b m)(k:Keep [p] H H'):WAt H' C x dx d es :=
 r.keep k (by simpa using zax r.ob h.1 (by intro z;cases z)) (by simpa using zax r.ta.dc h.1 (by intro z;cases z)) λe he=>by simpa using zax (r.ta.ro e he) h.1 (by intro z;cases z)
def refs_perm(h:ws.Perm (as.map V.ref)):∃dk:List Addr,ws=dk.map V.ref∧dk.Perm as:=by
 have key:∀ws:List V,(∀v∈ws,∃a,v=V.ref a)→∃dk:List Addr,ws=dk.map V.ref:=by
  intro ws
  induction ws with
  |nil=>intro _;exact⟨[],rfl⟩
  |cons v t ih =>
   intro hh
   obtain⟨a,rfl⟩:=hh v Qc
   obtain⟨dk,rfl⟩:=ih λv hv=>hh v (Qf _ hv)
   exact⟨a::dk,rfl⟩
 obtain⟨dk,rfl⟩:=key ws λv hv=>by
  obtain⟨a,_,rfl⟩:=Qh.mp (h.mem_iff.mp hv)
  exact⟨a,rfl⟩
 refine⟨dk,rfl,?_⟩
 have:=h.map (λv:V=>match v with | .ref a=>a | _=>0)
 rw[Zi,Zi]at this
 have e:∀l:List Addr,l.map ((λv:V=>match v with | .ref a=>a | _=>0)∘V.ref)=l:=λl=>List.map_id l
 rw[e,e]at this
 exact this
section
variable{P:Ni}{w:Nk}{K:Na}{mg:Nf}{base:Nl}
end
def zbd:∀{as:List α} {bs:List β},Paired R as bs→∀{i:Nat} (hi:i<as.length),∃aE:i<bs.length,R as[i] bs[i]:=by
 intro as bs r
 induction r with
 |nil=>intro i hi;simp at hi
 | cons h t ih =>
  intro i hi
  cases i with
  |zero=>exact⟨by simp,h⟩
  |succ j =>
   obtain⟨a,b⟩:=ih (i:=j) (by simpa using hi)
   exact⟨by simpa using a,b⟩
section
variable{P:Ni}{w:Nk}{K:Na}{mg:Nf}{base:Nl}
end
end K21
end
section
namespace L2
open PySem
def ps_no:PS X st (λ_ _ _=>False):=λ_ _ _ _ _ _ h=>h.elim
def pe_tyN(hg:Gl X x)(hm:X.mg x=none)(hv:bootBuiltins x=some (.type T))(hn:x ≠ "__name__" := by decide)(cL:(x==("__debug__" : Str))=false:=by decide):PE X (.Name x pos) (tC (.ty T)):=by
 intro aa s σ H Q I h
 exact zdo I hg hm hv ⟨.ty T,H,I,rfl,h⟩ hn cL
end L2
namespace K21
open PySem L2 Wb
abbrev zdq:Stmt:=top 28
inductive IspIsName(vs:List V)(H:Hp)(Q:VK):Prop
 |mk (z:Str) (h0:vs=[.str z]) (h1:ze6 z) (h2:∀H',Keep [] H H'→Q (.bl true) H'):IspIsName vs H Q
def spIsName:Sp:=λvs H Q _=>IspIsName vs H Q
abbrev zek:Scope:=scOf (aOf 0 (aOf 1 (eOf (sAt zdq 1))))
def csIsName_k:zek.kind=.function:=by rfl
def csIsName_c:∀y∈zek.names,y.2≠.cell:=by decide +kernel
def csIsName_n:∀y∈zek.names,y.2=.local→zek.names.lookup y.1=some .local:=by decide +kernel
def csIsName_f:∀y∈zek.names,y.2=.free→(zag zdq).names.lookup y.1=some .cell∨(zag zdq).names.lookup y.1=some .free:=by decide +kernel
def nd1:(["sign"]:List Str).Nodup:=by decide +kernel
section
variable{P:Ni}{w:Nk}{K:Na}{mg:Nf}{base:Nl}
def scIsName:zan ["thing"] ["thing"] (zag zdq):=fsk
def ok_isname(F:Fun K "is_name" "is_name" zdq f fd)(hML:mg "MOST_LETTERS" = some (.int 8 tk))(df:mg "isinstance" = none)(t8:mg "str" = none)(ah:mg "len" = none)(cN:mg "all" = none):FnOk P w K mg base CX0 1 f fd ["thing"] spIsName:=by
 refine F.okL scIsName (λcdv A outer s H vs Q E hr h=>?_)
 obtain⟨z,rfl,hz,k⟩:=h
 have hu:=zcb hr
 have aJ  := sizeLine_eq
 refine⟨_,zae (zbr (pt_not (pt_val (zak call_isi_str (by rfl) df Yy (zaa (pv 0) (zaa (pe_tyN (T := "str") rfl t8 PyProof.Rows.boot_str) zaf))))) (zah ps_no) za2)
  (zah (zbp (pe_and (pe_chain op_le op_le zai (zak call_len_str (by rfl) ah Zw (zaa (pv 0) zaf)) (zbw (v:=.int 8) rfl hML ⟨tk,rfl⟩))
   (pe_one (zak (call_all rfl) (by rfl) cN PyProof.Rows.boot_all (zaa (pe_lc (M:=["sign"]) (ix:=[none]) ⟨csIsName_k,csIsName_c,csIsName_n,csIsName_f,rfl,by decide +kernel,λj i x h1 h2=>by
      match j,h1,h2 with
      |0,_,h2=>cases h2
      |n+1,h1,_=>cases h1⟩ rfl (pi_str (pv 0)) (λC aa ex s H=>zbb 0 nd1)
      (λC aa ex s H=>zcu) (λC aa ex s H=>pe_chain op_le_str op_le_str zfq (pv 0) zfq)) zaf)))))),?_⟩
 obtain⟨hz1,fA,fj⟩:=hz
 have hz1':1≤z.cps.size:=hz1
 have hz2':z.cps.size≤8:=fA
 refine⟨_,rfl,z,rfl,_,rfl,zcq rfl ?_⟩
 refine⟨_,rfl,z,rfl,(by show z.cps.size≤sizeLine;lia),_,_,rfl,rfl,_,rfl,zdj (decide_eq_true (by show(1:Int)≤(z.cps.size:Int);exact zar9 ‹_›)) ?_⟩
 refine⟨_,_,rfl,rfl,_,rfl,zdj (decide_eq_true (by show(z.cps.size:Int)≤8;lia)) ?_⟩
 have asc:z.cps.all (· < 128)=true:=by
  rw[Array.all_eq_true]
  intro i hi
  have:=fj z.cps[i] (by rw[Array.mem_toList_iff];exact Array.getElem_mem hi)
  exact decide_eq_true (by lia)
 refine⟨_,rfl,z,rfl,asc,λi m ys τ H1=>Aj5 (H1=H) (m=z.cps.size-i) (i≤z.cps.size) (ys=List.replicate i (V.bl true)) (Ex1 λx0=>τ=[x0]),⟨_,rfl,rfl,Zg _,rfl,none,rfl⟩,?_⟩
 rintro i m ys τ H1 ⟨rfl,rfl,hi,rfl,x0,rfl⟩
 by_cases ai:i<z.cps.size
 ·refine .inr ⟨ai,by rw [Jh];lia,?_⟩
  rintro y H' ⟨rfl,c,hc,rfl⟩
  obtain⟨h1,h2⟩:=fj c (by rw[Array.mem_toList_iff];exact Array.mem_of_getElem? hc)
  have l1:(!decide ((⟨#[c]⟩:Str).cps.toList<("a" : Str).cps.toList))=true:=by
   rw[Jf,decide_eq_false_iff_not,show("a" : Str).cps.toList=[97] from by decide +kernel]
   show ¬[c]<[97]
   intro h
   have:=List.cons_lt_cons_iff.mp h
   rcases this with q | ⟨_,q⟩
   ·exact zar10 ‹_› ‹_›
   ·exact Wv _ q
  have l2:(!decide (("z" : Str).cps.toList<(⟨#[c]⟩:Str).cps.toList))=true:=by
   rw[Jf,decide_eq_false_iff_not,show("z" : Str).cps.toList=[122] from by decide +kernel]
   show ¬[122]<[c]
   intro h
   have:=List.cons_lt_cons_iff.mp h
   rcases this with q | ⟨_,q⟩
   ·exact zar10 ‹_› ‹_›
   ·exact Wv _ q
  refine⟨_,rfl,_,_,rfl,rfl,_,rfl,zdj l1 ?_⟩
  refine⟨_,_,rfl,rfl,_,?_,rfl,rfl,ai,?_,_,rfl⟩
  ·exact zar1 ‹_›
  ·rw[l2,List.replicate_succ']
 ·have e:i=z.cps.size:=by exact zar3 ‹_› ‹_›
  subst e
  refine .inl ⟨Qg _,λD hD=>?_⟩
  refine⟨D,List.replicate z.cps.size true,rfl,SqL.of (by rw[zac,List.map_replicate]),?_⟩
  have:(List.replicate z.cps.size true).all id=true:=by
   rw[Ut];intro b hb;exact(List.mem_replicate.mp hb).2
  rw[this]
  exact k _ (Keep.new hD)
end
end K21
end
section
namespace L2
open PySem
def lc_at(T:St→Prop)(ys:List V)(hl:ys.length=xs.length)(ha:SqL K H a xs)(hn:xs.length≤sizeLine)(h0:T τ)(hs:∀(i:Nat) (hi:i<xs.length) (dh:i<ys.length),∀τ,T τ→∀k:V→St→Hp→Prop,(∀τ2,T τ2→k ys[i] τ2 H)→g xs[i] τ H λ τ2 H2=>te τ2 H2 λy H4=>k y τ2 H4)(q:∀D,H D=none→Q (.ref D) (upd H D (.lst ys))):rLC g tAll te Q (Itl K a) τ H:=by
 refine⟨λi m zs τ H1=>Aj5 (H1=H) (T τ) (m=xs.length-i) (i≤xs.length) (zs=ys.take i),⟨_,rfl,h0,rfl,Zg _,rfl⟩,?_⟩
 rintro i m zs τ H1 ⟨rfl,ht,rfl,hi,rfl⟩
 by_cases ai:i<xs.length
 ·refine .inr ⟨⟨xs,xs[i],ha,Qd ai⟩,by rw [Zh];lia,?_⟩
  rintro x H' ⟨rfl,hx⟩
  have cw:=hx xs ha
  rw[Qd ai]at cw
  have jC:xs[i]=x:=Qk cw
  rw[←jC]
  refine hs i ai (by exact zar6 ‹_› ‹_›) τ ht (λy τ2 H4=>∃m',m'<xs.length-i∧Aj5 (H4=H') (T τ2) (m'=xs.length-(i+1)) (i+1≤xs.length) (ys.take i++[y]=ys.take (i+1))) λ τ2 h2=>?_
  exact⟨_,by exact zar1 ‹_›,rfl,h2,rfl,ai,by rw[Qm (by exact zar6 ‹_› ‹_›:i<ys.length)]⟩
 ·have e:i=xs.length:=by exact zar3 ‹_› ‹_›
  refine .inl ⟨⟨xs,ha,by lia⟩,λD hD=>?_⟩
  rw[Qz (by lia)]
  exact q D hD
end L2
namespace K21
open PySem L2 Wb
structure RwAt(H:Hp)(l:Nc)(as:Nn)(es:List Ent):Prop where
 ls:H l=some (.lst (as.map V.ref))
 ts:Paired (λa (e:Ent)=>H a=some (.tup [.str e.1,.ref e.2.2])) as es
 ro:∀e∈es,H e.2.2=some (.lst (e.2.1.map V.str))
def RwAt.keep(r:RwAt H l as es)(k:Keep [] H H'):RwAt H' l as es :=
 ⟨k _ _ r.ls (by simp),Paired.imp' (λ_ _ h=>k _ _ h (by simp)) r.ts,λe he=>k _ _ (r.ro e he) (by simp)⟩
abbrev zfc:Stmt:=top 29
abbrev zdl:Stmt:=top 30
abbrev zhf:Stmt:=top 31
inductive zg2(vs:List V)(H:Hp)(Q:VK):Prop
 |mk (l:Nc) (as:Nn) (es:List Ent) (h0:vs=[.ref l]) (h1:RwAt H l as es) (h2:(∀e∈es,e.2.1.length≤100∧ze6 e.1∧∀x∈e.2.1,ze6 x)) (h3:∀H',Keep [] H H'→Q .non H'):zg2 vs H Q
def spNoNames:Sp:=λvs H Q _=>zg2 vs H Q
inductive IspTwice(vs:List V)(H:Hp)(Q:VK):Prop
 |mk (l:Nc) (as:Nn) (es:List Ent) (h0:vs=[.ref l]) (h1:RwAt H l as es) (h2:es.length≤60) (h3:(es.map (·.1)).Nodup) (h4:(∀e∈es,e.2.1.length≤100∧e.2.1.Nodup)) (h5:∀H',Keep [] H H'→Q .non H'):IspTwice vs H Q
def spTwice:Sp:=λvs H Q _=>IspTwice vs H Q
inductive IspOneWay(vs:List V)(H:Hp)(Q:VK):Prop
 |mk (l:Nc) (as:Nn) (es:List Ent) (h0:vs=[.ref l]) (h1:RwAt H l as es) (h2:(es.map (·.1)).Nodup) (h3:(∀e∈es,e.1∉e.2.1∧∀x∈e.2.1,∃e'∈es,e'.1=x∧e.1∈e'.2.1)) (h4:∀H',Keep [] H H'→Q .non H'):IspOneWay vs H Q
def spOneWay:Sp:=λvs H Q _=>IspOneWay vs H Q
section
variable{P:Ni}{w:Nk}{K:Na}{mg:Nf}{base:Nl}
def zd6:zan ["rows", "place", "around", "thing"] ["rows"] (zag zfc):=fsk
def ok_nonames(F:Fun K "refuse_no_names" "refuse_no_names" zfc f fd)(FN:Fun K "is_name" "is_name" zdq fn fdn)(bN:Binds K fdn ["thing"] [])(mN:mg "is_name" = some (.ref fn))(GN:FnOk P w K mg base CX0 1 fn fdn ["thing"] spIsName):FnOk P w K mg base CX0 2 f fd ["rows"] spNoNames:=by
 refine F.okL zd6 (λcdv A outer s H vs Q E hr h=>?_)
 obtain⟨l,as,es,rfl,R,hok,k⟩:=h
 have hu:=zcb hr
 have aJ  := sizeLine_eq
 refine⟨_,zah (zbm Zp rfl (zbh (pv 0)) (zex rfl (za4 (zbb 1 zd6.nd) (za4 (zbb 2 zd6.nd) zch)))
  (zah (zbm Zp rfl (zbh (zau zc2 (za7 (zaa (pv 1) zaf)) (pv 2))) (zbb 3 zd6.nd)
   (zah (zbr (pt_not (pt_val (zaj GN hr rfl mN FN.kp bN .nil zav (zaa (pv 3) zaf)))) (zah ps_no) za2))))),?_⟩
 refine⟨_,rfl,l,rfl,⟨_,SqL.of R.ls⟩,zbv (xs:=as.map V.ref) (λi σ H'=>Aj2 (Keep [] H H') (Ex3 λx1 x2 x3=>σ=[some (.ref l),x1,x2,x3])) ⟨Keep.refl,none,none,none,rfl⟩ (λi σ H' _ hh=>SqL.of (hh.1 _ _ R.ls (by simp))) ?_ ?_⟩
 ·rintro i y σ H1 hx ⟨k1,x1,x2,x3,rfl⟩
  have hi:i<as.length:=by
   have:=(Za.mp hx).1
   rwa[Qa]at this
  have jB:y=.ref as[i]:=by
   rw[Qq,Qd hi]at hx
   exact(Qk hx).symm
  subst jB
  obtain⟨aE,eQ⟩:=zbd R.ts hi
  obtain⟨aP,gG,ba⟩:=hok _ (Zb aE)
  have dG:=k1 _ _ (R.ro _ (Zb aE)) (by simp)
  refine⟨as[i],_,rfl,SqT.of (k1 _ _ eQ (by simp)),rfl,_,_,rfl,_,_,rfl,rfl,?_⟩
  refine⟨_,rfl,(by show 1≤sizeLine;decide),λq hq=>?_⟩
  have nq:es[i].2.2≠q:=zab dG hq
  refine⟨_,rfl,q,es[i].2.2,_,_,rfl,rfl,zac,(by rw[zad nq];exact dG),(by rw[Qa];show 1+_≤sizeLine;lia),λq2 iV=>?_⟩
  have k2:Keep [] H (upd (upd H1 q (.lst [.str es[i].1])) q2 (.lst ([V.str es[i].1]++es[i].2.1.map V.str))):=(k1.trans (Keep.new hq)).trans (Keep.new iV)
  have jT:(upd (upd H1 q (.lst [.str es[i].1])) q2 (.lst ([V.str es[i].1]++es[i].2.1.map V.str))) q2=some (.lst ((es[i].1::es[i].2.1).map V.str)):=zac
  generalize upd (upd H1 q (.lst [.str es[i].1])) q2 (.lst ([V.str es[i].1]++es[i].2.1.map V.str))=H2 at k2 jT
  refine⟨q2,rfl,⟨_,SqL.of jT⟩,zbv (xs:=(es[i].1::es[i].2.1).map V.str) (λj σ H'=>Aj2 (Keep [] H2 H') (Ex3 λx1 x2 x3=>σ=[some (.ref l),x1,x2,x3])) ⟨Keep.refl,_,_,_,rfl⟩ (λj σ H' _ hh=>SqL.of (hh.1 _ _ jT (by simp))) ?_ ?_⟩
  ·rintro j y σ H3 hy ⟨k3,y1,y2,y3,rfl⟩
   obtain⟨z,hz,rfl⟩:=Qh.mp (Yq hy)
   have eZ:ze6 z:=by
    rcases Qe.mp hz with e | e
    ·rw[e];exact gG
    ·exact ba z e
   refine⟨_,rfl,z,rfl,eZ,λH4 k4=>⟨_,rfl,zcq rfl ?_⟩⟩
   exact⟨k3.trans k4,_,_,_,rfl⟩
  ·rintro σ H3 ⟨k3,y1,y2,y3,rfl⟩
   exact⟨k2.trans k3,_,_,_,rfl⟩
 ·rintro σ H1 ⟨k1,x1,x2,x3,rfl⟩
  exact k H1 k1
abbrev csTwA:Scope:=scOf (eOf (sAt zdl 0))
abbrev csTwB:Scope:=scOf (aOf 1 (eOf (sAt zdl 1)))
def csTwA_k:csTwA.kind=.function:=by rfl
def csTwA_c:∀y∈csTwA.names,y.2≠.cell:=by decide +kernel
def csTwA_n:∀y∈csTwA.names,y.2=.local→csTwA.names.lookup y.1=some .local:=by decide +kernel
def csTwA_f:∀y∈csTwA.names,y.2=.free→(zag zdl).names.lookup y.1=some .cell∨(zag zdl).names.lookup y.1=some .free:=by decide +kernel
def csTwB_k:csTwB.kind=.function:=by rfl
def csTwB_c:∀y∈csTwB.names,y.2≠.cell:=by decide +kernel
def csTwB_n:∀y∈csTwB.names,y.2=.local→csTwB.names.lookup y.1=some .local:=by decide +kernel
def csTwB_f:∀y∈csTwB.names,y.2=.free→(zag zdl).names.lookup y.1=some .cell∨(zag zdl).names.lookup y.1=some .free:=by decide +kernel
def ndPA:(["place", "around"]:List Str).Nodup:=by decide +kernel
def scTwice:zan ["rows", "places", "names"] ["rows"] (zag zdl):=fsk
def noB(h1:sc.kind=.function)(h2:∀y∈sc.names,y.2≠.cell)(h3:∀y∈sc.names,y.2=.local→sc.names.lookup y.1=some .local)(h4:∀y∈sc.names,y.2=.free→X.env.scope.names.lookup y.1=some .cell∨X.env.scope.names.lookup y.1=some .free)(h5:n=M.length)(h6:M.Nodup):Blk X sc M (List.replicate n none):=⟨h1,h2,h3,h4,by rw [Jh,h5],h6,fun j i x _ h=>by
   have:=Yq h
   have:=(List.mem_replicate.mp this).2
   cases this⟩
def zho(hK:X.K=K)(hc:X.calm=true)(h:PGs X es t)(hn:(assignEach es X.env).length=n:=by rfl)(ap:(assignEach es X.env).findIdx? (·.1)=none:=by rfl):PG X (.Tuple es k pos) (gTup K n t):=hK▸zex hc h hn ap
def ok_twice(F:Fun K "refuse_twice" "refuse_twice" zdl f fd)(ah:mg "len" = none)(tq:mg "set" = none):FnOk P w K mg base CX0 1 f fd ["rows"] spTwice:=by
 refine F.okL scTwice (λcdv A outer s H vs Q E hr h=>?_)
 obtain⟨l,as,es,rfl,R,uW,aH,hok,k⟩:=h
 have hu:=zcb hr
 have aJ  := sizeLine_eq
 refine⟨_,zae (ps_lc (i:=1) (M:=["place", "around"]) (ix:=[none,none]) scTwice.nd rfl rfl (noB (n:=2) csTwA_k csTwA_c csTwA_n csTwA_f rfl ndPA) rfl (zbh (pv 0))
   (λC aa ex s H=>zho (K:=K) (n:=2) rfl rfl (za4 (zbb 0 ndPA) (za4 (zbb 1 ndPA) zch)))
   (λC aa ex s H=>zcu) (λC aa ex s H=>pv 0) rfl)
  (zah (zbm Zp rfl (zbh (zau zc2 (za7 (zaa (pv 1) zaf)) (pe_lc (M:=["place", "around"]) (ix:=[none,none]) (noB (n:=2) csTwB_k csTwB_c csTwB_n csTwB_f rfl ndPA) rfl (zbh (pv 0))
   (λC aa ex s H=>zho (K:=K) (n:=2) rfl rfl (za4 (zbb 0 ndPA) (za4 (zbb 1 ndPA) zch)))
   (λC aa ex s H=>zcu) (λC aa ex s H=>pv 1)))) (zbb 2 scTwice.nd)
   (zah (zbr (zas op_lt (zak zic (by rfl) ah Zw (zaa (zb9 (zh9 rfl) (by rfl) tq PyProof.Rows.boot_set (zaa (pv 2) zaf)) zaf))
    (zak zaq (by rfl) ah Zw (zaa (pv 2) zaf)) (zbf _)) (zah ps_no) za2)))),?_⟩
 have cO:as.length=es.length:=Yo R.ts
 refine⟨_,rfl,l,rfl,⟨_,SqL.of R.ls⟩,lc_at (xs:=as.map V.ref) (λ τ=>∃x0 x1,τ=[x0,x1]) ((es.map (·.1)).map V.str) (by rw[Qa,Qa,Qa,cO]) (SqL.of R.ls) (by rw[Qa];lia) ⟨none,none,rfl⟩ ?_ (λD hD=>?_)⟩
 ·rintro i hi dh τ ⟨x0,x1,rfl⟩ kk hk
  rw[Qa]at hi
  obtain⟨aE,eQ⟩:=zbd R.ts hi
  rw[Zm]
  refine⟨as[i],_,rfl,SqT.of eQ,rfl,_,_,rfl,_,_,rfl,rfl,_,rfl,?_⟩
  have e:((es.map (·.1)).map V.str)[i]=V.str es[i].1:=by rw[Zm,Zm]
  rw[e]at hk
  exact hk _ ⟨_,_,rfl⟩
 ·have k1:Keep [] H (upd H D (.lst ((es.map (·.1)).map V.str))):=Keep.new hD
  have hD1:(upd H D (.lst ((es.map (·.1)).map V.str))) D=some (.lst ((es.map (·.1)).map V.str)):=zac
  generalize upd H D (.lst ((es.map (·.1)).map V.str))=H1 at k1 hD1
  have R1:=R.keep k1
  refine⟨_,rfl,(by show 1≤sizeLine;decide),λq hq=>?_⟩
  have k2:Keep [] H1 (upd H1 q (.lst [.ref D])):=Keep.new hq
  have iV:(upd H1 q (.lst [.ref D])) q=some (.lst [.ref D]):=zac
  generalize upd H1 q (.lst [.ref D])=H2 at k2 iV
  have R2:=R1.keep k2
  refine⟨_,rfl,l,rfl,⟨_,SqL.of R2.ls⟩,lc_at (xs:=as.map V.ref) (λ τ=>∃x0 x1,τ=[x0,x1]) (es.map λe=>V.ref e.2.2) (by rw[Qa,Qa,cO]) (SqL.of R2.ls) (by rw[Qa];lia) ⟨none,none,rfl⟩ ?_ (λD2 dj=>?_)⟩
  ·rintro i hi dh τ ⟨x0,x1,rfl⟩ kk hk
   rw[Qa]at hi
   obtain⟨aE,eQ⟩:=zbd R2.ts hi
   rw[Zm]
   refine⟨as[i],_,rfl,SqT.of eQ,rfl,_,_,rfl,_,_,rfl,rfl,_,rfl,?_⟩
   rw[Zm]at hk
   exact hk _ ⟨_,_,rfl⟩
  ·have k3:Keep [] H2 (upd H2 D2 (.lst (es.map fun e=>V.ref e.2.2))):=Keep.new dj
   have gu:(upd H2 D2 (.lst (es.map λe=>V.ref e.2.2))) D2=some (.lst (es.map λe=>V.ref e.2.2)):=zac
   generalize upd H2 D2 (.lst (es.map λe=>V.ref e.2.2))=H3 at k3 gu
   refine⟨q,D2,_,_,rfl,rfl,k3 _ _ iV (by simp),gu,(by rw[Qa];show 1+_≤sizeLine;lia),λq4 hq4=>?_⟩
   have k4:Keep [] H3 (upd H3 q4 (.lst ([V.ref D]++es.map λe=>V.ref e.2.2))):=Keep.new hq4
   have jS:(upd H3 q4 (.lst ([V.ref D]++es.map λe=>V.ref e.2.2))) q4=some (.lst ([V.ref D]++es.map λe=>V.ref e.2.2)):=zac
   generalize upd H3 q4 (.lst ([V.ref D]++es.map λe=>V.ref e.2.2))=H4 at k4 jS
   have iM:Keep [] H H4:=((k1.trans k2).trans k3).trans k4
   refine⟨q4,rfl,⟨_,SqL.of jS⟩,zbv (xs:=[V.ref D]++es.map λe=>V.ref e.2.2) (λi σ H'=>Aj2 (Keep [] H4 H') (Ex2 λx1 x2=>σ=[some (.ref l),x1,x2])) ⟨Keep.refl,_,_,rfl⟩ (λi σ H' _ hh=>SqL.of (hh.1 _ _ jS (by simp))) ?_ ?_⟩
   ·rintro i y σ H5 hy ⟨k5,x1,x2,rfl⟩
    obtain⟨a,zs,rfl,ha,eZ,cT⟩:∃(a:Nc) (zs:Nh),y=V.ref a∧H5 a=some (.lst (zs.map V.str))∧zs.Nodup∧zs.length≤100:=by
     rcases Qj.mp (Yq hy) with z | z
     ·refine ⟨D,es.map (·.1),Qb.mp z,?_,aH,by rw [Qa];exact Zl uW (by decide)⟩
      exact k5 _ _ (k4 _ _ (k3 _ _ (k2 _ _ hD1 (by simp)) (by simp)) (by simp)) (by simp)
     ·obtain ⟨e,he,rfl⟩:=Qh.mp z
      exact⟨e.2.2,e.2.1,rfl,k5 _ _ (iM _ _ (R.ro e he) (by simp)) (by simp),(hok e he).2,(hok e he).1⟩
    refine⟨_,rfl,a,zs,rfl,SqL.of ha,eZ,by lia,λt ht=>?_⟩
    have rZ:a≠t:=zab ha ht
    refine⟨t,zs,rfl,zac,by lia,_,rfl,a,_,rfl,.inl (SqL.of (by rw[zad rZ];exact ha)),_,_,rfl,rfl,_,rfl,zcq (decide_eq_false (by rw[Qa];lia)) ?_⟩
    exact⟨k5.trans (Keep.new ht),_,_,rfl⟩
   ·rintro σ H5 ⟨k5,x1,x2,rfl⟩
    exact k H5 (iM.trans k5)
end
end K21
end
section
namespace K21
open PySem L2 Wb
abbrev sLeast:Stmt:=top 33
inductive IspLeast(vs:List V)(H:Hp)(Q:VK):Prop
 |mk (a:Nc) (zs:Nh) (h0:vs=[.ref a]) (h1:H a=some (.lst (zs.map V.str))) (h2:zs.length≤100) (h3:∀(t:Nc) (j:Nat) (H':Hp),j≤zs.length→H' t=some (.tup ((zs.drop j++zs.take j).map V.str))→H t=none→Keep [] H H'→Q (.ref t) H'):IspLeast vs H Q
def spLeast:Sp:=λvs H Q _=>IspLeast vs H Q
def paired_map{α β γ:Type}{R:α→γ→Prop}{f:β→γ}:∀{as:List α} {bs:List β},Paired (λa b=>R a (f b)) as bs→Paired R as (bs.map f):=by
 intro as bs r
 induction r with
 |nil=>exact .nil
 |cons h t ih=>exact .cons h ih
section
variable{P:Ni}{w:Nk}{K:Na}{mg:Nf}{base:Nl}
def zd5:zan ["rows", "rounds", "one", "around", "other"] ["rows"] (zag zhf):=fsk
def ok_oneway{f:Nc}{fd:Np}(F:Fun K "refuse_one_way" "refuse_one_way" zhf f fd)(gq:mg "dict" = none):FnOk P w K mg base CX0 1 f fd ["rows"] spOneWay:=by
 refine F.okL zd5 (λcdv A outer s H vs Q E hr h=>?_)
 obtain⟨l,as,es,rfl,R,aH,hok,k⟩:=h
 have hu:=zcb hr
 have aJ  := sizeLine_eq
 refine⟨_,zae (zat 1 zd5.nd (zb9 (zgh rfl) (by rfl) gq PyProof.Rows.boot_dict (zaa (pv 0) zaf)))
  (zah (zbm Zp rfl (zbh (pv 0)) (zex rfl (za4 (zbb 2 zd5.nd) (za4 (zbb 3 zd5.nd) zch)))
   (zah (zbm Zp rfl (zbh (pv 3)) (zbb 4 zd5.nd)
    (zah (zbr (PW.pt (pw_or (zas op_eq (pv 4) (pv 2) (zbf _)) (pw_or1 (zas zcn (pv 2) (pe_dget2 hu (pv 1) (pv 4) (za7 zaf) ⟨rfl,rfl,rfl,rfl⟩) rfl)))) (zah ps_no) za2)))))),?_⟩
 have qE:(es.map λe:Ent=>(e.1,V.ref e.2.2)).map (·.1)=es.map (·.1):=by rw[Zi];rfl
 refine⟨_,rfl,l,as,es.map λe=>(e.1,V.ref e.2.2),rfl,R.ls,paired_map R.ts,by rw[qE];exact aH,λd hd=>?_⟩
 have hpd:((es.map λe:Ent=>(e.1,V.ref e.2.2)).map λp=>((Sum.inr p.1:Key),p.2))=es.map λe=>((Sum.inr e.1:Key),V.ref e.2.2):=by rw[Zi];rfl
 rw[hpd]
 have k1:Keep [] H (upd H d (.dK (es.map λe=>((Sum.inr e.1:Key),V.ref e.2.2)))):=Keep.new hd
 have kJ:(upd H d (.dK (es.map λe=>((Sum.inr e.1:Key),V.ref e.2.2)))) d=some (.dK (es.map λe=>((Sum.inr e.1:Key),V.ref e.2.2))):=zac
 generalize upd H d (.dK (es.map λe=>((Sum.inr e.1:Key),V.ref e.2.2)))=H1 at k1 kJ
 have R1:=R.keep k1
 refine⟨_,rfl,l,rfl,⟨_,SqL.of R1.ls⟩,zbv (xs:=as.map V.ref) (λi σ H'=>Aj2 (Keep [] H1 H') (Ex3 λx2 x3 x4=>σ=[some (.ref l),some (.ref d),x2,x3,x4])) ⟨Keep.refl,none,none,none,rfl⟩ (λi σ H' _ hh=>SqL.of (hh.1 _ _ R1.ls (by simp))) ?_ ?_⟩
 ·rintro i y σ H2 hx ⟨k2,x2,x3,x4,rfl⟩
  have hi:i<as.length:=by
   have:=(Za.mp hx).1
   rwa[Qa]at this
  have jB:y=.ref as[i]:=by
   rw[Qq,Qd hi]at hx
   exact(Qk hx).symm
  subst jB
  obtain⟨aE,eQ⟩:=zbd R1.ts hi
  obtain⟨gG,ba⟩:=hok _ (Zb aE)
  have dG:=k2 _ _ (R1.ro _ (Zb aE)) (by simp)
  refine⟨as[i],_,rfl,SqT.of (k2 _ _ eQ (by simp)),rfl,_,_,rfl,_,_,rfl,rfl,?_⟩
  refine⟨_,rfl,es[i].2.2,rfl,⟨_,SqL.of dG⟩,zbv (xs:=es[i].2.1.map V.str) (λj σ H'=>Aj2 (Keep [] H2 H') (Ex1 λx4=>σ=[some (.ref l),some (.ref d),some (.str es[i].1),some (.ref es[i].2.2),x4])) ⟨Keep.refl,_,rfl⟩ (λj σ H' _ hh=>SqL.of (hh.1 _ _ dG (by simp))) ?_ ?_⟩
  ·rintro j y σ H3 hy ⟨k3,y4,rfl⟩
   obtain⟨z,hz,rfl⟩:=Qh.mp (Yq hy)
   obtain⟨e',bV,hez,ax⟩:=ba z hz
   have az:z≠es[i].1:=λq=>gG (q▸hz)
   have pi:=k3 _ _ (k2 _ _ kJ (by simp)) (by simp)
   refine⟨_,rfl,_,rfl,rfl,_,rfl,zcq (decide_eq_false (λq=>az (by injection q))) ?_⟩
   refine⟨_,rfl,_,rfl,d,rfl,.inl ⟨_,.inl pi⟩,_,rfl,(by show 0≤sizeLine;decide),λq hq=>?_⟩
   have ndq:d≠q:=zab pi hq
   have uZ:(upd H3 q (.lst [])) d=some (.dK (es.map λe=>((Sum.inr e.1:Key),V.ref e.2.2))):=by rw[zad ndq];exact pi
   have gC:(upd H3 q (.lst [])) e'.2.2=some (.lst (e'.2.1.map V.str)):=by
    have h3:=k3 _ _ (k2 _ _ (R1.ro e' bV) (by simp)) (by simp)
    rw[zad (zab h3 hq)];exact h3
   have dg:=DGet.k (k:=Sum.inr z) uZ
   rw[←hez,zb6 aH bV,hez]at dg
   refine⟨_,dg,e'.2.2,_,rfl,.inl (SqL.of gC),rfl,zcj _,_,rfl,?_⟩
   refine zcq (by rw[if_pos rfl,zf2,decide_eq_true ax];rfl) ?_
   exact⟨k3.trans (Keep.new hq),_,rfl⟩
  ·rintro σ H3 ⟨k3,y4,rfl⟩
   exact⟨k2.trans k3,_,_,_,rfl⟩
 ·rintro σ H2 ⟨k2,x2,x3,x4,rfl⟩
  exact k H2 (k1.trans k2)
def scLeast:zan ["around", "at"] ["around"] (zag sLeast):=fsk
def ok_least(F:Fun K "from_least" "from_least" sLeast f fd)(fV:mg "min" = none)(sT:mg "tuple" = none):FnOk P w K mg base CX0 1 f fd ["around"] spLeast:=by
 refine F.okL scLeast (λcdv A outer s H vs Q E hr h=>?_)
 obtain⟨a,zs,rfl,ha,hz,k⟩:=h
 have aJ  := sizeLine_eq
 refine⟨_,zae (zat 1 scLeast.nd (pe_ifExp (zfd (pv 0) (by intro _;rfl)) (zer Zr Kr Kq zhx (pv 0) (zaa (zak (zia rfl) (by rfl) fV Xf (zaa (pv 0) zaf)) zaf)) zai))
  (zah (zbp (zb9 zh8 (by rfl) sT PyProof.Rows.boot_tuple (zaa (zau zc2 (zce zc5 (pv 0) (zcp (pv 1)) zc8) (zce zc5 (pv 0) zc8 (zcp (pv 1)))) zaf)))),?_⟩
 have aI:(zs.map V.str).length=zs.length:=Qa ..
 refine⟨_,rfl,_,.inl ⟨_,SqL.of ha,rfl⟩,?_⟩
 by_cases sF:zs=[]
 ·refine zcq (by rw [sF];rfl) ?_
  have h0:0≤zs.length:=Zg _
  refine⟨_,rfl,_,rfl,_,rfl,a,_,rfl,SqL.of ha,λp1 h1=>?_⟩
  have n1:a≠p1:=zab ha h1
  refine⟨_,rfl,_,rfl,_,rfl,a,_,rfl,SqL.of (by rw[zad n1];exact ha),λp2 h2=>?_⟩
  have cS:p1≠p2:=zab (o:=_) zac h2
  refine⟨p1,p2,_,_,rfl,rfl,(by rw[zad cS];exact zac),zac,?_,λp3 h3=>?_⟩
  ·have q1:=zbx (zs.map V.str) (some (0:Int)) none
   have q2:=zbx (zs.map V.str) none (some (0:Int))
   rw[aI]at q1 q2
   show _+_≤sizeLine
   lia
  have ecut:cutV (zs.map V.str) (some (0:Int)) none++cutV (zs.map V.str) none (some (0:Int))=(zs.drop (0:Nat)++zs.take (0:Nat)).map V.str:=by
   show cutV (zs.map V.str) (some (((0:Nat)):Int)) none++cutV (zs.map V.str) none (some (((0:Nat)):Int))=_
   rw[zfg (by rw[aI];exact h0),cut_to (by rw[aI];exact h0),Qn,Jl,Ue]
  rw[ecut]
  refine⟨p3,_,rfl,.inl ⟨SqL.of zac,λt ht=>?_⟩⟩
  have kk:Keep [] H _:=(((Keep.new h1).trans (Keep.new h2)).trans (Keep.new h3)).trans (Keep.new (o:=.tup ((zs.drop (0:Nat)++zs.take (0:Nat)).map V.str)) ht)
  exact k t (0:Nat) _ h0 zac (zal (xs:=[]) (((Keep.new h1).trans (Keep.new h2)).trans (Keep.new h3)) ht (by simp)) kk
 ·refine zdj (by cases hh:zs with
   |nil=>exact absurd hh sF
   |cons _ _=>rfl) ?_
  refine⟨_,rfl,.inl ⟨rfl,_,SqL.of ha⟩,_,rfl,a,zs,rfl,SqL.of ha,sF,λz e7 _=>?_⟩
  obtain⟨i1,i2⟩:=zh1 e7
  have hj:zs.idxOf z≤zs.length:=Uc (idx_lt e7)
  refine⟨a,_,_,_,rfl,rfl,ha,rfl,zcj _,i1,i2,?_⟩
  refine⟨_,rfl,_,rfl,_,rfl,a,_,rfl,SqL.of ha,λp1 h1=>?_⟩
  have n1:a≠p1:=zab ha h1
  refine⟨_,rfl,_,rfl,_,rfl,a,_,rfl,SqL.of (by rw[zad n1];exact ha),λp2 h2=>?_⟩
  have cS:p1≠p2:=zab (o:=_) zac h2
  refine⟨p1,p2,_,_,rfl,rfl,(by rw[zad cS];exact zac),zac,?_,λp3 h3=>?_⟩
  ·have q1:=zbx (zs.map V.str) (some ((zs.idxOf z):Int)) none
   have q2:=zbx (zs.map V.str) none (some ((zs.idxOf z):Int))
   rw[aI]at q1 q2
   show _+_≤sizeLine
   lia
  have ecut:cutV (zs.map V.str) (some ((zs.idxOf z):Int)) none++cutV (zs.map V.str) none (some ((zs.idxOf z):Int))=(zs.drop (zs.idxOf z)++zs.take (zs.idxOf z)).map V.str:=by
   rw[zfg (by rw[aI];exact hj),cut_to (by rw[aI];exact hj),Qn,Jl,Ue]
  rw[ecut]
  refine⟨p3,_,rfl,.inl ⟨SqL.of zac,λt ht=>?_⟩⟩
  have kk:Keep [] H _:=(((Keep.new h1).trans (Keep.new h2)).trans (Keep.new h3)).trans (Keep.new (o:=.tup ((zs.drop (zs.idxOf z)++zs.take (zs.idxOf z)).map V.str)) ht)
  exact k t (zs.idxOf z) _ hj zac (zal (xs:=[]) (((Keep.new h1).trans (Keep.new h2)).trans (Keep.new h3)) ht (by simp)) kk
end
end K21
end
section
namespace Wb
section lk
variable{β:Type}
def Lk(f:β→β):β→List β→β→Prop
 |s,[],e=>f s=e
 |s,x::t,e=>f s=x∧Lk f x t e
def lk_app:∀{A:List β} {s:β},Lk f s (A++x::B) e↔Lk f s A x∧Lk f x B e:=by
 intro A
 induction A with
 |nil=>intro s;exact Iff.rfl
 |cons a t ih =>
  intro s
  show f s=a∧Lk f a (t++x::B) e↔(f s=a∧Lk f a t x)∧Lk f x B e
  rw[ih,and_assoc]
def lk_congr:∀{t:List β} {s:β},(∀y,y=s∨y∈t→g y=f y)→Lk f s t e→Lk g s t e:=by
 intro t
 induction t with
 |nil=>intro s h k;exact(h s (.inl rfl)).trans k
 |cons a t ih =>
  intro s h k
  refine⟨(h s (.inl rfl)).trans k.1,ih (λy hy=>h y (.inr ?_)) k.2⟩
  rcases hy with z | z
  ·rw[z];exact Qc
  ·exact Qf _ z
def Cyc(f:β→β)(c:List β):Prop:=∃s t,c=s::t∧Lk f s t s
def zcz(h:Cyc f (A++x::B)):Lk f x (B++A) x:=by
 obtain⟨s,t,e,k⟩:=h
 cases A with
 |nil =>
  cases e
  rw[Zu];exact k
 |cons a A' =>
  cases e
  obtain⟨k1,k2⟩:=lk_app.mp k
  exact lk_app.mpr ⟨k2,k1⟩
def zei(h:∀y∈c,g y=f y)(k:Cyc f c):Cyc g c:=by
 obtain⟨s,t,e,k⟩:=k
 subst e
 exact⟨s,t,rfl,lk_congr (λy hy=>h y (Qe.mpr hy)) k⟩
end lk
section nx
variable{α:Type}[DecidableEq α]
def za8{A B:List α}{w:α}(h:w∉A):(B++A++[w]).head?=some (nxt (A++w::B) w):=by
 have hi:(A++w::B).idxOf w=A.length:=by
  rw[List.idxOf_append,if_neg h,List.idxOf_cons_self];lia
 unfold nxt
 rw[hi,Qt,Qx]
 cases B with
 |nil =>
  have e:(A.length+1)%(A.length+(([]:List α).length+1))=0:=by simp
  rw[e]
  cases A with
  |nil=>rfl
  |cons a t=>rfl
 | cons b t =>
  have e:(A.length+1)%(A.length+((b::t).length+1))=A.length+1:=Nat.mod_eq_of_lt (by rw[Qx];lia)
  rw[e]
  have:(A++w::b::t).getD (A.length+1) w=b:=by
   rw[Zq,Uq (by exact Yh _ _)]
   have:A.length+1-A.length=1:=by lia
   rw[this];rfl
  rw[this];rfl
def zbo{zs:List α}{c:α}(h:c∈zs)(nd:zs.Nodup):∃A B,zs=A++c::B∧c∉A∧c∉B:=by
 obtain⟨A,B,e⟩:=Ym h
 refine⟨A,B,e,?_,?_⟩
 ·rw [e,Ze] at nd
  exact λz=>nd.2.2 _ z _ Qc rfl
 ·rw [e,Ze,Qs] at nd
  exact nd.2.1.1
def zcs{A B:List α}{c n:α}(h:c∉A):ins (A++c::B) (some c) n=A++c::n::B:=by
 have hi:(A++c::B).idxOf c=A.length:=by
  rw[List.idxOf_append,if_neg h,List.idxOf_cons_self];lia
 show(A++c::B).take ((A++c::B).idxOf c+1)++n::(A++c::B).drop ((A++c::B).idxOf c+1)=_
 rw[hi]
 have e1:(A++c::B).take (A.length+1)=A++[c]:=by
  rw[List.take_append,Qz (by exact Yh _ _)]
  have:A.length+1-A.length=1:=by lia
  rw[this];rfl
 have e2:(A++c::B).drop (A.length+1)=B:=by
  rw[List.drop_append,List.drop_of_length_le (by exact Yh _ _)]
  have:A.length+1-A.length=1:=by lia
  rw[this];rfl
 rw[e1,e2,Qw];rfl
variable{zs:List α}{c n:α}
def zdv(hc:c∈zs)(nd:zs.Nodup){w:α}:w∈ins zs (some c) n↔w=n∨w∈zs:=by
 obtain⟨A,B,rfl,h1,h2⟩:=zbo hc nd
 rw[zcs h1]
 simp only[Qj,Qe]
 constructor
 ·rintro (h | h | h | h)
  ·exact .inr (.inl h)
  ·exact .inr (.inr (.inl h))
  ·exact .inl h
  ·exact .inr (.inr (.inr h))
 ·rintro (h | h | h | h)
  ·exact .inr (.inr (.inl h))
  ·exact .inl h
  ·exact .inr (.inl h)
  ·exact .inr (.inr (.inr h))
def zhz(hc:c∈zs)(nd:zs.Nodup):(ins zs (some c) n).length=zs.length+1:=by
 obtain⟨A,B,rfl,h1,h2⟩:=zbo hc nd
 rw[zcs h1]
 simp only[Qt,Qx];lia
def nd_ins(hc:c∈zs)(nd:zs.Nodup)(hn:n∉zs):(ins zs (some c) n).Nodup:=by
 obtain⟨A,B,rfl,h1,h2⟩:=zbo hc nd
 rw[zcs h1]
 rw[Ze,Qs]at nd
 rw[Qj,Qe,not_or,not_or]at hn
 obtain⟨nA,⟨ncB,nB⟩,nAB⟩:=nd
 rw[Ze,Qs,Qs]
 refine⟨nA,⟨?_,hn.2.2,nB⟩,λa ha b hb=>?_⟩
 ·rw[Qe,not_or];exact⟨λe=>hn.2.1 e.symm,ncB⟩
 ·rcases Qe.mp hb with z | z
  ·rw[z];exact nAB a ha c Qc
  ·rcases Qe.mp z with y | y
   ·rw[y];exact λe=>hn.1 (e▸ha)
   ·exact nAB a ha b (Qf _ y)
def zee(hc:c∈zs)(nd:zs.Nodup):nxt (ins zs (some c) n) c=n:=by
 obtain⟨A,B,rfl,h1,h2⟩:=zbo hc nd
 rw[zcs h1]
 have k:=za8 (B:=n::B) h1
 exact(Qk k).symm
def zfs(hc:c∈zs)(nd:zs.Nodup)(hn:n∉zs):nxt (ins zs (some c) n) n=nxt zs c:=by
 obtain⟨A,B,rfl,h1,h2⟩:=zbo hc nd
 rw[zcs h1]
 rw[Qj,Qe,not_or,not_or]at hn
 have e:A++c::n::B=(A++[c])++n::B:=by rw[Qw];rfl
 have tX:n∉A++[c]:=by
  rw[Qj,not_or,Qb];exact⟨hn.1,hn.2.1⟩
 have k1:=za8 (B:=B) tX
 have k2:=za8 (B:=B) h1
 rw[←e]at k1
 refine Qk (k1.symm.trans (Eq.trans ?_ k2))
 cases B with
 |cons b t=>rfl
 |nil=>cases A with
  |nil=>rfl
  |cons a t=>rfl
def zc9(hc:c∈zs)(nd:zs.Nodup)(hn:n∉zs){w:α}(hw:w∈zs)(sK:w≠c):nxt (ins zs (some c) n) w=nxt zs w:=by
 obtain⟨A,B,rfl,h1,h2⟩:=zbo hc nd
 rw[zcs h1]
 rw[Ze,Qs]at nd
 obtain⟨nA,⟨ncB,nB⟩,nAB⟩:=nd
 rw[Qj,Qe,not_or,not_or]at hn
 rcases Qj.mp hw with h | h
 ·obtain ⟨A1,A2,rfl,g1,g2⟩:=zbo h nA
  have k1:=za8 (A:=A1) (B:=A2++c::n::B) g1
  have k2:=za8 (A:=A1) (B:=A2++c::B) g1
  rw[Qw,Us,Qw,Us]
  refine Qk (k1.symm.trans (Eq.trans ?_ k2))
  cases A2<;>rfl
 ·rcases Qe.mp h with z | z
  ·exact absurd z sK
  ·obtain ⟨B1,B2,rfl,g1,g2⟩:=zbo z nB
   have hwA:w∉A:=λq=>nAB _ q _ (Qf _ z) rfl
   have iQ:w≠n:=λq=>hn.2.2 (q▸z)
   have m1:w∉A++c::n::B1:=by
    simp only[Qj,Qe,not_or];exact⟨hwA,sK,iQ,g1⟩
   have m2:w∉A++c::B1:=by
    simp only[Qj,Qe,not_or];exact⟨hwA,sK,g1⟩
   have k1:=za8 (B:=B2) m1
   have k2:=za8 (B:=B2) m2
   have e1:A++c::n::(B1++w::B2)=(A++c::n::B1)++w::B2:=by rw[Qw];rfl
   have e2:A++c::(B1++w::B2)=(A++c::B1)++w::B2:=by rw[Qw];rfl
   rw[e1,e2]
   refine Qk (k1.symm.trans (Eq.trans ?_ k2))
   cases B2 with
   |cons b t=>rfl
   |nil=>cases A<;>rfl
def nxt_rot(nd:zs.Nodup)(k:Nat){w:α}(hw:w∈zs):nxt (zs.drop k++zs.take k) w=nxt zs w:=by
 obtain⟨A,B,rfl,h1,h2⟩:=zbo hw nd
 have k2:=za8 (B:=B) h1
 by_cases hk:k≤A.length
 ·have e:(A++w::B).drop k++(A++w::B).take k=A.drop k++w::(B++A.take k):=by
   rw[List.drop_append,List.take_append]
   have:k-A.length=0:=by lia
   rw[this,List.drop_zero,List.take_zero,Zu,Qw];rfl
  have k1:=za8 (A:=A.drop k) (B:=B++A.take k) (λz=>h1 (List.mem_of_mem_drop z))
  rw[e]
  refine Qk (k1.symm.trans (Eq.trans ?_ k2))
  rw[Qw B,Yx]
 ·have e:(A++w::B).drop k++(A++w::B).take k=(B.drop (k - A.length - 1)++A)++w::B.take (k - A.length - 1):=by
   rw[List.drop_append,List.take_append,List.drop_of_length_le (by lia),Qz (by lia)]
   have:k-A.length=(k-A.length-1)+1:=by lia
   conv=>lhs;rw[this]
   rw[List.drop_succ_cons,List.take_succ_cons,Js,Qw]
  have k1:=za8 (A:=B.drop (k-A.length-1)++A) (B:=B.take (k-A.length-1)) (λz=>by
   rcases Qj.mp z with y | y
   ·exact h2 (List.mem_of_mem_drop y)
   ·exact h1 y)
  rw[e]
  refine Qk (k1.symm.trans (Eq.trans ?_ k2))
  rw[←Qw,Yx]
end nx
section
variable{α:Type}[DecidableEq α]
def st(r:α→List α)(s:α×α):α×α:=(s.2,nxt (r s.2) s.1)
inductive Conn(r:α→List α)(x:α):α→Prop
 |refl:Conn r x x
 |step {y z:α}:Conn r x y→z∈r y→Conn r x z
def Conn.trans{r:α→List α}{x y z:α}(a:Conn r x y)(b:Conn r y z):Conn r x z:=by
 induction b with
 |refl=>exact a
 |step _ h ih=>exact .step ih h
def Conn.mono(h:∀x y,y∈r x→y∈r' x)(a:Conn r x y):Conn r' x y:=by
 induction a with
 |refl=>exact .refl
 |step _ hz ih=>exact .step ih (h _ _ hz)
def wt(ns:List α)(r:α→List α)(af:α→α)(t:α):Int:=(ns.map λx=>if af x=t then 2+(if r x=[] then 2 else 0)-((r x).length:Int) else 0).sum
def ct(cs:List (List (α×α)))(af:α→α)(t:α):Int:=(cs.map λc=>if(c.any λs=>decide (af s.1=t))=true then(2:Int) else 0).sum
structure Cert(ns:List α)(r:α→List α)(cs:List (List (α×α)))(af:α→α):Prop where
 nd:ns.Nodup
 ro:∀x,x∉ns→r x=[]
 rn:∀x,(r x).Nodup
 ir:∀x,x∉r x
 sy:∀x y,y∈r x→x∈r y
 cf:cs.flatten.Nodup
 cm:∀s,s∈cs.flatten↔s.1∈r s.2
 cy:∀c∈cs,Cyc (st r) c
 ln:∀x∈ns,af x∈ns
 la:∀x y,y∈r x→af y=af x
 co:∀x∈ns,∀y∈ns,af x=af y→Conn r x y
 eu:∀x∈ns,wt ns r af (af x)+ct cs af (af x)=4
variable{ns:List α}{r r':α→List α}{cs:List (List (α×α))}{af:α→α}
def Cert.inn(C:Cert ns r cs af){x y:α}(h:y∈r x):x∈ns:=Kh λz=>by rw[C.ro x z]at h;cases h
def Cert.inn'(C:Cert ns r cs af){x y:α}(h:y∈r x):y∈ns:=C.inn (C.sy x y h)
def zen{g g':α→Int}:∀ {l:List α},l.Nodup→a∈l→(∀ x∈l,x≠a→g' x=g x)→(l.map g').sum=(l.map g).sum+(g' a - g a):=by
 intro l
 induction l with
 |nil=>intro _ h;cases h
 | cons b t ih =>
  intro nd h e
  rw[Qs]at nd
  rw[Ql,Ql,Zk,Zk]
  by_cases hb:b=a
  ·have:(t.map g').sum=(t.map g).sum:=by
    congr 1
    exact Wg λx hx=>e x (Qf _ hx) λz=>nd.1 (by rw[hb,←z];exact hx)
   rw[this,hb];lia
  ·have h':a∈t:=by
    rcases Qe.mp h with z | z
    ·exact absurd z.symm hb
    ·exact z
   rw[ih nd.2 h' λx hx=>e x (Qf _ hx),e b Qc hb];lia
def zb7{β:Type}{g g':β→Int}{l:List β}(h:∀x∈l,g' x=g x):(l.map g').sum=(l.map g).sum:=by
 congr 1;exact Wg h
def zh6(C:Cert ns r cs af){N R:List (List (α×α))}{c0 news:List (α×α)}(hR:∀c∈R,c∈cs)(cr:cs.flatten.Perm (c0++R.flatten))(hN:N.flatten.Perm (news++c0))(aH:news.Nodup)(bD:∀s∈news,s.1∉r s.2)(hmem:∀s:α×α,s.1∈r' s.2↔s∈news∨s.1∈r s.2)(pj:∀c∈N,Cyc (st r') c)(ap:∀s:α×α,s.1∈r s.2→s∉c0→st r' s=st r s) :
  (N++R).flatten.Nodup∧(∀s,s∈(N++R).flatten↔s.1∈r' s.2)∧∀c∈N++R,Cyc (st r') c:=by
 have hp:(N++R).flatten.Perm (news++cs.flatten):=by
  rw[Wh]
  refine(List.Perm.append_right _ hN).trans ?_
  rw[Qw]
  exact Zz _ cr.symm
 refine⟨?_,λs=>?_,λc hc=>?_⟩
 ·rw [hp.nodup_iff,Ze]
  exact⟨aH,C.cf,λa ha b hb e=>bD a ha (by rw[e];exact(C.cm b).mp hb)⟩
 ·rw[hp.mem_iff,Qj,hmem,C.cm]
 ·rcases Qj.mp hc with z | z
  ·exact pj c z
  ·refine zei (fun y hy=>?_) (C.cy c (hR c z))
   have hyR:y∈R.flatten:=Zs.mpr ⟨c,z,hy⟩
   refine ap y ((C.cm y).mp (cr.mem_iff.mpr (Qo _ hyR))) λqp=>?_
   have:=cr.nodup_iff.mp C.cf
   rw[Ze]at this
   exact this.2.2 y qp y hyR rfl
def zde{β:Type}{g:β→Int}:∀{l:List β},(∀x∈l,g x=0)→(l.map g).sum=0:=by
 intro l
 induction l with
 |nil=>intro _;rfl
 |cons a t ih =>
  intro h
  rw[Ql,Zk,h a Qc,ih λx hx=>h x (Qf _ hx)];rfl
def Cert.inc(C:Cert ns r cs af){c:List (α×α)}(hc:c∈cs){s:α×α}(hs:s∈c):s.1∈r s.2:=(C.cm s).mp (Zs.mpr ⟨c,hc,hs⟩)
def ct_lab{aj:α→α}{t:α}(h:∀c∈cs,∀s∈c,aj s.1=af s.1):ct cs aj t=ct cs af t:=by
 refine zb7 λc hc=>?_
 have:(c.any λs=>decide (aj s.1=t))=c.any λs=>decide (af s.1=t):=by
  rw[Wi,Yw,Yw]
  constructor
  ·rintro⟨s,hs,e⟩;exact⟨s,hs,by rwa[h c hc s hs]at e⟩
  ·rintro⟨s,hs,e⟩;exact⟨s,hs,by rw[h c hc s hs];exact e⟩
 rw[this]
def cert_new(C:Cert ns r cs af){x:α}(hx:x∉ns){aj:α→α}(hl:∀y∈ns,aj y=af y)(bh:aj x=x):Cert (ns++[x]) r cs aj:=by
 have qy:r x=[]:=C.ro x hx
 have ne:∀{y},y∈ns→y≠x:=λ{y} hy e=>hx (e▸hy)
 have ax:∀c∈cs,∀s∈c,s.1∈ns:=λc hc s hs=>C.inn' (C.inc hc hs)
 have lK:∀t,ct cs aj t=ct cs af t:=λt=>ct_lab λc hc s hs=>hl _ (ax c hc s hs)
 have lx:∀y∈ns,af y≠x:=λy hy e=>hx (e▸C.ln y hy)
 have v3:ct cs af x=0:=zde λc hc=>if_neg λz=>by
  obtain⟨s,hs,e⟩:=Yw.mp z
  exact lx _ (ax c hc s hs) (of_decide_eq_true e)
 have hw:∀t,wt (ns++[x]) r aj t=wt ns r af t+if x=t then 4 else 0:=λt=>by
  unfold wt
  rw[Qn,List.sum_append,Ql,Je,Zk,List.sum_nil]
  congr 1
  ·exact zb7 λz hz=>by rw[hl z hz]
  ·rw[bh,qy];simp
 refine⟨?_,λy hy=>C.ro y λz=>hy (Qp _ z),C.rn,C.ir,C.sy,C.cf,C.cm,C.cy,λy hy=>?_,λy z hz=>?_,λy hy z hz e=>?_,λy hy=>?_⟩
 ·rw [Ze]
  exact⟨C.nd,Qs.mpr ⟨by simp,Zn⟩,λa ha b hb=>by rw[Qb.mp hb];exact ne ha⟩
 ·rcases Qj.mp hy with h | h
  ·rw[hl y h];exact Qp _ (C.ln y h)
  ·rw[Qb.mp h,bh];exact Qo _ Qc
 ·rw[hl _ (C.inn' hz),hl _ (C.inn hz)];exact C.la y z hz
 ·rcases Qj.mp hy with h | h <;> rcases Qj.mp hz with g | g
  ·rw[hl _ h,hl _ g]at e;exact C.co y h z g e
  ·rw [hl _ h,Qb.mp g,bh] at e
   exact absurd e (lx y h)
  ·rw [hl _ g,Qb.mp h,bh] at e
   exact absurd e.symm (lx z g)
  ·rw[Qb.mp h,Qb.mp g];exact .refl
 ·rw [lK,hw]
  rcases Qj.mp hy with h | h
  ·rw [hl _ h,if_neg (fun z=>lx y h z.symm)]
   have:=C.eu y h;lia
  ·rw [Qb.mp h,bh,if_pos rfl,v3]
   have:wt ns r af x=0:=zde λz hz=>if_neg (lx z hz)
   rw[this];rfl
end
section
variable{β:Type}
def zhy:∀{t:List β},g s'=f s→(∀y∈t,g y=f y)→Lk f s t e→Lk g s' t e:=by
 intro t
 cases t with
 |nil=>intro h _ k;exact h.trans k
 |cons a t =>
  intro h hh k
  exact⟨h.trans k.1,lk_congr (λy hy=>hh y (Qe.mpr hy)) k.2⟩
def lk_lab{γ:Type}{f:β→β}{lb:β→γ}{e:β}:∀{t:List β} {s:β},(∀y,y=s∨y∈t→lb (f y)=lb y)→Lk f s t e→∀y∈t,lb y=lb s:=by
 intro t
 induction t with
 |nil=>intro s _ _ y hy;cases hy
 | cons a t ih =>
  intro s h k y hy
  have ha:lb a=lb s:=by rw[←k.1];exact h s (.inl rfl)
  rcases Qe.mp hy with z | z
  ·rw[z];exact ha
  ·rw [← ha]
   exact ih (λy hy=>h y (.inr (Qe.mpr hy))) k.2 y z
def zhp{l m:List Int}(h:l.Perm m):l.sum=m.sum:=by
 induction h with
 |nil=>rfl
 |cons x _ ih=>rw[Zk,Zk,ih]
 |swap x y l=>rw[Zk,Zk,Zk,Zk];omega
 |trans _ _ a b=>exact a.trans b
end
section
variable{α:Type}[DecidableEq α]{ns:List α}{r r':α→List α}{cs:List (List (α×α))}{af aj:α→α}
def ct_perm{cs':List (List (α×α))}(h:cs.Perm cs')(t:α):ct cs af t=ct cs' af t:=zhp (h.map _)
def zdc(c:List (α×α))(t:α):ct (c::cs) af t=(if(c.any λs=>decide (af s.1=t))=true then(2:Int) else 0)+ct cs af t:=by
 unfold ct;rw[List.map_cons,List.sum_cons]
def Cert.one_lab(C:Cert ns r cs af){c:List (α×α)}(hc:c∈cs){s u:α×α}(hs:s∈c)(hu:u∈c):af u.1=af s.1:=by
 obtain⟨A,B,rfl⟩:=Ym hs
 have k:=zcz (C.cy _ hc)
 have hl:∀y,y=s∨y∈B++A→af (st r y).1=af y.1:=λy hy=>by
  have fC:y∈A++s::B:=by
   rcases hy with z | z
   ·rw[z];exact hs
   ·rcases Qj.mp z with q | q
    ·exact Qo _ (Qf _ q)
    ·exact Qp _ q
  exact(C.la _ _ (C.inc hc fC)).symm
 rcases Qj.mp hu with z | z
 ·exact lk_lab (lb:=λy:α×α=>af y.1) hl k u (Qo _ z)
 ·rcases Qe.mp z with q | q
  ·rw[q]
  ·exact lk_lab (lb:=λy:α×α=>af y.1) hl k u (Qp _ q)
def zdd{c:List (α×α)}(h:∀s∈c,af s.1=u)(az:c≠[]):(c.any λs=>decide (af s.1=t))=decide (u=t):=by
 rw[Wi,Yw,decide_eq_true_iff]
 constructor
 ·rintro⟨s,hs,e⟩;rw[←h s hs];exact of_decide_eq_true e
 ·intro e
  cases c with
  |nil=>exact absurd rfl az
  |cons s _=>exact⟨s,Qc,decide_eq_true ((h s Qc).trans e)⟩
def zb0(hc:c∈cs):cs.flatten.Perm (c++(cs.erase c).flatten):=by
 have:=List.Perm.flatten (Jm hc)
 rwa[Yv]at this
def ze2(C:Cert ns r cs af)(hp:p∈ns)(hx:x∉ns)(h1:r' x=[p])(h3:∀ y,y≠x→y≠p→r' y=r y)(hm:∀ w,w∈r' p↔w=x∨w∈r p)(hn:(r' p).Nodup)(ah:(r' p).length=(r p).length+1)(hl:∀y∈ns,aj y=af y)(bh:aj x=af p)(hc:cs'.flatten.Nodup∧(∀s,s∈cs'.flatten↔s.1∈r' s.2)∧∀c∈cs',Cyc (st r') c)(lK:∀t,ct cs' aj t=ct cs af t+if af p=t then(if r p=[] then 2 else 0) else 0):Cert (ns++[x]) r' cs' aj:=by
 have eG:p≠x:=λe=>hx (e▸hp)
 have qy:r x=[]:=C.ro x hx
 have ne:∀{y},y∈ns→y≠x:=λ{y} hy e=>hx (e▸hy)
 have sub:∀z y,y∈r z→y∈r' z:=λz y hy=>by
  by_cases hz:z=p
  ·rw[hz]at hy ⊢;exact(hm y).mpr (.inr hy)
  ·rw[h3 z (ne (C.inn hy)) hz];exact hy
 have hw:∀t,wt (ns++[x]) r' aj t=wt ns r af t-if af p=t then(if r p=[] then 2 else 0) else 0:=λt=>by
  unfold wt
  rw[Qn,List.sum_append,Ql,Je,Zk,List.sum_nil,bh,h1]
  have e1:(ns.map λy=>if aj y=t then(2:Int)+(if r' y=[] then 2 else 0)-((r' y).length:Int) else 0).sum=(ns.map λy=>if af y=t then(2:Int)+(if r' y=[] then 2 else 0)-((r' y).length:Int) else 0).sum :=
   zb7 λy hy=>by rw[hl y hy]
  rw[e1,zen (g:=λy=>if af y=t then(2:Int)+(if r y=[] then 2 else 0)-((r y).length:Int) else 0) C.nd hp (λy hy aS=>by rw[h3 y (ne hy) aS])]
  have az:r' p≠[]:=λe=>by rw[e]at ah;simp at ah
  by_cases ht:af p=t
  ·simp only [ht,if_true,az,if_false,ah]
   by_cases gD:r p=[]
   ·simp[gD];omega
   ·simp[gD];omega
  ·simp only[ht,if_false];omega
 refine⟨?_,λy hy=>?_,λy=>?_,λy=>?_,λy z hz=>?_,hc.1,hc.2.1,hc.2.2,λy hy=>?_,λy z hz=>?_,λy hy z hz e=>?_,λy hy=>?_⟩
 ·rw [Ze]
  exact⟨C.nd,Qs.mpr ⟨by simp,Zn⟩,λa ha b hb=>by rw[Qb.mp hb];exact ne ha⟩
 ·rw [Qj,not_or,Qb] at hy
  rw[h3 y hy.2 (λe=>hy.1 (e▸hp))];exact C.ro y hy.1
 ·by_cases dC:y=x
  ·rw[dC,h1];exact Qs.mpr ⟨by simp,Zn⟩
  ·by_cases aS:y=p
   ·rw[aS];exact hn
   ·rw[h3 y dC aS];exact C.rn y
 ·by_cases dC:y=x
  ·rw[dC,h1,Qb];exact Qu eG
  ·by_cases aS:y=p
   ·rw[aS,hm,not_or];exact⟨eG,C.ir p⟩
   ·rw[h3 y dC aS];exact C.ir y
 ·by_cases dC:y=x
  ·rw [dC,h1,Qb] at hz
   rw[hz,dC];exact(hm x).mpr (.inl rfl)
  ·by_cases aS:y=p
   ·rw [aS] at hz ⊢
    rcases(hm z).mp hz with q | q
    ·rw[q,h1];exact Qc
    ·exact sub z p (C.sy p z q)
   ·rw [h3 y dC aS] at hz
    exact sub z y (C.sy y z hz)
 ·rcases Qj.mp hy with h | h
  ·rw[hl y h];exact Qp _ (C.ln y h)
  ·rw[Qb.mp h,bh];exact Qp _ (C.ln p hp)
 ·by_cases dC:y=x
  ·rw [dC,h1,Qb] at hz
   rw[hz,dC,bh,hl p hp]
  ·by_cases aS:y=p
   ·rw [aS] at hz ⊢
    rcases(hm z).mp hz with q | q
    ·rw[q,bh,hl p hp]
    ·rw[hl _ (C.inn' q),hl p hp];exact C.la p z q
   ·rw [h3 y dC aS] at hz
    rw[hl _ (C.inn' hz),hl _ (C.inn hz)];exact C.la y z hz
 ·have xp:Conn r' x p:=.step .refl (by rw [h1];exact Qc)
  rcases Qj.mp hy with h | h<;>rcases Qj.mp hz with g | g
  ·rw[hl _ h,hl _ g]at e;exact(C.co y h z g e).mono sub
  ·rw [hl _ h,Qb.mp g,bh] at e
   rw[Qb.mp g]
   exact .step ((C.co y h p hp e).mono sub) ((hm x).mpr (.inl rfl))
  ·rw [hl _ g,Qb.mp h,bh] at e
   rw[Qb.mp h]
   exact xp.trans ((C.co p hp z g e).mono sub)
  ·rw[Qb.mp h,Qb.mp g];exact .refl
 ·have key:∀ u∈ns,wt (ns++[x]) r' aj (af u)+ct cs' aj (af u)=4:=fun u hu=>by
   rw[hw,lK]
   have:=C.eu u hu;omega
  rcases Qj.mp hy with h | h
  ·rw[hl _ h];exact key y h
  ·rw[Qb.mp h,bh];exact key p hp
end
section
variable{α:Type}[DecidableEq α]{ns:List α}{r r':α→List α}{cs:List (List (α×α))}{af aj:α→α}
def zhu(p:α):nxt [p] p=p:=by
 unfold nxt
 simp
def leaf_mem(C:Cert ns r cs af)(hp:p∈ns)(hx:x∉ns)(h1:r' x=[p])(h3:∀ y,y≠x→y≠p→r' y=r y)(hm:∀ w,w∈r' p↔w=x∨w∈r p) :
  ∀s:α×α,s.1∈r' s.2↔s∈[(x,p),(p,x)]∨s.1∈r s.2:=λs=>by
 obtain⟨a,b⟩:=s
 have eG:p≠x:=λe=>hx (e▸hp)
 show a∈r' b↔(a,b)∈[(x,p),(p,x)]∨a∈r b
 rw[Qe,Qb,Prod.mk.injEq,Prod.mk.injEq]
 by_cases qU:b=x
 ·subst qU
  rw[h1,C.ro b hx,Qb]
  constructor
  ·intro e;exact .inl (.inr ⟨e,rfl⟩)
  ·rintro ((⟨_,e⟩ | ⟨e,_⟩) | e)
   ·exact absurd e.symm eG
   ·exact e
   ·cases e
 ·by_cases jc:b=p
  ·subst jc
   rw[hm]
   constructor
   ·rintro (e | e)
    ·exact .inl (.inl ⟨e,rfl⟩)
    ·exact .inr e
   ·rintro ((⟨e,_⟩ | ⟨_,e⟩) | e)
    ·exact .inl e
    ·exact absurd e qU
    ·exact .inr e
  ·rw [h3 b qU jc]
   constructor
   ·exact .inr
   ·rintro ((⟨_,e⟩ | ⟨_,e⟩) | e)
    ·exact absurd e jc
    ·exact absurd e qU
    ·exact e
def leaf_nd(eG:p≠x):([(x,p),(p,x)]:List (α×α)).Nodup:=by
 rw[Qs,Qb]
 exact⟨λe=>eG (Um e).1.symm,Qs.mpr ⟨by simp,Zn⟩⟩
def leaf_no(C:Cert ns r cs af)(hx:x∉ns):∀s∈([(x,p),(p,x)]:List (α×α)),s.1∉r s.2:=λs hs h=>by
 rcases Qe.mp hs with e | e
 ·rw[e]at h;exact hx (C.inn' h)
 ·rw[Qb.mp e]at h;exact hx (C.inn h)
def cert_leaf0(C:Cert ns r cs af)(hp:p∈ns)(hx:x∉ns)(qz:r p=[])(h1:r' x=[p])(h2:r' p=[x])(h3:∀ y,y≠x→y≠p→r' y=r y)(hl:∀ y∈ns,aj y=af y)(bh:aj x=af p) :
  Cert (ns++[x]) r' ([(x,p),(p,x)]::cs) aj:=by
 have eG:p≠x:=λe=>hx (e▸hp)
 have hm:∀w,w∈r' p↔w=x∨w∈r p:=λw=>by rw[h2,qz,Qb];simp
 refine ze2 C hp hx h1 h3 hm (by rw[h2];exact Qs.mpr ⟨by simp,Zn⟩) (by rw[h2,qz];rfl) hl bh ?_ λt=>?_
 ·refine zh6 (N:=[[(x,p),(p,x)]]) (R:=cs) (c0:=[]) (news:=[(x,p),(p,x)]) C (fun c h=>h) (by rw [Js]) (by simp) (leaf_nd eG) (leaf_no C hx) (leaf_mem C hp hx h1 h3 hm) (fun c hc=>?_) fun s hs _=>?_
  ·rw [Qb.mp hc]
   refine⟨(x,p),[(p,x)],rfl,?_,?_⟩
   ·show (p,nxt (r' p) x)=(p,x)
    rw[h2,zhu]
   ·show (x,nxt (r' x) p)=(x,p)
    rw[h1,zhu]
  ·have sX:s.2≠x:=fun e=>hx (e ▸ C.inn hs)
   have aT:s.2≠p:=λe=>by rw[e,qz]at hs;cases hs
   unfold st;rw[h3 s.2 sX aT]
 ·rw [zdc,zdd (u:=af p) (fun s hs=>?_) (by simp)]
  ·have:ct cs aj t=ct cs af t:=ct_lab fun c hc s hs=>hl _ (C.inn' (C.inc hc hs))
   rw[this]
   simp only[decide_eq_true_eq,qz,if_true]
   lia
  ·rcases Qe.mp hs with e | e
   ·rw[e];exact bh
   ·rw[Qb.mp e];exact hl p hp
def cert_leaf(C:Cert ns r cs af)(hp:p∈ns)(hx:x∉ns)(hc:c∈r p)(h1:r' x=[p])(h2:r' p=ins (r p) (some c) x)(h3:∀ y,y≠x→y≠p→r' y=r y)(hl:∀ y∈ns,aj y=af y)(bh:aj x=af p) :
  ∃cs',Cert (ns++[x]) r' cs' aj:=by
 have eG:p≠x:=λe=>hx (e▸hp)
 have iP:x∉r p:=λh=>hx (C.inn' h)
 have hm:∀w,w∈r' p↔w=x∨w∈r p:=λw=>by rw[h2];exact zdv hc (C.rn p)
 obtain⟨c1,bj,du⟩:=Zs.mp ((C.cm (c,p)).mpr hc)
 obtain⟨A,B,gN⟩:=Ym du
 have k:=zcz (gN▸C.cy c1 bj)
 have old:∀y∈c1,y.1∈r y.2:=λy hy=>C.inc bj hy
 have nd1:c1.Nodup:=by
  have:=(zb0 bj).nodup_iff.mp C.cf
  rw[Ze]at this
  exact this.1
 have ap:∀s:α×α,s.1∈r s.2→s≠(c,p)→st r' s=st r s:=λs hs az=>by
  have sX:s.2≠x:=λe=>hx (e▸C.inn hs)
  by_cases aT:s.2=p
  ·unfold st
   rw[aT,h2]
   rw[aT]at hs
   rw[zc9 hc (C.rn p) iP hs (λe=>az (Uu e aT))]
  ·unfold st;rw[h3 s.2 sX aT]
 have inBA:∀y∈B++A,y∈c1∧y≠(c,p):=λy hy=>by
  rw[gN]at nd1 ⊢
  rw[Ze,Qs]at nd1
  rcases Qj.mp hy with z | z
  ·exact⟨Qo _ (Qf _ z),λe=>nd1.2.1.1 (e▸z)⟩
  ·exact⟨Qp _ z,λe=>nd1.2.2 y z (c,p) Qc e⟩
 refine⟨[(c,p)::(p,x)::(x,p)::(B++A)]++cs.erase c1,ze2 C hp hx h1 h3 hm (by rw[h2];exact nd_ins hc (C.rn p) iP) (by rw[h2];exact zhz hc (C.rn p)) hl bh ?_ λt=>?_⟩
 ·refine zh6 (c0:=c1) (news:=[(x,p),(p,x)]) C (fun c h=>Wy h) (zb0 bj) ?_ (leaf_nd eG) (leaf_no C hx) (leaf_mem C hp hx h1 h3 hm) (fun c' bZ=>?_) fun s hs hn=>ap s hs fun e=>hn (e ▸ du)
  ·rw [gN]
   refine Jv.mpr λa=>?_
   simp only[Yv,List.flatten_nil,Zu,Kl,Xd,List.count_nil]
   lia
  ·rw [Qb.mp bZ]
   refine⟨(c,p),_,rfl,?_,?_,zhy (f:=st r) (s:=(c,p)) ?_ (λy hy=>ap y (old y (inBA y hy).1) (inBA y hy).2) k⟩
   ·show (p,nxt (r' p) c)=(p,x)
    rw[h2,zee hc (C.rn p)]
   ·show (x,nxt (r' x) p)=(x,p)
    rw[h1,zhu]
   ·show (p,nxt (r' p) x)=(p,nxt (r p) c)
    rw[h2,zfs hc (C.rn p) iP]
 ·have az:r p≠[]:=Uz hc
  have e2:ct cs af t=ct (c1::cs.erase c1) af t:=ct_perm (Jm bj) t
  have e3:ct (cs.erase c1) aj t=ct (cs.erase c1) af t:=ct_lab λc h s hs=>hl _ (C.inn' (C.inc (Wy h) hs))
  have lc:∀s∈c1,af s.1=af p:=λs hs=>(C.one_lab bj du hs).trans (C.la p c hc)
  rw[e2,zdc,Xg,zdc,e3,zdd (u:=af p) lc (Uz du),zdd (u:=af p) (λs hs=>?_) (by simp),if_neg az]
  ·simp
  ·rcases Qe.mp hs with e | hs
   ·rw[e];exact(hl _ (C.inn' hc)).trans (C.la p c hc)
   ·rcases Qe.mp hs with e | hs
    ·rw[e];exact hl p hp
    ·rcases Qe.mp hs with e | hs
     ·rw[e];exact bh
     ·rw[hl _ (C.inn' (old s (inBA s hs).1))];exact lc s (inBA s hs).1
def cert_tie(C:Cert ns r cs af)(bj:c1∈cs)(du:(c,p)∈c1)(dF:(a,o)∈c1)(lF:o≠p)(bD:o∉r p)(h1:r' p=ins (r p) (some c) o)(h2:r' o=ins (r o) (some a) p)(h3:∀ y,y≠p→y≠o→r' y=r y) :
  ∃cs',Cert ns r' cs' af:=by
 have hc:c∈r p:=C.inc bj du
 have ha:a∈r o:=C.inc bj dF
 have hp:p∈ns:=C.inn hc
 have ho:o∈ns:=C.inn ha
 have gF:p∉r o:=λh=>bD (C.sy o p h)
 have lG:∀w,w∈r' p↔w=o∨w∈r p:=λw=>by rw[h1];exact zdv hc (C.rn p)
 have cD:∀w,w∈r' o↔w=p∨w∈r o:=λw=>by rw[h2];exact zdv ha (C.rn o)
 have fZ:af o=af p:=by
  rw[←C.la o a ha,←C.la p c hc];exact C.one_lab bj du dF
 obtain⟨A,B,gN⟩:=Ym du
 have k:=zcz (gN▸C.cy c1 bj)
 have old:∀y∈c1,y.1∈r y.2:=λy hy=>C.inc bj hy
 have nd1:c1.Nodup:=by
  have:=(zb0 bj).nodup_iff.mp C.cf
  rw[Ze]at this
  exact this.1
 have tw:(a,o)∈B++A:=by
  rw[gN]at dF
  rcases Qj.mp dF with z | z
  ·exact Qo _ z
  ·rcases Qe.mp z with q | q
   ·exact absurd (Um q).2 lF
   ·exact Qp _ q
 obtain⟨A2,B2,pR⟩:=Ym tw
 rw[pR]at k
 obtain⟨k1,k2⟩:=lk_app.mp k
 have pm:c1.Perm ((c,p)::(A2++(a,o)::B2)):=by
  rw[gN,←pR]
  refine Jv.mpr λa=>?_
  simp only[Kl,Xd]
  lia
 have jq:=pm.nodup_iff.mp nd1
 rw[Qs,Ze,Qs]at jq
 obtain⟨n1,n2,⟨n3,n4⟩,n5⟩:=jq
 have inA:∀y∈A2,y∈c1∧y≠(c,p)∧y≠(a,o):=λy hy=>⟨pm.mem_iff.mpr (Qf _ (Qp _ hy)),λe=>n1 (e▸Qp _ hy),λe=>n5 y hy (a,o) Qc e⟩
 have inB:∀y∈B2,y∈c1∧y≠(c,p)∧y≠(a,o):=λy hy=>⟨pm.mem_iff.mpr (Qf _ (Qo _ (Qf _ hy))),λe=>n1 (e▸Qo _ (Qf _ hy)),λe=>n3 (e▸hy)⟩
 have ap:∀s:α×α,s.1∈r s.2→s≠(c,p)→s≠(a,o)→st r' s=st r s:=λs hs gG ba=>by
  by_cases aT:s.2=p
  ·unfold st
   rw[aT,h1]
   rw[aT]at hs
   rw[zc9 hc (C.rn p) bD hs (λe=>gG (Uu e aT))]
  ·by_cases iS:s.2=o
   ·unfold st
    rw[iS,h2]
    rw[iS]at hs
    rw[zc9 ha (C.rn o) gF hs (λe=>ba (Uu e iS))]
   ·unfold st;rw[h3 s.2 aT iS]
 have sub:∀z y,y∈r z→y∈r' z:=λz y hy=>by
  by_cases hz:z=p
  ·rw[hz]at hy ⊢;exact(lG y).mpr (.inr hy)
  ·by_cases fA:z=o
   ·rw[fA]at hy ⊢;exact(cD y).mpr (.inr hy)
   ·rw[h3 z hz fA];exact hy
 have hmem:∀s:α×α,s.1∈r' s.2↔s∈[(o,p),(p,o)]∨s.1∈r s.2:=λs=>by
  obtain⟨u,b⟩:=s
  show u∈r' b↔(u,b)∈[(o,p),(p,o)]∨u∈r b
  rw[Qe,Qb,Prod.mk.injEq,Prod.mk.injEq]
  by_cases jc:b=p
  ·subst jc
   rw[lG]
   constructor
   ·rintro (e | e)
    ·exact .inl (.inl ⟨e,rfl⟩)
    ·exact .inr e
   ·rintro ((⟨e,_⟩ | ⟨_,e⟩) | e)
    ·exact .inl e
    ·exact absurd e.symm lF
    ·exact .inr e
  ·by_cases v6:b=o
   ·subst v6
    rw[cD]
    constructor
    ·rintro (e | e)
     ·exact .inl (.inr ⟨e,rfl⟩)
     ·exact .inr e
    ·rintro ((⟨_,e⟩ | ⟨e,_⟩) | e)
     ·exact absurd e jc
     ·exact .inl e
     ·exact .inr e
   ·rw [h3 b jc v6]
    constructor
    ·exact .inr
    ·rintro ((⟨_,e⟩ | ⟨_,e⟩) | e)
     ·exact absurd e jc
     ·exact absurd e v6
     ·exact e
 have nnd:([(o,p),(p,o)]:List (α×α)).Nodup:=by
  rw[Qs,Qb]
  exact⟨λe=>lF (Um e).1,Qs.mpr ⟨by simp,Zn⟩⟩
 have dW:=zh6 (N:=[(c,p)::(p,o)::B2,(a,o)::(o,p)::A2]) (R:=cs.erase c1) (c0:=c1) (news:=[(o,p),(p,o)]) (r':=r') C (λc h=>Wy h) (zb0 bj) (by
   refine List.Perm.trans ?_ (Zz _ pm.symm)
   refine Jv.mpr λa=>?_
   simp only[Yv,List.flatten_nil,Zu,Kl,Xd,List.count_nil]
   lia) nnd (λs hs h=>by
    rcases Qe.mp hs with e | e
    ·rw[e]at h;exact bD h
    ·rw[Qb.mp e]at h;exact gF h) hmem (λc' bZ=>by
   rcases Qe.mp bZ with e | e
   ·rw [e]
    refine⟨(c,p),_,rfl,?_,zhy (f:=st r) (s:=(a,o)) ?_ (λy hy=>ap y (old y (inB y hy).1) (inB y hy).2.1 (inB y hy).2.2) k2⟩
    ·show (p,nxt (r' p) c)=(p,o)
     rw[h1,zee hc (C.rn p)]
    ·show (o,nxt (r' o) p)=(o,nxt (r o) a)
     rw[h2,zfs ha (C.rn o) gF]
   ·rw [Qb.mp e]
    refine⟨(a,o),_,rfl,?_,zhy (f:=st r) (s:=(c,p)) ?_ (λy hy=>ap y (old y (inA y hy).1) (inA y hy).2.1 (inA y hy).2.2) k1⟩
    ·show (o,nxt (r' o) a)=(o,p)
     rw[h2,zee ha (C.rn o)]
    ·show (p,nxt (r' p) o)=(p,nxt (r p) c)
     rw[h1,zfs hc (C.rn p) bD]) λs hs hn=>ap s hs (λe=>hn (e▸du)) λe=>hn (e▸dF)
 refine⟨_,C.nd,λy hy=>?_,λy=>?_,λy=>?_,λy z hz=>?_,dW.1,dW.2.1,dW.2.2,C.ln,λy z hz=>?_,λy hy z hz e=>(C.co y hy z hz e).mono sub,λy hy=>?_⟩
 ·rw[h3 y (λe=>hy (e▸hp)) (λe=>hy (e▸ho))];exact C.ro y hy
 ·by_cases aS:y=p
  ·rw[aS,h1];exact nd_ins hc (C.rn p) bD
  ·by_cases fB:y=o
   ·rw[fB,h2];exact nd_ins ha (C.rn o) gF
   ·rw[h3 y aS fB];exact C.rn y
 ·by_cases aS:y=p
  ·rw[aS,lG,not_or];exact⟨Qu lF,C.ir p⟩
  ·by_cases fB:y=o
   ·rw[fB,cD,not_or];exact⟨lF,C.ir o⟩
   ·rw[h3 y aS fB];exact C.ir y
 ·by_cases aS:y=p
  ·rw [aS] at hz ⊢
   rcases(lG z).mp hz with q | q
   ·rw[q];exact(cD p).mpr (.inl rfl)
   ·exact sub z p (C.sy p z q)
  ·by_cases fB:y=o
   ·rw [fB] at hz ⊢
    rcases(cD z).mp hz with q | q
    ·rw[q];exact(lG o).mpr (.inl rfl)
    ·exact sub z o (C.sy o z q)
   ·rw [h3 y aS fB] at hz
    exact sub z y (C.sy y z hz)
 ·by_cases aS:y=p
  ·rw [aS] at hz ⊢
   rcases(lG z).mp hz with q | q
   ·rw[q];exact fZ
   ·exact C.la p z q
  ·by_cases fB:y=o
   ·rw [fB] at hz ⊢
    rcases(cD z).mp hz with q | q
    ·rw[q];exact fZ.symm
    ·exact C.la o z q
   ·rw [h3 y aS fB] at hz
    exact C.la y z hz
 ·have e2:ct cs af (af y)=ct (c1::cs.erase c1) af (af y):=ct_perm (Jm bj) _
  have lc:∀s∈c1,af s.1=af p:=λs hs=>(C.one_lab bj du hs).trans (C.la p c hc)
  have l1:∀s∈(c,p)::(p,o)::B2,af s.1=af p:=λs hs=>by
   rcases Qe.mp hs with e | hs
   ·rw[e];exact C.la p c hc
   ·rcases Qe.mp hs with e | hs
    ·rw[e]
    ·exact lc s (inB s hs).1
  have l2:∀s∈(a,o)::(o,p)::A2,af s.1=af p:=λs hs=>by
   rcases Qe.mp hs with e | hs
   ·rw[e];exact(C.la o a ha).trans fZ
   ·rcases Qe.mp hs with e | hs
    ·rw[e];exact fZ
    ·exact lc s (inA s hs).1
  have lK:ct ([(c,p)::(p,o)::B2,(a,o)::(o,p)::A2]++cs.erase c1) af (af y)=ct cs af (af y)+if af p=af y then 2 else 0:=by
   rw[e2,zdc,Us,zdc,Us,zdc,Js,zdd lc (Uz du),zdd l1 (by simp),zdd l2 (by simp)]
   simp only[decide_eq_true_eq]
   split<;>lia
  have hw:wt ns r' af (af y)=wt ns r af (af y)-if af p=af y then 2 else 0:=by
   have aA:∀{zs:List α} {w n:α},w∈zs→zs.Nodup→ins zs (some w) n≠[]:=λ{zs w n} hw nd e=>by
    have:=zhz (n:=n) hw nd
    rw[e]at this;simp at this
   unfold wt
   have s1:=zen (g:=λx=>if af x=af y then(2:Int)+(if r x=[] then 2 else 0)-((r x).length:Int) else 0)
    (g':=λx=>if x=p then(if af p=af y then(2:Int)+(if r' p=[] then 2 else 0)-((r' p).length:Int) else 0) else if af x=af y then(2:Int)+(if r x=[] then 2 else 0)-((r x).length:Int) else 0) C.nd hp (λx _ hx=>if_neg hx)
   have s2:=zen (g:=λx=>if x=p then(if af p=af y then(2:Int)+(if r' p=[] then 2 else 0)-((r' p).length:Int) else 0) else if af x=af y then(2:Int)+(if r x=[] then 2 else 0)-((r x).length:Int) else 0)
    (g':=fun x=>if af x=af y then (2:Int)+(if r' x=[] then 2 else 0) - ((r' x).length:Int) else 0) C.nd ho (fun x _ hx=>by
     by_cases iP:x=p
     ·rw[if_pos iP,iP]
     ·rw[if_neg iP,h3 x iP hx])
   rw[s2,s1]
   simp only[if_true,lF,if_false,fZ,h1,h2,aA hc (C.rn p),aA ha (C.rn o),zhz hc (C.rn p),zhz ha (C.rn o),Uz hc,Uz ha]
   by_cases ht:af p=af y
   ·simp only[ht,if_true];lia
   ·simp only[ht,if_false];lia
  rw[lK,hw]
  have:=C.eu y hy
  lia
end
section
variable{α:Type}[DecidableEq α]
def Good(rs:Rs α):Prop:=∃cs af,Cert (rs.map (·.1)) (row rs) cs af
def zh3{β:Type}{f:β→β}{c:List β}(h:Cyc f c){s:β}(hs:s∈c):f s∈c:=by
 obtain⟨A,B,rfl⟩:=Ym hs
 have k:=zcz h
 cases e:B++A with
 |nil =>
  rw[e]at k
  rw[show f s=s from k];exact hs
 |cons a t =>
  rw[e]at k
  rw[k.1]
  have:a∈B++A:=by rw[e];exact Qc
  rcases Qj.mp this with z | z
  ·exact Qo _ (Qf _ z)
  ·exact Qp _ z
variable{rs:Rs α}
def zdn(nd:(rs.map (·.1)).Nodup){p:α×List α}(h:p∈rs):row rs p.1=p.2:=by
 unfold row
 induction rs with
 |nil=>cases h
 | cons a t ih =>
  rw[Ql,Qs]at nd
  rcases Qe.mp h with z | z
  ·subst z;rw[Wc (by simp)];rfl
  ·rw [Wd]
   ·exact ih nd.2 z
   ·intro q
    exact nd.1 (by rw[of_decide_eq_true q];exact Qh.mpr ⟨p,z,rfl⟩)
def zhj(h:x∉rs.map (·.1)):row rs x=[]:=by
 unfold row
 rw[List.find?_eq_none.mpr]
 ·rfl
 ·intro p hp q
  exact h (of_decide_eq_true q▸Qh.mpr ⟨p,hp,rfl⟩)
def zbu(nd:(rs.map (·.1)).Nodup){s:α×α}:IsSt rs s↔s.1∈row rs s.2:=by
 constructor
 ·rintro ⟨p,hp,e,h⟩
  rw[←e,zdn nd hp];exact h
 ·intro h
  by_cases hx:s.2∈rs.map (·.1)
  ·obtain ⟨p,hp,e⟩:=Qh.mp hx
   have e':p.1=s.2:=e
   rw[←e',zdn nd hp]at h
   exact⟨p,hp,e',h⟩
  ·rw[zhj hx]at h;cases h
def za9(x:α)(rr:List α):(zay rs x rr).map (·.1)=rs.map (·.1):=by
 unfold zay
 rw[Zi]
 refine Wg λp _=>?_
 show(if p.1=x then(p.1,rr) else p).1=p.1
 split<;>rfl
def za6{x:α}{rr:List α}(h:x∈rs.map (·.1)):row (zay rs x rr) x=rr:=by
 unfold row zay
 induction rs with
 |nil=>cases h
 | cons a t ih =>
  rw[Ql]
  by_cases hx:a.1=x
  ·rw[if_pos hx,Wc (by simpa using hx)];rfl
  ·rw [if_neg hx,Wd (by simpa using hx)]
   refine ih ?_
   rw[Ql]at h
   rcases Qe.mp h with z | z
   ·exact absurd z.symm hx
   ·exact z
def za5{x y:α}{rr:List α}(h:y≠x):row (zay rs x rr) y=row rs y:=by
 unfold row zay
 induction rs with
 |nil=>rfl
 | cons a t ih =>
  rw[Ql]
  by_cases hy:a.1=y
  ·have hx:a.1≠x:=fun e=>h (hy ▸ e)
   rw[if_neg hx,Wc (by simpa using hy),Wc (by simpa using hy)]
  ·have h1:(if a.1=x then (a.1,rr) else a).1=a.1:=by split <;> rfl
   rw[Wd (by rw[h1];simpa using hy),Wd (by simpa using hy)]
   exact ih
def zhi{x:α}(h:x∉rs.map (·.1)):row (rs++[(x,[])])=row rs:=by
 funext y
 unfold row
 rw[List.find?_append]
 cases e:rs.find? λp=>decide (p.1=y) with
 |some p=>rfl
 |none =>
  rw[Option.none_or]
  by_cases hy:x=y
  ·rw[Wc (by simpa using hy)];rfl
  ·rw[Wd (by simpa using hy)];rfl
theorem za1:Gen (Good (α:=α)) where
 clo:=λrs ⟨cs,af,C⟩ s hs=>by
  obtain⟨c,hc,h⟩:=Zs.mp ((C.cm s).mpr ((zbu C.nd).mp hs))
  exact(zbu C.nd).mpr ((C.cm _).mp (Zs.mpr ⟨c,hc,zh3 (C.cy c hc) h⟩))
 nd:=λrs ⟨cs,af,C⟩=>C.nd
 sub:=λrs ⟨cs,af,C⟩ p hp=>by
  have e:=zdn C.nd hp
  exact⟨e▸C.rn p.1,λx hx=>C.inn' (x:=p.1) (by rw[e];exact hx)⟩
 sy:=λrs ⟨cs,af,C⟩ p hp x hx=>C.sy p.1 x (by rw[zdn C.nd hp];exact hx)
 nil:=by
  refine⟨[],id,⟨Zn,λ_ _=>rfl,λ_=>Zn,λ_ h=>?_,λ_ _ h=>?_,Zn,λs=>⟨λh=>?_,λh=>?_⟩,λc h=>?_,λ_ h=>?_,λ_ _ h=>?_,λ_ h=>?_,λ_ h=>?_⟩⟩
  ·exact absurd h (by simp[row])
  ·exact absurd h (by simp[row])
  ·cases h
  ·exact absurd h (by simp[row])
  ·cases h
  ·cases h
  ·exact absurd h (by simp[row])
  ·cases h
  ·cases h
 new:=λrs x ⟨cs,af,C⟩ hx=>by
  refine⟨cs,λy=>if y=x then x else af y,?_⟩
  rw[zhi hx,Qn]
  exact cert_new C hx (λy hy=>if_neg (λe:y=x=>hx (e▸hy))) (if_pos rfl)
 leaf:=λrs x p c ⟨cs,af,C⟩ hx hp hc eO=>by
  have eI:p.1∈rs.map (·.1):=Qh.mpr ⟨p,hp,rfl⟩
  have eG:p.1≠x:=λe=>hx (e▸eI)
  have e0:(zay (zay (rs++[(x,[])]) p.1 (ins p.2 c x)) x [p.1]).map (·.1)=rs.map (·.1)++[x]:=by rw[za9,za9,Qn];rfl
  have sI:x∈(zay (rs++[(x,[])]) p.1 (ins p.2 c x)).map (·.1):=by rw[za9,Qn];exact Qo _ Qc
  have tK:p.1∈(rs++[(x,([]:List α))]).map (·.1):=by rw[Qn];exact Qp _ eI
  have r1:row (zay (zay (rs++[(x,[])]) p.1 (ins p.2 c x)) x [p.1]) x=[p.1]:=za6 sI
  have r2:row (zay (zay (rs++[(x,[])]) p.1 (ins p.2 c x)) x [p.1]) p.1=ins p.2 c x:=by rw[za5 eG,za6 tK]
  have r3:∀y,y≠x→y≠p.1→row (zay (zay (rs++[(x,[])]) p.1 (ins p.2 c x)) x [p.1]) y=row rs y:=λy h1 h2=>by rw[za5 h1,za5 h2,zhi hx]
  have er:=zdn C.nd hp
  have hl:∀y∈rs.map (·.1),(λy=>if y=x then af p.1 else af y) y=af y:=λy hy=>if_neg (λe:y=x=>hx (e▸hy))
  have bh:(λy=>if y=x then af p.1 else af y) x=af p.1:=if_pos rfl
  unfold Good
  rw[e0]
  cases c with
  |none =>
   have h0:=eO rfl
   refine⟨_,_,cert_leaf0 C eI hx (er.trans h0) r1 ?_ r3 hl bh⟩
   rw[r2,h0];rfl
  |some y =>
   have hy:=hc y rfl
   obtain⟨cs',C'⟩:=cert_leaf C eI hx (c:=y) (by rw[er];exact hy) r1 (by rw[r2,er]) r3 hl bh
   exact⟨cs',_,C'⟩
 tie:=λrs c p n ⟨cs,af,C⟩ hp hc h1 h2=>by
  have er:=zdn C.nd hp
  obtain⟨c1,bj,du⟩:=Zs.mp ((C.cm (c,p.1)).mpr (by rw[er];exact hc))
  have dF:∀n,itr rs (c,p.1) n∈c1:=λn=>by
   induction n with
   |zero=>exact du
   |succ n ih=>exact zh3 (C.cy c1 bj) ih
  have hU:=dF n
  generalize itr rs (c,p.1) n=q at h1 h2 hU
  have eI:p.1∈rs.map (·.1):=Qh.mpr ⟨p,hp,rfl⟩
  have o7:q.2∈rs.map (·.1):=C.inn (C.inc bj hU)
  unfold Good
  rw[za9,za9]
  obtain⟨cs',C'⟩:=cert_tie (r':=row (zay (zay rs p.1 (ins p.2 (some c) q.2)) q.2 (ins (row rs q.2) (some q.1) p.1))) C bj du (a:=q.1) (o:=q.2) hU h1 (by rw[er];exact h2)
   (by rw[za5 (Qu h1),za6 eI,er]) (by rw[za6 (by rw[za9];exact o7)]) (λy h3 h4=>by rw[za5 h4,za5 h3])
  exact⟨cs',af,C'⟩
end
section
variable{α:Type}[DecidableEq α]{ns rW:List α}{r r':α→List α}{cs:List (List (α×α))}{af:α→α}
def rot_perm(zs:List α)(k:Nat):(zs.drop k++zs.take k).Perm zs:=by
 refine Yu.trans ?_
 rw[Yx]
def cert_turn(C:Cert ns r cs af)(hn:rW.Perm ns)(hr:∀x,∃k,r' x=(r x).drop k++(r x).take k):Cert rW r' cs af:=by
 have hp:∀x,(r' x).Perm (r x):=λx=>by obtain⟨k,e⟩:=hr x;rw[e];exact rot_perm _ k
 have hm:∀{x y},y∈r' x↔y∈r x:=λ{x y}=>(hp x).mem_iff
 have ap:∀s:α×α,s.1∈r s.2→st r' s=st r s:=λs hs=>by
  obtain⟨k,e⟩:=hr s.2
  unfold st;rw[e,nxt_rot (C.rn _) k hs]
 have hw:∀t,wt rW r' af t=wt ns r af t:=λt=>by
  unfold wt
  rw[zhp (hn.map _)]
  refine zb7 λx _=>?_
  have h1:=(hp x).length_eq
  have h2:(r' x=[])=(r x=[]):=propext ⟨λe=>by rw[e]at h1;exact List.eq_nil_of_length_eq_zero h1.symm,λe=>by rw[e]at h1;exact List.eq_nil_of_length_eq_zero h1⟩
  simp only[h1,h2]
 refine⟨hn.nodup_iff.mpr C.nd,λx hx=>?_,λx=>(hp x).nodup_iff.mpr (C.rn x),λx h=>C.ir x (hm.mp h),λx y h=>hm.mpr (C.sy x y (hm.mp h)),C.cf,λs=>(C.cm s).trans hm.symm,λc hc=>?_,λx hx=>hn.mem_iff.mpr (C.ln x (hn.mem_iff.mp hx)),λx y h=>C.la x y (hm.mp h),λx hx y hy e=>?_,λx hx=>?_⟩
 ·have:=hp x
  rw[C.ro x (λz=>hx (hn.mem_iff.mpr z))]at this
  exact List.Perm.eq_nil this
 ·exact zei (λy hy=>ap y (C.inc hc hy)) (C.cy c hc)
 ·exact(C.co x (hn.mem_iff.mp hx) y (hn.mem_iff.mp hy) e).mono λ_ _ h=>hm.mpr h
 ·rw[hw];exact C.eu x (hn.mem_iff.mp hx)
end
end Wb
end
section
namespace K21
open PySem L2 Wb
abbrev sSteps:Stmt:=top 18
structure BAt(H:Hp)(b:Nc)(bs:List ((Str×Str)×Addr))(r:Str→List Str):Prop where
 dc:H b=some (.dT (bs.map λe=>(kP e.1,V.ref e.2)))
 tp:∀e∈bs,H e.2=some (.tup [.str (st r e.1).1,.str (st r e.1).2])
 nd:(bs.map (·.1)).Nodup
def BAt.keep{H H':Hp}{b:Nc}{bs:List ((Str×Str)×Addr)}{r:Str→List Str}{xs:Nn}(h:BAt H b bs r)(k:Keep xs H H')(hb:b∉xs)(ht:∀e∈bs,e.2∉xs):BAt H' b bs r :=
 ⟨k _ _ h.dc hb,λe he=>k _ _ (h.tp e he) (ht e he),h.nd⟩
def kP_inj{s u:Str×Str}(h:kP s=kP u):s=u:=by
 unfold kP at h
 injection h with h1 h2
 injection h2 with h2 _
 exact Uu (Ws h1) (Ws h2)
def valT_out{bs:List ((Str×Str)×Addr)}{s:Str×Str}(h:s∉bs.map (·.1)):valV (bs.map λe=>(kP e.1,V.ref e.2)) (kP s)=none:=by
 induction bs with
 |nil=>rfl
 |cons a t ih =>
  rw[Ql,Qe,not_or]at h
  rw[Ql,zbj]
  ·exact ih h.2
  ·intro q;exact h.1 (kP_inj q).symm
def valT_in{bs:List ((Str×Str)×Addr)}(nd:(bs.map (·.1)).Nodup){e:(Str×Str)×Addr}(h:e∈bs):valV (bs.map fun e=>(kP e.1,V.ref e.2)) (kP e.1)=some (.ref e.2):=by
 induction bs with
 |nil=>cases h
 | cons a t ih =>
  rw[Ql,Qs]at nd
  rw[Ql]
  rcases Qe.mp h with z | z
  ·subst z;exact zcd rfl
  ·rw [zbj]
   ·exact ih nd.2 z
   ·intro q
    exact nd.1 (by rw[kP_inj q];exact Qh.mpr ⟨e,z,rfl⟩)
inductive IspSteps(vs:List V)(H:Hp)(Q:VK):Prop
 |mk (d:Nc) (es:List Ent) (h0:vs=[.ref d]) (h1:TAt H d es) (h2:es.length≤60) (h3:(∀e∈es,e.2.1.Nodup∧e.2.1.length≤100)) (h4:∀(b:Nc) (bs:List ((Str×Str)×Addr)) (H':Hp),BAt H' b bs (row (rsOf es))→(∀s,s∈bs.map (·.1)↔s.1∈row (rsOf es) s.2)→bs.length≤10000→H b=none→Keep [] H H'→Q (.ref b) H'):IspSteps vs H Q
def spSteps:Sp:=λvs H Q _=>IspSteps vs H Q
def pidx(n j:Nat):Nat:=if j=0 then n-1 else j-1
def zie{zs:List V}{j:Nat}(hj:j<zs.length):atI zs ((j:Int)-1)=zs[pidx zs.length j]?:=by
 unfold pidx
 by_cases h:j=0
 ·subst h
  rw[if_pos rfl]
  unfold atI ixN
  have e1:¬(0:Int)≤((0:Nat):Int)-1:=by lia
  have e2:-(zs.length:Int)≤((0:Nat):Int)-1:=by lia
  rw[if_neg e1,if_pos e2]
  show zs[(((0:Nat):Int)-1+(zs.length:Int)).toNat]?=_
  congr 1;lia
 ·rw [if_neg h]
  have e:(j:Int)-1=((j-1:Nat):Int):=by lia
  rw[e,zap (Qd (by lia)),Qd (by lia)]
def idx_at{zs:Nh}(nd:zs.Nodup){i:Nat}(hi:i<zs.length):zs.idxOf zs[i]=i:=by
 have h1:zs.idxOf zs[i]<zs.length:=idx_lt (Zb hi)
 have h2:zs[zs.idxOf zs[i]]=zs[i]:=List.getElem_idxOf h1
 exact(Yi nd).mp h2
def nxt_idx{zs:Nh}(nd:zs.Nodup){j:Nat}(hj:j<zs.length)(hp:pidx zs.length j<zs.length):nxt zs zs[pidx zs.length j]=zs[j]:=by
 unfold nxt
 rw[idx_at nd hp]
 have e:(pidx zs.length j+1)%zs.length=j:=by
  unfold pidx
  by_cases h:j=0
  ·rw [if_pos h,h]
   have:zs.length-1+1=zs.length:=by lia
   rw[this,Nat.mod_self]
  ·rw [if_neg h]
   have:j-1+1=j:=by lia
   rw[this,Nat.mod_eq_of_lt hj]
 rw[e,Zq,Qd hj];rfl
section
variable{P:Ni}{w:Nk}{K:Na}{mg:Nf}{base:Nl}
def zep:zan ["rounds", "behind", "place", "around", "at", "to"] ["rounds"] (zag sSteps):=fsk
def ok_steps{f:Nc}{fd:Np}(F:Fun K "steps_behind" "steps_behind" sSteps f fd)(oZ:mg "enumerate" = none):FnOk P w K mg base CX0 1 f fd ["rounds"] spSteps:=by
 refine F.okL zep (λcdv A outer s H vs Q E hr h=>?_)
 obtain⟨d,es,rfl,T,bf,hok,k⟩:=h
 have hu:=zcb hr
 have aJ  := sizeLine_eq
 refine⟨_,zae (zat 1 zep.nd pe_dnewT)
  (zae (zeq (zbm Zp rfl (zds (pv 0)) (zbb 2 zep.nd)
   (zae (zat 3 zep.nd (zcf hu (pv 0) (pv 2)))
   (zah (zbm Zp rfl (pi_enum rfl oZ (zaa (pv 3) zaf)) (zex rfl (za4 (zbb 4 zep.nd) (za4 (zbb 5 zep.nd) zch)))
    (zah (zcv hu (pv 1) (zey (zaa (zaz zca (pv 3) (zau zed (pv 4) zai) (λ_ _=>rfl)) (zaa (pv 2) zaf))) (zey (zaa (pv 2) (zaa (pv 5) zaf))) rfl)))))))
  (zah (zbp (pv 1)))),?_⟩
 refine λb hb=>?_
 have nfz:∀o' u',H d≠some (.frz o' u'):=λo' u' z=>by rw[T.dc]at z;cases z
 have nbd:d≠b:=zab T.dc hb
 have k1:Keep [] H (upd H b (.dT [])):=Keep.new hb
 have gJ:BAt (upd H b (.dT [])) b [] (row (rsOf es)):=⟨zac,λe he=>(by cases he),Zn⟩
 have T1:TAt (upd H b (.dT [])) d es:=T.keep k1 (by simp) (λ_ _=>by simp)
 generalize upd H b (.dT [])=H1 at k1 gJ T1
 have hbm:∀{H':Hp} {bs:List ((Str×Str)×Addr)},BAt H' b bs (row (rsOf es))→b≠d:=λ_=>Qu nbd
 refine⟨_,rfl,d,_,rfl,T1.dc,λo=>zfe (λi σ H'=>Aj4 (Ex4 λx2 x3 x4 x5=>σ=[some (.ref d),some (.ref b),x2,x3,x4,x5]) (H' d=some (.frz o (.dK (es.map λe=>((Sum.inr e.1:Key),V.ref e.2.2))))) (Keep [d,b] H1 H') (Ex1 λbs=>Aj3 (BAt H' b bs (row (rsOf es))) (bs.length≤100*i) (∀s,s∈bs.map (·.1)↔s.2∈(es.take i).map (·.1)∧s.1∈row (rsOf es) s.2)))
  ⟨⟨_,_,_,_,rfl⟩,zac,Keep.wr (by simp),[],gJ.keep (xs:=[d]) (Keep.wr (by simp)) (by simpa using Qu nbd) (λe he=>by cases he),Zg _,λs=>⟨λh=>(by cases h),λh=>(by cases h.1)⟩⟩
  (λi σ H' _ hh=>hh.2) ?_ ?_⟩
 ·rintro i pr σ H2 fR ⟨⟨x2,x3,x4,x5,rfl⟩,hz,k2,bs,cb,lL,g7⟩
  have hi:i<es.length:=by
   have:=(Za.mp fR).1
   rwa[Qa]at this
  have g1:pr=((Sum.inr es[i].1:Key),V.ref es[i].2.2):=by
   rw[Qq,Qd hi]at fR
   exact(Qk fR).symm
  subst g1
  have aX:es[i]∈es:=Zb hi
  obtain⟨aH,hln⟩:=hok _ aX
  have tD:row (rsOf es) es[i].1=es[i].2.1:=zbl T.nd aX
  have bu:=T1.ro _ aX
  have nrd:es[i].2.2≠d:=zax bu T1.dc (by intro z;cases z)
  have nrb:es[i].2.2≠b:=zax bu gJ.dc (by intro z;cases z)
  have d0:=k2 _ _ bu (by simp[nrd,nrb])
  refine⟨_,rfl,_,rfl,d,.ref es[i].2.2,rfl,.inl ⟨_,Sum.inr es[i].1,.inr ⟨o,hz⟩,rfl,(zb6 T.nd aX).symm⟩,?_⟩
  have aZ:es[i].1∉(es.take i).map (·.1):=by
   have h1:(es.map (·.1)).take (i+1)=(es.map (·.1)).take i++[es[i].1]:=by
    rw[Qm (by rw[Qa];exact hi),Zm]
   have h2:((es.map (·.1)).take (i+1)).Nodup:=Yz (Jc _ _) T.nd
   rw[h1,Ze,←Ue]at h2
   exact λz=>h2.2.2 _ z _ (Qb.mpr rfl) rfl
  refine⟨_,rfl,es[i].2.2,rfl,⟨_,SqT.of d0⟩,for_enum (xs:=es[i].2.1.map V.str) (λj σ H'=>Aj4 (Ex2 λx4 x5=>σ=[some (.ref d),some (.ref b),some (.str es[i].1),some (.ref es[i].2.2),x4,x5]) (H' d=some (.frz o (.dK (es.map λe=>((Sum.inr e.1:Key),V.ref e.2.2))))) (Keep [d,b] H1 H') (Ex1 λbs=>Aj3 (BAt H' b bs (row (rsOf es))) (bs.length≤100*i+j) (∀s,s∈bs.map (·.1)↔(s.2∈(es.take i).map (·.1)∧s.1∈row (rsOf es) s.2)∨∃(m:Nat) (hm:m<j) (hp:pidx es[i].2.1.length m<es[i].2.1.length),s=(es[i].2.1[pidx es[i].2.1.length m],es[i].1))))
   ⟨⟨_,_,rfl⟩,hz,k2,bs,cb,lL,fun s=>(g7 s).trans ⟨.inl,fun h=>by
    rcases h with z | ⟨m,hm,_⟩
    ·exact z
    ·exact absurd hm (Nat.not_lt_zero m)⟩⟩ (λj σ H' _ hh=>hh.3 _ _ bu (by simp[nrd,nrb])) ?_ ?_⟩
  ·rintro j y t σ H3 hy ⟨⟨y4,y5,rfl⟩,fj,k3,lU,kU,pz,f'⟩ ht
   have hj:j<es[i].2.1.length:=by
    have:=(Za.mp hy).1
    rwa[Qa]at this
   have mz:y=.str es[i].2.1[j]:=by
    rw[Qq,Qd hj]at hy
    exact(Qk hy).symm
   subst mz
   have tJ:pidx es[i].2.1.length j<es[i].2.1.length:=by unfold pidx;split<;>lia
   have fI:=k3 _ _ bu (by simp[nrd,nrb])
   have k4:Keep [] H3 (upd H3 t (.tup [.int j,.str es[i].2.1[j]])):=Keep.new ht
   refine⟨t,_,rfl,SqT.of zac,rfl,_,_,rfl,_,_,rfl,rfl,?_⟩
   generalize upd H3 t (.tup [.int j,.str es[i].2.1[j]])=H4 at k4
   refine⟨_,rfl,_,rfl,(by show 2≤sizeLine;decide),λv hv=>?_⟩
   have k5:Keep [] H4 (upd H4 v (.tup [.str es[i].1,.str es[i].2.1[j]])):=Keep.new hv
   have hv5:(upd H4 v (.tup [.str es[i].1,.str es[i].2.1[j]])) v=some (.tup [.str es[i].1,.str es[i].2.1[j]]):=zac
   generalize upd H4 v (.tup [.str es[i].1,.str es[i].2.1[j]])=H5 at k5 hv5
   have gw:Keep [] H3 H5:=k4.trans k5
   have dH:=gw _ _ fI (by simp)
   have kW:atI (es[i].2.1.map V.str) ((j:Int)-1)=some (.str es[i].2.1[pidx es[i].2.1.length j]):=by
    rw[zie (by rw[Qa];exact hj),Qa,Qq,Qd tJ];rfl
   refine⟨_,rfl,_,rfl,_,rfl,_,_,rfl,rfl,es[i].2.2,_,_,_,rfl,rfl,SqT.of dH,kW,_,rfl,(by show 2≤sizeLine;decide),λq hq=>?_⟩
   have k6:Keep [] H5 (upd H5 q (.tup [.str es[i].2.1[pidx es[i].2.1.length j],.str es[i].1])):=Keep.new hq
   have o8:(upd H5 q (.tup [.str es[i].2.1[pidx es[i].2.1.length j],.str es[i].1])) q=some (.tup ((kP (es[i].2.1[pidx es[i].2.1.length j],es[i].1)).map kV)):=zac
   generalize upd H5 q (.tup [.str es[i].2.1[pidx es[i].2.1.length j],.str es[i].1])=H6 at k6 o8
   have sv:Keep [] H3 H6:=gw.trans k6
   have lM:BAt H6 b lU (row (rsOf es)):=kU.keep sv (by simp) (λ_ _=>by simp)
   have hv6:=k6 _ _ hv5 (by simp)
   have hz6:=sv _ _ fj (by simp)
   refine⟨b,_,rfl,DPut.t lM.dc o8 (by rw[Qa];lia),?_⟩
   have gj:(es[i].2.1[pidx es[i].2.1.length j],es[i].1)∉lU.map (·.1):=λz=>by
    rcases(f' _).mp z with⟨z1,_⟩ | ⟨m,hm,hpm,e⟩
    ·exact aZ z1
    ·have e1:=(Um e).1
     have e2:=(Yi aH).mp e1
     unfold pidx at e2
     by_cases im:j=0
     ·lia
     ·rw [if_neg im] at e2
      by_cases ij:m=0
      ·rw[if_pos ij]at e2;lia
      ·rw[if_neg ij]at e2;lia
   have jU:putK (lU.map λe=>(kP e.1,V.ref e.2)) (kP (es[i].2.1[pidx es[i].2.1.length j],es[i].1)) (.ref v)=(lU++[((es[i].2.1[pidx es[i].2.1.length j],es[i].1),v)]).map λe=>(kP e.1,V.ref e.2):=by
    rw[zea _ (valT_out gj),Qn];rfl
   have ap:st (row (rsOf es)) (es[i].2.1[pidx es[i].2.1.length j],es[i].1)=(es[i].1,es[i].2.1[j]):=by
    show(es[i].1,nxt (row (rsOf es) es[i].1) es[i].2.1[pidx es[i].2.1.length j])=_
    rw[tD,nxt_idx aH hj tJ]
   refine⟨⟨_,_,rfl⟩,by rw[zad nbd];exact hz6,(k3.trans (sv.sub (by simp))).trans (Keep.wr (by simp)),_,⟨by rw[zac,jU],λe he=>?_,?_⟩,?_,λs=>?_⟩
   ·rcases Qj.mp he with z | z
    ·have:=lM.tp e z
     rw[zad (zax this lM.dc (by intro z;cases z))];exact this
    ·rw[Qb.mp z,ap,zad (zax hv6 lM.dc (by intro z;cases z))];exact hv6
   ·rw [Qn,Ze]
    refine⟨kU.nd,Qs.mpr ⟨by simp,Zn⟩,λx hx y hy e=>?_⟩
    have fC:y=(es[i].2.1[pidx es[i].2.1.length j],es[i].1):=by simpa using hy
    exact gj (by rw[←fC,←e];exact hx)
   ·rw[Qt];show _+1≤_;exact zar4 ‹_›
   ·rw [Qn,Qj,f']
    constructor
    ·rintro ((z | ⟨m,hm,hp,e⟩) | z)
     ·exact .inl z
     ·exact .inr ⟨m,by exact zar16 ‹_›,hp,e⟩
     ·exact .inr ⟨j,by exact Qg _,tJ,by simpa using z⟩
    ·rintro (z | ⟨m,hm,hp,e⟩)
     ·exact .inl (.inl z)
     ·by_cases hmj:m < j
      ·exact .inl (.inr ⟨m,hmj,hp,e⟩)
      ·have:m=j:=by lia
       subst this
       exact .inr (by rw[e];exact Qc)
  ·rintro σ H3 ⟨⟨y4,y5,rfl⟩,fj,k3,lU,kU,pz,f'⟩
   rw[Qa]at f' pz
   refine⟨⟨_,_,_,_,rfl⟩,fj,k3,lU,kU,by lia,λs=>(f' s).trans ?_⟩
   have cg:(es.take (i+1)).map (·.1)=(es.take i).map (·.1)++[es[i].1]:=by rw[Qm hi,Qn];rfl
   rw[cg,Qj,Qb]
   constructor
   ·rintro (⟨z1,z2⟩ | ⟨m,hm,hp,e⟩)
    ·exact⟨.inl z1,z2⟩
    ·rw[e];exact⟨.inr rfl,by rw[tD];exact Zb hp⟩
   ·rintro ⟨z1 | z1,z2⟩
    ·exact .inl ⟨z1,z2⟩
    ·refine .inr ?_
     rw[z1,tD]at z2
     obtain⟨q,hq,e⟩:=Zo z2
     by_cases fX:q+1<es[i].2.1.length
     ·have jY:pidx es[i].2.1.length (q+1) < es[i].2.1.length:=by unfold pidx;rw [if_neg (by lia)];assumption
      refine⟨q+1,fX,jY,Uu ?_ z1⟩
      show s.1=es[i].2.1[pidx es[i].2.1.length (q+1)]
      rw[←e];congr 1
     ·have jY:pidx es[i].2.1.length 0 < es[i].2.1.length:=by unfold pidx;rw [if_pos rfl];lia
      refine⟨0,by lia,jY,Uu ?_ z1⟩
      show s.1=es[i].2.1[pidx es[i].2.1.length 0]
      rw[←e];congr 1
      unfold pidx;rw[if_pos rfl];lia
 ·rintro σ H2 ⟨⟨x2,x3,x4,x5,rfl⟩,hz,k2,bs,cb,lL,g7⟩
  rw[Qa]at g7 lL
  rw[Qz (Qg _)]at g7
  refine⟨d,o,_,hz,nfz,?_⟩
  have kf:Keep [] H (upd H2 d (.dK (es.map λe=>((Sum.inr e.1:Key),V.ref e.2.2)))):=λc u ec _=>by
   have nc:c≠b:=zab ec hb
   by_cases ar:c=d
   ·subst ar
    rw[zac,←T.dc];exact ec
   ·rw [zad ar]
    exact k2 c u (k1 c u ec (by simp)) (by simp[ar,nc])
  refine⟨_,rfl,k b bs _ (cb.keep (xs:=[d]) (Keep.wr (by simp)) (by simpa using Qu nbd) (λe he=>by simpa using zax (cb.tp e he) hz (by intro z;cases z))) (λs=>?_) (by lia) hb kf⟩
  rw[g7]
  constructor
  ·exact λh=>h.2
  ·intro h
   refine⟨?_,h⟩
   obtain⟨p,hp,e,_⟩:=(zbu (rs:=rsOf es) (by unfold rsOf;rw[List.map_map];exact T.nd)).mpr h
   obtain⟨en,bi,rfl⟩:=Qh.mp hp
   exact Qh.mpr ⟨en,bi,e⟩
end
abbrev zew:Stmt:=top 19
def zc4(H:Hp)(a:Nc)(h:Str):Prop:=∃t:List Str,H a=some (.lst ((h::t).map V.str))
def zet(es:List Ent):List Str:=(es.filter λe=>e.2.1.isEmpty).map (·.1)
inductive IspFaces(vs:List V)(H:Hp)(Q:VK):Prop
 |mk (d:Nc) (es:List Ent) (cs:List (List (Str×Str))) (af:Nu) (h0:vs=[.ref d]) (h1:TAt H d es) (h2:es.length≤60) (h3:(∀e∈es,e.2.1.length≤100)) (h4:Cert (es.map (·.1)) (row (rsOf es)) cs af) (h5:∀(l:Nc) (as:Nn) (hd hc:Nh) (cs':List (List (Str×Str))) (H':Hp),H' l=some (.lst (as.map V.ref))→as.length≤20000→Paired (zc4 H') as hd→hd.Perm (zet es++hc)→cs'.Perm cs→Paired (λh c=>∃s∈c,s.1=h) hc cs'→Keep [] H H'→Q (.ref l) H'):IspFaces vs H Q
def spFaces:Sp:=λvs H Q _=>IspFaces vs H Q
def pt_truthK{X:Cx}{K:Na}{a:Expr}{ta:TE}(hK:X.K=K)(ha:PE X a ta)(he:∀whole,isTrue a X.env whole=(do let v ←whole;standAt a.pos;holding [v] (truthy v))) :
  PT X a (λ σ H Q=>ta σ H λx H'=>RTr K x H' Q):=hK▸zfd ha he
abbrev zeu:Scope:=scOf (eOf (sAt zew 1))
def csFaces_k:zeu.kind=.function:=by rfl
def csFaces_c:∀y∈zeu.names,y.2≠.cell:=by decide +kernel
def csFaces_n:∀y∈zeu.names,y.2=.local→zeu.names.lookup y.1=some .local:=by decide +kernel
def csFaces_f:∀y∈zeu.names,y.2=.free→(zag zew).names.lookup y.1=some .cell∨(zag zew).names.lookup y.1=some .free:=by decide +kernel
def csFaces_l:zeu.names.lookup ("rounds" : Str)=some NameKind.free:=by decide +kernel
def ndF:(["place", "rounds"]:List Str).Nodup:=by decide +kernel
def valG_out{gs:Nr}{s:Str×Str}(h:s∉gs):valV (gs.map λs=>(kP s,V.bl true)) (kP s)=none:=by
 induction gs with
 |nil=>rfl
 |cons a t ih =>
  rw[Qe,not_or]at h
  rw[Ql,zbj]
  ·exact ih h.2
  ·intro q;exact h.1 (kP_inj q).symm
def valG_in{gs:Nr}{s:Str×Str}(h:s∈gs):valV (gs.map λs=>(kP s,V.bl true)) (kP s)=some (.bl true):=by
 induction gs with
 |nil=>cases h
 | cons a t ih =>
  rw[Ql]
  by_cases e:a=s
  ·exact zcd (by rw[e])
  ·rw [zbj (fun q=>e (kP_inj q))]
   rcases Qe.mp h with z | z
   ·exact absurd z.symm e
   ·exact ih z
def lk_get{β:Type}{f:β→β}{e:β}:∀{t:List β} {s:β},Lk f s t e→∀k,k<(s::t).length→f ((s::t).getD k e)=(s::t).getD (k+1) e:=by
 intro t
 induction t with
 |nil =>
  intro s h k hk
  have:k=0:=by simp at hk;exact hk
  subst this;exact h
 | cons a t ih =>
  intro s h k hk
  cases k with
  |zero=>exact h.1
  |succ n =>
   have:=ih h.2 n (by simpa using hk)
   simpa using this
def zct{H H':Hp}{D g:Nc}{fa:Nn}{hd:Nh}{xs:Nn}(k:Keep xs H H')(h:Paired (zc4 H) fa hd)(hx:∀a (h:Str) (t:Nh),H a=some (.lst ((h::t).map V.str))→a∉xs):Paired (zc4 H') fa hd :=
 Paired.imp' (λa h ⟨t,e⟩=>⟨t,k _ _ e (hx a h t e)⟩) h
def zbe{α β:Type}{R:α→β→Prop}:∀{as dk:List α} {bs lV:List β},Paired R as bs→Paired R dk lV→Paired R (as++dk) (bs++lV):=by
 intro as dk bs lV r r'
 induction r with
 |nil=>exact r'
 |cons h t ih=>exact .cons h ih
section
variable{P:Ni}{w:Nk}{K:Na}{mg:Nf}{base:Nl}
def zc6:zan ["rounds", "behind", "found", "gone", "first", "face", "step"] ["rounds"] (zag zew):=fsk
def ok_faces{f fs:Nc}{fd fds:Np}(F:Fun K "faces_of" "faces_of" zew f fd)(FS:Fun K "steps_behind" "steps_behind" sSteps fs fds)(bS:Binds K fds ["rounds"] [])(mS:mg "steps_behind" = some (.ref fs))(GS:FnOk P w K mg base CX0 1 fs fds ["rounds"] spSteps)(br:mg "sorted" = none):FnOk P w K mg base CX0 2 f fd ["rounds"] spFaces:=by
 refine F.okL zc6 (λcdv A outer s H vs Q E hr h=>?_)
 obtain⟨d,es,cs,af,rfl,T,bf,aV,C,k⟩:=h
 have hu:=zcb hr
 have nj:(A.deeper (PyProof.Rows.envOfC "faces_of" (zag zew) s.heap.objs.size f cdv)).units+8<cLine:=Nat.lt_of_le_of_lt (Nat.add_le_add_left (by decide:8≤64) _) hr.units
 have aJ  := sizeLine_eq
 refine⟨_,zae (zat 1 zc6.nd (zaj GS hr rfl mS FS.kp bS .nil zav (zaa (pv 0) zaf)))
  (zae (zeq (ps_lc (i:=2) (M:=["place", "rounds"]) (ix:=[none,some 0]) zc6.nd rfl rfl ⟨csFaces_k,csFaces_c,csFaces_n,csFaces_f,rfl,by decide +kernel,λj i x h1 h2=>by
     match j,h1,h2 with
     |0,_,h2=>cases h2
     |1,h1,h2=>cases h1;cases h2;exact⟨rfl,csFaces_l⟩
     |n+2,h1,_=>cases h1⟩ rfl (zds (pv 0)) (λC aa ex s H=>zbb 0 ndF)
    (λC aa ex s H=>zhl (pt_not (pt_truthK (K:=K) rfl (zcf (by exact hu) (pv 1) (pv 0)) (by intro _;rfl)))) (λC aa ex s H=>za7 (zaa (pv 0) zaf)) rfl))
  (zae (zat 3 zc6.nd pe_dnewT)
  (zae (zbm Zp rfl (zbh (zak (zgf rfl) (by rfl) br Ud (zaa (pv 1) zaf))) (zbb 4 zc6.nd)
   (zae (zat 5 zc6.nd (za7 zaf))
   (zae (zat 6 zc6.nd (pv 4))
   (zae (zhm Zp (zc7 (zci hu (pv 6) (pv 3)))
    (zae (zcv hu (pv 3) (pv 6) zes rfl)
    (zae (za3 (zer Zr Wl Wk zcr (pv 5) (zaa (zaz zca (pv 6) zai (λ_ _=>rfl)) zaf)))
    (zah (zat 6 zc6.nd (zcf hu (pv 1) (pv 6)))))))
   (zah (zbr (zfd (pv 5) (by intro _;rfl)) (zah (za3 (zer Zr Wl Wk zcr (pv 2) (zaa (pv 5) zaf)))) za2))))))
  (zah (zbp (zak (zev nj) (by rfl) br Ud (zaa (pv 2) zaf))))))),?_⟩
 have au:∀e∈es,row (rsOf es) e.1=e.2.1:=λe he=>zbl T.nd he
 refine⟨_,rfl,d,es,rfl,T,bf,λe he=>⟨au e he▸C.rn e.1,aV e he⟩,λb bs H1 gJ g7 lL hbfr k1=>?_⟩
 have T1:TAt H1 d es:=T.keep k1 (by simp) (λ_ _=>by simp)
 have nfz:∀o' u',H d≠some (.frz o' u'):=λo' u' z=>by rw[T.dc]at z;cases z
 refine⟨_,rfl,d,_,rfl,T1.dc,λo=>⟨λi m ys τ H2=>Aj6 (m=es.length-i) (i≤es.length) (Ex1 λx0=>τ=[x0,some (.ref d)]) (H2 d=some (.frz o (.dK (es.map λe=>((Sum.inr e.1:Key),V.ref e.2.2))))) (Keep [d] H1 H2) (Ex1 λ(as:Nn)=>Aj3 (ys=as.map V.ref) (as.length≤i) (Paired (zc4 H2) as (zet (es.take i)))),
  ⟨es.length,rfl,Zg _,⟨none,rfl⟩,zac,Keep.wr Qc,[],rfl,Zg _,.nil⟩,?_⟩⟩
 rintro i m ys τ H2 ⟨rfl,hi,⟨x0,rfl⟩,hz,k2,fa,rfl,kH,iW⟩
 by_cases ai:i<es.length
 ·refine .inr ⟨⟨hz,by rw [Qa];exact ai⟩,by rw [Qa];lia,?_⟩
  rintro y H' ⟨rfl,pr,e1,rfl⟩
  have g1:pr=((Sum.inr es[i].1:Key),V.ref es[i].2.2):=by
   rw[Qq,Qd ai]at e1
   exact(Qk e1).symm
  subst g1
  have aX:es[i]∈es:=Zb ai
  have nZ:=T1.ro _ aX
  have nri:es[i].2.2≠d:=zax nZ T1.dc (by intro z;cases z)
  have d0:=k2 _ _ nZ (by simpa using nri)
  have cg:es.take (i+1)=es.take i++[es[i]]:=Qm ai
  refine⟨_,rfl,_,rfl,d,.ref es[i].2.2,rfl,.inl ⟨_,Sum.inr es[i].1,.inr ⟨o,hz⟩,rfl,(zb6 T.nd aX).symm⟩,_,.inr (.inl ⟨_,SqT.of d0,rfl⟩),?_⟩
  have j8:(es[i].2.1.map V.str).isEmpty=es[i].2.1.isEmpty:=by cases es[i].2.1<;>rfl
  cases hb:es[i].2.1.isEmpty with
  | false =>
   refine zcq (by rw[j8,hb];rfl) ⟨_,?_,rfl,ai,⟨_,rfl⟩,hz,k2,fa,rfl,by exact zar16 ‹_›,?_⟩
   ·exact zar1 ‹_›
   ·unfold zet
    rw[cg,Ww,Zy (by rw[hb];decide),Ux,Zu];exact iW
  | true =>
   refine zdj (by rw[j8,hb];rfl) ⟨_,rfl,(by show 1≤sizeLine;decide),λq hq=>⟨_,?_,rfl,ai,⟨_,rfl⟩,?_,k2.trans (Keep.new hq),fa++[q],?_,?_,?_⟩⟩
   ·exact zar1 ‹_›
   ·rw[zad (zab hz hq)];exact hz
   ·rw[Qn];rfl
   ·rw[Qt];show _+1≤_;exact zar4 ‹_›
   ·unfold zet
    rw[cg,Ww,Zx (by rw[hb]),Ux,Qn]
    exact zbe (zct (D:=d) (g:=d) (xs:=[]) (Keep.new hq) iW (λ_ _ _ _=>by simp)) (.cons ⟨[],zac⟩ .nil)
 ·have kr:i=es.length:=by exact zar3 ‹_› ‹_›
  subst kr
  rw[Qz (Qg _)]at iW
  refine .inl ⟨⟨hz,by rw[Qa];exact Qg _⟩,λD hD=>?_⟩
  have ndD:d≠D:=zab hz hD
  refine⟨d,o,_,(by rw[zad ndD];exact hz),nfz,?_⟩
  have k3:Keep [] H1 (upd (upd H2 D (.lst (fa.map V.ref))) d (.dK (es.map λe=>((Sum.inr e.1:Key),V.ref e.2.2)))):=λc u ec _=>by
   by_cases ar:c=d
   ·subst ar
    rw[zac,←T1.dc];exact ec
   ·have jg:=k2 c u ec (by simpa using ar)
    rw[zad ar,zad (zab jg hD)];exact jg
  have gu:(upd (upd H2 D (.lst (fa.map V.ref))) d (.dK (es.map λe=>((Sum.inr e.1:Key),V.ref e.2.2)))) D=some (.lst (fa.map V.ref)):=by rw[zad (Qu ndD)];exact zac
  have db:Paired (zc4 (upd (upd H2 D (.lst (fa.map V.ref))) d (.dK (es.map λe=>((Sum.inr e.1:Key),V.ref e.2.2))))) fa (zet es):=Paired.imp' (λa h ⟨t,e⟩=>⟨t,by
   rw[zad (zax e hz (by intro z;cases z)),zad (zab e hD)];exact e⟩) iW
  generalize upd (upd H2 D (.lst (fa.map V.ref))) d (.dK (es.map λe=>((Sum.inr e.1:Key),V.ref e.2.2)))=H3 at k3 gu db
  have kU:BAt H3 b bs (row (rsOf es)):=gJ.keep k3 (by simp) (λ_ _=>by simp)
  refine λg hg=>?_
  have k4:Keep [] H3 (upd H3 g (.dT [])):=Keep.new hg
  have hg4:(upd H3 g (.dT [])) g=some (.dT []):=zac
  generalize upd H3 g (.dT [])=H4 at k4 hg4
  have lN:BAt H4 b bs (row (rsOf es)):=kU.keep k4 (by simp) (λ_ _=>by simp)
  refine⟨_,rfl,b,_,bs.map (·.1),rfl,lN.dc,(by rw[Zi,Zi];rfl),λl as ws hl av pa=>?_⟩
  have k5:Keep [] H4 (upd H4 l (.lst (as.map V.ref))):=Keep.new hl
  have cz:(upd H4 l (.lst (as.map V.ref))) l=some (.lst (as.map V.ref)):=zac
  have rS:zbn (upd H4 l (.lst (as.map V.ref))) as ws:=zbn.keep pa λc x y ec=>k5 _ _ ec (by simp)
  have nDl:D≠l:=zab (k4 _ _ gu (by simp)) hl
  generalize upd H4 l (.lst (as.map V.ref))=H5 at k5 cz rS
  have gw:Keep [] H3 H5:=k4.trans k5
  have iH:=gw _ _ gu (by simp)
  have oR:=k5 _ _ hg4 (by simp)
  have v9:BAt H5 b bs (row (rsOf es)):=lN.keep k5 (by simp) (λ_ _=>by simp)
  have i4:Paired (zc4 H5) fa (zet es):=zct (D:=d) (g:=d) gw db (λ_ _ _ _=>by simp)
  have sm:Keep [] H H5:=(k1.trans k3).trans gw
  have nlg:l≠g:=zax cz oR (by intro z;cases z)
  have nDg:D≠g:=zax iH oR (by intro z;cases z)
  have nbg:b≠g:=zab kU.dc hg
  have nbD:b≠D:=zax v9.dc iH (by intro z;cases z)
  have cO:as.length=ws.length:=Yo rS
  have em:ws.length≤10000:=by rw[av.length_eq,Qa];exact lL
  have notDg:∀{H':Hp} {rh:Nn} {gs:Nr},H' D=some (.lst (rh.map V.ref))→H' g=some (.dT (gs.map λs=>(kP s,V.bl true)))→∀a (h:Str) (t:Nh),H' a=some (.lst ((h::t).map V.str))→a≠D∧a≠g:=λ{H' rh gs} e1 e2 a h t e =>
   ⟨zax e e1 (by
    intro z
    have z':(h::t).map V.str=rh.map V.ref:=by injection z
    cases rh with
    |nil=>cases z'
    |cons x u=>rw[Ql,Ql]at z';injection z' with z1 _;cases z1),zax e e2 (by intro z;cases z)⟩
  refine⟨l,rfl,⟨_,SqL.of cz⟩,zbv (xs:=as.map V.ref) (λi σ H'=>Aj3 (Ex3 λx4 x5 x6=>σ=[some (.ref d),some (.ref b),some (.ref D),some (.ref g),x4,x5,x6]) (Keep [D,g] H5 H') (Ex5 λ(gs:Nr) (dn rem:List (List (Str×Str))) (fa:Nn) (hc:Nh)=>Aj9 (H' g=some (.dT (gs.map λs=>(kP s,V.bl true)))) gs.Nodup (∀s,s∈gs↔s∈dn.flatten) (cs.Perm (dn++rem)) (∀s∈ws.take i,s∈gs) (H' D=some (.lst (fa.map V.ref))) (Paired (zc4 H') fa (zet es++hc)) (Paired (λh c=>∃s∈c,s.1=h) hc dn) (fa.length≤100+i)))
   ⟨⟨_,_,_,rfl⟩,Keep.refl,[],[],cs,fa,[],oR,Zn,λs=>Iff.rfl,List.Perm.refl _,λs hs=>(by cases hs),iH,by rw[Zu];exact i4,.nil,by omega⟩
   (λi σ H' _ hh=>SqL.of (hh.2 _ _ cz (by simp[Qu nDl,nlg]))) ?_ ?_⟩
  ·rintro i y σ H6 hx ⟨⟨x4,x5,x6,rfl⟩,k6,gs,dn,rem,pU,kR,uo,ul,kC,eN,qu,qX,hZ,ar,oV⟩
   have hi:i<as.length:=by
    have:=(Za.mp hx).1
    rwa[Qa]at this
   have jB:y=.ref as[i]:=by
    rw[Qq,Qd hi]at hx
    exact(Qk hx).symm
   subst jB
   obtain⟨aE,kX⟩:=zbd rS hi
   have nag:as[i]≠g:=zax kX oR (by intro z;cases z)
   have naD:as[i]≠D:=zax kX iH (by intro z;cases z)
   have pG:=k6 _ _ kX (by simp[nag,naD])
   have mV:ws[i]∈ws:=Zb aE
   have jO:ws[i].1∈row (rsOf es) ws[i].2:=(g7 _).mp (av.mem_iff.mp mV)
   have hwt:∀{rg:Nr},(∀s∈gs,s∈rg)→ws[i]∈rg→∀s∈ws.take (i+1),s∈rg:=λ{rg} h1 h2 s hs=>by
    rw[Qm aE]at hs
    rcases Qj.mp hs with z | z
    ·exact h1 s (qu s z)
    ·rw[Qb.mp z];exact h2
   refine⟨(by show 0≤sizeLine;decide),λfl gp=>?_⟩
   have k7:Keep [] H6 (upd H6 fl (.lst [])):=Keep.new gp
   have cu:(upd H6 fl (.lst [])) fl=some (.lst []):=zac
   have nfD:fl≠D:=Qu (zab qX gp)
   have nfg:fl≠g:=Qu (zab uo gp)
   have nafl:as[i]≠fl:=zab pG gp
   generalize upd H6 fl (.lst [])=H7 at k7 cu
   have oQ:=k7 _ _ uo (by simp)
   have vg:=k7 _ _ qX (by simp)
   have pF:=k7 _ _ pG (by simp)
   have sj:Keep [D,g] H5 H7:=k6.trans (k7.sub (by simp))
   have v8:BAt H7 b bs (row (rsOf es)):=v9.keep sj (by simp[nbD,nbg]) λe he=>by
    have h1:=v9.tp e he
    simp[zax h1 iH (by intro z;cases z),zax h1 oR (by intro z;cases z)]
   have nbfl:b≠fl:=zax v8.dc cu (by intro z;cases z)
   have o9:Paired (zc4 H7) pU (zet es++kR):=zct (D:=d) (g:=d) k7 hZ (λ_ _ _ _=>by simp)
   refine⟨_,rfl,?_⟩
   by_cases gh:ws[i]∈gs
   ·-- it is gone already
    refine⟨λm σ H'=>Aj2 (σ=[some (.ref d),some (.ref b),some (.ref D),some (.ref g),some (.ref as[i]),some (.ref fl),some (.ref as[i])]) (H'=H7),⟨0,rfl,rfl⟩,?_⟩
    rintro m σ H' ⟨rfl,rfl⟩
    have dg:=DGet.t (k:=kP ws[i]) oQ pF
    rw[valG_in gh]at dg
    refine⟨_,rfl,_,rfl,g,_,rfl,dg,_,rfl,zcq rfl ?_⟩
    refine⟨_,rfl,_,.inl ⟨_,SqL.of cu,rfl⟩,zcq rfl ?_⟩
    exact⟨⟨_,_,_,rfl⟩,sj,gs,dn,rem,pU,kR,oQ,ul,kC,eN,hwt (λ_ h=>h) gh,vg,o9,ar,by exact zar16 ‹_›⟩
   ·-- a new cycle
    obtain⟨c,dW,tt⟩:=Zs.mp ((C.cm ws[i]).mpr jO)
    obtain⟨A1,B1,gN⟩:=Ym tt
    have hlk:=zcz (gN▸C.cy c dW)
    generalize hL:ws[i]::(B1++A1)=L
    have qW:L.Perm c:=by
     rw[←hL,gN]
     refine Jv.mpr λa=>?_
     simp only[Kl,Xd];lia
    have cr:=(List.Perm.flatten eN).nodup_iff.mp C.cf
    rw[Wh,Ze]at cr
    have ja:c∈rem:=by
     rcases Qj.mp (eN.mem_iff.mp dW) with z | z
     ·exact absurd ((kC _).mpr (Zs.mpr ⟨c,z,tt⟩)) gh
     ·exact z
    have hLg:∀s∈L,s∉gs:=λs hs hg=>by
     exact absurd rfl (cr.2.2 s ((kC s).mp hg) s (Zs.mpr ⟨c,ja,qW.mem_iff.mp hs⟩))
    have pP:L.Nodup:=by
     rw[qW.nodup_iff]
     have:=(zb0 dW).nodup_iff.mp C.cf
     rw[Ze]at this
     exact this.1
    have pO:∀s∈L,s.1∈row (rsOf es) s.2:=λs hs=>C.inc dW (qW.mem_iff.mp hs)
    have hLpos:0<L.length:=by rw[←hL];simp
    have cN:gs++L |>.Nodup:=Ze.mpr ⟨ul,pP,λa ha b' cM e=>hLg b' cM (e▸ha)⟩
    have hsz:(gs++L).length≤10000:=by
     refine Zl (zef cN (m:=bs.map (·.1)) λs hs=>?_) (by rw[Qa];exact lL)
     rcases Qj.mp hs with z | z
     ·obtain ⟨c',bZ,aO⟩:=Zs.mp ((kC s).mp z)
      exact(g7 s).mpr (C.inc (eN.mem_iff.mpr (Qp _ bZ)) aO)
     ·exact(g7 s).mpr (pO s z)
    rw[Qt]at hsz
    have um:∀k (hk:k<L.length),st (row (rsOf es)) L[k]=L.getD (k+1) ws[i]:=λk hk=>by
     have:=lk_get hlk k (by rw[hL];exact hk)
     rw[hL,Zq,Qd hk]at this
     exact this
    refine⟨λm σ H'=>Ex2 λ(k:Nat) (t:Nc)=>Aj7 (m=L.length-k) (k≤L.length) (σ=[some (.ref d),some (.ref b),some (.ref D),some (.ref g),some (.ref as[i]),some (.ref fl),some (.ref t)]) (Keep [g,fl] H7 H') (H' g=some (.dT ((gs++L.take k).map λs=>(kP s,V.bl true)))) (H' fl=some (.lst (((L.take k).map (·.1)).map V.str))) (H' t=some (.tup [.str (L.getD k ws[i]).1,.str (L.getD k ws[i]).2])),
     ⟨_,0,as[i],rfl,Zg _,rfl,Keep.refl,by rw[List.take_zero,Zu];exact oQ,cu,by rw[←hL];exact pF⟩,?_⟩
    rintro m σ H8 ⟨k8,t,rfl,hk8,rfl,gT,oP,gn,lC⟩
    have dg:=DGet.t (k:=kP (L.getD k8 ws[i])) oP lC
    by_cases dP:k8<L.length
    ·have kK:L.getD k8 ws[i]=L[k8]:=by rw [Zq,Qd dP];rfl
     have cg:L.take (k8+1)=L.take k8++[L[k8]]:=Qm dP
     have aZ:L[k8]∉gs++L.take k8:=λz=>by
      rcases Qj.mp z with q | q
      ·exact hLg _ (Zb dP) q
      ·have:=Yz (Jc (k8+1) L) pP
       rw[cg,Ze]at this
       exact this.2.2 _ q _ (Qb.mpr rfl) rfl
     rw[kK]at lC dg
     rw[valG_out aZ]at dg
     refine⟨_,rfl,_,rfl,g,_,rfl,dg,_,rfl,zdj rfl ?_⟩
     refine⟨_,λ σ' H' z=>z,?_⟩
     have ou:((gs++L.take k8).map λs=>(kP s,V.bl true)).length<sizeLine:=by
      rw[Qa,Qt,Zh];lia
     refine⟨_,rfl,_,rfl,g,_,rfl,DPut.t (k:=kP L[k8]) oP lC ou,?_⟩
     have jU:putK ((gs++L.take k8).map λs=>(kP s,V.bl true)) (kP L[k8]) (.bl true)=(gs++L.take (k8+1)).map λs=>(kP s,V.bl true):=by
      rw[zea _ (valG_out aZ),cg,←Qw,Qn (l₂:=[L[k8]])];rfl
     rw[jU]
     have ntg:t≠g:=zax lC oP (by intro z;cases z)
     have ntfl:t≠fl:=zax lC gn (by intro z;cases z)
     have k9:Keep [g,fl] H7 (upd H8 g (.dT ((gs++L.take (k8+1)).map λs=>(kP s,V.bl true)))):=gT.trans (Keep.wr (by simp))
     have hg9:(upd H8 g (.dT ((gs++L.take (k8+1)).map λs=>(kP s,V.bl true)))) g=some (.dT ((gs++L.take (k8+1)).map λs=>(kP s,V.bl true))):=zac
     have kG:(upd H8 g (.dT ((gs++L.take (k8+1)).map λs=>(kP s,V.bl true)))) fl=some (.lst (((L.take k8).map (·.1)).map V.str)):=by rw[zad nfg];exact gn
     have sV:(upd H8 g (.dT ((gs++L.take (k8+1)).map λs=>(kP s,V.bl true)))) t=some (.tup [.str L[k8].1,.str L[k8].2]):=by rw[zad ntg];exact lC
     generalize upd H8 g (.dT ((gs++L.take (k8+1)).map λs=>(kP s,V.bl true)))=H9 at k9 hg9 kG sV
     refine⟨_,rfl,.inl ⟨rfl,_,SqL.of kG⟩,_,rfl,t,_,_,_,rfl,rfl,SqT.of sV,zap (j:=0) rfl,fl,_,_,rfl,rfl,kG,(by rw[Qa,Qa,Zh];lia),?_⟩
     have hfe:((L.take k8).map (·.1)).map V.str++[V.str L[k8].1]=((L.take (k8+1)).map (·.1)).map V.str:=by rw[cg,Qn,Qn];rfl
     rw[hfe]
     have dB:Keep [g,fl] H7 (upd H9 fl (.lst (((L.take (k8+1)).map (·.1)).map V.str))):=k9.trans (Keep.wr (by simp))
     have oS:(upd H9 fl (.lst (((L.take (k8+1)).map (·.1)).map V.str))) g=some (.dT ((gs++L.take (k8+1)).map λs=>(kP s,V.bl true))):=by rw[zad (Qu nfg)];exact hg9
     have j6:(upd H9 fl (.lst (((L.take (k8+1)).map (·.1)).map V.str))) fl=some (.lst (((L.take (k8+1)).map (·.1)).map V.str)):=zac
     have nE:(upd H9 fl (.lst (((L.take (k8+1)).map (·.1)).map V.str))) t=some (.tup [.str L[k8].1,.str L[k8].2]):=by rw[zad ntfl];exact sV
     generalize upd H9 fl (.lst (((L.take (k8+1)).map (·.1)).map V.str))=cQ at dB oS j6 nE
     have dX:BAt cQ b bs (row (rsOf es)):=v8.keep dB (by simp[nbg,nbfl]) λe he=>by
      have h1:=v8.tp e he
      simp[zax h1 oQ (by intro z;cases z),zax h1 cu (by intro z;cases z)]
     obtain⟨e,he,hee⟩:=Qh.mp ((g7 L[k8]).mpr (pO _ (Zb dP)))
     have dg2:=DGet.t (k:=kP L[k8]) dX.dc nE
     rw[←hee,valT_in dX.nd he]at dg2
     have jJ:=dX.tp e he
     rw[hee,um k8 dP]at jJ
     refine⟨_,rfl,_,rfl,b,_,rfl,dg2,L.length-(k8+1),by exact zar1 ‹_›,k8+1,e.2,rfl,dP,rfl,dB,oS,j6,jJ⟩
    ·have hk:k8=L.length:=by exact zar3 ‹_› ‹_›
     subst hk
     have kK:L.getD L.length ws[i]=ws[i]:=by rw[Zq,Xj (Qg _)];rfl
     rw[Qz (Qg _)]at oP gn dg
     have hwL:ws[i]∈L:=by rw[←hL];exact Qc
     rw[kK,valG_in (Qo _ hwL)]at dg
     refine⟨_,rfl,_,rfl,g,_,rfl,dg,_,rfl,zcq rfl ?_⟩
     have az:((L.map (·.1)).map V.str).isEmpty=false:=by rw[←hL];rfl
     refine⟨_,rfl,_,.inl ⟨_,SqL.of gn,rfl⟩,zdj (by rw[az];rfl) ?_⟩
     have hD8:=gT _ _ vg (by simp[nDg,Qu nfD])
     refine⟨_,rfl,.inl ⟨rfl,_,SqL.of hD8⟩,_,rfl,D,_,_,rfl,rfl,hD8,(by rw[Qa];lia),?_⟩
     have k9:Keep [D,g] H5 (upd H8 D (.lst (pU.map V.ref++[.ref fl]))):=by
      refine Keep.trans (λc' u' ec bZ=>?_) (Keep.wr (by simp))
      have h7:=sj c' u' ec bZ
      refine gT c' u' h7 ?_
      have ncg:c'≠g:=λz=>bZ (by simp[z])
      have ncf:c'≠fl:=λz=>by
       have:=k6 c' u' ec bZ
       rw[z,gp]at this;cases this
      simp[ncg,ncf]
     refine⟨⟨_,_,_,rfl⟩,k9,gs++L,dn++[c],rem.erase c,pU++[fl],kR++[ws[i].1],by rw[zad (Qu nDg)];exact oP,cN,λs=>?_,?_,hwt (λs hs=>Qp _ hs) (Qo _ hwL),by rw[zac,Qn];rfl,?_,zbe ar (.cons ⟨ws[i],tt,rfl⟩ .nil),by rw[Qt];show _+1≤_;exact zar4 ‹_›⟩
     ·rw[Qj,kC,Wh,Qj,Yv,List.flatten_nil,Zu,qW.mem_iff]
     ·refine eN.trans ?_
      rw[Qw]
      exact Zz _ (Jm ja)
     ·rw [← Qw]
      refine zbe (Paired.imp' (λa h ⟨t,e⟩=>⟨t,?_⟩) o9) (.cons ⟨(B1++A1).map (·.1),?_⟩ .nil)
      ·have n1:=notDg vg oQ a h t e
       have naf:a≠fl:=zax e cu (by intro z;injection z with z;cases z)
       rw[zad n1.1]
       exact gT _ _ e (by simp[n1.2,naf])
      ·rw[zad nfD,gn,←hL];rfl
  ·rintro σ H6 ⟨⟨x4,x5,x6,rfl⟩,k6,gs,dn,rem,pU,kR,uo,ul,kC,eN,qu,qX,hZ,ar,oV⟩
   rw[Qa,cO,Qz (Qg _)]at qu
   have tH:rem=[]:=by
    cases rem with
    |nil=>rfl
    |cons c rem' =>
     have pq:c∈cs:=eN.mem_iff.mpr (Qo _ Qc)
     obtain⟨s0,t0,eO,_⟩:=C.cy c pq
     have aJ:s0∈c:=by rw[eO];exact Qc
     have h1:s0∈ws:=av.mem_iff.mpr ((g7 s0).mpr (C.inc pq aJ))
     have h2:=(kC s0).mp (qu s0 h1)
     have h3:=(List.Perm.flatten eN).nodup_iff.mp C.cf
     rw[Wh,Ze]at h3
     exact absurd rfl (h3.2.2 s0 h2 s0 (Zs.mpr ⟨c,Qc,aJ⟩))
   rw[tH,Zu]at eN
   refine⟨_,rfl,D,_,rfl,SqL.of qX,λv hv=>?_,λl7 ws7 qG jW=>?_⟩
   ·obtain ⟨a,ha,rfl⟩:=Qh.mp hv
    obtain⟨j,hj,rfl⟩:=Zo ha
    obtain⟨_,t,e⟩:=zbd hZ hj
    exact⟨_,_,rfl,e⟩
   ·obtain ⟨as7,rfl,i5⟩:=refs_perm jW
    obtain⟨hd7,eF,iV⟩:=zdt i5 hZ
    refine k l7 as7 hd7 kR dn _ zac (by rw[i5.length_eq];rw[Qa]at oV;lia) (Paired.imp' (λa h ⟨t,e⟩=>⟨t,by rw[zad (zab e qG)];exact e⟩) iV) eF eN.symm ar ?_
    refine(λc u ec _=>?_)
    have nD:c≠D:=λz=>by
     by_cases zd:c=d
     ·exact ndD (zd▸z)
     ·have h2:=k2 c u (k1 c u ec (by simp)) (by simpa using zd)
      rw[z,hD]at h2;cases h2
    have nG:c≠g:=λz=>by
     have h1:=k3 c u (k1 c u ec (by simp)) (by simp)
     rw[z,hg]at h1;cases h1
    have:=k6 c u (sm c u ec (by simp)) (by simp[nD,nG])
    rw[zad (zab this qG)];exact this
end
abbrev sPiece:Stmt:=top 20
abbrev zhe:Stmt:=top 21
def marks(ks:Nh):List (Key×V):=ks.map λz=>((Sum.inr z:Key),V.bl true)
def zg5(h:x∉ks):valV (marks ks) (Sum.inr x)=none:=by
 unfold marks
 induction ks with
 |nil=>rfl
 |cons a t ih =>
  rw[Qe,not_or]at h
  rw[Ql,zbj]
  ·exact ih h.2
  ·intro q;exact h.1 (Ws q).symm
def valM_in(h:x∈ks):valV (marks ks) (Sum.inr x)=some (.bl true):=by
 unfold marks
 induction ks with
 |nil=>cases h
 | cons a t ih =>
  rw[Ql]
  by_cases e:a=x
  ·exact zcd (by rw[e])
  ·rw [zbj (fun q=>e (Ws q))]
   rcases Qe.mp h with z | z
   ·exact absurd z.symm e
   ·exact ih z
def putM_new(h:x∉ks):putK (marks ks) (Sum.inr x) (.bl true)=marks (ks++[x]):=by
 rw[zea _ (zg5 h)];unfold marks;rw[List.map_append];rfl
def putM_old(h:x∈ks):putK (marks ks) (Sum.inr x) (.bl true)=marks ks:=by
 unfold putK marks
 rw[if_pos]
 ·rw [Zi]
  refine Wg λz _=>?_
  show(if(Sum.inr z:Key)=Sum.inr x then((Sum.inr z:Key),V.bl true) else(Sum.inr z,V.bl true))=_
  split<;>rfl
 ·exact Yw.mpr ⟨_,Qh.mpr ⟨x,h,rfl⟩,by simp⟩
def mkeys(ks:Nh):((marks ks).map λp=>kV p.1)=ks.map V.str:=by unfold marks;rw[List.map_map];rfl
inductive IspPiece(vs:List V)(H:Hp)(Q:VK):Prop
 |mk (d:Nc) (es:List Ent) (cs:List (List (Str×Str))) (af:Nu) (x:Str) (h0:vs=[.ref d,.str x]) (h1:TAt H d es) (h2:es.length≤60) (h3:Cert (es.map (·.1)) (row (rsOf es)) cs af) (h4:x∈es.map (·.1)) (h5:∀(l:Nc) (zs:Nh) (H':Hp),H' l=some (.lst (zs.map V.str))→zs.Nodup→zs.Pairwise leS→(∀y,y∈zs↔y∈es.map (·.1)∧af y=af x)→H l=none→Keep [] H H'→Q (.ref l) H'):IspPiece vs H Q
def spPiece:Sp:=λvs H Q _=>IspPiece vs H Q
def seqO(b:Bool)(xs:List V):HO:=bif b then .tup xs else .lst xs
structure GAt(b:Bool)(H:Hp)(d:Nc)(es:List Ent):Prop where
 dc:H d=some (.dK (es.map λe=>((Sum.inr e.1:Key),V.ref e.2.2)))
 ro:∀e∈es,H e.2.2=some (seqO b (e.2.1.map V.str))
 nd:(es.map (·.1)).Nodup
def GAt.keep(r:GAt b H d es)(k:Keep xs H H')(hd:d∉xs)(h:∀e∈es,e.2.2∉xs):GAt b H' d es:=⟨k _ _ r.dc hd,λe he=>k _ _ (r.ro e he) (h e he),r.nd⟩
def SqB(b:Bool)(K:Na)(H:Hp)(a:Nc)(xs:List V):Prop:=bif b then SqT K H a xs else SqL K H a xs
def ItB(b:Bool)(K:Na)(a:Nc):It:=bif b then Itt K a else Itl K a
def SqB.of{b:Bool}{K:Na}{H:Hp}{a:Nc}{xs:List V}(h:H a=some (seqO b xs)):SqB b K H a xs:=by
 cases b
 ·exact SqL.of h
 ·exact SqT.of h
def GAt.sq{b:Bool}{K:Na}{H:Hp}{d:Nc}{es:List Ent}{e:Ent}(r:GAt b H d es)(he:e∈es):SqB b K H e.2.2 (e.2.1.map V.str):=SqB.of (r.ro e he)
def iB(b:Bool)(K:Na)(tl:TE):TI:=λ σ H R=>tl σ H λx H1=>RI1 x (λa=>∃xs,SqB b K H1 a xs) λa=>R (ItB b K a) H1
def pi_b(b:Bool){X:Cx}{tg l:Expr}{tl:TE}(hl:PE X l tl):PI X tg l (iB b X.K tl):=by
 cases b
 ·exact zbh hl
 ·exact pi_tup hl
def for_b(b:Bool){K:Na}{a:Nc}{xs:List V}{g:TG}{tb:TS}{D:Ends}{σ:St}{H:Hp}(Pv:Nat→St→Hp→Prop)(h0:Pv 0 σ H)(hl:∀i σ H,i≤xs.length→Pv i σ H→SqB b K H a xs)(hs:∀i x σ H,xs[i]?=some x→Pv i σ H→g x σ H λ σ2 H2=>tb {D with nx:=Pv (i+1),ct:=Pv (i+1),bk:=D.nx} σ2 H2)(hd:∀σ H,Pv xs.length σ H→D.nx σ H) :
  ∃W:Nat→Nat→St→Hp→Prop,(∃m,W 0 m σ H)∧∀i m σ H,W i m σ H →
   ((ItB b K a).stop i H∧D.nx σ H)∨((ItB b K a).go i H∧∃N:St→Hp→Prop,(∀σ' H',N σ' H'→∃m',m'<m∧W (i+1) m' σ' H')∧∀x H',(ItB b K a).yld i H x H'→g x σ H' λ σ2 H2=>tb {D with nx:=N,ct:=N,bk:=D.nx} σ2 H2):=by
 cases b
 ·exact zbv Pv h0 hl hs hd
 ·exact for_tup Pv h0 hl hs hd
inductive IspPieceG(b:Bool)(vs:List V)(H:Hp)(Q:VK):Prop
 |mk (d:Nc) (es:List Ent) (x:Str) (h0:vs=[.ref d,.str x]) (h1:GAt b H d es) (h2:es.length≤60) (h3:∀z y,y∈row (rsOf es) z→y∈es.map (·.1)) (h4:x∈es.map (·.1)) (h5:∀(l:Nc) (zs:Nh) (H':Hp),H' l=some (.lst (zs.map V.str))→zs.Nodup→zs.Pairwise leS→(∀y,y∈zs↔Conn (row (rsOf es)) x y)→H l=none→Keep [] H H'→Q (.ref l) H'):IspPieceG b vs H Q
def spPieceG(b:Bool):Sp:=λvs H Q _=>IspPieceG b vs H Q
section
variable{P:Ni}{w:Nk}{K:Na}{mg:Nf}{base:Nl}
def zfm:zan ["rounds", "start", "reached", "waiting", "place", "other"] ["rounds", "start"] (zag sPiece):=fsk
def ok_pieceG(b:Bool){f:Nc}{fd:Np}(F:Fun K "piece_from" "piece_from" sPiece f fd)(br:mg "sorted" = none):FnOk P w K mg base CX0 1 f fd ["rounds", "start"] (spPieceG b):=by
 refine F.okL zfm (λcdv A outer s H vs Q E hr h=>?_)
 obtain⟨d,es,x,rfl,T,bf,iz,hx,k⟩:=h
 have hu:=zcb hr
 have aJ  := sizeLine_eq
 refine⟨_,zae (zat 2 zfm.nd (zhq (zeb (pv 1) zes zhn) rfl rfl (by decide) (by decide)))
  (zae (zat 3 zfm.nd (za7 (zaa (pv 1) zaf)))
  (zae (zhm Zp (zfd (pv 3) (by intro _;rfl))
   (zae (zat 4 zfm.nd (pe_bm0 Zr PySem.F.slot_list_pop PySem.F.type_list_pop mt_pop (pv 3)))
   (zah (zbm Zp rfl (pi_b b (zcf hu (pv 0) (pv 4))) (zbb 5 zfm.nd)
    (zah (zbr (zc7 (zci hu (pv 5) (pv 2)))
     (zae (zcv hu (pv 2) (pv 5) zes rfl)
     (zah (za3 (zer Zr Wl Wk zcr (pv 3) (zaa (pv 5) zaf))))) za2))))))
  (zah (zbp (zak (zc3 rfl) (by rfl) br Ud (zaa (pv 2) zaf)))))),?_⟩
 have au:∀e∈es,row (rsOf es) e.1=e.2.1:=λe he=>zbl T.nd he
 refine λre iT=>⟨_,rfl,zac,[(Sum.inr x,.bl true)],rfl,(by show 1≤15;decide),?_⟩
 have ij:(zco [] [((Sum.inr x:Key),V.bl true)])=marks [x]:=rfl
 rw[ij]
 have kre:Keep [] H (upd (upd H re (.dK [])) re (.dK (marks [x]))):=by rw[upd_upd];exact Keep.new iT
 have dJ:(upd (upd H re (.dK [])) re (.dK (marks [x]))) re=some (.dK (marks [x])):=zac
 generalize upd (upd H re (.dK [])) re (.dK (marks [x]))=H1 at kre dJ
 refine⟨_,rfl,(by show 1≤sizeLine;decide),λwa sL=>?_⟩
 have k2:Keep [] H (upd H1 wa (.lst [.str x])):=kre.trans (Keep.new sL)
 have jE:H wa=none:=zal (xs:=[]) kre sL (by simp)
 have ng:(upd H1 wa (.lst [.str x])) wa=some (.lst ([x].map V.str)):=zac
 have qk:re≠wa:=zab dJ sL
 have fP:(upd H1 wa (.lst [.str x])) re=some (.dK (marks [x])):=by rw[zad qk];exact dJ
 generalize upd H1 wa (.lst [.str x])=H2 at k2 ng fP
 have T2:GAt b H2 d es:=T.keep k2 (by simp) (λ_ _=>by simp)
 have dl:d≠re:=zab T.dc iT
 have ndw:d≠wa:=zab T.dc jE
 have rowne:∀e∈es,e.2.2≠re∧e.2.2≠wa:=λe he=>⟨zab (T.ro e he) iT,zab (T.ro e he) jE⟩
 refine⟨λm σ H'=>Aj3 (Ex2 λx4 x5=>σ=[some (.ref d),some (.str x),some (.ref re),some (.ref wa),x4,x5]) (Keep [re,wa] H2 H') (Ex2 λ(ks wl:Nh)=>Aj9 (H' re=some (.dK (marks ks))) (H' wa=some (.lst (wl.map V.str))) ks.Nodup wl.Nodup (∀z∈wl,z∈ks) (∀z∈ks,z∈es.map (·.1)∧Conn (row (rsOf es)) x z) (x∈ks) (∀z∈ks,z∉wl→∀y∈row (rsOf es) z,y∈ks) (m=es.length+wl.length-ks.length)),
  ⟨_,⟨none,none,rfl⟩,Keep.refl,[x],[x],fP,ng,Qs.mpr ⟨by simp,Zn⟩,Qs.mpr ⟨by simp,Zn⟩,λz h=>h,λz h=>(by rw[Qb.mp h];exact⟨hx,.refl⟩),Qc,λz h h'=>absurd h h',rfl⟩,?_⟩
 rintro m σ H3 ⟨⟨x4,x5,rfl⟩,k3,ks,wl,cJ,jG,ik,iQ,qt,km,hxk,kQ,rfl⟩
 have hkle:ks.length≤es.length:=by
  have:=ze1 ik (m:=es.map (·.1)) λz hz=>(km z hz).1
  rwa[Qa]at this
 have n6:wl.length≤ks.length:=ze1 iQ qt
 refine⟨_,rfl,_,.inl ⟨_,SqL.of jG,rfl⟩,?_⟩
 rcases List.eq_nil_or_concat wl with em | ⟨ini,z,em⟩
 ·-- all are reached
  subst em
  refine zcq rfl ?_
  refine⟨_,rfl,re,_,ks,rfl,.inl cJ,mkeys ks,λl zs hl av aY=>?_⟩
  have kf:Keep [] H H3:=λc u ec _=>k3 c u (k2 c u ec (by simp)) (by simp[zab ec iT,zab ec jE])
  refine k l zs _ zac (av.nodup_iff.mpr ik) (aY (by omega)) (λy=>?_) (zal kf hl (by simp)) (kf.trans (Keep.new hl))
  rw[av.mem_iff]
  constructor
  ·exact λh=>(km y h).2
  ·intro hc
   induction hc with
   |refl=>exact hxk
   |step _ hz ih=>exact kQ _ ih (by simp) _ hz
 ·rw [List.concat_eq_append] at em
  subst em
  refine zdj (by rw[Qn];cases ini<;>rfl) ?_
  refine⟨_,λ σ' H' zz=>zz,?_⟩
  have jx:z∈ks:=qt z (Qo _ Qc)
  obtain⟨en,bi,eZ⟩:=Qh.mp (km z jx).1
  have mv:en.1=z:=eZ
  rw[Ze]at iQ
  obtain⟨ax,_,uX⟩:=iQ
  have sE:z∉ini:=λq=>uX z q z Qc rfl
  have fX:((ini++[z]).map V.str)[((ini++[z]).map V.str).length-1]?=some (.str z):=by
   rw[Qn,Qt,Uq (by simp)]
   simp
  have lJ:((ini++[z]).map V.str).dropLast=ini.map V.str:=by rw[Qn];exact List.dropLast_concat
  refine⟨_,rfl,.inl ⟨rfl,_,SqL.of jG⟩,wa,_,_,rfl,rfl,jG,fX,?_⟩
  rw[lJ]
  have k4:Keep [re,wa] H2 (upd H3 wa (.lst (ini.map V.str))):=k3.trans (Keep.wr (by simp))
  have n8:(upd H3 wa (.lst (ini.map V.str))) wa=some (.lst (ini.map V.str)):=zac
  have fO:(upd H3 wa (.lst (ini.map V.str))) re=some (.dK (marks ks)):=by rw[zad qk];exact cJ
  generalize upd H3 wa (.lst (ini.map V.str))=H4 at k4 n8 fO
  have T4:GAt b H4 d es:=T2.keep k4 (by simp[dl,ndw]) λe he=>by simp[(rowne e he).1,(rowne e he).2]
  have dg:DGet H4 d (.str z) (some (.ref en.2.2)):=by
   have:=DGet.k (k:=Sum.inr en.1) T4.dc
   rw[zb6 T4.nd bi,mv]at this
   exact this
  have hrz:row (rsOf es) z=en.2.1:=by rw[←mv];exact au en bi
  refine⟨_,rfl,_,rfl,d,_,rfl,dg,en.2.2,rfl,⟨_,GAt.sq T4 bi⟩,for_b b (xs:=en.2.1.map V.str) (λj σ H'=>Aj3 (Ex1 λx5=>σ=[some (.ref d),some (.str x),some (.ref re),some (.ref wa),some (.str z),x5]) (Keep [re,wa] H2 H') (Ex1 λ(nw:Nh)=>Aj5 (H' re=some (.dK (marks (ks++nw)))) (H' wa=some (.lst ((ini++nw).map V.str))) ((ks++nw).Nodup) (∀y∈nw,y∈es.map (·.1)∧Conn (row (rsOf es)) x y) (∀y∈en.2.1.take j,y∈ks++nw)))
   ⟨⟨_,rfl⟩,k4,[],by rw[Zu];exact fO,by rw[Zu];exact n8,by rw[Zu];exact ik,λy hy=>(by cases hy),λy hy=>(by cases hy)⟩
   (λj σ H' _ hh=>(SqB.of (hh.2 _ _ (T2.ro en bi) (by simp[(rowne en bi).1,(rowne en bi).2])))) ?_ ?_⟩
  ·rintro j y σ H5 hy ⟨⟨y5,rfl⟩,k5,nw,cx,gX,de,dO,fE⟩
   have hj:j<en.2.1.length:=by
    have:=(Za.mp hy).1
    rwa[Qa]at this
   have mz:y=.str en.2.1[j]:=by
    rw[Qq,Qd hj]at hy
    exact(Qk hy).symm
   subst mz
   have mD:en.2.1[j]∈row (rsOf es) z:=by rw[hrz];exact Zb hj
   have cg:en.2.1.take (j+1)=en.2.1.take j++[en.2.1[j]]:=Qm hj
   have hsz:(ks++nw).length≤es.length:=by
    have:=ze1 de (m:=es.map (·.1)) λq hq=>by
     rcases Qj.mp hq with h | h
     ·exact(km q h).1
     ·exact(dO q h).1
    rwa[Qa]at this
   have rA:=DGet.k (k:=Sum.inr en.2.1[j]) cx
   by_cases ax:en.2.1[j]∈ks++nw
   ·rw [valM_in ax] at rA
    refine⟨_,rfl,_,rfl,re,_,rfl,rA,_,rfl,zcq rfl ?_⟩
    refine⟨⟨_,rfl⟩,k5,nw,cx,gX,de,dO,λq hq=>?_⟩
    rw[cg]at hq
    rcases Qj.mp hq with h | h
    ·exact fE q h
    ·rw[Qb.mp h];exact ax
   ·rw [zg5 ax] at rA
    refine⟨_,rfl,_,rfl,re,_,rfl,rA,_,rfl,zdj rfl ?_⟩
    refine⟨_,rfl,_,rfl,re,_,rfl,DPut.k (k:=Sum.inr en.2.1[j]) cx (by unfold marks;rw[List.length_map];lia),?_⟩
    rw[putM_new ax]
    have jF:(upd H5 re (.dK (marks (ks++nw++[en.2.1[j]])))) wa=some (.lst ((ini++nw).map V.str)):=by rw[zad (Qu qk)];exact gX
    have dI:(upd H5 re (.dK (marks (ks++nw++[en.2.1[j]])))) re=some (.dK (marks (ks++nw++[en.2.1[j]]))):=zac
    have k6:Keep [re,wa] H2 (upd H5 re (.dK (marks (ks++nw++[en.2.1[j]])))):=k5.trans (Keep.wr (by simp))
    generalize upd H5 re (.dK (marks (ks++nw++[en.2.1[j]])))=H6 at jF dI k6
    rw[Qt]at hsz
    rw[Qt,Qx,Ui]at n6
    refine⟨_,rfl,.inl ⟨rfl,_,SqL.of jF⟩,_,rfl,wa,_,_,rfl,rfl,jF,(by rw[Qa,Qt];lia),?_⟩
    refine⟨⟨_,rfl⟩,k6.trans (Keep.wr (by simp)),nw++[en.2.1[j]],by rw[zad qk,←Qw];exact dI,by rw[zac,←Qw,Qn (l₂:=[en.2.1[j]])];rfl,?_,λq hq=>?_,λq hq=>?_⟩
    ·rw [← Qw,Ze]
     refine⟨de,Qs.mpr ⟨by simp,Zn⟩,λa ha b hb e=>?_⟩
     rw[Qb.mp hb]at e
     exact ax (e▸ha)
    ·rcases Qj.mp hq with h | h
     ·exact dO q h
     ·rw [Qb.mp h]
      exact⟨iz z _ mD,.step (km z jx).2 mD⟩
    ·rw [cg] at hq
     rw[←Qw]
     rcases Qj.mp hq with h | h
     ·exact Qp _ (fE q h)
     ·exact Qo _ h
  ·rintro σ H5 ⟨⟨y5,rfl⟩,k5,nw,cx,gX,de,dO,fE⟩
   rw[Qa,Qz (Qg _)]at fE
   have hsz:(ks++nw).length≤es.length:=by
    have:=ze1 de (m:=es.map (·.1)) λq hq=>by
     rcases Qj.mp hq with h | h
     ·exact(km q h).1
     ·exact(dO q h).1
    rwa[Qa]at this
   have fU:=de
   rw[Ze]at fU
   refine⟨es.length+(ini++nw).length-(ks++nw).length,?_,⟨_,_,rfl⟩,k5,ks++nw,ini++nw,cx,gX,de,?_,?_,?_,Qp _ hxk,?_,rfl⟩
   ·rw [Qt] at hsz
    rw[Qt,Qt,Qt,Qx,Ui]
    rw[Qt,Qx,Ui]at n6
    lia
   ·rw [Ze]
    refine⟨ax,fU.2.1,λa ha b hb e=>fU.2.2 a (qt a (Qp _ ha)) b hb e⟩
   ·intro q hq
    rcases Qj.mp hq with h | h
    ·exact Qp _ (qt q (Qp _ h))
    ·exact Qo _ h
   ·intro q hq
    rcases Qj.mp hq with h | h
    ·exact km q h
    ·exact dO q h
   ·intro q hq o7 y hy
    rw[Qj,not_or]at o7
    rcases Qj.mp hq with h | h
    ·by_cases hqz:q=z
     ·rw[hqz,hrz]at hy;exact fE y hy
     ·exact Qp _ (kQ q h (by rw[Qj,not_or,Qb];exact⟨o7.1,hqz⟩) y hy)
    ·exact absurd h o7.2
def ok_piece(F:Fun K "piece_from" "piece_from" sPiece f fd)(br:mg "sorted" = none):FnOk P w K mg base CX0 1 f fd ["rounds", "start"] spPiece :=
 (ok_pieceG true F br).imp fun vs H Q E ⟨d,es,cs,af,x,e,T,bf,C,hx,k⟩=>⟨d,es,x,e,⟨T.dc,T.ro,T.nd⟩,bf,fun z y h=>C.inn' h,hx,fun l zs H' h1 h2 h3 h4=>k l zs H' h1 h2 h3 fun y=>(h4 y).trans ⟨fun h=>by
  induction h with
  |refl=>exact⟨hx,rfl⟩
  |step _ mD ih=>exact⟨C.inn' mD,(C.la _ _ mD).trans ih.2⟩,λh=>C.co x hx y h.1 h.2.symm⟩⟩
end
def IsPiece(ns:Nh)(af:Nu)(zs:Nh):Prop:=zs.Nodup∧∃s∈ns,∀y,y∈zs↔y∈ns∧af y=af s
structure InRow(ns:Nh)(zss:List (List Str)):Prop where
 so:∀zs∈zss,zs.Pairwise leS
 hd:zss.Pairwise λa b=>∀x∈a.head?,∀y∈b.head?,leS x y
 al:∀y∈ns,∃zs∈zss,y∈zs
def zga(H:Hp)(a:Nc)(zs:Nh):Prop:=H a=some (.lst (zs.map V.str))
inductive IspPieces(vs:List V)(H:Hp)(Q:VK):Prop
 |mk (d:Nc) (es:List Ent) (cs:List (List (Str×Str))) (af:Nu) (h0:vs=[.ref d]) (h1:TAt H d es) (h2:es.length≤60) (h3:Cert (es.map (·.1)) (row (rsOf es)) cs af) (h4:∀(l:Nc) (as:Nn) (zss:List (List Str)) (H':Hp),H' l=some (.lst (as.map V.ref))→Paired (zga H') as zss→(∀zs∈zss,IsPiece (es.map (·.1)) af zs)→InRow (es.map (·.1)) zss→Keep [] H H'→Q (.ref l) H'):IspPieces vs H Q
def spPieces:Sp:=λvs H Q _=>IspPieces vs H Q
section
variable{P:Ni}{w:Nk}{K:Na}{mg:Nf}{base:Nl}
def zdf:zan ["rounds", "found", "reached", "start", "piece", "place"] ["rounds"] (zag zhe):=fsk
def ok_pieces(F:Fun K "pieces_of" "pieces_of" zhe f fd)(FP:Fun K "piece_from" "piece_from" sPiece fp fdp)(bP:Binds K fdp ["rounds", "start"] [])(mP:mg "piece_from" = some (.ref fp))(GP:FnOk P w K mg base CX0 1 fp fdp ["rounds", "start"] spPiece)(br:mg "sorted" = none):FnOk P w K mg base CX0 2 f fd ["rounds"] spPieces:=by
 refine F.okL zdf (λcdv A outer s H vs Q E hr h=>?_)
 obtain⟨d,es,cs,af,rfl,T,bf,C,k⟩:=h
 have hu:=zcb hr
 have aJ  := sizeLine_eq
 refine⟨_,zae (zat 1 zdf.nd (za7 zaf))
  (zae (zat 2 zdf.nd pe_dnewK)
  (zae (zbm Zp rfl (zbh (zak (zc3 rfl) (by rfl) br Ud (zaa (pv 0) zaf))) (zbb 3 zdf.nd)
   (zah (zbr (zc7 (zci hu (pv 3) (pv 2)))
    (zae (zat 4 zdf.nd (zaj GP hr rfl mP FP.kp bP .nil zav (zaa (pv 0) (zaa (pv 3) zaf))))
    (zae (za3 (zer Zr Wl Wk zcr (pv 1) (zaa (pv 4) zaf)))
    (zah (zbm Zp rfl (zbh (pv 4)) (zbb 5 zdf.nd)
     (zah (zcv hu (pv 2) (pv 5) zes rfl)))))) za2)))
  (zah (zbp (pv 1))))),?_⟩
 refine⟨(by show 0≤sizeLine;decide),λfo oU re iT=>?_⟩
 have fM:H re=none:=zal (xs:=[]) (Keep.new oU) iT (by simp)
 have rY:fo≠re:=zab (o:=_) zac iT
 have k1:Keep [] H (upd (upd H fo (.lst [])) re (.dK [])):=(Keep.new oU).trans (Keep.new iT)
 have gm:(upd (upd H fo (.lst [])) re (.dK [])) fo=some (.lst []):=by rw[zad rY];exact zac
 have dJ:(upd (upd H fo (.lst [])) re (.dK [])) re=some (.dK []):=zac
 generalize upd (upd H fo (.lst [])) re (.dK [])=H1 at k1 gm dJ
 have T1:TAt H1 d es:=T.keep k1 (by simp) (λ_ _=>by simp)
 refine⟨_,rfl,d,_,es.map (·.1),rfl,.inl T1.dc,keys_strs es,λl ws hl av aY=>?_⟩
 replace aY:=aY (by rw[Qa];omega)
 have k2:Keep [] H1 (upd H1 l (.lst (ws.map V.str))):=Keep.new hl
 have ak:(upd H1 l (.lst (ws.map V.str))) l=some (.lst (ws.map V.str)):=zac
 have nlf:l≠fo:=Qu (zab gm hl)
 generalize upd H1 l (.lst (ws.map V.str))=H2 at k2 ak
 have kE:=k2 _ _ gm (by simp)
 have fP:=k2 _ _ dJ (by simp)
 have nlr:l≠re:=zax ak fP (by intro z;cases z)
 have T2:TAt H2 d es:=T1.keep k2 (by simp) (λ_ _=>by simp)
 have lu:Keep [] H H2:=k1.trans k2
 have ndf:d≠fo:=zab T.dc oU
 have dl:d≠re:=zab T.dc fM
 have em:ws.length=es.length:=by rw[av.length_eq,Qa]
 refine⟨l,rfl,⟨_,SqL.of ak⟩,for_strs (zs:=ws) (λi σ H'=>Aj3 (Ex3 λx3 x4 x5=>σ=[some (.ref d),some (.ref fo),some (.ref re),x3,x4,x5]) (Keep [fo,re] H2 H') (Ex3 λ(as:Nn) (zss:List (List Str)) (ks:Nh)=>Aj8 (H' fo=some (.lst (as.map V.ref))) (H' re=some (.dK (marks ks))) (Paired (zga H') as zss) (∀zs∈zss,IsPiece (es.map (·.1)) af zs) (as.length≤i) ks.Nodup (∀z∈ks,z∈es.map (·.1)) (Aj7 (∀a∈as,a≠fo) (∀y∈ws.take i,y∈ks) (∀y∈ks,∃zs∈zss,y∈zs) (∀zs∈zss,∀y∈zs,y∈ks) (∀zs∈zss,∀x∈zs.head?,x∈ws.take i) (zss.Pairwise λa b=>∀x∈a.head?,∀y∈b.head?,leS x y) (∀zs∈zss,zs.Pairwise leS))))
  ⟨⟨_,_,_,rfl⟩,Keep.refl,[],[],[],kE,fP,.nil,λzs h=>(by cases h),Zg _,Zn,λz h=>(by cases h),λz h=>(by cases h),λz h=>(by cases h),λz h=>(by cases h),λz h=>(by cases h),λz h=>(by cases h),List.Pairwise.nil,λz h=>(by cases h)⟩ (λi σ H' _ hh=>SqL.of (hh.2 _ _ ak (by simp[nlf,nlr]))) ?_ ?_⟩
 ·rintro i hi σ H3 ⟨⟨x3,x4,x5,rfl⟩,k3,as,zss,ks,gl,cJ,db,jX,vb,ik,qI,iD,c1,c2,c6,c3,c4,c5⟩
  have dg:=DGet.k (k:=Sum.inr ws[i]) cJ
  have T3:TAt H3 d es:=T2.keep k3 (by simp[ndf,dl]) λe he=>by
   have h1:=T.ro e he
   simp[zab h1 oU,zab h1 fM]
  by_cases ax:ws[i]∈ks
  ·rw [valM_in ax] at dg
   refine⟨_,rfl,_,rfl,re,_,rfl,dg,_,rfl,zcq rfl ?_⟩
   refine⟨⟨_,_,_,rfl⟩,k3,as,zss,ks,gl,cJ,db,jX,by exact zar16 ‹_›,ik,qI,iD,λy hy=>?_,c2,c6,λzs h x hx=>Jn (i:=i) (by rw[List.take_take,Nat.min_eq_left (Ub i)];exact c3 zs h x hx),c4,c5⟩
   rw[Qm hi]at hy
   rcases Qj.mp hy with h | h
   ·exact c1 y h
   ·rw[Qb.mp h];exact ax
  ·rw [zg5 ax] at dg
   refine⟨_,rfl,_,rfl,re,_,rfl,dg,_,rfl,zdj rfl ?_⟩
   have gW:=av.mem_iff.mp (Zb hi)
   refine⟨_,rfl,_,rfl,d,es,cs,af,ws[i],rfl,T3,bf,C,gW,λp zs H4 cj eZ sC e7 tM k4=>?_⟩
   obtain⟨ju,uc⟩:∃ju,ju=ks:=⟨_,rfl⟩
   rw[←uc]at cJ ik qI ax c1 c2 c6
   have gk:=k4 _ _ gl (by simp)
   have fO:=k4 _ _ cJ (by simp)
   have npf:p≠fo:=Qu (zab gl tM)
   have npr:p≠re:=zax cj fO (by intro z;cases z)
   refine⟨_,rfl,.inl ⟨rfl,_,SqL.of gk⟩,_,rfl,fo,_,_,rfl,rfl,gk,(by rw[Qa];lia),?_⟩
   have k5:Keep [fo,re] H2 (upd H4 fo (.lst (as.map V.ref++[.ref p]))):=(k3.trans (k4.sub (by simp))).trans (Keep.wr (by simp))
   have oT:(upd H4 fo (.lst (as.map V.ref++[.ref p]))) fo=some (.lst ((as++[p]).map V.ref)):=by rw[zac,Qn];rfl
   have cx:(upd H4 fo (.lst (as.map V.ref++[.ref p]))) re=some (.dK (marks ju)):=by rw[zad (Qu rY)];exact fO
   have bz:(upd H4 fo (.lst (as.map V.ref++[.ref p]))) p=some (.lst (zs.map V.str)):=by rw[zad npf];exact cj
   have i4:Paired (zga (upd H4 fo (.lst (as.map V.ref++[.ref p])))) (as++[p]) (zss++[zs]):=by
    refine zbe ?_ (.cons bz .nil)
    have:∀{as:Nn} {zss:List (List Str)},Paired (zga H3) as zss→(∀a∈as,a≠fo)→Paired (zga (upd H4 fo (.lst (as.map V.ref++[.ref p])))) as zss:=λ{as zss} r ha=>by
     have h2:∀(L:List V),Paired (zga (upd H4 fo (.lst L))) as zss:=λL=>by
      induction r with
      |nil=>exact .nil
      |cons h t ih=>exact .cons (by unfold zga;rw[zad (ha _ List.mem_cons_self)];exact k4 _ _ h (by simp)) (ih λa h=>ha a (List.mem_cons_of_mem _ h))
     exact h2 _
    exact this db iD
   have pB:∀a∈as++[p],a≠fo:=λa ha=>by
    rcases Qj.mp ha with h | h
    ·exact iD a h
    ·rw[Qb.mp h];exact npf
   generalize upd H4 fo (.lst (as.map V.ref++[.ref p]))=H5 at k5 oT cx bz i4
   refine⟨_,rfl,p,rfl,⟨_,SqL.of bz⟩,zbv (xs:=zs.map V.str) (λj σ H'=>Aj3 (Ex1 λx5=>σ=[some (.ref d),some (.ref fo),some (.ref re),some (.str ws[i]),some (.ref p),x5]) (Keep [re] H5 H') (Ex1 λ(ks:Nh)=>Aj4 (H' re=some (.dK (marks ks))) ks.Nodup (∀z∈ks,z∈es.map (·.1)) (∀z,z∈ks↔z∈ju∨z∈zs.take j)))
    ⟨⟨_,rfl⟩,Keep.refl,ju,cx,ik,qI,λz=>⟨.inl,λh=>h.elim id λh=>(by cases h)⟩⟩ (λj σ H' _ hh=>SqL.of (hh.2 _ _ bz (by simpa using npr))) ?_ ?_⟩
   ·rintro j y σ H6 hy ⟨⟨y5,rfl⟩,k6,jt,dI,g8,g9,cK⟩
    have hj:j<zs.length:=by
     have:=(Za.mp hy).1
     rwa[Qa]at this
    obtain⟨z,hz,rfl,ez⟩:∃z,z∈zs∧y=V.str z∧z=zs[j]:=by
     rw[Qq,Qd hj]at hy
     exact⟨zs[j],Zb hj,(Qk hy).symm,rfl⟩
    have step:∀q,(q∈jt∨q=z)↔q∈ju∨q∈zs.take (j+1):=λq=>by
     rw[cK,Qm hj,Qj,Qb,ez,or_assoc]
    have hsz:jt.length≤es.length:=by
     have:=ze1 g8 g9
     rwa[Qa]at this
    refine⟨_,rfl,_,rfl,re,_,rfl,DPut.k (k:=Sum.inr z) dI (by unfold marks;rw[List.length_map];lia),⟨_,rfl⟩,k6.trans (Keep.wr (by simp)),?_⟩
    by_cases jx:z∈jt
    ·exact⟨jt,by rw[zac,putM_old jx],g8,g9,λq=>by rw[←step q];exact⟨.inl,λh=>h.elim id λe=>e▸jx⟩⟩
    ·refine ⟨jt++[z],by rw [zac,putM_new jx],?_,fun q hq=>?_,fun q=>by rw [← step q,Qj,Qb]⟩
     ·rw [Ze]
      refine⟨g8,Qs.mpr ⟨by simp,Zn⟩,λa ha b hb e=>?_⟩
      rw[Qb.mp hb]at e
      exact jx (e▸ha)
     ·rcases Qj.mp hq with h | h
      ·exact g9 q h
      ·rw[Qb.mp h];exact((e7 z).mp hz).1
   ·rintro σ H6 ⟨⟨y5,rfl⟩,k6,jt,dI,g8,g9,cK⟩
    rw[Qa,Qz (Qg _)]at cK
    have mU:ws[i]∈zs:=(e7 _).mpr ⟨gW,rfl⟩
    have iY:zs.head?=some ws[i]:=by
     cases sA:zs with
     |nil=>rw[sA]at mU;cases mU
     | cons m t =>
      have hmz:m∈zs:=by rw[sA];exact Qc
      obtain⟨ki,u3⟩:=(e7 m).mp hmz
      obtain⟨j,hj,ej⟩:=Zo (av.mem_iff.mpr ki)
      have h1:leS m ws[i]:=by
       rw[sA]at mU sC
       rcases Qe.mp mU with q | q
       ·rw[q];exact λz=>Wv _ z
       ·exact(Ka.mp sC).1 _ q
      have aW:i≤j:=Nat.le_of_not_lt λai=>by
       have ij:m∈ju:=c1 m (by rw[←ej,←Wp (j:=i) (h:=by rw[Zh];omega)];exact Zb _)
       obtain⟨jj,ce,tZ⟩:=c2 m ij
       obtain⟨_,s,_,hs⟩:=jX jj ce
       exact ax (c6 jj ce _ ((hs _).mpr ⟨gW,u3.symm.trans ((hs m).mp tZ).2⟩))
      have h2:leS ws[i] m:=by
       rcases Nat.lt_or_eq_of_le aW with q | q
       ·rw[←ej];exact Ke.mp aY i j hi hj q
       ·subst q;rw[ej];exact λz=>Wv _ z
      rw[leS_anti _ _ h1 h2];rfl
    have tk:ws.take (i+1)=ws.take i++[ws[i]]:=Qm hi
    refine⟨⟨_,_,_,rfl⟩,k5.trans (k6.sub (by simp)),as++[p],zss++[zs],jt,k6 _ _ oT (by simpa using rY),dI,Paired.imp' (λa zs h=>k6 _ _ h (by simpa using zax h cx (by intro z;cases z))) i4,λq hq=>?_,by rw[Qt];show _+1≤_;exact zar4 ‹_›,g8,g9,pB,λy hy=>?_,λy hy=>?_,λq hq y hy=>?_,λq hq x hx=>?_,?_,λq hq=>?_⟩
    ·rcases Qj.mp hq with h | h
     ·exact jX q h
     ·rw[Qb.mp h];exact⟨eZ,ws[i],gW,e7⟩
    ·rw [tk] at hy
     rcases Qj.mp hy with h | h
     ·exact(cK y).mpr (.inl (c1 y h))
     ·rw[Qb.mp h];exact(cK _).mpr (.inr mU)
    ·rcases (cK y).mp hy with h | h
     ·obtain ⟨z,hz,mz⟩:=c2 y h
      exact⟨z,Qp _ hz,mz⟩
     ·exact⟨zs,Qo _ Qc,h⟩
    ·rcases Qj.mp hq with h | h
     ·exact(cK y).mpr (.inl (c6 q h y hy))
     ·rw[Qb.mp h]at hy;exact(cK y).mpr (.inr hy)
    ·rw [tk]
     rcases Qj.mp hq with h | h
     ·exact Qp _ (c3 q h x hx)
     ·rw [Qb.mp h,iY] at hx
      rw[←Qk hx];exact Qo _ Qc
    ·rw [List.pairwise_append]
     refine⟨c4,Wn _ _,λa ha b hb x hx y hy=>?_⟩
     rw[Qb.mp hb,iY]at hy
     rw[←Qk hy]
     obtain⟨j,hj,ej⟩:=Zo (c3 a ha x hx)
     rw[Zh]at hj
     rw[←ej,Wp]
     exact Ke.mp aY j i (by omega) hi (by omega)
    ·rcases Qj.mp hq with h | h
     ·exact c5 q h
     ·rw[Qb.mp h];exact sC
 ·rintro σ H3 ⟨⟨x3,x4,x5,rfl⟩,k3,as,zss,ks,gl,cJ,db,jX,vb,ik,qI,iD,c1,c2,c6,c3,c4,c5⟩
  rw[Qa,Qz (Qg _)]at c1
  refine⟨_,rfl,k fo as zss H3 gl db jX ⟨c5,c4,λy hy=>c2 y (c1 y (av.mem_iff.mpr hy))⟩ λc u ec _=>k3 c u (lu c u ec (by simp)) (by simp[zab ec oU,zab ec fM])⟩
end
end K21
end
section
namespace L2
open PySem
def lc_filt(T:St→Prop)(q:V→Bool)(ha:SqL K H a xs)(hn:xs.length≤sizeLine)(h0:T τ)(hs:∀x∈xs,∀τ,T τ→∀(k1:V→St→Hp→Prop) (k0:St→Hp→Prop),(q x=true→∀τ2,T τ2→k1 x τ2 H)→(q x=false→∀τ2,T τ2→k0 τ2 H)→g x τ H λ τ2 H2=>tc τ2 H2 λb H3=>if b=true then te τ2 H3 λy H4=>k1 y τ2 H4 else k0 τ2 H3)(hq:∀D,H D=none→Q (.ref D) (upd H D (.lst (xs.filter q)))):rLC g tc te Q (Itl K a) τ H:=by
 refine⟨λi m ys τ H1=>Aj5 (H1=H) (T τ) (m=xs.length-i) (i≤xs.length) (ys=(xs.take i).filter q),⟨_,rfl,h0,rfl,Zg _,rfl⟩,?_⟩
 rintro i m ys τ H1 ⟨rfl,ht,rfl,hi,rfl⟩
 by_cases ai:i<xs.length
 ·have kH:((xs.take i).filter q).length≤i:=Zl (Xi _ _) (by rw [Zh];lia)
  refine .inr ⟨⟨xs,xs[i],ha,Qd ai⟩,by lia,?_⟩
  rintro x H' ⟨rfl,hx⟩
  have cw:=hx xs ha
  rw[Qd ai]at cw
  have jC:xs[i]=x:=Qk cw
  have cg:xs.take (i+1)=xs.take i++[x]:=by rw[Qm ai,jC]
  refine hs x (jC▸Zb ai) τ ht (λy τ2 H4=>∃m',m'<xs.length-i∧Aj5 (H4=H') (T τ2) (m'=xs.length-(i+1)) (i+1≤xs.length) ((xs.take i).filter q++[y]=(xs.take (i+1)).filter q))
   (λ τ2 H4=>∃m',m'<xs.length-i∧Aj5 (H4=H') (T τ2) (m'=xs.length-(i+1)) (i+1≤xs.length) ((xs.take i).filter q=(xs.take (i+1)).filter q)) (λiU τ2 h2=>?_) λiU τ2 h2=>?_
  ·exact⟨_,by exact zar1 ‹_›,rfl,h2,rfl,ai,by rw[cg,Ww,Zx iU,Ux]⟩
  ·exact⟨_,by exact zar1 ‹_›,rfl,h2,rfl,ai,by rw[cg,Ww,Zy (by rw[iU];decide),Ux,Zu]⟩
 ·have e:i=xs.length:=by exact zar3 ‹_› ‹_›
  subst e
  refine .inl ⟨⟨xs,ha,Qg _⟩,λD hD=>?_⟩
  rw[Qz (Qg _)]
  exact hq D hD
end L2
namespace K21
open PySem L2 Wb
def sum_filter{α:Type}{p:α→Bool}{f:α→Int}:∀l:List α,(l.map λx=>if p x=true then f x else 0).sum=((l.filter p).map f).sum:=by
 intro l
 induction l with
 |nil=>rfl
 |cons a t ih =>
  rw[Ql,Zk,ih]
  by_cases h:p a=true
  ·rw[if_pos h,Zx h,Ql,Zk]
  ·rw[if_neg h,Zy h];lia
def sum_parts{α:Type}{f:α→List Str}:∀l:List α,(l.map λx=>(2:Int)+(if f x=[] then 2 else 0)-((f x).length:Int)).sum=2*(l.length:Int)+2*((l.filter λx=>(f x).isEmpty).length:Int)-(((l.map λx=>(f x).length).sum:Nat):Int):=by
 intro l
 induction l with
 |nil=>rfl
 |cons a t ih =>
  rw[Ql,Zk,ih,Ql,Zk,Qx]
  by_cases h:f a=[]
  ·rw[Zx (by rw[h];rfl),Qx,if_pos h];lia
  ·rw[Zy (by rw[List.isEmpty_iff];exact h),if_neg h];lia
def sum_twos{α:Type}{p:α→Bool}:∀l:List α,(l.map λx=>if p x=true then(2:Int) else 0).sum=2*((l.filter p).length:Int):=by
 intro l
 induction l with
 |nil=>rfl
 |cons a t ih =>
  rw[Ql,Zk,ih]
  by_cases h:p a=true
  ·rw[if_pos h,Zx h,Qx];lia
  ·rw[if_neg h,Zy h];lia
def iso_eq{es:List Ent}(nd:(es.map (·.1)).Nodup):zet es=(es.map (·.1)).filter λx=>(row (rsOf es) x).isEmpty:=by
 unfold zet
 rw[List.filter_map]
 congr 1
 exact List.filter_congr λe he=>by
  show e.2.1.isEmpty=(row (rsOf es) e.1).isEmpty
  rw[zbl nd he]
def piece_count{es:List Ent}{cs cs':List (List (Str×Str))}{af:Nu}(C:Cert (es.map (·.1)) (row (rsOf es)) cs af){zs hd hc:Nh}(hz:IsPiece (es.map (·.1)) af zs)(hh:hd.Perm (zet es++hc))(kL:cs'.Perm cs)(hp:Paired (fun h c=>∃ s∈c,s.1=h) hc cs') :
  2*zs.length+2*(hd.filter λh=>decide (h∈zs)).length=(zs.map λx=>(row (rsOf es) x).length).sum+4:=by
 obtain⟨eZ,s,hs,e7⟩:=hz
 have heu:=C.eu s hs
 have p1:((es.map (·.1)).filter λx=>decide (af x=af s)).Perm zs:=(List.perm_ext_iff_of_nodup (Yz Jw C.nd) eZ).mpr λy=>by
  rw[Yc,decide_eq_true_iff,e7]
 have e1:wt (es.map (·.1)) (row (rsOf es)) af (af s)=2*(zs.length:Int)+2*((zs.filter λx=>(row (rsOf es) x).isEmpty).length:Int)-(((zs.map λx=>(row (rsOf es) x).length).sum:Nat):Int):=by
  unfold wt
  have:=sum_filter (p:=λx=>decide (af x=af s)) (f:=λx=>(2:Int)+(if row (rsOf es) x=[] then 2 else 0)-((row (rsOf es) x).length:Int)) (es.map (·.1))
  simp only[decide_eq_true_eq]at this
  rw[this,zhp (p1.map _),sum_parts]
 have e2:ct cs af (af s)=2*((cs.filter λc=>c.any λu=>decide (af u.1=af s)).length:Int):=sum_twos _
 have e3:(hd.filter λh=>decide (h∈zs)).length=((zet es).filter λh=>decide (h∈zs)).length+(hc.filter λh=>decide (h∈zs)).length:=by
  rw[(hh.filter _).length_eq,Ww,Qt]
 have e4:((zet es).filter λh=>decide (h∈zs)).length=(zs.filter λx=>(row (rsOf es) x).isEmpty).length:=by
  refine List.Perm.length_eq ((List.perm_ext_iff_of_nodup ?_ (Yz Jw eZ)).mpr λy=>?_)
  ·rw [iso_eq C.nd]
   exact Yz Jw (Yz Jw C.nd)
  ·rw [iso_eq C.nd,Yc,Yc,Yc,decide_eq_true_iff]
   exact⟨λ⟨⟨_,a⟩,b⟩=>⟨b,a⟩,λ⟨a,b⟩=>⟨⟨((e7 y).mp a).1,b⟩,a⟩⟩
 have e5:(hc.filter λh=>decide (h∈zs)).length=(cs'.filter λc=>c.any λu=>decide (af u.1=af s)).length:=by
  have ax:∀c∈cs',c∈cs:=λc h=>kL.mem_iff.mp h
  clear kL e3 e4 hh
  induction hp with
  |nil=>rfl
  | cons h t ih =>
   rename_i h0 c0 _ _
   have iht:=ih λc hc=>ax c (Qf _ hc)
   obtain⟨u,hu,rfl⟩:=h
   have eO:=ax c0 Qc
   have hun:u.1∈es.map (·.1):=C.inn' (C.inc eO hu)
   by_cases hz:u.1∈zs
   ·have hl:=((e7 _).mp hz).2
    have iE:(c0.any λu=>decide (af u.1=af s))=true:=Yw.mpr ⟨u,hu,decide_eq_true hl⟩
    rw[Zx (by simpa using hz),Zx (p:=λc:List (Str×Str)=>c.any λu=>decide (af u.1=af s)) iE,Qx,Qx,iht]
   ·rw [Zy (by simpa using hz),Zy,iht]
    intro q
    obtain⟨v,hv,e⟩:=Yw.mp q
    exact hz ((e7 _).mpr ⟨hun,(C.one_lab eO hv hu).trans (of_decide_eq_true e)⟩)
 have e6:=(kL.filter λc=>c.any λu=>decide (af u.1=af s)).length_eq
 lia
def ix_listK(hK:X.K=K):IxR X (rIxL K):=hK▸zao
def op_in_seqK(hK:X.K=K):OpR X (compareOp .In) (rIn K false):=hK▸op_in_seq
def zid(hK:X.K=K):zcc X (.builtin "len") (λxs H Q=>Ex2 λp ys=>Aj3 (xs=[.ref p]) (SqL K H p ys∨SqT K H p ys) (Q (.int ys.length) H)):=hK▸zaq
abbrev zge:Stmt:=top 32
inductive IspFlat(vs:List V)(H:Hp)(Q:VK):Prop
 |mk (d:Nc) (es:List Ent) (cs:List (List (Str×Str))) (af:Nu) (h0:vs=[.ref d]) (h1:TAt H d es) (h2:es.length≤60) (h3:(∀e∈es,e.2.1.length≤100)) (h4:Cert (es.map (·.1)) (row (rsOf es)) cs af) (h5:∀H',Keep [] H H'→Q .non H'):IspFlat vs H Q
def spFlat:Sp:=λvs H Q _=>IspFlat vs H Q
abbrev csFlA:Scope:=scOf (aOf 0 (aOf 0 (eOf (bAt (sAt zge 1) 1))))
abbrev csFlB:Scope:=scOf (aOf 0 (eOf (bAt (sAt zge 1) 2)))
def csFlA_k:csFlA.kind=.function:=by rfl
def csFlA_c:∀y∈csFlA.names,y.2≠.cell:=by decide +kernel
def csFlA_n:∀y∈csFlA.names,y.2=.local→csFlA.names.lookup y.1=some .local:=by decide +kernel
def csFlA_f:∀y∈csFlA.names,y.2=.free→(zag zge).names.lookup y.1=some .cell∨(zag zge).names.lookup y.1=some .free:=by decide +kernel
def csFlA_l:csFlA.names.lookup ("rounds" : Str)=some NameKind.free:=by decide +kernel
def csFlB_k:csFlB.kind=.function:=by rfl
def csFlB_c:∀y∈csFlB.names,y.2≠.cell:=by decide +kernel
def csFlB_n:∀y∈csFlB.names,y.2=.local→csFlB.names.lookup y.1=some .local:=by decide +kernel
def csFlB_f:∀y∈csFlB.names,y.2=.free→(zag zge).names.lookup y.1=some .cell∨(zag zge).names.lookup y.1=some .free:=by decide +kernel
def csFlB_l:csFlB.names.lookup ("piece" : Str)=some NameKind.free:=by decide +kernel
def ndFB:(["face", "piece"]:List Str).Nodup:=by decide +kernel
def inPc(H:Hp)(zs:Nh):V→Bool
 |.ref a=>match H a with
  |some (.lst (.str h::_))=>decide (h∈zs)
  |_=>false
 |_=>false
def inPc_ref(e:zc4 H a h):inPc H zs (.ref a)=decide (h∈zs):=by
 obtain⟨t,e⟩:=e
 show(match H a with | some (.lst (.str h::_))=>decide (h∈zs) | _=>false)=_
 rw[e];rfl
def filt_len(r:Paired (zc4 H) as hd):((as.map V.ref).filter (inPc H zs)).length=(hd.filter λh=>decide (h∈zs)).length:=by
 induction r with
 |nil=>rfl
 |cons h t ih =>
  rename_i a b _ _
  rw[Ql]
  have e:=inPc_ref (zs:=zs) h
  by_cases hz:b∈zs
  ·rw[Zx (by rw[e];simpa using hz),Zx (by simpa using hz),Qx,Qx,ih]
  ·rw[Zy (by rw[e];simpa using hz),Zy (by simpa using hz),ih]
def sum_cast(ns:List Nat):(ns.map λn:Nat=>(n:Int)).sum=((ns.sum:Nat):Int):=by
 induction ns with
 |nil=>rfl
 |cons a t ih=>rw[Ql,Zk,Zk,ih];lia
section
variable{P:Ni}{w:Nk}{K:Na}{mg:Nf}{base:Nl}
def zgo:zan ["rounds", "found", "piece", "many_places", "many_ties", "many_faces"] ["rounds"] (zag zge):=fsk
def ok_flat(F:Fun K "refuse_not_flat" "refuse_not_flat" zge f fd)(FF:Fun K "faces_of" "faces_of" zew ff fdf)(bF:Binds K fdf ["rounds"] [])(mF:mg "faces_of" = some (.ref ff))(GF:FnOk P w K mg base CX0 2 ff fdf ["rounds"] spFaces)(FP:Fun K "pieces_of" "pieces_of" zhe fp fdp)(bP:Binds K fdp ["rounds"] [])(mP:mg "pieces_of" = some (.ref fp))(GP:FnOk P w K mg base CX0 2 fp fdp ["rounds"] spPieces)(ah:mg "len" = none)(sZ:mg "sum" = none):FnOk P w K mg base CX0 3 f fd ["rounds"] spFlat:=by
 refine F.okL zgo (λcdv A outer s H vs Q E hr h=>?_)
 obtain⟨d,es,cs,af,rfl,T,bf,aV,C,k⟩:=h
 have hu:=zcb hr
 have aJ  := sizeLine_eq
 refine⟨_,zae (zat 1 zgo.nd (zaj GF hr rfl mF FF.kp bF .nil zav (zaa (pv 0) zaf)))
  (zah (zbm Zp rfl (zbh (zaj GP hr rfl mP FP.kp bP .nil zav (zaa (pv 0) zaf))) (pg_name (i:=2) zgo.nd rfl (Or.inr rfl))
   (zae (zat 3 zgo.nd (zak zaq (by rfl) ah Zw (zaa (pv 2) zaf)))
   (zae (zat 4 zgo.nd (zau zht (zak (call_sum rfl) (by rfl) sZ PyProof.Rows.boot_sum (zaa (pe_lc (M:=["place", "rounds"]) (ix:=[none,some 0]) ⟨csFlA_k,csFlA_c,csFlA_n,csFlA_f,rfl,by decide +kernel,λj i x h1 h2=>by
      match j,h1,h2 with
      |0,_,h2=>cases h2
      |1,h1,h2=>cases h1;cases h2;exact⟨rfl,csFlA_l⟩
      |n+2,h1,_=>cases h1⟩ rfl (zbh (pv 2)) (λC aa ex s H=>zbb 0 ndF) (λC aa ex s H=>zcu)
      (λC aa ex s H=>zak (zid (K:=K) rfl) (by rfl) (by exact ah) Zw (zaa (zcf (by exact hu) (pv 1) (pv 0)) zaf))) zaf)) zai))
   (zae (zat 5 zgo.nd (zak zaq (by rfl) ah Zw (zaa (pe_lc (M:=["face", "piece"]) (ix:=[none,some 2]) ⟨csFlB_k,csFlB_c,csFlB_n,csFlB_f,rfl,by decide +kernel,λj i x h1 h2=>by
      match j,h1,h2 with
      |0,_,h2=>cases h2
      |1,h1,h2=>cases h1;cases h2;exact⟨rfl,csFlB_l⟩
      |n+2,h1,_=>cases h1⟩ rfl (zbh (pv 1)) (λC aa ex s H=>zbb 0 ndFB)
      (λC aa ex s H=>zhl (zas (op_in_seqK (K:=K) rfl) (zaz (ix_listK (K:=K) rfl) (pv 0) zai (λ_ _=>rfl)) (pv 1) rfl)) (λC aa ex s H=>pv 0)) zaf)))
   (zah (zbr (zas op_ne (zau zbq (pv 3) (pv 5)) (zau zbq (pv 4) zai) (zbf _)) (zah ps_no) za2)))))))  ,?_⟩
 refine⟨_,rfl,d,es,cs,af,rfl,T,bf,aV,C,λfo fas hd hc cs' H1 gm hfal hhd hhp kL eN k1=>?_⟩
 have T1:TAt H1 d es:=T.keep k1 (by simp) (λ_ _=>by simp)
 refine⟨_,rfl,d,es,cs,af,rfl,T1,bf,C,λl as zss H2 ak iW jX _ k2=>?_⟩
 have T2:TAt H2 d es:=T1.keep k2 (by simp) (λ_ _=>by simp)
 have kE:=k2 _ _ gm (by simp)
 have uk:Paired (zc4 H2) fas hd:=zct (D:=d) (g:=d) k2 hhd (λ_ _ _ _=>by simp)
 refine⟨l,rfl,⟨_,SqL.of ak⟩,zbv (xs:=as.map V.ref) (λi σ H'=>Aj2 (Keep [] H2 H') (Ex4 λx2 x3 x4 x5=>σ=[some (.ref d),some (.ref fo),x2,x3,x4,x5])) ⟨Keep.refl,_,_,_,_,rfl⟩ (λi σ H' _ hh=>SqL.of (hh.1 _ _ ak (by simp))) ?_ ?_⟩
 ·rintro i y σ H3 hx ⟨k3,x2,x3,x4,x5,rfl⟩
  have hi:i<as.length:=by
   have:=(Za.mp hx).1
   rwa[Qa]at this
  have jB:y=.ref as[i]:=by
   rw[Qq,Qd hi]at hx
   exact(Qk hx).symm
  subst jB
  obtain⟨aE,eQ⟩:=zbd iW hi
  have qC:=jX _ (Zb aE)
  have kM:=piece_count C qC hhp kL eN
  generalize zss[i]=zs at eQ qC kM
  have iF:H3 as[i]=some (.lst (zs.map V.str)):=k3 _ _ eQ (by simp)
  have jy:∀z∈zs,∃e∈es,e.1=z:=λz hz=>by
   obtain⟨_,s,_,hm⟩:=qC
   exact Qh.mp ((hm z).mp hz).1
  have cT:zs.length≤100:=by
   have:=ze1 qC.1 (m:=es.map (·.1)) λz hz=>by
    obtain⟨e,he,rfl⟩:=jy z hz
    exact Qh.mpr ⟨e,he,rfl⟩
   rw[Qa]at this
   omega
  refine⟨_,rfl,as[i],_,rfl,.inl (SqL.of iF),?_⟩
  have T3:TAt H3 d es:=T2.keep k3 (by simp) (λ_ _=>by simp)
  refine⟨_,rfl,as[i],rfl,⟨_,SqL.of iF⟩,lc_at (xs:=zs.map V.str) (λ τ=>∃x0,τ=[x0,some (.ref d)]) ((zs.map λx=>((row (rsOf es) x).length:Int)).map V.int) (by rw[Qa,Qa,Qa]) (SqL.of iF) (by rw[Qa];lia) ⟨none,rfl⟩ ?_ (λD hD=>?_)⟩
  ·rintro j hj oN τ ⟨x0,rfl⟩ kk hk
   rw[Qa]at hj
   rw[Zm]
   obtain⟨en,bi,dv⟩:=jy _ (Zb hj)
   have dg:DGet H3 d (.str zs[j]) (some (.ref en.2.2)):=by
    have:=DGet.k (k:=Sum.inr en.1) T3.dc
    rw[zb6 T3.nd bi,dv]at this
    exact this
   refine⟨_,rfl,_,rfl,d,_,rfl,dg,en.2.2,_,rfl,.inr (SqT.of (T3.ro en bi)),?_⟩
   have e:((zs.map λx=>((row (rsOf es) x).length:Int)).map V.int)[j]=V.int ((en.2.1.map V.str).length:Int):=by
    rw[Zm,Zm,←dv,zbl T3.nd bi,Qa]
   rw[e]at hk
   exact hk _ ⟨_,rfl⟩
  ·have k4:Keep [] H3 (upd H3 D (.lst ((zs.map fun x=>((row (rsOf es) x).length:Int)).map V.int))):=Keep.new hD
   have jf:(upd H3 D (.lst ((zs.map λx=>((row (rsOf es) x).length:Int)).map V.int))) D=some (.lst ((zs.map λx=>((row (rsOf es) x).length:Int)).map V.int)):=zac
   generalize upd H3 D (.lst ((zs.map λx=>((row (rsOf es) x).length:Int)).map V.int))=H4 at k4 jf
   refine⟨D,_,rfl,SqL.of jf,by rw[Qa];lia,λn hn=>?_,?_⟩
   ·obtain ⟨z,hz,rfl⟩:=Qh.mp hn
    obtain⟨en,bi,dv⟩:=jy z hz
    have h1:=aV en bi
    rw[←dv,zbl T3.nd bi]
    lia
   ·have nH:(zs.map fun x=>((row (rsOf es) x).length:Int)).sum=(((zs.map fun x=>(row (rsOf es) x).length).sum:Nat):Int):=by
     rw[←sum_cast,Zi];rfl
    rw[nH]
    refine⟨_,_,rfl,rfl,⟨by decide,by decide⟩,?_⟩
    have gk:=k4 _ _ (k3 _ _ kE (by simp)) (by simp)
    have vd:=k4 _ _ iF (by simp)
    have oO:Paired (zc4 H4) fas hd:=zct (D:=d) (g:=d) (k3.trans k4) uk (λ_ _ _ _=>by simp)
    refine⟨_,rfl,fo,rfl,⟨_,SqL.of gk⟩,lc_filt (xs:=fas.map V.ref) (λ τ=>∃x0,τ=[x0,some (.ref as[i])]) (inPc H4 zs) (SqL.of gk) (by rw[Qa];lia) ⟨none,rfl⟩ ?_ (λD2 dj=>?_)⟩
    ·rintro x hx τ ⟨x0,rfl⟩ kk1 kk0 hk1 hk0
     obtain⟨a,ha,rfl⟩:=Qh.mp hx
     obtain⟨j,hj,rfl⟩:=Zo ha
     obtain⟨oM,kW⟩:=zbd oO hj
     have ax:=inPc_ref (zs:=zs) kW
     obtain⟨t,et⟩:=kW
     refine⟨_,rfl,fas[j],_,_,_,rfl,rfl,SqL.of et,zap (j:=0) rfl,_,rfl,as[i],_,rfl,.inl (SqL.of vd),rfl,zcj zs,_,rfl,?_⟩
     cases hb:decide (hd[j]∈zs) with
     |true=>exact zdj (show inV _ _=true by rw[zf2];exact hb) ⟨_,rfl,hk1 (ax.trans hb) _ ⟨_,rfl⟩⟩
     |false=>exact zcq (show inV _ _=false by rw[zf2];exact hb) (hk0 (ax.trans hb) _ ⟨_,rfl⟩)
    ·have k5:Keep [] H4 (upd H4 D2 (.lst ((fas.map V.ref).filter (inPc H4 zs)))):=Keep.new dj
     refine⟨D2,_,rfl,.inl (SqL.of zac),?_⟩
     rw[filt_len oO]
     refine⟨_,rfl,_,rfl,_,_,rfl,rfl,_,rfl,_,_,rfl,rfl,rfl,_,rfl,zcq ?_ ?_⟩
     ·rw [Bool.not_eq_false',decide_eq_true_iff]
      refine congrArg V.int ?_
      rw[Qa]
      lia
     ·exact⟨(k3.trans k4).trans k5,_,_,_,_,rfl⟩
 ·rintro σ H3 ⟨k3,x2,x3,x4,x5,rfl⟩
  exact k H3 ((k1.trans k2).trans k3)
end
end K21
end
section
namespace K21
open PySem L2 Wb
abbrev sInit:Stmt:=inClass sWeb 0
abbrev zf9:List Ent→List Ent→Prop:=Paired λt e=>t.1=e.1∧∃k,t.2.1=e.2.1.drop k++e.2.1.take k
inductive IspInit(C:Nc)(vs:List V)(H:Hp)(Q:VK):Prop
 |mk (x dx l:Nc) (as:Nn) (es:List Ent) (cs:List (List (Str×Str))) (af:Nu) (h0:vs=[.ref x,.ref l]) (h1:H x=some (.ins C dx [])) (h2:RwAt H l as es) (h3:es.length≤40) (h4:(∀e∈es,ze6 e.1)) (h5:Cert (es.map (·.1)) (row (rsOf es)) cs af) (h6:∀(d:Addr) (ts aG:List Ent) (H':Hp),WAt H' C x dx d ts→aG.Perm es→zf9 ts aG→Keep [x] H H'→Q .non H'):IspInit C vs H Q
def spInit(C:Nc):Sp:=λvs H Q _=>IspInit C vs H Q
def zby(h:zf9 ts es):ts.map (·.1)=es.map (·.1):=by
 induction h with
 |nil=>rfl
 |cons h t ih=>rw[Ql,Ql,h.1,ih]
def zem(h:zf9 ts es)(ht:t∈ts):∃e∈es,t.1=e.1∧∃k,t.2.1=e.2.1.drop k++e.2.1.take k:=by
 induction h with
 |nil=>cases ht
 | cons h _ ih =>
  rcases Qe.mp ht with z | z
  ·subst z;exact⟨_,Qc,h⟩
  ·obtain ⟨e,he,r⟩:=ih z
   exact⟨e,Qf _ he,r⟩
def zgm(h:zf9 ts aG)(hp:aG.Perm es)(nd:(es.map (·.1)).Nodup):∀x,∃k,row (rsOf ts) x=(row (rsOf es) x).drop k++(row (rsOf es) x).take k:=λx=>by
 have jq:(ts.map (·.1)).Nodup:=by rw[zby h];exact(hp.map _).nodup_iff.mpr nd
 by_cases hx:x∈ts.map (·.1)
 ·obtain ⟨t,ht,rfl⟩:=Qh.mp hx
  obtain⟨e,he,e1,k,e2⟩:=zem h ht
  refine⟨k,?_⟩
  rw[zbl jq ht,e1,zbl nd (hp.mem_iff.mp he),e2]
 ·refine ⟨0,?_⟩
  have lB:x∉es.map (·.1):=λz=>hx (by rw[zby h];exact(hp.map _).mem_iff.mpr z)
  have n1:x∉(rsOf ts).map (·.1):=by unfold rsOf;rw[List.map_map];exact hx
  have n2:x∉(rsOf es).map (·.1):=by unfold rsOf;rw[List.map_map];exact lB
  rw[zhj n1,zhj n2];rfl
abbrev csInit:Scope:=scOf (eOf (sAt sInit 3))
def csInit_k:csInit.kind=.function:=by rfl
def csInit_c:∀y∈csInit.names,y.2≠.cell:=by decide +kernel
def csInit_n:∀y∈csInit.names,y.2=.local→csInit.names.lookup y.1=some .local:=by decide +kernel
def csInit_f:∀y∈csInit.names,y.2=.free→(zag sInit).names.lookup y.1=some .cell∨(zag sInit).names.lookup y.1=some .free:=by decide +kernel
section
variable{P:Ni}{w:Nk}{K:Na}{mg:Nf}{base:Nl}
def scInit:zan ["self", "rows", "rounds"] ["self", "rows"] (zag sInit):=fsk
def ok_init(F:Fun K "__init__" "Web.__init__" sInit f fd)(cW:Cls K C)(nW:ze5 K C "rounds")(FN:Fun K "refuse_no_names" "refuse_no_names" zfc fn fdn)(bN:Binds K fdn ["rows"] [])(mN:mg "refuse_no_names" = some (.ref fn))(GN:FnOk P w K mg base CX0 2 fn fdn ["rows"] spNoNames)(FT:Fun K "refuse_twice" "refuse_twice" zdl ft fdt)(bT:Binds K fdt ["rows"] [])(mT:mg "refuse_twice" = some (.ref ft))(GT:FnOk P w K mg base CX0 1 ft fdt ["rows"] spTwice)(FO:Fun K "refuse_one_way" "refuse_one_way" zhf fo fdo)(bO:Binds K fdo ["rows"] [])(mO:mg "refuse_one_way" = some (.ref fo))(GO:FnOk P w K mg base CX0 1 fo fdo ["rows"] spOneWay)(FL:Fun K "from_least" "from_least" sLeast fl fdl)(bL:Binds K fdl ["around"] [])(mL:mg "from_least" = some (.ref fl))(GL:FnOk P w K mg base CX0 1 fl fdl ["around"] spLeast)(FF:Fun K "refuse_not_flat" "refuse_not_flat" zge ff fdf)(bF:Binds K fdf ["rounds"] [])(mF:mg "refuse_not_flat" = some (.ref ff))(GF:FnOk P w K mg base CX0 3 ff fdf ["rounds"] spFlat)(br:mg "sorted" = none):FnOk P w K mg base CX0 4 f fd ["self", "rows"] (spInit C):=by
 refine F.okL scInit (λcdv A outer s H vs Q E hr h=>?_)
 obtain⟨x,dx,l,as,es,cs,af,rfl,hx,R,bf,hok,Ct,k⟩:=h
 have hu:=zcb hr
 have aA:Room 1 _:=hr.mono (by decide)
 have d8:Room 2 _:=hr.mono (by decide)
 have aJ  := sizeLine_eq
 refine⟨_,zae (za3 (zaj GN d8 rfl mN FN.kp bN .nil zav (zaa (pv 1) zaf)))
  (zae (za3 (zaj GT aA rfl mT FT.kp bT .nil zav (zaa (pv 1) zaf)))
  (zae (za3 (zaj GO aA rfl mO FO.kp bO .nil zav (zaa (pv 1) zaf)))
  (zae (ps_dc (i:=2) (M:=["place", "around"]) (ix:=[none,none]) scInit.nd rfl rfl (noB (n:=2) csInit_k csInit_c csInit_n csInit_f rfl ndPA) rfl
    (zbh (zak ze7 (by rfl) br Ud (zaa (pv 1) zaf)))
    (λC aa ex s H=>zho (K:=K) (n:=2) rfl rfl (za4 (zbb 0 ndPA) (za4 (zbb 1 ndPA) zch)))
    (λC aa ex s H=>zcu) (λC aa ex s H=>pv 0) (λC aa ex s H=>zaj GL (by exact aA) rfl (by exact mL) FL.kp bL .nil zav (zaa (pv 1) zaf)) rfl)
  (zae (za3 (zaj GF hr rfl mF FF.kp bF .nil zav (zaa (pv 2) zaf)))
  (zah (ps_fld (pv 0) (pv 2) rfl)))))),?_⟩
 have aH:(es.map (·.1)).Nodup:=Ct.nd
 have au:∀e∈es,row (rsOf es) e.1=e.2.1:=λe he=>zbl aH he
 have hrn:∀e∈es,e.2.1.Nodup:=λe he=>au e he▸Ct.rn e.1
 have fF:∀e∈es,∀y∈e.2.1,y∈es.map (·.1):=λe he y hy=>Ct.inn' (x:=e.1) (by rw[au e he];exact hy)
 have aV:∀e∈es,e.2.1.length≤40:=λe he=>by
  have:=ze1 (hrn e he) (fF e he)
  rw[Qa]at this
  exact Zl ‹_› ‹_›
 refine⟨_,rfl,l,as,es,rfl,R,λe he=>⟨Zl (aV e he) (by decide),hok e he,λy hy=>?_⟩,λH1 k1=>?_⟩
 ·obtain ⟨e',bV,rfl⟩:=Qh.mp (fF e he y hy)
  exact hok e' bV
 have R1:=R.keep k1
 refine⟨_,rfl,l,as,es,rfl,R1,by lia,aH,λe he=>⟨Zl (aV e he) (by decide),hrn e he⟩,λH2 k2=>?_⟩
 have R2:=R1.keep k2
 refine⟨_,rfl,l,as,es,rfl,R2,aH,λe he=>⟨?_,λy hy=>?_⟩,λH3 k3=>?_⟩
 ·rw[←au e he];exact Ct.ir e.1
 ·obtain ⟨e',bV,fC⟩:=Qh.mp (fF e he y hy)
  have mQ:e'.1=y:=fC
  refine⟨e',bV,mQ,?_⟩
  rw[←au e' bV,mQ]
  exact Ct.sy e.1 y (by rw[au e he];exact hy)
 have R3:=R2.keep k3
 have gy:Keep [] H H3:=(k1.trans k2).trans k3
 have cO:as.length=es.length:=Yo R3.ts
 refine⟨_,rfl,l,_,rfl,SqL.of R3.ls,λv hv=>?_,λv hv u hu e=>?_,λl2 wsV ak av aY=>?_⟩
 ·obtain ⟨a,ha,rfl⟩:=Qh.mp hv
  obtain⟨i,hi,rfl⟩:=Zo ha
  obtain⟨aE,h⟩:=zbd R3.ts hi
  exact⟨_,_,_,rfl,h⟩
 ·obtain ⟨a,ha,rfl⟩:=Qh.mp hv
  obtain⟨b,hb,rfl⟩:=Qh.mp hu
  obtain⟨i,hi,rfl⟩:=Zo ha
  obtain⟨j,hj,rfl⟩:=Zo hb
  obtain⟨aE,h1⟩:=zbd R3.ts hi
  obtain⟨oM,h2⟩:=zbd R3.ts hj
  rw[zd9 h1,zd9 h2]at e
  have e':es[i].1=es[j].1:=by
   have q:es[i].1.cps.toList=es[j].1.cps.toList:=e
   generalize es[i].1=a1 at q ⊢
   generalize es[j].1=a2 at q ⊢
   cases a1;cases a2
   congr 1
   exact Ky.mp q
  have e2:(es.map (·.1))[i]'(by rw[Qa];exact aE)=(es.map (·.1))[j]'(by rw[Qa];exact oM):=by rw[Zm,Zm];exact e'
  have:=(Yi aH).mp e2
  subst this
  rfl
 ·obtain ⟨gP,rfl,aB⟩:=refs_perm av
  obtain⟨aG,cC,dD⟩:=zdt aB R3.ts
  have k4:Keep [] H3 (upd H3 l2 (.lst (gP.map V.ref))):=Keep.new ak
  have aR:(upd H3 l2 (.lst (gP.map V.ref))) l2=some (.lst (gP.map V.ref)):=zac
  generalize upd H3 l2 (.lst (gP.map V.ref))=H4 at k4 aR
  have nz:Paired (λa (e:Ent)=>H4 a=some (.tup [.str e.1,.ref e.2.2])) gP aG:=Paired.imp' (λ_ _ h=>k4 _ _ h (by simp)) dD
  have tE:∀e∈aG,H4 e.2.2=some (.lst (e.2.1.map V.str)):=λe he=>k4 _ _ (R3.ro e (cC.mem_iff.mp he)) (by simp)
  have oq:(aG.map (·.1)).Nodup:=(cC.map _).nodup_iff.mpr aH
  have pC:gP.length=aG.length:=Yo nz
  have hel2:aG.length=es.length:=cC.length_eq
  refine⟨l2,rfl,⟨_,SqL.of aR⟩,λi m ys τ H'=>Aj5 (m=aG.length-i) (i≤aG.length) (Ex2 λx0 x1=>τ=[x0,x1]) (Keep [] H4 H') (Ex1 λ(ts:List Ent)=>Aj3 (ys=(ts.map λe=>((Sum.inr e.1:Key),V.ref e.2.2))) (∀e∈ts,H' e.2.2=some (.tup (e.2.1.map V.str))) (zf9 ts (aG.take i))),
   ⟨aG.length,rfl,Zg _,⟨none,none,rfl⟩,Keep.refl,[],rfl,λe he=>(by cases he),.nil⟩,?_⟩
  rintro i m ys τ H5 ⟨rfl,hi,⟨x0,x1,rfl⟩,k5,ts,rfl,jJ,bp⟩
  by_cases ai:i<aG.length
  ·have gB:=zby bp
   have qv:ts.length≤i:=by
    have:=congrArg List.length gB
    rw[Qa,Qa,Zh]at this
    lia
   refine .inr ⟨⟨_,.ref gP[i],SqL.of (k5 _ _ aR (by simp)),by rw[Qq,Qd (by exact zar6 ‹_› ‹_›)];rfl⟩,by rw[Qa];lia,?_⟩
   rintro v H6 ⟨rfl,hv⟩
   have iR:=hv _ (SqL.of (k5 _ _ aR (by simp)))
   rw[Qq,Qd (by exact zar6 ‹_› ‹_›)]at iR
   obtain rfl:V.ref gP[i]=v:=Qk iR
   obtain⟨aE,eQ⟩:=zbd nz (by exact zar6 ‹_› ‹_›:i<gP.length)
   have aX:aG[i]∈aG:=Zb ai
   have dG:=k5 _ _ (tE _ aX) (by simp)
   have oo:aG[i].1∉ts.map (·.1):=by
    rw[gB]
    have h1:(aG.map (·.1)).take (i+1)=(aG.map (·.1)).take i++[aG[i].1]:=by
     rw[Qm (by rw[Qa];exact ai),Zm]
    have h2:((aG.map (·.1)).take (i+1)).Nodup:=Yz (Jc _ _) oq
    rw[h1,Ze,←Ue]at h2
    exact λz=>h2.2.2 _ z _ (Qb.mpr rfl) rfl
   refine⟨gP[i],_,rfl,SqT.of (k5 _ _ eQ (by simp)),rfl,_,_,rfl,_,_,rfl,rfl,_,rfl,_,rfl,aG[i].2.2,aG[i].2.1,rfl,dG,Zl (aV _ (cC.mem_iff.mp aX)) (by decide),λt j H7 hj qw htfr k7=>?_⟩
   refine⟨Sum.inr aG[i].1,rfl,aG.length-(i+1),by exact zar1 ‹_›,rfl,ai,⟨_,_,rfl⟩,k5.trans k7,ts++[(aG[i].1,aG[i].2.1.drop j++aG[i].2.1.take j,t)],put_new (r:=aG[i].2.1.drop j++aG[i].2.1.take j) oo,λe he=>?_,?_⟩
   ·rcases Qj.mp he with z | z
    ·exact k7 _ _ (jJ e z) (by simp)
    ·rw[Qb.mp z];exact qw
   ·rw [Qm ai]
    exact zbe bp (.cons ⟨rfl,j,rfl⟩ .nil)
  ·have kr:i=aG.length:=by exact zar3 ‹_› ‹_›
   subst kr
   rw[Qz (Qg _)]at bp
   refine .inl ⟨⟨_,SqL.of (k5 _ _ aR (by simp)),by rw[Qa,pC];exact Qg _⟩,λd hd=>?_⟩
   have k6:Keep [] H5 (upd H5 d (.dK (ts.map λe=>((Sum.inr e.1:Key),V.ref e.2.2)))):=Keep.new hd
   have ph:(upd H5 d (.dK (ts.map λe=>((Sum.inr e.1:Key),V.ref e.2.2)))) d=some (.dK (ts.map λe=>((Sum.inr e.1:Key),V.ref e.2.2))):=zac
   generalize upd H5 d (.dK (ts.map λe=>((Sum.inr e.1:Key),V.ref e.2.2)))=H6 at k6 ph
   have gB:=zby bp
   have T6:TAt H6 d ts:=⟨ph,λe he=>k6 _ _ (jJ e he) (by simp),by rw[gB];exact oq⟩
   have qv:ts.length=es.length:=by
    have:=congrArg List.length gB
    rw[Qa,Qa,cC.length_eq]at this
    exact this
   have C6:Cert (ts.map (·.1)) (row (rsOf ts)) cs af:=cert_turn Ct (by rw[gB];exact cC.map _) (zgm bp cC aH)
   refine⟨_,rfl,d,ts,cs,af,rfl,T6,by lia,λe he=>?_,C6,λH7 k7=>?_⟩
   ·obtain ⟨e',bV,_,kk,e2⟩:=zem bp he
    rw[e2,(rot_perm _ kk).length_eq]
    exact Zl (aV e' (cC.mem_iff.mp bV)) (by decide)
   ·have k07:Keep [] H H7:=(((gy.trans k4).trans k5).trans k6).trans k7
    have jD:=k07 _ _ hx (by simp)
    have T7:TAt H7 d ts:=T6.keep k7 (by simp) (λ_ _=>by simp)
    have nxd:d≠x:=zax T7.dc jD (by intro z;cases z)
    refine⟨_,rfl,_,rfl,x,C,dx,[],rfl,jD,cW,nW,(by decide),?_⟩
    refine k d ts aG _ ⟨zac,T7.keep (xs:=[x]) (Keep.wr (by simp)) (by simpa using nxd) λe he=>by simpa using zax (T7.ro e he) jD (by intro z;cases z)⟩ cC bp ((k07.sub (by simp)).trans (Keep.wr (by simp)))
end
section
variable{P:Ni}{w:Nk}{K:Na}{mg:Nf}{base:Nl}
end
abbrev zfo:Stmt:=top 37
abbrev sPot:Stmt:=top 36
inductive IspPot(K:Na)(vs:List V)(H:Hp)(Q:VK):Prop
 |mk (a:Nc) (ns:List Int) (j:Nat) (h0:vs=[.ref a,.int j]) (h1:SqL K H a (ns.map V.int)) (h2:j≤1000) (vm:ns.length≤1000) (h3:∀(l:Nc) (b m:Int) (H':Hp),H l=none→Pot H' l b m→Keep [] H H'→Q (.ref l) H'):IspPot K vs H Q
def spPot(K:Na):Sp:=λvs H Q _=>IspPot K vs H Q
def zg9(h:SqL K H a xs)(k:Keep [] H H'):SqL K H' a xs:=h.imp (λr=>r.imp (λe=>k _ _ e (by simp)) λ⟨o,e⟩=>⟨o,k _ _ e (by simp)⟩) id
section
variable{P:Ni}{w:Nk}{K:Na}{mg:Nf}{base:Nl}
def scDraw:zan [qP,qM, "_law_digit"] [qP,qM] (zag zfo):=fsk
def ok_draw(F:Fun K qD qD zfo f fd):FnOk P w K mg base CX0 1 f fd [qP,qM] zd3:=by
 refine F.okL scDraw (λcdv A outer s H vs Q E hr h=>?_)
 obtain⟨p,b,m,n,rfl,⟨hp,hb,hm,cD⟩,hn,ba,k⟩:=h
 have i0:atI [V.int b,V.int m] ((0:Nat):Int)=some (.int b):=zap rfl
 have i1:atI [V.int b,V.int m] ((1:Nat):Int)=some (.int m):=zap rfl
 refine⟨_,zae (zbr (zas op_gt (zaz zao (pv 0) zai (λ_ _=>rfl)) zai (zbf _))
  (zae (zat 2 scDraw.nd (zau zez (zaz zao (pv 0) zai (λ_ _=>rfl)) (pv 1)))
  (zae (ps_asg (zau zht (zaz zao (pv 0) zai (fun _ _=>rfl)) (pv 1)) (pg_sub (pv 0) zai set_list))
   (zah (zbp (pv 2))))) za2)
  (zae (ps_asg (zau zez (zau zbq (zau zgs (zaz zao (pv 0) zai (λ_ _=>rfl)) zai) zai) zai) (pg_sub (pv 0) zai set_list))
  (zah (zbp (zau zez (zau zht (zaz zao (pv 0) zai (λ_ _=>rfl)) zai) (pv 1))))),?_⟩
 refine⟨_,rfl,p,_,_,_,rfl,rfl,SqL.of hp,i0,_,_,rfl,rfl,_,rfl,?_⟩
 refine ite2 (λda=>?_) (λhneg=>?_)
 ·have lO:0 < b:=of_decide_eq_true da
  refine⟨_,rfl,p,_,_,_,rfl,rfl,SqL.of hp,i0,_,rfl,_,_,rfl,rfl,hn,?_⟩
  refine⟨_,rfl,p,_,_,_,rfl,rfl,SqL.of hp,i0,_,rfl,_,_,rfl,rfl,⟨hn,ba⟩,_,rfl,p,_,0,0,rfl,rfl,hp,rfl,_,rfl,?_⟩
  refine k (b%n) (b/n) m _ (Uy _ (by lia)) (Uh _ hn) ⟨zac,Int.ediv_nonneg hb (by lia),hm,cD⟩ λc o e hc=>?_
  rw[zad hc]
  exact e
 ·have i1':∀ x:Int,atI [V.int b,V.int x] ((1:Nat):Int)=some (.int x):=fun x=>zap rfl
  have r0:0≤(m*40692+6553)%2147483399:=Uy _ (by decide)
  have r1:(m*40692+6553)%2147483399<2147483399:=Uh _ (by decide)
  refine⟨_,rfl,p,_,_,_,rfl,rfl,SqL.of hp,i1,_,_,rfl,rfl,.inl ⟨by lia,by lia⟩,_,_,rfl,rfl,_,_,rfl,rfl,(by show(0:Int)<2147483399;decide),_,rfl,p,_,1,1,rfl,rfl,hp,rfl,?_⟩
  refine⟨_,rfl,p,_,_,_,rfl,rfl,SqL.of zac,i1' _,_,_,rfl,rfl,⟨by decide,by decide⟩,_,rfl,_,_,rfl,rfl,hn,?_⟩
  refine k _ b ((m*40692+6553)%2147483399) _ (Uy _ (by lia)) (Uh _ hn) ⟨zac,hb,r0,by lia⟩ λc o e hc=>?_
  rw[zad hc]
  exact e
def scPot:zan [qS, "_law_k", "_law_cell"] [qS, "_law_k"] (zag sPot):=fsk
def ok_pot(F:Fun K "_law_pot" "_law_pot" sPot f fd)(ah:mg "len" = none)(fV:mg "min" = none)(cn:mg "list" = none)(hint:mg "int" = none):FnOk P w K mg base CX0 1 f fd [qS, "_law_k"] (spPot K):=by
 refine F.okL scPot (λcdv A outer s H vs Q E hr h=>?_)
 obtain⟨a,ns,j,rfl,hS,hj,ie,k⟩:=h
 have aJ  := sizeLine_eq
 refine⟨_,zae (zat 2 scPot.nd (zaz zao (zau zc2 (zb9 ze3 (by rfl) cn Xa (zaa (pv 0) zaf)) (za7 (zaa zai zaf)))
   (zak (call_min2 rfl) (by rfl) fV Xf (zaa (pv 1) (zaa (zak zaq (by rfl) ah Zw (zaa (pv 0) zaf)) zaf))) (λ_ _=>rfl)))
  (zah (zbp (za7 (zaa (zau zgs (pv 2) (zb9 call_int1 (by rfl) hint PyProof.Rows.boot_int (zaa (pe_cmpR op_ge (pv 2) (zau op_pow zai zai) (zbf _)) zaf)))
   (zaa (zau zez (zau zbq (zau zbq (zau zgs (zau zez (pv 2) zai) zai) (zau zgs zai (pv 1))) zai) zai) zaf))))),?_⟩
 refine⟨_,rfl,a,_,rfl,.inl hS,λp1 h1=>?_⟩
 refine⟨(by show 1≤sizeLine;decide),λp2 h2=>?_⟩
 have cS:p1≠p2:=zab (o:=_) zac h2
 refine⟨p1,p2,_,_,rfl,rfl,(by rw[zad cS];exact zac),zac,by rw[Qa];show _+1≤_;omega,λp3 h3=>?_⟩
 have k3:Keep [] H (upd (upd (upd H p1 (.lst (ns.map V.int))) p2 (.lst [.int 0])) p3 (.lst (ns.map V.int++[.int 0]))):=((Keep.new h1).trans (Keep.new h2)).trans (Keep.new h3)
 have S3:=zg9 hS k3
 have l3:(upd (upd (upd H p1 (.lst (ns.map V.int))) p2 (.lst [.int 0])) p3 (.lst (ns.map V.int++[.int 0]))) p3=some (.lst ((ns++[0]).map V.int)):=by rw[zac,Qn];rfl
 refine⟨_,rfl,_,rfl,a,_,rfl,.inl S3,j,ns.length,by rw[Qa],?_⟩
 generalize upd (upd (upd H p1 (.lst (ns.map V.int))) p2 (.lst [.int 0])) p3 (.lst (ns.map V.int++[.int 0]))=H3 at S3 k3 l3
 obtain⟨i,hi,e⟩:∃i:Nat,i<(ns++[0]).length∧(if(ns.length:Int)<(j:Int) then(ns.length:Int) else(j:Int))=(i:Int):=by
  rw[Qt]
  split
  ·exact⟨ns.length,Yr _,rfl⟩
  ·exact⟨j,by show j<ns.length+1;omega,rfl⟩
 rw[e]
 have g:((ns++[0]).map V.int)[i]?=some (.int (ns++[0])[i]):=by rw[Qq,Qd hi];rfl
 refine⟨p3,_,_,_,rfl,rfl,SqL.of l3,zap g,?_⟩
 generalize(ns++[0])[i]=c
 refine⟨_,rfl,_,rfl,_,_,rfl,rfl,⟨by decide,by decide,by decide⟩,_,_,rfl,rfl,.inr ⟨_,rfl,?_⟩⟩
 refine⟨_,_,rfl,rfl,.inr ⟨by split<;>decide,by split<;>decide⟩,?_⟩
 have q0:0≤c%2147483587:=Uy _ (by decide)
 have q1:c%2147483587<2147483587:=Uh _ (by decide)
 refine⟨_,rfl,_,_,rfl,rfl,(by show(0:Int)<2147483587;decide),_,_,rfl,rfl,.inl ⟨by lia,by lia⟩,_,rfl,_,_,rfl,rfl,.inl ⟨by decide,by decide⟩,_,_,rfl,rfl,_,_,rfl,rfl,_,_,rfl,rfl,(by show(0:Int)<2147483587;decide),(by show 2≤sizeLine;decide),λl hl=>?_⟩
 refine k l _ _ _ (zal k3 hl (by simp)) ⟨zac,?_,Uy _ (by decide),Int.lt_trans (Uh _ (by decide)) (by decide)⟩ (k3.trans (Keep.new hl))
 cases z:decide (c≥10 ^ (18:Int).toNat) with
 |true =>
  have:=of_decide_eq_true z
  have t:(0:Int)≤10 ^ (18:Int).toNat:=by decide
  show 0≤c*1
  lia
 |false=>show 0≤c*0;lia
end
end K21
end
section
namespace L2
open PySem PySem.Spec PyProof.Rows
def Itz(a b:Nc)(K:Na):It :=
 ⟨fun i H=>∃ xs ys,SqL K H a xs∧SqL K H b ys∧i < xs.length∧i < ys.length,fun i H x H'=>∃ u v t,(∀ xs,SqL K H a xs→xs[i]?=some u)∧(∀ ys,SqL K H b ys→ys[i]?=some v)∧H t=none∧x=.ref t∧H'=upd H t (.tup [u,v]),
  λi H=>∃xs ys,SqL K H a xs∧SqL K H b ys∧(xs.length≤i∨ys.length≤i)⟩
theorem turn_zip{P:Ni}{w:Nk}{K:Na}{elts:No}{kk:Nat}{pos:Pos}(a b z TI TO i1 i2:Nc)(D:ZipApart z TI TO i1 i2 a b) :
  Turn P w K (.Tuple elts kk pos) (Itz a b K) [z,TI,TO,i1,i2] z (λi h=>IsZip h z TI TO .none∧IsPair h TI (.ref i1) (.ref i2)∧(∃u v,IsPair h TO u v)∧h.IsListIter i1 a i∧h.IsListIter i2 b i) where
 mem:=by simp
 obj:=λi h st c hc=>by
  obtain⟨q1,q2,⟨u,v,q3⟩,⟨o4,q4,_,d4⟩,⟨o5,q5,_,d5⟩⟩:=st
  simp only[Qe,Wa,or_false]at hc
  rcases hc with rfl | rfl | rfl | rfl | rfl
  ·exact⟨_,q1,λv z=>by cases z⟩
  ·exact⟨_,q2,λv z=>by cases z⟩
  ·exact⟨_,q3,λv z=>by cases z⟩
  ·exact⟨o4,q4,λv z=>by rw[d4]at z;cases z⟩
  ·exact⟨o5,q5,λv z=>by rw[d5]at z;cases z⟩
 keep:=λi h h' st k=>by
  obtain⟨q1,q2,⟨u,v,q3⟩,q4,q5⟩:=st
  exact⟨k z (by simp) _ q1,k TI (by simp) _ q2,⟨u,v,k TO (by simp) _ q3⟩,q4.at λo q=>k i1 (by simp) o q,q5.at λo q=>k i2 (by simp) o q⟩
 item:=by
  intro X hP hw hK hc i aa s σ H E I hf st hg
  subst hP hw hK
  obtain⟨xs,ys,iU,qA,hix,hiy⟩:=hg
  obtain⟨ix,rx,px,_⟩:=I.list iU
  obtain⟨iy,ry,py,_⟩:=I.list qA
  obtain⟨hz,kZ,⟨u0,v0,lP⟩,h1,h2⟩:=st
  obtain⟨u,hu,ru⟩:=rx.get (Qd hix)
  obtain⟨v,hv,rv⟩:=ry.get (Qd hiy)
  refine wpAny_pyNext_zip_item D hz kZ lP h1 h2 px.isList py.isList (by simpa using hu) (by simpa using hv) λg a1 a2 a3 a4 a5 a6 hk=>⟨.ref s.heap.objs.size,rfl,?_⟩
  have bD:∀c u,H c=some u→c≠z∧c≠TO∧c≠i1∧c≠i2:=λc u q=>by
   refine⟨λe=>?_,λe=>?_,λe=>?_,λe=>?_⟩<;>(rw[e,(hf _ (by simp)).1]at q;cases q)
  have gb:∀c o,c∉[z,TO,i1,i2]→s.heap.get? c=some o→g.get? c=some o:=λc o hc q=>hk c o (λe=>hc (by simp[e])) (λe=>hc (by simp[e])) (λe=>hc (by simp[e])) (λe=>hc (by simp[e])) q
  have I1:Inv X aa σ H {s with heap:=g}:=by
   refine I.step (g':=s.gens) (d':=s.drawn) (ch:=[z,TO,i1,i2]) (λc hc=>?_) (λc o _ _ hc q _=>gb c o hc q) (λc o _ _ hc q _=>⟨o.slots,gb c o hc q⟩) (λ_ _ _ _ n=>n)
    (λc o hc q=>⟨o,gb c o hc q⟩) (λ_ _ q=>q) (λ_ _ _ q=>q) (λc ps q=>⟨#[],by rw[q];simp⟩) (λm hm=>?_) (λc u q=>?_) I.bare
   ·have bZ:c∈[z,TI,TO,i1,i2]:=by
     simp only[Qe,Wa,or_false]at hc ⊢
     rcases hc with e | e | e | e<;>simp[e]
    obtain⟨e0,e1,e2,e3,e4,e5⟩:=hf c bZ
    exact⟨e3,e1,e4,e5⟩
   ·obtain ⟨o,es,ep,q,r⟩:=hm
    exact⟨o,es,ep,hk _ o (Qu (hf z (by simp)).2.1) (Qu (hf TO (by simp)).2.1) (Qu (hf i1 (by simp)).2.1) (Qu (hf i2 (by simp)).2.1) q,r⟩
   ·refine (I.hok c u q).stay (fun c' v hc z=>?_) (fun _ z=>z) fun _ _ z=>z
    obtain⟨n1,n2,n3,n4⟩:c'≠_∧c'≠TO∧c'≠i1∧c'≠i2:=by
     rcases hc with rfl | hc
     ·exact bD c' u q
     ·exact bD c' _ hc
    exact hk c' v n1 n2 n3 n4 z
  obtain⟨e0,e1,e2,e3,e4,e5⟩:=hf z (by simp)
  have hN:H s.heap.objs.size=none:=I.hok.fresh (Qg _)
  refine wpAny_letOwnedTupleGo_zip a1 λg' bV aO=>?_
  have nT:s.heap.objs.size≠z:=Yb (Qr hz)
  have I2:Inv X aa σ H {s with heap:=g'}:=Inv.turned (s:={s with heap:=g}) (t':=s.toks) (it:=z) I1 (λb o hb q=>(aO.2 b hb).trans q) e0 e1 e3 e4 e5
  have pI:g'.get? s.heap.objs.size=some {cls:=.type "tuple",data:=.seq #[u,v]}:=(aO.2 _ nT).trans a5
  have I3:Inv X aa σ (upd H s.heap.objs.size (.tup [xs[i],ys[i]])) {s with heap:=g'}:=by
   refine⟨I2.ok,I2.os,I2.bare,⟨I2.base.keep,I2.base.slot,λb o q n hx=>?_,I2.base.there,λb zs q=>?_,λb o v q=>?_,λb ps q=>?_⟩,I2.loc,I2.cell,?_,λz c q=>?_,λpp hp=>?_,λb v' q=>?_,I2.len⟩
   ·have lt:b < s.heap.objs.size:=Zj (Qr q) I.sz
    rw[zad (Zc lt)];exact I2.base.free b o q n hx
   ·have:=I2.base.tups b zs q
    rw[zad (zab this hN)];exact this
   ·have:=I2.base.frzs b o v q
    rw[zad (zab this hN)];exact this
   ·obtain ⟨m,z⟩:=I2.base.tbls b ps q
    exact⟨m,by rw[zad (zab z hN)];exact z⟩
   ·rw[zad (Zc I.lt)];exact I2.free
   ·rw[zad (Zc (I.cl_lt z c q))];exact I2.freeC z c q
   ·obtain ⟨h1,h2,h3⟩:=I2.pin pp hp
    exact⟨h1,by rw[zad (Zc (I.pin_lt pp hp))];exact h2,h3⟩
   ·by_cases hb:b=s.heap.objs.size
    ·subst hb
     rw[zac]at q
     cases q
     exact⟨by show 2≤sizeLine;decide,[u,v],.cons ru (.cons rv .nil),_,pI,rfl,_,rfl⟩
    ·rw [zad hb] at q
     exact(I2.hok b v' q).stay (λc v _ z=>z) (λc z=>by rw[zad (zab z hN)];exact z) λc zs z=>by rw[zad (zab z hN)];exact z
  refine⟨.ref s.heap.objs.size,_,I3,rfl,⟨xs[i],ys[i],_,λys' jA=>by rw[I.list_inj jA iU];exact Qd hix,λys' jA=>by rw[I.list_inj jA qA];exact Qd hiy,hN,rfl,rfl⟩,
   ⟨bV,(aO.2 TI D.TIz).trans (hk _ _ D.TIz D.TITO D.TIi1 D.TIi2 kZ),⟨_,_,(aO.2 TO D.TOz).trans a2⟩,a3.at λo q=>(aO.2 _ D.i1z).trans q,a4.at λo q=>(aO.2 _ D.i2z).trans q⟩,λb hb=>?_⟩
  have lt:b<s.heap.objs.size:=by
   simp only[Qe,Wa,or_false]at hb
   obtain⟨o4,q4,_⟩:=h1
   obtain⟨o5,q5,_⟩:=h2
   rcases hb with rfl | rfl | rfl | rfl | rfl
   ·exact Qr hz
   ·exact Qr kZ
   ·exact Qr lP
   ·exact Qr q4
   ·exact Qr q5
  rw[zad (Zc lt)]
  exact(hf b hb).1
 done:=by
  intro X hP hw hK hc i aa s σ H E I hf st hg
  subst hP hw hK
  obtain⟨xs,ys,iU,qA,uV⟩:=hg
  obtain⟨ix,rx,px,_⟩:=I.list iU
  obtain⟨iy,ry,py,_⟩:=I.list qA
  have lx:=rx.length
  have ly:=ry.length
  obtain⟨hz,kZ,⟨u0,v0,lP⟩,h1,h2⟩:=st
  refine wpAny_pyNext_zip_end (I.ok.hd hc) D hz kZ lP h1 h2 px.isList py.isList (uV.imp (λh=>by simp;omega) λh=>by simp;omega) λg hk=>⟨rfl,?_⟩
  have bD:∀c u,H c=some u→c≠z∧c≠TO∧c≠i1∧c≠i2:=λc u q=>by
   refine⟨λe=>?_,λe=>?_,λe=>?_,λe=>?_⟩<;>(rw[e,(hf _ (by simp)).1]at q;cases q)
  have gb:∀c o,c∉[z,TO,i1,i2]→s.heap.get? c=some o→g.get? c=some o:=λc o hc q=>hk c o (λe=>hc (by simp[e])) (λe=>hc (by simp[e])) (λe=>hc (by simp[e])) (λe=>hc (by simp[e])) q
  refine I.step (g':=s.gens) (d':=s.drawn) (ch:=[z,TO,i1,i2]) (λc hc=>?_) (λc o _ _ hc q _=>gb c o hc q) (λc o _ _ hc q _=>⟨o.slots,gb c o hc q⟩) (λ_ _ _ _ n=>n)
   (λc o hc q=>⟨o,gb c o hc q⟩) (λ_ _ q=>q) (λ_ _ _ q=>q) (λc ps q=>⟨#[],by rw[q];simp⟩) (λm hm=>?_) (λc u q=>?_) I.bare
  ·have bZ:c∈[z,TI,TO,i1,i2]:=by
    simp only[Qe,Wa,or_false]at hc ⊢
    rcases hc with e | e | e | e<;>simp[e]
   obtain⟨e0,e1,e2,e3,e4,e5⟩:=hf c bZ
   exact⟨e3,e1,e4,e5⟩
  ·obtain ⟨o,es,ep,q,r⟩:=hm
   exact⟨o,es,ep,hk _ o (Qu (hf z (by simp)).2.1) (Qu (hf TO (by simp)).2.1) (Qu (hf i1 (by simp)).2.1) (Qu (hf i2 (by simp)).2.1) q,r⟩
  ·refine (I.hok c u q).stay (fun c' v hc z=>?_) (fun _ z=>z) fun _ _ z=>z
   obtain⟨n1,n2,n3,n4⟩:c'≠_∧c'≠TO∧c'≠i1∧c'≠i2:=by
    rcases hc with rfl | hc
    ·exact bD c' u q
    ·exact bD c' _ hc
   exact hk c' v n1 n2 n3 n4 z
 self:=λA i s Q E st h=>wpAny_pyIter_zip st.1 h
section
variable{X:Cx}
def iZip(K:Na)(ta:TA):TI:=λ σ H R=>ta σ H λvs H1=>∃a b,vs=[.ref a,.ref b]∧(∃xs,SqL K H1 a xs)∧(∃ys,SqL K H1 b ys)∧R (Itz a b K) H1
def pi_zip{elts:No}{kk:Nat}{tpos:Pos}{a b:Expr}{ta:TA}{p pos:Pos}(hg:Gl X "zip")(hm:X.mg "zip" = none)(ha:PA X [a,b] ta)(hs:starEach [a,b] X.env=(false,eval a X.env)::starEach [b] X.env:=by rfl)(bw:(backTo pos (starEach [b] X.env)).any (·.1)=false:=by rfl) :
  PI X (.Tuple elts kk tpos) (.Call (.Name "zip" p) [a,b] [] pos) (iZip X.K ta):=by
 intro aa s σ H R I h
 refine Call_ (zdo I hg hm boot_zip (Yn (thn (ha pos aa s σ H _ I h) λus s1 ⟨vs,H1,I1,r1,q1⟩=>?_) hs bw))
 obtain⟨l1,l2,e,⟨xs,eF⟩,⟨ys,iV⟩,q⟩:=q1
 subst e
 obtain⟨u,v,rfl,ru,rv⟩:=vals2 r1
 cases ru
 cases rv
 obtain⟨ix,rx,px,_⟩:=I1.list eF
 obtain⟨iy,ry,py,_⟩:=I1.list iV
 have lt1:l1<s1.heap.objs.size:=by obtain⟨o,q,_⟩:=px.isList;exact Qr q
 have lt2:l2<s1.heap.objs.size:=by obtain⟨o,q,_⟩:=py.isList;exact Qr q
 refine call_zip_2 px.isList py.isList λg hz kZ lP h1 h2 hsz k=>wpAny_pyIter_zip hz ?_
 have I2:Inv X aa σ H1 {s1 with heap:=g}:=I1.kept (t':=s1.toks) k
 refine⟨s1.heap.objs.size+4,_,_,_,H1,rfl,I2,turn_zip l1 l2 _ _ _ _ _ (zipApart_new lt1 lt2),⟨hz,kZ,⟨_,_,lP⟩,h1,h2⟩,λc hc=>?_,q⟩
 have cM:s1.heap.objs.size≤c:=by
  simp only[Qe,Wa,or_false]at hc
  rcases hc with e | e | e | e | e<;>rw[e]
  ·exact Yh _ _
  ·exact Yh _ _
  ·exact Yh _ _
  ·exact Qg _
  ·exact Yh _ _
 exact I1.fpOk cM (I1.hok.fresh cM)
end
end L2
end
section
namespace K21
open PySem L2 Wb
abbrev zdm:Stmt:=top 38
theorem mul_cps(c:Nat):∀n:Nat,n≤6→(Txt.mul (⟨#[c]⟩:Str) (n:Int)).cps.toList=List.replicate n c
 |0,_ | 1,_ | 2,_ | 3,_ | 4,_ | 5,_ | 6,_=>rfl
 |n+7,h=>by omega
inductive IspNames(vs:List V)(H:Hp)(Q:VK):Prop
 |mk (p:Nc) (b m:Int) (n:Nat) (h0:vs=[.ref p,.int n]) (h1:Pot H p b m) (h2:n≤60) (h3:∀(l:Nc) (zs:Nh) (b' m':Int) (H':Hp),H' l=some (.lst (zs.map V.str))→zs.length=n→zs.Nodup→(∀z∈zs,ze6 z)→Pot H' p b' m'→H l=none→Keep [p] H H'→Q (.ref l) H'):IspNames vs H Q
def spNames:Sp:=λvs H Q _=>IspNames vs H Q
abbrev csNa:Scope:=scOf (eOf (sAt zdm 3))
def csNa_k:csNa.kind=.function:=by rfl
def csNa_c:∀y∈csNa.names,y.2≠.cell:=by decide +kernel
def csNa_n:∀y∈csNa.names,y.2=.local→csNa.names.lookup y.1=some .local:=by decide +kernel
def csNa_f:∀y∈csNa.names,y.2=.free→(zag zdm).names.lookup y.1=some .cell∨(zag zdm).names.lookup y.1=some .free:=by decide +kernel
def csNa_l:csNa.names.lookup ("_law_letters" : Str)=some NameKind.free:=by decide +kernel
def csNa_p:csNa.names.lookup (qP:Str)=some NameKind.free:=by decide +kernel
def ndNa:(["_law_rank", "_law_letters",qP]:List Str).Nodup:=by decide +kernel
abbrev csNb:Scope:=scOf (eOf (sAt zdm 4))
def csNb_k:csNb.kind=.function:=by rfl
def csNb_c:∀y∈csNb.names,y.2≠.cell:=by decide +kernel
def csNb_n:∀y∈csNb.names,y.2=.local→csNb.names.lookup y.1=some .local:=by decide +kernel
def csNb_f:∀y∈csNb.names,y.2=.free→(zag zdm).names.lookup y.1=some .cell∨(zag zdm).names.lookup y.1=some .free:=by decide +kernel
def csNb_l:csNb.names.lookup ("_law_letters" : Str)=some NameKind.free:=by decide +kernel
def ndNb:(["_law_rank", "_law_tail", "_law_letters"]:List Str).Nodup:=by decide +kernel
abbrev intsV(rs:List Nat):List V:=rs.map λ(r:Nat)=>V.int (r:Int)
section
variable{P:Ni}{w:Nk}{K:Na}{mg:Nf}{base:Nl}
def zfn:zan [qP,qM, "_law_letters", "_law_ranks", "_law_k", "_law_tails"] [qP,qM] (zag zdm):=fsk
def ok_names(F:Fun K "_law_names" "_law_names" zdm f fd)(FT:Fun K qD qD zfo ft fdt)(bT:Binds K fdt [qP,qM] [])(mT:mg qD=some (.ref ft))(GT:FnOk P w K mg base CX0 1 ft fdt [qP,qM] zd3)(bv:mg "range" = none)(sD:mg "zip" = none):FnOk P w K mg base CX0 2 f fd [qP,qM] spNames:=by
 refine F.okL zfn (λcdv A outer s H vs Q E hr h=>?_)
 obtain⟨p,b,m,n,rfl,hp,hn,k⟩:=h
 have hu:=zcb hr
 refine⟨_,zae (ps_set (i:=2) zfn.nd rfl (Or.inr rfl) zfq)
  (zae (zat 3 zfn.nd (za7 zaf))
  (zae (zbm Zp rfl (zec rfl bv (zaa (pv 1) zaf)) (zbb 4 zfn.nd)
   (zah (za3 (zer Zr PySem.F.slot_list_insert PySem.F.type_list_insert mt_insert (pv 3) (zaa (zaj GT hr rfl mT FT.kp bT .nil zav (zaa (pv 0) (zaa (zau zbq (pv 4) zai) zaf))) (zaa (pv 4) zaf))))))
  (zae (ps_lc (i:=5) (M:=["_law_rank", "_law_letters",qP]) (ix:=[none,some 2,some 0]) zfn.nd rfl rfl ⟨csNa_k,csNa_c,csNa_n,csNa_f,rfl,ndNa,λj i x h1 h2=>by
     match j,h1,h2 with
     |0,_,h2=>cases h2
     |1,h1,h2=>cases h1;cases h2;exact⟨rfl,csNa_l⟩
     |2,h1,h2=>cases h1;cases h2;exact⟨rfl,csNa_p⟩
     |n+3,h1,_=>cases h1⟩ rfl (zbh (pv 3))
     (λC aa ex s H=>zbb 0 ndNa)
     (fun C aa ex s H=>zcu) (fun C aa ex s H=>zau op_mul_str (zaz ix_str (pv 1) (zaj GT (by exact hr) rfl (by exact mT) FT.kp bT .nil zav (zaa (pv 2) (zaa zai zaf))) (fun _ _=>rfl))
      (zaj GT (by exact hr) rfl (by exact mT) FT.kp bT .nil zav (zaa (pv 2) (zaa zai zaf)))) rfl)
  (zah (zbp (pe_lc (M:=["_law_rank", "_law_tail", "_law_letters"]) (ix:=[none,none,some 2]) ⟨csNb_k,csNb_c,csNb_n,csNb_f,rfl,ndNb,λj i x h1 h2=>by
     match j,h1,h2 with
     |0,_,h2=>cases h2
     |1,_,h2=>cases h2
     |2,h1,h2=>cases h1;cases h2;exact⟨rfl,csNb_l⟩
     |n+3,h1,_=>cases h1⟩ rfl (pi_zip (by rfl) sD (zaa (pv 3) (zaa (pv 5) zaf)))
     (λC aa ex s H=>zho (K:=K) (n:=2) rfl rfl (za4 (zbb 0 ndNb) (za4 (zbb 1 ndNb) zch)))
     (λC aa ex s H=>zcu) (λC aa ex s H=>zau zgt (zau zgt (zaz ix_str (pv 2) (zau zez (pv 0) zai) (λ_ _=>rfl)) (zaz ix_str (pv 2) (zau zht (pv 0) zai) (λ_ _=>rfl))) (pv 1)))))))),?_⟩
 have aJ  := sizeLine_eq
 refine⟨(by show 0≤sizeLine;decide),λl hl=>?_⟩
 have npl:p≠l:=zab hp.1 hl
 refine⟨_,rfl,(n:Int),rfl,by omega,by omega,?_⟩
 rw[Uk]
 refine zdb (λi σ H2=>Ex4 λ(rs:List Nat) (bb mm:Int) (x4:Option V)=>Aj5 (σ=[some (.ref p),some (.int n),some (.str zda),some (.ref l),x4,none]) (H2 l=some (.lst (intsV rs))) (rs.Perm (List.range i)) (Pot H2 p bb mm) (Keep [p,l] H H2))
  ⟨[],b,m,none,rfl,zac,List.Perm.refl _,hp.keep (xs:=[]) (Keep.new hl) (by simp),Keep.new hl⟩ ?_ ?_
 ·rintro i σ H2 hi ⟨rs,bb,mm,x4,rfl,ak,cU,aB,k2⟩
  have aV:rs.length=i:=by rw[cU.length_eq,Yd]
  refine⟨_,rfl,.inl ⟨rfl,_,SqL.of ak⟩,_,rfl,_,rfl,_,_,rfl,rfl,p,bb,mm,_,rfl,aB,by omega,by omega,λd3 b3 m3 H3 lR r9 ay eV=>?_⟩
  have aP:H3 l=some (.lst (intsV rs)):=eV _ _ ak (Qu npl)
  obtain⟨d,rfl⟩:=Zt lR
  have hd:d≤rs.length:=by omega
  refine⟨_,rfl,l,_,_,d,rfl,rfl,aP,by rw[Qa];omega,by rw[Qa];exact hd,?_⟩
  refine⟨rs.take d++i::rs.drop d,b3,m3,_,rfl,?_,?_,ay.keep (xs:=[l]) (Keep.wr Qc) (by simpa using npl),(k2.trans ((zba eV).sub (by simp))).trans (Keep.wr (by simp))⟩
  ·rw[zac,intsV,intsV,Qn,Ql,Ue,Jl,Int.zero_add]
  ·rw [List.range_succ]
   refine List.Perm.trans ?_ (cU.append_right [i])
   refine List.Perm.trans Ji ?_
   rw[Yx]
   exact(List.perm_append_singleton i rs).symm
 ·rintro σ H2 ⟨rs,bb,mm,x4,rfl,ak,cU,aB,k2⟩
  have aV:rs.length=n:=by rw[cU.length_eq,Yd]
  have ai:∀r∈rs,r<n:=λr hr=>Uo.mp (cU.mem_iff.mp hr)
  refine⟨_,rfl,l,rfl,⟨_,SqL.of ak⟩,λi m' ys τ H3=>Ex4 λ(ts:Nh) (b4 m4:Int) (x0:Option V)=>Aj8 (m'=n-i) (i≤n) (ys=ts.map V.str) (ts.length=i) (∀t∈ts,t.cps.toList.length≤6∧∀c∈t.cps.toList,97≤c∧c≤122) (τ=[x0,some (.str zda),some (.ref p)]) (Pot H3 p b4 m4) (Keep [p] H2 H3),
   ⟨n,[],bb,mm,none,rfl,Zg _,rfl,rfl,by simp,rfl,aB,Keep.refl⟩,?_⟩
  rintro i m' ys τ H3 ⟨ts,b4,m4,x0,rfl,hi,rfl,qv,cg,rfl,ay,k3⟩
  have aP:H3 l=some (.lst (intsV rs)):=k3 _ _ ak (by simpa using Qu npl)
  by_cases ax:i<n
  ·have hir:i < rs.length:=by omega
   refine .inr ⟨⟨_,_,SqL.of aP,by rw[Qq,Qd hir];rfl⟩,by rw[Qa];omega,?_⟩
   rintro x H5 ⟨rfl,_⟩
   refine⟨_,rfl,_,rfl,p,b4,m4,26,rfl,ay,by decide,by decide,λd6 b6 m6 H6 pS qZ dM eU=>?_⟩
   refine⟨_,_,_,rfl,rfl,zdw,zfw pS qZ,?_⟩
   refine⟨_,rfl,p,b6,m6,7,rfl,dM,by decide,by decide,λd7 b7 m7 H7 h70 h71 i5 kp7=>?_⟩
   obtain⟨d,rfl⟩:=Zt h70
   have ph:d≤6:=by omega
   have e:=mul_cps (97+d6.toNat) d ph
   refine⟨_,d,rfl,rfl,by show 1≤1000;decide,by omega,_,?_,ts++[Txt.mul (⟨#[97+d6.toNat]⟩:Str) (d:Int)],b7,m7,_,rfl,ax,?_,?_,?_,rfl,i5,(k3.trans (zba eU)).trans (zba kp7)⟩
   ·omega
   ·rw[Qn];rfl
   ·rw[Qt];show _+1=_;omega
   ·intro t ht
    rcases Qj.mp ht with z | z
    ·exact cg t z
    ·rw [Qb.mp z,e]
     refine⟨by rw[Jh];exact ph,λc hc=>?_⟩
     rw[(List.mem_replicate.mp hc).2];omega
  ·have kr:i=n:=by omega
   subst kr
   refine .inl ⟨⟨_,SqL.of aP,by rw[Qa];omega⟩,λD hD=>?_⟩
   have nlD:l≠D:=zab aP hD
   have aR:(upd H3 D (.lst (ts.map V.str))) l=some (.lst (intsV rs)):=by rw[zad nlD];exact aP
   have k4:Keep [p,l] H (upd H3 D (.lst (ts.map V.str))):=(k2.trans (k3.sub (by simp))).trans (Keep.new hD)
   have cj:Pot (upd H3 D (.lst (ts.map V.str))) p b4 m4:=ay.keep (xs:=[]) (Keep.new hD) (by simp)
   have jf:(upd H3 D (.lst (ts.map V.str))) D=some (.lst (ts.map V.str)):=zac
   generalize upd H3 D (.lst (ts.map V.str))=H4 at aR k4 cj jf
   refine⟨_,rfl,_,rfl,l,D,rfl,⟨_,SqL.of aR⟩,⟨_,SqL.of jf⟩,λj m' ys τ H5=>Ex3 λ(zs:Nh) (x0 x1:Option V)=>Aj7 (m'=i-j) (j≤i) (ys=zs.map V.str) (zs.map (λz=>z.cps.toList.take 2)=(rs.take j).map λr=>[97+r%26,97+r/26]) (∀z∈zs,ze6 z) (τ=[x0,x1,some (.str zda)]) (Keep [] H4 H5),
    ⟨i,[],none,none,rfl,Zg _,rfl,rfl,by simp,rfl,Keep.refl⟩,?_⟩
   rintro j m' ys τ H5 ⟨zs,x0,x1,rfl,hj,rfl,fA,hok,rfl,k5⟩
   have cT:zs.length=j:=by
    have:=congrArg List.length fA
    rw[Qa,Qa,Zh]at this
    omega
   have cz:=k5 _ _ aR (by simp)
   have iH:=k5 _ _ jf (by simp)
   by_cases oI:j<i
   ·have qJ:j < rs.length:=by omega
    have ue:j<ts.length:=by omega
    refine .inr ⟨⟨_,_,SqL.of cz,SqL.of iH,by rw[Qa];exact qJ,by rw[Qa];exact ue⟩,by rw[Qa];omega,?_⟩
    rintro y H' ⟨u,v,t',e1,e2,nF,rfl,rfl⟩
    have dY:=e1 _ (SqL.of cz)
    have l0:=e2 _ (SqL.of iH)
    rw[Qq,Qd qJ]at dY
    rw[Qq,Qd ue]at l0
    obtain rfl:V.int (rs[j]:Int)=u:=Qk dY
    obtain rfl:V.str ts[j]=v:=Qk l0
    have aA:=ai _ (Zb qJ)
    obtain⟨t1,t2⟩:=cg _ (Zb ue)
    have tk:rs.take (j+1)=rs.take j++[rs[j]]:=Qm qJ
    generalize rs[j]=r at aA tk
    generalize ts[j]=t at t1 t2
    have c1:atI zda.cps.toList ((r:Int)%26)=some (97+r%26):=by
     rw[zfw (Uy _ (by decide)) (Uh _ (by decide)),show((r:Int)%26).toNat=r%26 by omega]
    have c2:atI zda.cps.toList ((r:Int)/26)=some (97+r/26):=by
     rw[zfw (by omega) (by omega),show((r:Int)/26).toNat=r/26 by omega]
    have ez:((⟨#[97+r%26]⟩:Str)++(⟨#[97+r/26]⟩:Str)++t).cps.toList=(97+r%26)::(97+r/26)::t.cps.toList:=by
     show(((#[97+r%26]:Array Nat)++(#[97+r/26]:Array Nat))++t.cps).toList=_
     rw[Ya,Ya];rfl
    have eZ:((⟨#[97+r%26]⟩:Str)++(⟨#[97+r/26]⟩:Str)++t).length=t.cps.toList.length+2:=by
     show Array.size _=_
     rw[←Ys]
     exact congrArg List.length ez
    have bp:t.length=t.cps.toList.length:=by show t.cps.size=_;rw[Ys]
    refine⟨t',_,rfl,SqT.of zac,rfl,_,_,rfl,_,_,rfl,rfl,?_⟩
    refine⟨_,rfl,_,rfl,_,_,rfl,rfl,(by show(0:Int)<26;decide),_,_,_,rfl,rfl,zdw,c1,_,rfl,_,rfl,_,_,rfl,rfl,⟨by decide,by decide⟩,_,_,_,rfl,rfl,zdw,c2,_,_,rfl,rfl,(by show 1+1≤sizeLine;decide),_,rfl,_,_,rfl,rfl,?_,i-(j+1),by omega,zs++[(⟨#[97+r%26]⟩:Str)++(⟨#[97+r/26]⟩:Str)++t],_,_,rfl,oI,?_,?_,?_,rfl,k5.trans (Keep.new nF)⟩
    ·rw[bp];show 2+_≤_;omega
    ·rw[Qn];rfl
    ·rw[Qn,fA,tk,Qn,Ql,Ql,Je,Je,ez];rfl
    ·intro z hz
     rcases Qj.mp hz with h | h
     ·exact hok z h
     ·rw [Qb.mp h]
      refine⟨by omega,by omega,λc hc=>?_⟩
      rw[ez]at hc
      rcases Qe.mp hc with h2 | h2
      ·rw[h2];omega
      ·rcases Qe.mp h2 with h3 | h3
       ·rw[h3];omega
       ·exact t2 c h3
   ·have uf:j=i:=by omega
    subst uf
    refine .inl ⟨⟨_,_,SqL.of cz,SqL.of iH,.inl (by rw[Qa];omega)⟩,λD2 dj=>?_⟩
    have hl0:H l=none:=hl
    have kF:Keep [p,l] H (upd H5 D2 (.lst (zs.map V.str))):=(k4.trans (k5.sub (by simp))).trans (Keep.new dj)
    refine k D2 zs b4 m4 _ zac cT ?_ hok (cj.keep (xs:=[]) (k5.trans (Keep.new dj)) (by simp)) ?_ ?_
    ·have hnr:rs.Nodup:=cU.nodup_iff.mpr List.nodup_range
     have:(zs.map λz=>z.cps.toList.take 2).Nodup:=by
      rw[fA,Qz (by omega)]
      refine zhv hnr λa ha c hc e=>?_
      injection e with e1 e2
      injection e2 with e2 _
      omega
     exact nodup_of_map this
    ·have nD:D2≠p:=Qu (zab (cj.keep (xs:=[]) k5 (by simp)).1 dj)
     have nl:D2≠l:=Qu (zab cz dj)
     exact zal (k4.trans (k5.sub (by simp))) dj (by simp;exact⟨nD,nl⟩)
    ·exact λc o ec hc=>kF c o ec (by simp at hc ⊢;exact⟨hc,zab ec hl0⟩)
end
end K21
end
section
namespace L2
open PySem PySem.Spec PyProof.Rows
section
variable{X:Cx}
def op_ne_pairs(hu:X.A.units<cLine):OpR X (compareOp .NotEq) (λx y H Q=>Ex4 λ(a b:Nc) (q r:Str×Str)=>Aj5 (x=.ref a) (y=.ref b) (H a=some (.tup [.str q.1,.str q.2])) (H b=some (.tup [.str r.1,.str r.2])) (Q (.bl (!decide (q=r))) H)):=by
 intro aa s σ H x y v u Q I rx ry h
 obtain⟨a,b,q,r,rfl,rfl,ha,hb,k⟩:=h
 cases rx;cases ry
 obtain⟨_,ae,r1,p⟩:=I.hok a _ ha
 obtain⟨_,cZ,r2,p2⟩:=I.hok b _ hb
 obtain⟨u1,u2,rfl,⟨t1,rfl⟩,⟨t2,rfl⟩⟩:=vals2 r1
 obtain⟨w1,w2,rfl,⟨t3,rfl⟩,⟨t4,rfl⟩⟩:=vals2 r2
 refine SeqAt.RcNeAt.tuples (e:=λj=>if j=0 then q.1==r.1 else q.2==r.2) p p2 hu (λj j1 j2=>?_) _ _ _ _ ⟨.bl (!decide (q=r)),H,I,?_,k⟩
 ·have j1':j < 2:=by simpa using j1
  match j,j1' with
  |0,_=>exact SeqAt.EqAt.str_str q.1 t1 r.1 t3
  |1,_=>exact SeqAt.EqAt.str_str q.2 t2 r.2 t4
 ·show Value.bool _=Value.bool _
  congr 1
  have:decide (q=r)=((q.1==r.1)&&(q.2==r.2)):=by
   rw[Wi]
   simp[Prod.ext_iff]
  rw[this]
  show(!((List.range 2).all (λj=>if j=0 then q.1==r.1 else q.2==r.2)&&true))=_
  rw[show List.range 2=[0,1] from rfl]
  simp
end
end L2
namespace Wb
section
variable{α:Type}[DecidableEq α]
theorem zf0(rs:Rs α)(s:α×α):∀n,itr rs s (n+1)=itr rs (stp rs s) n
 |0=>rfl
 |n+1=>congrArg (stp rs) (zf0 rs s n)
theorem lk_itr:∀{t:List (α×α)} {s:α×α},Lk (st (row rs)) s t e→run rs s (t.length+1)=s::t∧itr rs s (t.length+1)=e
 |[],s,k=>⟨rfl,k⟩
 |y::t,s,k=>by
  obtain⟨h1,h2⟩:=lk_itr k.2
  have hs:stp rs s=y:=k.1
  refine⟨?_,by rw[Qx,zf0,hs];exact h2⟩
  unfold run at h1 ⊢
  rw[Qx,List.range_succ_eq_map,Ql,Zi,←h1]
  refine congrArg (s::·) (Wg λn _=>?_)
  show itr rs s (n+1)=_
  rw[zf0,hs]
def good_round{rs:Rs α}(h:Good rs){s:α×α}(hs:IsSt rs s):∃L,itr rs s (L+1)=s∧(run rs s (L+1)).Nodup:=by
 obtain⟨cs,af,C⟩:=h
 obtain⟨c,hc,h⟩:=Zs.mp ((C.cm s).mpr ((zbu C.nd).mp hs))
 obtain⟨A,B,e⟩:=Ym h
 have k:=C.cy c hc
 rw[e]at k
 obtain⟨h1,h2⟩:=lk_itr (zcz k)
 refine⟨_,h2,?_⟩
 rw[h1]
 have hn:c.Nodup:=(List.pairwise_flatten.mp C.cf).1 c hc
 rw[e]at hn
 have:=(Yu (l₁:=A) (l₂:=s::B)).nodup_iff.mp hn
 exact this
def round_ne{rs:Rs α}{s:α×α}{L n:Nat}(nd:(run rs s (L+1)).Nodup)(h0:0<n)(h:n≤L):itr rs s n≠s:=λe=>by
 unfold run at nd
 have:=(Yi (i:=n) (j:=0) (h₀:=by rw[Qa,Yd];omega) (h₁:=by rw[Qa,Yd];omega) nd).mp (by
  rw[Zm,Zm,Ug,Ug];exact e)
 omega
end
end Wb
namespace K21
open PySem L2 Wb
abbrev zhg:Stmt:=top 39
abbrev sFace:Stmt:=top 40
abbrev sPut:Stmt:=top 41
abbrev sTie:Stmt:=top 42
structure RN(H:Hp)(d:Nc)(es:List Ent):Prop extends RAt H d es where
 an:(es.map (·.2.2)).Nodup
def RN.keep{H H':Hp}{d:Nc}{es:List Ent}{xs:Nn}(r:RN H d es)(k:Keep xs H H')(hd:d∉xs)(h:∀e∈es,e.2.2∉xs):RN H' d es:=⟨r.toRAt.keep k hd h,r.an⟩
def RN.pot(r:RN H d es)(h:Pot H p b m)(k:Keep [p] H H'):RN H' d es:=⟨r.toRAt.pot h k,r.an⟩
def RN.k0(r:RN H d es)(k:Keep [] H H'):RN H' d es:=r.keep k (by simp) λ_ _=>by simp
def ent_eq{es:List Ent}(nd:(es.map (·.1)).Nodup){e e':Ent}(h:e∈es)(h':e'∈es)(q:e.1=e'.1):e=e':=by
 obtain⟨i,hi,rfl⟩:=Zo h
 obtain⟨j,hj,rfl⟩:=Zo h'
 have:i=j:=(Yi (h₀:=by rw[Qa];exact hi) (h₁:=by rw[Qa];exact hj) nd).mp (by rw[Zm,Zm];exact q)
 subst this;rfl
def ent_ad{es:List Ent}(nd:(es.map (·.2.2)).Nodup){e e':Ent}(h:e∈es)(h':e'∈es)(q:e.2.2=e'.2.2):e=e':=by
 obtain⟨i,hi,rfl⟩:=Zo h
 obtain⟨j,hj,rfl⟩:=Zo h'
 have:i=j:=(Yi (h₀:=by rw[Qa];exact hi) (h₁:=by rw[Qa];exact hj) nd).mp (by rw[Zm,Zm];exact q)
 subst this;rfl
def setE_ad{es:List Ent}(nd:(es.map (·.1)).Nodup){e:Ent}(h:e∈es)(r:Nh):(setE es e.1 r e.2.2).map (λe=>(e.1,e.2.2))=es.map λe=>(e.1,e.2.2):=by
 unfold setE
 rw[Zi]
 refine Wg λe' h'=>?_
 show(λe:Ent=>(e.1,e.2.2)) (if e'.1=e.1 then(e'.1,r,e.2.2) else e')=_
 split
 ·rename_i q
  rw[ent_eq nd h' h q]
 ·rfl
def RN.set(R:RN H d es){e:Ent}(he:e∈es)(r:Nh):RN (upd H e.2.2 (.lst (r.map V.str))) d (setE es e.1 r e.2.2):=by
 have q:=setE_ad R.nd he r
 have nd':d≠e.2.2:=zax R.dc (R.ro e he) (by intro z;cases z)
 have q2:(setE es e.1 r e.2.2).map (·.2.2)=es.map (·.2.2):=by
  have:=congrArg (List.map (·.2)) q
  rwa[Zi,Zi]at this
 refine⟨⟨?_,λe' h'=>?_,by rw[zaw];exact R.nd⟩,by rw[q2];exact R.an⟩
 ·rw [zad nd',R.dc]
  have:=congrArg (List.map λp:Str×Addr=>((Sum.inr p.1:Key),V.ref p.2)) q
  rw[Zi,Zi]at this
  exact congrArg (λz=>some (HO.dK z)) this.symm
 ·unfold setE at h'
  obtain⟨e0,h0,rfl⟩:=Qh.mp h'
  by_cases z:e0.1=e.1
  ·rw[if_pos z];exact zac
  ·rw [if_neg z,zad (fun y=>z (congrArg (·.1) (ent_ad R.an h0 he y)))]
   exact R.ro e0 h0
def zcw(h:e∈es)(n:e.1≠x):e∈setE es x r a:=by
 unfold setE
 exact Qh.mpr ⟨e,h,if_neg n⟩
inductive IspBehind(vs:List V)(H:Hp)(Q:VK):Prop
 |mk (d:Nc) (es:List Ent) (s:Str×Str) (h0:vs=[.ref d,.str s.1,.str s.2]) (h1:RAt H d es) (h2:IsSt (rsOf es) s) (h3:∀e∈es,e.2.1.length≤900) (h4:∀t,H t=none→Q (.ref t) (upd H t (.tup [.str (stp (rsOf es) s).1,.str (stp (rsOf es) s).2]))):IspBehind vs H Q
def spBehind:Sp:=λvs H Q _=>IspBehind vs H Q
inductive IspFace(vs:List V)(H:Hp)(Q:VK):Prop
 |mk (d t0:Nc) (es:List Ent) (s:Str×Str) (h0:vs=[.ref d,.ref t0]) (h1:RAt H d es) (h2:IsSt (rsOf es) s) (h3:Good (rsOf es)) (h4:es.length≤40) (ht:H t0=some (.tup [.str s.1,.str s.2])) (h6:∀(l:Nc) (as:Nn) (n:Nat) (H':Hp),H l=none→H' l=some (.lst (as.map V.ref))→zbn H' as (run (rsOf es) s (n+1))→(run (rsOf es) s (n+1)).Nodup→itr (rsOf es) s (n+1)=s→Keep [] H H'→Q (.ref l) H'):IspFace vs H Q
def spFace:Sp:=λvs H Q _=>IspFace vs H Q
inductive IspPut(vs:List V)(H:Hp)(Q:VK):Prop
 |mk (d:Nc) (es:List Ent) (e:Ent) (c:Option Str) (n:Str) (h0:vs=[.ref d,.str e.1,zf5 c,.str n]) (h1:RN H d es) (h2:e∈es) (h3:(∀x,c=some x→x∈e.2.1)) (h4:e.2.1.length≤1000) (h6:∀(H':Hp),RN H' d (setE es e.1 (ins e.2.1 c n) e.2.2)→Keep [e.2.2] H H'→Q .non H'):IspPut vs H Q
def spPut:Sp:=λvs H Q _=>IspPut vs H Q
inductive IspTie(vs:List V)(H:Hp)(Q:VK):Prop
 |mk (d:Nc) (es:List Ent) (e1 e2:Ent) (c1 c2:Option Str) (h0:vs=[.ref d,.str e1.1,zf5 c1,.str e2.1,zf5 c2]) (h1:RN H d es) (h2:e1∈es) (vm:e2∈es) (az:e1.1≠e2.1) (h3:(∀x,c1=some x→x∈e1.2.1)) (h3':(∀x,c2=some x→x∈e2.2.1)) (h4:e1.2.1.length≤1000) (h4':e2.2.1.length≤1000)
  (h6:∀(H':Hp),RN H' d (setE (setE es e1.1 (ins e1.2.1 c1 e2.1) e1.2.2) e2.1 (ins e2.2.1 c2 e1.1) e2.2.2)→Keep [e1.2.2,e2.2.2] H H'→Q .non H'):IspTie vs H Q
def spTie:Sp:=λvs H Q _=>IspTie vs H Q
section
variable{P:Ni}{w:Nk}{K:Na}{mg:Nf}{base:Nl}
def scBehind:zan [qR, "_law_p", "_law_q", "_law_row"] [qR, "_law_p", "_law_q"] (zag zhg):=fsk
def ok_behind(F:Fun K "_law_behind" "_law_behind" zhg f fd)(ah:mg "len" = none):FnOk P w K mg base CX0 1 f fd [qR, "_law_p", "_law_q"] spBehind:=by
 refine F.okL scBehind (λcdv A outer s H vs Q E hr h=>?_)
 obtain⟨d,es,st,rfl,R,ap,aV,k⟩:=h
 have hu:=zcb hr
 refine⟨_,zae (zat 3 scBehind.nd (zcf hu (pv 0) (pv 2)))
  (zah (zbp (zey (zaa (pv 2) (zaa (zaz zao (pv 3) (zau zez (zau zbq (zer Zr Kr Kq zhx (pv 3) (zaa (pv 1) zaf)) zai)
  (zak zaq (by rfl) ah Zw (zaa (pv 3) zaf))) (λ_ _=>rfl)) zaf))))),?_⟩
 obtain⟨p,hp,ep,hx⟩:=ap
 obtain⟨e,he,rfl⟩:=Qh.mp hp
 have ep':e.1=st.2:=ep
 have cw:st.1∈e.2.1:=hx
 have ha:=R.ro e he
 have g0:=DGet.k (k:=Sum.inr e.1) R.dc
 rw[zb6 R.nd he,ep']at g0
 refine⟨_,rfl,_,rfl,d,_,rfl,g0,?_⟩
 have hz:=aV e he
 have au:row (rsOf es) st.2=e.2.1:=by rw[←ep'];exact zbl R.nd he
 unfold stp at k
 rw[au]at k
 generalize e.2.1=zs at cw ha hz k
 obtain⟨i1,i2⟩:=zh1 cw
 have da:0<zs.length:=Yj cw
 have hm:(zs.idxOf st.1+1)%zs.length<zs.length:=Nat.mod_lt _ da
 have g:(zs.map V.str)[(zs.idxOf st.1+1)%zs.length]?=some (.str (nxt zs st.1)):=by
  rw[Qq,Qd hm]
  unfold nxt
  simp[List.getD,hm]
 have e1:((zs.idxOf st.1:Nat):Int)+1=((zs.idxOf st.1+1:Nat):Int):=by lia
 have g2:atI (zs.map V.str) ((((zs.idxOf st.1:Nat):Int)+1)%((zs.map V.str).length:Int))=some (.str (nxt zs st.1)):=by
  rw[e1,Qa,←Int.natCast_emod]
  exact zap g
 refine⟨_,rfl,_,rfl,_,rfl,.inl ⟨rfl,_,SqL.of ha⟩,_,rfl,e.2.2,_,_,_,rfl,rfl,ha,rfl,zcj zs,i1,i2,_,_,rfl,rfl,_,rfl,e.2.2,_,rfl,.inl (SqL.of ha),_,_,rfl,rfl,?_,e.2.2,_,_,_,rfl,rfl,SqL.of ha,g2,(by show 2≤sizeLine;decide),λt ht=>k t ht⟩
 rw[Qa];exact zar9 ‹_›
def scFace:zan [qR, "_law_step_here", "_law_found", "_law_here"] [qR, "_law_step_here"] (zag sFace):=fsk
def ok_face{f fb:Nc}{fd fdb:Np}(F:Fun K "_law_face" "_law_face" sFace f fd)(FB:Fun K "_law_behind" "_law_behind" zhg fb fdb)(bB:Binds K fdb [qR, "_law_p", "_law_q"] [])(mB:mg "_law_behind" = some (.ref fb))(GB:FnOk P w K mg base CX0 1 fb fdb [qR, "_law_p", "_law_q"] spBehind) :
  FnOk P w K mg base CX0 2 f fd [qR, "_law_step_here"] spFace:=by
 refine F.okL scFace (λcdv A outer s H vs Q E hr h=>?_)
 obtain⟨d,t0,es,st,rfl,R,ap,hG,bf,qx,k⟩:=h
 have hu:=zcb hr
 refine⟨_,zae (zat 2 scFace.nd (za7 (zaa (pv 1) zaf)))
  (zae (zat 3 scFace.nd (zaj GB hr rfl mB FB.kp bB .nil zav (zaa (pv 0) (zaa (zaz zca (pv 1) zai (λ_ _=>rfl)) (zaa (zaz zca (pv 1) zai (λ_ _=>rfl)) zaf)))))
  (zae (zhm Zp (zas (op_ne_pairs (Wm (Yr _) hu)) (pv 3) (pv 1) rfl)
   (zae (za3 (zer Zr Wl Wk zcr (pv 2) (zaa (pv 3) zaf)))
   (zah (zat 3 scFace.nd (zaj GB hr rfl mB FB.kp bB .nil zav (zaa (pv 0) (zaa (zaz zca (pv 3) zai (λ_ _=>rfl)) (zaa (zaz zca (pv 3) zai (λ_ _=>rfl)) zaf))))))))
  (zah (zbp (pv 2))))),?_⟩
 obtain⟨L,hL,nd⟩:=good_round hG ap
 have iz:=za1.clo _ hG
 have aV:∀e∈es,e.2.1.length≤900:=λe he=>by
  have:=za1.rows hG (e.1,e.2.1) (Qh.mpr ⟨e,he,rfl⟩)
  rw[show(rsOf es).length=es.length from Qa ..]at this
  exact Zl this (by omega)
 have hLb:L+1≤1600:=by
  have:=zef nd (m:=zif (rsOf es)) λx hx=>by
   obtain⟨i,_,rfl⟩:=Qh.mp hx
   exact zfu.mpr (zfz iz ap i)
  unfold Wb.run at this
  rw[Qa,Yd]at this
  exact Zl this (za1.steps hG (by rw[show(rsOf es).length=es.length from Qa ..];exact bf))
 have i0:∀x y:V,atI [x,y] ((0:Nat):Int)=some x:=λx y=>zap rfl
 have i1:∀x y:V,atI [x,y] ((1:Nat):Int)=some y:=λx y=>zap rfl
 have aJ  := sizeLine_eq
 refine⟨_,rfl,(by show 1≤sizeLine;decide),λl hl=>?_⟩
 have ntl:t0≠l:=zab qx hl
 have k1:Keep [] H (upd H l (.lst [.ref t0])):=Keep.new hl
 have dE:=k1 _ _ qx (by simp)
 have R1:RAt (upd H l (.lst [.ref t0])) d es:=R.keep k1 (by simp) λ_ _=>by simp
 refine⟨_,rfl,_,rfl,t0,_,_,_,rfl,rfl,SqT.of dE,i0 _ _,_,rfl,t0,_,_,_,rfl,rfl,SqT.of dE,i1 _ _,d,es,st,rfl,R1,ap,aV,λt ht=>?_⟩
 have nlt:l≠t:=zab (o:=_) zac ht
 refine⟨λm σ H1=>Ex3 λ(n:Nat) (t:Nc) (as:Nn)=>Aj8 (m=L-n) (n≤L) (σ=[some (.ref d),some (.ref t0),some (.ref l),some (.ref t)]) (Keep [l] H H1) (H1 l=some (.lst (as.map V.ref))) (zbn H1 as (run (rsOf es) st (n+1))) (H1 t=some (.tup [.str (itr (rsOf es) st (n+1)).1,.str (itr (rsOf es) st (n+1)).2])) (as.length=n+1),
  ⟨_,0,t,[t0],rfl,Zg _,rfl,(k1.trans (Keep.new ht)).sub (by simp),by rw[zad nlt];exact zac,.cons ((k1.trans (Keep.new ht)) _ _ qx (by simp)) .nil,zac,rfl⟩,?_⟩
 rintro m σ H1 ⟨n,t,as,rfl,hn,rfl,k2,ak,pa,dq,cO⟩
 have sW:=k2 _ _ qx (by simpa using ntl)
 refine⟨_,rfl,_,rfl,t,t0,itr (rsOf es) st (n+1),st,rfl,rfl,dq,sW,_,rfl,?_⟩
 by_cases he:n=L
 ·subst he
  refine zcq (by rw[decide_eq_true hL];rfl) ?_
  exact⟨_,rfl,k l as n H1 hl ak pa nd hL λc o ec _=>k2 c o ec (by simpa using zab ec hl)⟩
 ·refine zdj (by rw [decide_eq_false (round_ne nd (Nat.succ_pos n) (by omega))];rfl) ?_
  have ndl:d≠l:=zab R.dc hl
  have rV:t≠l:=zax dq ak (by intro z;cases z)
  refine⟨_,λ σ' H' z=>z,?_⟩
  refine⟨_,rfl,.inl ⟨rfl,_,SqL.of ak⟩,_,rfl,l,_,_,rfl,rfl,ak,by rw[Qa];omega,?_⟩
  have k3:Keep [l] H (upd H1 l (.lst (as.map V.ref++[V.ref t]))):=k2.trans (Keep.wr Qc)
  have dm:(upd H1 l (.lst (as.map V.ref++[V.ref t]))) t=some (.tup [.str (itr (rsOf es) st (n+1)).1,.str (itr (rsOf es) st (n+1)).2]):=by rw[zad rV];exact dq
  have aP:(upd H1 l (.lst (as.map V.ref++[V.ref t]))) l=some (.lst ((as++[t]).map V.ref)):=by rw[zac,Qn];rfl
  have pa3:zbn (upd H1 l (.lst (as.map V.ref++[V.ref t]))) (as++[t]) (run (rsOf es) st (n+1+1)):=by
   rw[run_succ]
   refine zbn.snoc (zbn.keep pa λb x y eb=>?_) dm
   rw[zad (zax eb ak (by intro z;cases z))];exact eb
  generalize upd H1 l (.lst (as.map V.ref++[V.ref t]))=H3 at k3 dm aP pa3
  have R3:RAt H3 d es:=R.keep k3 (by simpa using ndl) λe he=>by simpa using zab (R.ro e he) hl
  refine⟨_,rfl,_,rfl,t,_,_,_,rfl,rfl,SqT.of dm,i0 _ _,_,rfl,t,_,_,_,rfl,rfl,SqT.of dm,i1 _ _,d,es,itr (rsOf es) st (n+1),rfl,R3,zfz iz ap _,aV,λt' nF=>?_⟩
  have nl':l≠t':=zab aP nF
  exact⟨L-(n+1),by omega,n+1,t',as++[t],rfl,by omega,rfl,k3.trans (Keep.new nF),by rw[zad nl'];exact aP,zbn.keep pa3 λb x y eb=>by rw[zad (zab eb nF)];exact eb,zac,by rw[Qt,cO];rfl⟩
def scPut:zan [qR, "_law_one",qB,qO, "_law_at"] [qR, "_law_one",qB,qO] (zag sPut):=fsk
def ok_put(F:Fun K "_law_put" "_law_put" sPut f fd):FnOk P w K mg base CX0 1 f fd [qR, "_law_one",qB,qO] spPut:=by
 refine F.okL scPut (λcdv A outer s H vs Q E hr h=>?_)
 obtain⟨d,es,e,c,n,rfl,R,he,hc,hl,k⟩:=h
 have hu:=zcb hr
 have au:=R.ro e he
 have g0:DGet H d (.str e.1) (some (.ref e.2.2)):=(zb6 R.nd he▸DGet.k (k:=Sum.inr e.1) R.dc)
 have aJ  := sizeLine_eq
 refine⟨_,zae (zat 4 scPut.nd zai)
  (zae (zbr (zc7 (zhr (pv 2))) (zah (zat 4 scPut.nd (zau zbq (zer Zr Kr Kq zhx (zcf hu (pv 0) (pv 1)) (zaa (pv 2) zaf)) zai))) za2)
  (zah (za3 (zer Zr PySem.F.slot_list_insert PySem.F.type_list_insert mt_insert (zcf hu (pv 0) (pv 1)) (zaa (pv 4) (zaa (pv 3) zaf)))))),?_⟩
 have fin:∀j:Nat,j≤e.2.1.length→ins e.2.1 c n=e.2.1.take j++n::e.2.1.drop j→Q .non (upd H e.2.2 (.lst ((e.2.1.map V.str).take j++V.str n::(e.2.1.map V.str).drop j))):=λj hj ei=>by
  rw[←Ue,←Jl,←Ql,←Qn,←ei]
  exact k _ (R.set he _) (Keep.wr Qc)
 cases c with
 |none =>
  refine⟨_,rfl,_,rfl,?_⟩
  refine iteF ?_
  exact⟨_,rfl,_,rfl,d,_,rfl,g0,.inl ⟨rfl,_,SqL.of au⟩,_,rfl,_,rfl,e.2.2,_,_,0,rfl,rfl,au,by rw[Qa];omega,Zg _,fin 0 (Zg _) rfl⟩
 |some x =>
  have hx:=hc x rfl
  obtain⟨i1,i2⟩:=zh1 hx
  have hi:=idx_lt hx
  refine⟨_,rfl,_,rfl,?_⟩
  refine iteT ?_
  refine⟨_,rfl,_,rfl,d,_,rfl,g0,.inl ⟨rfl,_,SqL.of au⟩,_,rfl,e.2.2,_,_,_,rfl,rfl,au,rfl,zcj _,i1,i2,_,_,rfl,rfl,?_⟩
  exact⟨_,rfl,_,rfl,d,_,rfl,g0,.inl ⟨rfl,_,SqL.of au⟩,_,rfl,_,rfl,e.2.2,_,_,e.2.1.idxOf x+1,rfl,by rw[show((e.2.1.idxOf x+1:Nat):Int)=(e.2.1.idxOf x:Int)+1 by lia],au,by rw[Qa];omega,by rw[Qa];omega,fin _ hi rfl⟩
def scTie:zan [qR, "_law_one",qB,qO, "_law_after"] [qR, "_law_one",qB,qO, "_law_after"] (zag sTie):=fsk
def ok_tie(F:Fun K "_law_tie" "_law_tie" sTie f fd)(FP:Fun K "_law_put" "_law_put" sPut fp fdp)(bP:Binds K fdp [qR, "_law_one",qB,qO] [])(mP:mg "_law_put" = some (.ref fp))(GP:FnOk P w K mg base CX0 1 fp fdp [qR, "_law_one",qB,qO] spPut):FnOk P w K mg base CX0 2 f fd [qR, "_law_one",qB,qO, "_law_after"] spTie:=by
 refine F.okL scTie (λcdv A outer s H vs Q E hr h=>?_)
 obtain⟨d,es,e1,e2,c1,c2,rfl,R,h1,h2,az,bj,qT,bJ,ak,k⟩:=h
 refine⟨_,zae (za3 (zaj GP hr rfl mP FP.kp bP .nil zav (zaa (pv 0) (zaa (pv 1) (zaa (pv 2) (zaa (pv 3) zaf))))))
  (zah (za3 (zaj GP hr rfl mP FP.kp bP .nil zav (zaa (pv 0) (zaa (pv 3) (zaa (pv 4) (zaa (pv 1) zaf))))))),?_⟩
 refine⟨_,rfl,_,rfl,_,rfl,_,rfl,d,es,e1,c1,e2.1,rfl,R,h1,bj,bJ,λH1 R1 k1=>?_⟩
 refine⟨_,rfl,_,rfl,_,rfl,_,rfl,d,_,e2,c2,e1.1,rfl,R1,zcw h2 (Qu az),qT,ak,λH2 R2 k2=>?_⟩
 exact k H2 R2 ((k1.sub (by simp)).trans (k2.sub (by simp)))
end
end K21
end
section
namespace K21
open PySem L2 Wb
abbrev zhc:Stmt:=top 43
structure Dr(H:Hp)(d:Nc)(es:List Ent):Prop where
 rn:RN H d es
 gd:Good (rsOf es)
 few:es.length≤40
def Dr.k0(r:Dr H d es)(k:Keep [] H H'):Dr H' d es:=⟨r.rn.k0 k,r.gd,r.few⟩
def Dr.pot(r:Dr H d es)(h:Pot H p b m)(k:Keep [p] H H'):Dr H' d es:=⟨r.rn.pot h k,r.gd,r.few⟩
def Dr.row(r:Dr H d es):∀e∈es,e.2.1.length≤40:=λe he=>by
 have:=za1.rows r.gd (e.1,e.2.1) (Qh.mpr ⟨e,he,rfl⟩)
 rw[show(rsOf es).length=es.length from Qa ..]at this
 exact Zl this r.few
def zbk(es:List Ent):(rsOf es).map (·.1)=es.map (·.1):=by
 unfold rsOf;rw[List.map_map];rfl
def zg8(G:Good (rsOf es))(h:IsSt (rsOf es) s):∃e1∈es,∃e2∈es,e1.1=s.1∧e2.1=s.2∧s.2∈e1.2.1∧s.1∈e2.2.1∧e1.1≠e2.1:=by
 obtain⟨cs,af,C⟩:=G
 have h1:=(zbu C.nd).mp h
 have h2:=C.sy _ _ h1
 have n1:=C.inn h1
 have n2:=C.inn h2
 rw[zbk]at n1 n2
 obtain⟨e2,cv,q2⟩:=Qh.mp n1
 obtain⟨e1,dU,q1⟩:=Qh.mp n2
 have lj:e2.1=s.2:=q2
 have rQ:e1.1=s.1:=q1
 have nd:(es.map (·.1)).Nodup:=by rw[←zbk];exact C.nd
 refine⟨e1,dU,e2,cv,rQ,lj,by rw[←zbl nd dU,rQ];exact h2,by rw[←zbl nd cv,lj];exact h1,λe=>?_⟩
 rw[rQ,lj]at e
 rw[e]at h1
 exact C.ir _ h1
inductive IspStep(vs:List V)(H:Hp)(Q:VK):Prop
 |mk (p d:Nc) (b m:Int) (es:List Ent) (h0:vs=[.ref d,.ref p]) (h1:Pot H p b m) (h2:Dr H d es) (h3:∀(b' m':Int) (H':Hp),Pot H' p b' m'→Keep [p] H H'→Q .non H')
  (h4:∀(t:Nc) (s:Str×Str) (b' m':Int) (H':Hp),H t=none→H' t=some (.tup [.str s.1,.str s.2])→IsSt (rsOf es) s→Pot H' p b' m'→Keep [p] H H'→Q (.ref t) H'):IspStep vs H Q
def spStep:Sp:=λvs H Q _=>IspStep vs H Q
abbrev zgy:Scope:=scOf (eOf (sAt zhc 0))
def csStep_k:zgy.kind=.function:=by rfl
def csStep_c:∀y∈zgy.names,y.2≠.cell:=by decide +kernel
def csStep_n:∀y∈zgy.names,y.2=.local→zgy.names.lookup y.1=some .local:=by decide +kernel
def csStep_f:∀y∈zgy.names,y.2=.free→(zag zhc).names.lookup y.1=some .cell∨(zag zhc).names.lookup y.1=some .free:=by decide +kernel
def csStep_l:zgy.names.lookup (qR:Str)=some NameKind.free:=by decide +kernel
def ndStep:(["_law_place",qR]:List Str).Nodup:=by decide +kernel
section
variable{P:Ni}{w:Nk}{K:Na}{mg:Nf}{base:Nl}
def scStep:zan [qR,qP, "_law_tied", "_law_place"] [qR,qP] (zag zhc):=fsk
def ok_step(F:Fun K "_law_step" "_law_step" zhc f fd)(FT:Fun K qD qD zfo ft fdt)(bT:Binds K fdt [qP,qM] [])(mT:mg qD=some (.ref ft))(GT:FnOk P w K mg base CX0 1 ft fdt [qP,qM] zd3)(ah:mg "len" = none):FnOk P w K mg base CX0 2 f fd [qR,qP] spStep:=by
 refine F.okL scStep (λcdv A outer s0 H0 vs Q E hr h=>?_)
 obtain⟨p,d,b,m,es,rfl,hp,D0,kN,kT⟩:=h
 have R:=D0.rn.toRAt
 have bf:=D0.few
 have hu:=zcb hr
 have gA:=Kj hu
 refine⟨_,zae (zeq (ps_lc (i:=2) (M:=["_law_place",qR]) (ix:=[none,some 0]) scStep.nd rfl rfl ⟨csStep_k,csStep_c,csStep_n,csStep_f,rfl,ndStep,λj i x h1 h2=>by
     match j,h1,h2 with
     |0,_,h2=>cases h2
     |1,h1,h2=>cases h1;cases h2;exact⟨rfl,csStep_l⟩
     |n+2,h1,_=>cases h1⟩ rfl (zds (pv 0)) (λC aa ex s H=>zbb 0 ndStep)
    (λC aa ex s H=>zhl (zas (op_ne_nilK (K:=K) rfl gA) (zcf (by exact hu) (pv 1) (pv 0)) (za7 zaf) (zbf _))) (λC aa ex s H=>pv 0) rfl))
  (zae (zbr (zas (op_eq_nil gA) (pv 2) (za7 zaf) (zbf _)) (zah (zbp zgp)) za2)
  (zae (zat 3 scStep.nd (zaz zao (pv 2) (zaj GT hr rfl mT FT.kp bT .nil zav (zaa (pv 1) (zaa (zak zaq (by rfl) ah Zw (zaa (pv 2) zaf)) zaf))) (λ_ _=>rfl)))
  (zah (zbp (zey (zaa (pv 3) (zaa (zaz zao (zcf hu (pv 0) (pv 3)) (zaj GT hr rfl mT FT.kp bT .nil zav (zaa (pv 1) (zaa (zak zaq (by rfl) ah Zw (zaa (zcf hu (pv 0) (pv 3)) zaf)) zaf))) (λ_ _=>rfl)) zaf))))))),?_⟩
 have nfz:∀o' u',H0 d≠some (.frz o' u'):=λo' u' z=>by rw[R.dc]at z;cases z
 have aJ  := sizeLine_eq
 refine⟨_,rfl,d,_,rfl,R.dc,λo=>⟨λi m ys τ H1=>Aj6 (m=es.length-i) (i≤es.length) (ys=((es.take i).filter λe=>!e.2.1.isEmpty).map (λe=>V.str e.1)) (Ex1 λx=>τ=[x,some (.ref d)]) (H1 d=some (.frz o (.dK (es.map λe=>((Sum.inr e.1:Key),V.ref e.2.2))))) (Keep [d] H0 H1),
  ⟨es.length,by simp,Zg _,rfl,⟨none,rfl⟩,zac,Keep.wr Qc⟩,?_⟩⟩
 rintro i m1 ys τ H1 ⟨rfl,hi,rfl,⟨x0,rfl⟩,hz,k1⟩
 by_cases ai:i<es.length
 ·refine .inr ⟨⟨hz,by rw [Qa];exact ai⟩,?_,?_⟩
  ·have h1:(((es.take i).filter fun e=>!e.2.1.isEmpty).map (fun e=>V.str e.1)).length≤es.length:=by
    rw[Qa]
    exact Zl (Xi _ _) (by rw[Zh];lia)
   lia
  ·rintro x H' ⟨rfl,pr,e1,rfl⟩
   have g1:pr=((Sum.inr es[i].1:Key),V.ref es[i].2.2):=by
    rw[Qq,Qd ai]at e1
    exact(Qk e1).symm
   subst g1
   have aX:es[i]∈es:=Zb ai
   have nZ:=R.ro _ aX
   have nri:es[i].2.2≠d:=zax nZ R.dc (by intro z;cases z)
   have bu:=k1 _ _ nZ (by simpa using nri)
   refine⟨_,rfl,_,rfl,d,.ref es[i].2.2,rfl,.inl ⟨_,Sum.inr es[i].1,.inr ⟨o,hz⟩,rfl,(zb6 R.nd aX).symm⟩,(by show 0≤sizeLine;decide),λq hq=>?_⟩
   have nq:es[i].2.2≠q:=zab bu hq
   have nqd:d≠q:=zab hz hq
   refine⟨es[i].2.2,q,_,rfl,rfl,SqL.of (by rw[zad nq];exact bu),SqL.of zac,_,rfl,?_⟩
   have hk2:Keep [d] H0 (upd H' q (.lst [])):=k1.trans (Keep.new hq)
   have fA:(upd H' q (.lst [])) d=some (.frz o (.dK (es.map λe=>((Sum.inr e.1:Key),V.ref e.2.2)))):=by rw[zad nqd];exact hz
   have cg:es.take (i+1)=es.take i++[es[i]]:=Qm ai
   have j8:(es[i].2.1.map V.str).isEmpty=es[i].2.1.isEmpty:=by cases es[i].2.1<;>rfl
   rw[if_pos rfl,j8]
   by_cases hb:es[i].2.1.isEmpty=true
   ·rw [hb]
    refine iteF ⟨_,?_,rfl,ai,?_,⟨_,rfl⟩,fA,hk2⟩
    ·exact zar1 ‹_›
    ·rw[cg,Ww,Zy (by rw[hb];decide),Ux,Zu]
   ·have cM:es[i].2.1.isEmpty=false:=by simpa using hb
    rw[cM]
    refine iteT ⟨_,rfl,_,?_,rfl,ai,?_,⟨_,rfl⟩,fA,hk2⟩
    ·exact zar1 ‹_›
    ·rw [cg,Ww,Zx (by rw [cM];decide),Ux,Qn]
     rfl
 ·have kr:i=es.length:=by exact zar3 ‹_› ‹_›
  subst kr
  refine .inl ⟨⟨hz,by rw[Qa];exact Qg _⟩,λD hD=>?_⟩
  have ndD:d≠D:=zab hz hD
  rw[Qz (Qg _)]
  refine⟨d,o,_,(by rw[zad ndD];exact hz),nfz,?_⟩
  have hDm:((es.filter λe=>!e.2.1.isEmpty).map λe=>V.str e.1)=((es.filter λe=>!e.2.1.isEmpty).map (·.1)).map V.str:=by rw[Zi];rfl
  have k2:Keep [] H0 (upd (upd H1 D (.lst ((es.filter λe=>!e.2.1.isEmpty).map λe=>V.str e.1))) d (.dK (es.map λe=>((Sum.inr e.1:Key),V.ref e.2.2)))):=λc u ec _=>by
   by_cases ar:c=d
   ·subst ar
    rw[zac,←R.dc];exact ec
   ·have jg:=k1 c u ec (by simpa using ar)
    rw[zad ar,zad (zab jg hD)];exact jg
  have dj:(upd (upd H1 D (.lst ((es.filter λe=>!e.2.1.isEmpty).map λe=>V.str e.1))) d (.dK (es.map λe=>((Sum.inr e.1:Key),V.ref e.2.2)))) D=some (.lst (((es.filter λe=>!e.2.1.isEmpty).map (·.1)).map V.str)):=by rw[zad (Qu ndD),hDm];exact zac
  generalize upd (upd H1 D (.lst ((es.filter λe=>!e.2.1.isEmpty).map λe=>V.str e.1))) d (.dK (es.map λe=>((Sum.inr e.1:Key),V.ref e.2.2)))=H2 at k2 dj
  have mZ:∀z∈(es.filter λe=>!e.2.1.isEmpty).map (·.1),∃e∈es,e.1=z∧e.2.1≠[]:=λz h=>by
   obtain⟨e,he,rfl⟩:=Qh.mp h
   obtain⟨h1,h2⟩:=Yc.mp he
   refine⟨e,h1,rfl,λq=>?_⟩
   rw[q]at h2;cases h2
  have em:((es.filter λe=>!e.2.1.isEmpty).map (·.1)).length≤40:=by
   rw[Qa]
   exact Zl (Xi _ _) bf
  generalize(es.filter λe=>!e.2.1.isEmpty).map (·.1)=ws at dj mZ em
  refine⟨_,rfl,(by show 0≤sizeLine;decide),λq hq=>?_⟩
  have nDq:D≠q:=zab dj hq
  refine⟨D,q,_,rfl,rfl,SqL.of (by rw[zad nDq];exact dj),SqL.of zac,_,rfl,?_⟩
  have k3:Keep [] H0 (upd H2 q (.lst [])):=k2.trans (Keep.new hq)
  have gu:(upd H2 q (.lst [])) D=some (.lst (ws.map V.str)):=by rw[zad nDq];exact dj
  generalize upd H2 q (.lst [])=H3 at k3 gu
  have R3:RAt H3 d es:=R.keep k3 (by simp) (λ_ _=>by simp)
  have ay:Pot H3 p b m:=hp.keep k3 (by simp)
  by_cases mV:ws=[]
  ·subst mV
   refine iteT ?_
   exact kN b m H3 ay (k3.sub (by simp))
  ·have j8:(ws.map V.str).isEmpty=false:=by
    cases ws with
    |nil=>exact absurd rfl mV
    |cons _ _=>rfl
   refine zcq j8 ?_
   have hw0:0<ws.length:=Uf.mpr mV
   have aI:(ws.map V.str).length=ws.length:=Qa ..
   refine⟨_,rfl,_,rfl,_,rfl,D,_,rfl,.inl (SqL.of gu),p,b,m,_,rfl,ay,by rw[aI];omega,by rw[aI];omega,λj1 b4 m4 H4 r8 r6 cj iL=>?_⟩
   obtain⟨j,rfl⟩:=Zt r8
   have hj:j<ws.length:=by rw[aI]at r6;omega
   have k4:=zba iL
   have nDp:D≠p:=zbt ay gu
   have jf:=k4 _ _ gu (by simpa using nDp)
   refine⟨D,_,_,_,rfl,rfl,SqL.of jf,zap (by rw[Qq,Qd hj];rfl),?_⟩
   obtain⟨e,he,ez,az⟩:=mZ _ (Zb hj)
   rw[←ez]
   have R4:=R3.pot ay k4
   have g4:=DGet.k (k:=Sum.inr e.1) R4.dc
   rw[zb6 R4.nd he]at g4
   have gC:=R4.ro e he
   have aV:=D0.row e he
   have gD:0<e.2.1.length:=Uf.mpr az
   have jR:(e.2.1.map V.str).length=e.2.1.length:=Qa ..
   refine⟨_,rfl,_,rfl,_,rfl,d,_,rfl,g4,_,rfl,_,rfl,_,rfl,d,_,rfl,g4,e.2.2,_,rfl,.inl (SqL.of gC),p,b4,m4,_,rfl,cj,by rw[jR];omega,by rw[jR];omega,λi1 b5 m5 H5 vk h51 bz si=>?_⟩
   obtain⟨i,rfl⟩:=Zt vk
   have hi5:i<e.2.1.length:=by rw[jR]at h51;omega
   have k5:=zba si
   have o0:=k5 _ _ gC (by simpa using zbt cj gC)
   refine⟨e.2.2,_,_,_,rfl,rfl,SqL.of o0,zap (by rw[Qq,Qd hi5];rfl),(by show 2≤sizeLine;decide),λt ht=>?_⟩
   have lA:Keep [p] H0 H5:=((k3.sub (by simp)).trans k4).trans k5
   have ntp:t≠p:=Qu (zab bz.1 ht)
   refine kT t (e.1,e.2.1[i]) b5 m5 _ (zal lA ht (by simpa using ntp)) zac ?_ (bz.keep (xs:=[]) (Keep.new ht) (by simp)) (lA.trans (Keep.new ht))
   obtain⟨cs,af,C⟩:=D0.gd
   refine(zbu C.nd).mpr (C.sy e.1 _ ?_)
   rw[zbl R.nd he]
   exact Zb hi5
end
abbrev sMore:Stmt:=top 44
abbrev zhh:Stmt:=top 45
def zb3(nd:(es.map (·.1)).Nodup)(h:e∈es)(r:Nh):(setE es e.1 r e.2.2).map (·.2.2)=es.map (·.2.2):=by
 have:=congrArg (List.map (·.2)) (setE_ad nd h r)
 rwa[Zi,Zi]at this
structure Deed(p d:Nc)(H:Hp)(es:List Ent)(ex:Nh)(aq:List Ent)(H':Hp):Prop where
 dr:Dr H' d aq
 nm:aq.map (·.1)=es.map (·.1)++ex
 ad:∀c∈aq.map (·.2.2),c∈es.map (·.2.2)∨H c=none
 kp:Keep (p::d::es.map (·.2.2)) H H'
def RN.new(R:RN H d es)(k:Keep [] H H1)(hn:H a=none)(hx:x∉es.map (·.1))(ha:H1 a=some (.lst (([]:List Str).map V.str))) :
  RN (upd H1 d (.dK (putK (es.map λe=>((Sum.inr e.1:Key),V.ref e.2.2)) (Sum.inr x) (.ref a)))) d (es++[(x,[],a)]):=by
 refine⟨rat_new (R.k0 k).toRAt hx ha,?_⟩
 rw[Qn,Ze]
 refine⟨R.an,Qs.mpr ⟨by simp,Zn⟩,λy hy z hz e=>?_⟩
 have ce:z=a:=by simpa using hz
 obtain⟨e0,h0,rfl⟩:=Qh.mp hy
 have:=R.ro e0 h0
 rw[show e0.2.2=a from e.trans ce,hn]at this
 cases this
def out3{es:List Ent}{e:Ent}(hc:c∉p::d::es.map (·.2.2))(he:e∈es):c≠e.2.2:=λz=>hc (Qf _ (Qf _ (Qh.mpr ⟨e,he,z.symm⟩)))
inductive IspMore(vs:List V)(H:Hp)(Q:VK):Prop
 |mk (p d:Nc) (b m:Int) (es:List Ent) (x:Str) (h0:vs=[.ref d,.ref p,.str x]) (h1:Pot H p b m) (h2:Dr H d es) (vm:es.length<40) (az:es≠[]) (hx:x∉es.map (·.1)) (h3:∀(b' m':Int) (aq:List Ent) (H':Hp),Pot H' p b' m'→Deed p d H es [x] aq H'→Q .non H'):IspMore vs H Q
def spMore:Sp:=λvs H Q _=>IspMore vs H Q
inductive IspAcross(vs:List V)(H:Hp)(Q:VK):Prop
 |mk (p d:Nc) (b m:Int) (es:List Ent) (h0:vs=[.ref d,.ref p]) (h1:Pot H p b m) (h2:Dr H d es) (h3:∀(b' m':Int) (aq:List Ent) (H':Hp),Pot H' p b' m'→Deed p d H es [] aq H'→Q .non H'):IspAcross vs H Q
def zfb:Sp:=λvs H Q _=>IspAcross vs H Q
section
variable{P:Ni}{w:Nk}{K:Na}{mg:Nf}{base:Nl}
def scMore:zan [qR,qP, "_law_name", "_law_old", "_law_one",qB] [qR,qP, "_law_name"] (zag sMore):=fsk
def ok_more{f ft fi:Nc}{fd fdt fdi:Np}(F:Fun K "_law_more" "_law_more" sMore f fd)(FT:Fun K qD qD zfo ft fdt)(bT:Binds K fdt [qP,qM] [])(mT:mg qD=some (.ref ft))(GT:FnOk P w K mg base CX0 1 ft fdt [qP,qM] zd3)(FI:Fun K "_law_tie" "_law_tie" sTie fi fdi)(bI:Binds K fdi [qR, "_law_one",qB,qO, "_law_after"] [])(mI:mg "_law_tie" = some (.ref fi))(GI:FnOk P w K mg base CX0 2 fi fdi [qR, "_law_one",qB,qO, "_law_after"] spTie)(ah:mg "len" = none)(cn:mg "list" = none):FnOk P w K mg base CX0 3 f fd [qR,qP, "_law_name"] spMore:=by
 refine F.okL scMore (λcdv A outer s0 H vs Q E hr h=>?_)
 obtain⟨p,d,b,m,es,x,rfl,hp,D0,bf,az,hx,k⟩:=h
 have R:=D0.rn.toRAt
 have hu:=zcb hr
 have gA:=Kj hu
 have aA:Room 1 _:=hr.mono (by decide)
 have aJ  := sizeLine_eq
 refine⟨_,zae (zat 3 scMore.nd (zb9 (zgg rfl) (by rfl) cn Xa (zaa (pv 0) zaf)))
  (zae (zcv hu (pv 0) (pv 2) (za7 zaf) rfl)
  (zah (zbr (zas op_gt (zaj GT aA rfl mT FT.kp bT .nil zav (zaa (pv 1) (zaa zai zaf))) zai (zbf _))
   (zae (zat 4 scMore.nd (zaz zao (pv 3) (zaj GT aA rfl mT FT.kp bT .nil zav (zaa (pv 1) (zaa (zak zaq (by rfl) ah Zw (zaa (pv 3) zaf)) zaf))) (λ_ _=>rfl)))
   (zae (zat 5 scMore.nd zgp)
   (zae (zbr (zas (op_ne_nil gA) (zcf hu (pv 0) (pv 4)) (za7 zaf) (zbf _))
    (zah (zat 5 scMore.nd (zaz zao (zcf hu (pv 0) (pv 4)) (zaj GT aA rfl mT FT.kp bT .nil zav (zaa (pv 1) (zaa (zak zaq (by rfl) ah Zw (zaa (zcf hu (pv 0) (pv 4)) zaf)) zaf))) (λ_ _=>rfl)))) za2)
   (zah (za3 (zaj GI hr rfl mI FI.kp bI .nil zav (zaa (pv 0) (zaa (pv 4) (zaa (pv 5) (zaa (pv 2) (zaa zgp zaf)))))))))))
   za2))),?_⟩
 refine⟨_,rfl,d,_,rfl,.inl R.dc,λl hl=>?_⟩
 rw[keys_strs]
 refine⟨(by show 0≤sizeLine;decide),λa ha=>?_⟩
 have nla:l≠a:=zab (o:=_) zac ha
 have bJ:(upd (upd H l (.lst ((es.map (·.1)).map V.str))) a (.lst [])) l=some (.lst ((es.map (·.1)).map V.str)):=by rw[zad nla];exact zac
 have ha1:(upd (upd H l (.lst ((es.map (·.1)).map V.str))) a (.lst [])) a=some (.lst (([]:List Str).map V.str)):=zac
 have k1:Keep [] H (upd (upd H l (.lst ((es.map (·.1)).map V.str))) a (.lst [])):=(Keep.new hl).trans (Keep.new ha)
 have cF:H a=none:=zal (xs:=[]) (Keep.new hl) ha (by simp)
 generalize upd (upd H l (.lst ((es.map (·.1)).map V.str))) a (.lst [])=H1 at bJ ha1 k1
 have R1:RAt H1 d es:=R.keep k1 (by simp) (λ_ _=>by simp)
 have aL:Pot H1 p b m:=hp.keep k1 (by simp)
 refine⟨_,rfl,_,rfl,d,_,rfl,DPut.k (k:=Sum.inr x) R1.dc (by rw[Qa];omega),?_⟩
 have R2:=D0.rn.new k1 cF hx ha1
 have k2:Keep [d] H (upd H1 d (.dK (putK (es.map λe=>((Sum.inr e.1:Key),V.ref e.2.2)) (Sum.inr x) (.ref a)))):=(k1.sub (by simp)).trans (Keep.wr Qc)
 have nld:l≠d:=zax bJ R1.dc (by intro z;cases z)
 have npd:p≠d:=Qu (pot_nd aL R1.dc)
 have ak:(upd H1 d (.dK (putK (es.map λe=>((Sum.inr e.1:Key),V.ref e.2.2)) (Sum.inr x) (.ref a)))) l=some (.lst ((es.map (·.1)).map V.str)):=by rw[zad nld];exact bJ
 have aB:Pot (upd H1 d (.dK (putK (es.map λe=>((Sum.inr e.1:Key),V.ref e.2.2)) (Sum.inr x) (.ref a)))) p b m:=aL.keep (Keep.wr (xs:=[d]) Qc) (by simpa using npd)
 generalize upd H1 d (.dK (putK (es.map λe=>((Sum.inr e.1:Key),V.ref e.2.2)) (Sum.inr x) (.ref a)))=H2 at R2 k2 ak aB
 have cU:rsOf (es++[(x,[],a)])=rsOf es++[(x,[])]:=by unfold rsOf;rw[List.map_append];rfl
 have iO:x∉(rsOf es).map (·.1):=by rw[zbk];exact hx
 have D2:Dr H2 d (es++[(x,[],a)]):=⟨R2,by rw[cU];exact za1.new _ _ D0.gd iO,by rw[Qt];show _+1≤40;omega⟩
 refine⟨_,rfl,p,b,m,8,rfl,aB,by decide,by decide,λd3 b3 m3 H3 lR r9 ay eV=>?_⟩
 have k3:=zba eV
 have D3:=D2.pot aB k3
 have gy:Keep [p,d] H H3:=(k2.sub (by simp)).trans (k3.sub (by simp))
 have eS:∀y∈[p,d],y∈p::d::es.map (·.2.2):=λy hy=>by
  rcases Qe.mp hy with z | z
  ·rw[z];exact Qc
  ·rw[Qb.mp z];exact Qf _ Qc
 have ad2:∀c∈(es++[(x,([]:List Str),a)]).map (·.2.2),c∈es.map (·.2.2)∨H c=none:=λc hc=>by
  rw[Qn]at hc
  rcases Qj.mp hc with z | z
  ·exact .inl z
  ·rw[Qb.mp z];exact .inr cF
 refine⟨_,_,rfl,rfl,_,rfl,?_⟩
 refine ite2 (λ_=>?_) (λ_=>?_)
 ·have aP:=k3 _ _ ak (by simpa using zbt aB ak)
  have hn0:0<es.length:=Uf.mpr az
  have aI:((es.map (·.1)).map V.str).length=es.length:=by rw[Qa,Qa]
  refine⟨_,rfl,_,rfl,_,rfl,l,_,rfl,.inl (SqL.of aP),p,b3,m3,_,rfl,ay,by rw[aI];omega,by rw[aI];omega,λj1 b4 m4 H4 r8 r6 cj iL=>?_⟩
  obtain⟨j,rfl⟩:=Zt r8
  have hj:j<es.length:=by rw[aI]at r6;omega
  have k4:=zba iL
  have aR:=k4 _ _ aP (by simpa using zbt ay aP)
  refine⟨l,_,_,_,rfl,rfl,SqL.of aR,zap (by rw[Qq,Qq,Qd hj];rfl),?_⟩
  have D4:=D3.pot ay k4
  have dS:es[j]∈es:=Zb hj
  generalize es[j]=e at dS
  have j9:e∈es++[(x,([]:List Str),a)]:=Qp _ dS
  have ef:(x,([]:List Str),a)∈es++[(x,([]:List Str),a)]:=Qo _ Qc
  have nex:e.1≠x:=λq=>hx (q▸Qh.mpr ⟨e,dS,rfl⟩)
  have g4:=DGet.k (k:=Sum.inr e.1) D4.rn.dc
  rw[zb6 D4.rn.nd j9]at g4
  have gC:=D4.rn.ro e j9
  have aV:=D4.row e j9
  have jR:(e.2.1.map V.str).length=e.2.1.length:=Qa ..
  refine⟨_,rfl,_,rfl,d,_,rfl,g4,(by show 0≤sizeLine;decide),λq hq=>?_⟩
  have nq:e.2.2≠q:=zab gC hq
  refine⟨e.2.2,q,_,rfl,rfl,SqL.of (by rw[zad nq];exact gC),SqL.of zac,_,rfl,?_⟩
  have k5:Keep [] H4 (upd H4 q (.lst [])):=Keep.new hq
  have D5:=D4.k0 k5
  have bz:Pot (upd H4 q (.lst [])) p b4 m4:=cj.keep k5 (by simp)
  have lA:Keep [p,d] H (upd H4 q (.lst [])):=(gy.trans (k4.sub (by simp))).trans (k5.sub (by simp))
  generalize upd H4 q (.lst [])=H5 at D5 bz lA
  have fin:∀(c:Option Str) (b6 m6:Int) (H6:Hp),(∀y,c=some y→y∈e.2.1)→(c=none→e.2.1=[])→Pot H6 p b6 m6→Dr H6 d (es++[(x,[],a)])→Keep [p,d] H H6 →
    IspTie [.ref d,.str e.1,zf5 c,.str x,.non] H6 (λ_ H'=>Q .non H'):=λc b6 m6 H6 hc eO dM D6 k06=>by
   refine⟨d,_,e,(x,[],a),c,none,rfl,D6.rn,j9,ef,nex,hc,λy z=>(by cases z),Zl aV (by decide),Zg _,λH7 R7 k7=>?_⟩
   have jD:(x,([]:List Str),a)∈setE (es++[(x,[],a)]) e.1 (ins e.2.1 c x) e.2.2:=zcw ef (Qu nex)
   have eI:p∉[e.2.2,a]:=by
    have q1:=zbt dM (D6.rn.ro e j9)
    have q2:a≠p:=zbt dM (zs:=[]) (D6.rn.ro _ ef)
    simp
    exact⟨Qu q1,Qu q2⟩
   have nd6:((es++[(x,([]:List Str),a)]).map (·.1)).Nodup:=D6.rn.nd
   refine k b6 m6 _ H7 (dM.keep k7 eI) ⟨⟨R7,?_,?_⟩,?_,λc hc=>?_,?_⟩
   ·rw [zb1,zb1,cU]
    exact za1.leaf (rsOf es) x (e.1,e.2.1) c D0.gd iO (Qh.mpr ⟨e,dS,rfl⟩) hc eO
   ·unfold setE
    rw[Qa,Qa]
    exact D6.few
   ·rw[zaw,zaw,Qn];rfl
   ·rw [zb3 (e:=(x,([]:List Str),a)) (by rw [zaw];exact nd6) jD,zb3 nd6 j9] at hc
    exact ad2 c hc
   ·refine fun c o ec hc=>k7 c o (k06 c o ec fun z=>hc (eS c z)) ?_
    simp
    exact⟨out3 hc dS,zab ec cF⟩
  have j8:(e.2.1.map V.str).isEmpty=e.2.1.isEmpty:=by cases e.2.1<;>rfl
  rw[if_pos rfl,j8]
  by_cases hb:e.2.1=[]
  ·rw [hb]
   refine iteF ?_
   exact⟨_,rfl,_,rfl,_,rfl,_,rfl,fin none b4 m4 H5 (λy z=>by cases z) (λ_=>hb) bz D5 lA⟩
  ·have cM:e.2.1.isEmpty=false:=by simpa using hb
   rw[cM]
   refine iteT ?_
   have g5:=DGet.k (k:=Sum.inr e.1) D5.rn.dc
   rw[zb6 D5.rn.nd j9]at g5
   have o0:=D5.rn.ro e j9
   have h0:0<e.2.1.length:=Uf.mpr hb
   refine⟨_,rfl,_,rfl,d,_,rfl,g5,_,rfl,_,rfl,_,rfl,d,_,rfl,g5,e.2.2,_,rfl,.inl (SqL.of o0),p,b4,m4,_,rfl,bz,by rw[jR];omega,by rw[jR];omega,λi1 b6 m6 H6 pS qZ dM eU=>?_⟩
   obtain⟨i,rfl⟩:=Zt pS
   have hi:i<e.2.1.length:=by rw[jR]at qZ;omega
   have k6:=zba eU
   have hr6:=k6 _ _ o0 (by simpa using zbt bz o0)
   refine⟨e.2.2,_,_,_,rfl,rfl,SqL.of hr6,zap (by rw[Qq,Qd hi];rfl),?_⟩
   exact⟨_,rfl,_,rfl,_,rfl,_,rfl,fin (some e.2.1[i]) b6 m6 H6 (λy z=>by rw[←Qk z];exact Zb hi) (λz=>by cases z) dM (D5.pot bz k6) (lA.trans (k6.sub (by simp)))⟩
 ·exact k b3 m3 _ H3 ay ⟨D3,by rw[Qn];rfl,ad2,gy.sub eS⟩
def zd8:zan [qR,qP, "_law_step_here", "_law_row", "_law_after",qO] [qR,qP] (zag zhh):=fsk
def ok_across{f ft fi fs ff:Nc}{fd fdt fdi fds fdf:Np}(F:Fun K "_law_across" "_law_across" zhh f fd)(FT:Fun K qD qD zfo ft fdt)(bT:Binds K fdt [qP,qM] [])(mT:mg qD=some (.ref ft))(GT:FnOk P w K mg base CX0 1 ft fdt [qP,qM] zd3)(FI:Fun K "_law_tie" "_law_tie" sTie fi fdi)(bI:Binds K fdi [qR, "_law_one",qB,qO, "_law_after"] [])(mI:mg "_law_tie" = some (.ref fi))(GI:FnOk P w K mg base CX0 2 fi fdi [qR, "_law_one",qB,qO, "_law_after"] spTie)(FS:Fun K "_law_step" "_law_step" zhc fs fds)(bS:Binds K fds [qR,qP] [])(mS:mg "_law_step" = some (.ref fs))(GS:FnOk P w K mg base CX0 2 fs fds [qR,qP] spStep)(FF:Fun K "_law_face" "_law_face" sFace ff fdf)(bF:Binds K fdf [qR, "_law_step_here"] [])(mF:mg "_law_face" = some (.ref ff))(GF:FnOk P w K mg base CX0 2 ff fdf [qR, "_law_step_here"] spFace)(ah:mg "len" = none):FnOk P w K mg base CX0 3 f fd [qR,qP] zfb:=by
 refine F.okL zd8 (λcdv A outer s0 H vs Q E hr h=>?_)
 obtain⟨p,d,b,m,es,rfl,hp,D0,k⟩:=h
 have R:=D0.rn.toRAt
 have hu:=zcb hr
 have aA:Room 1 _:=hr.mono (by decide)
 have aJ  := sizeLine_eq
 have i0:∀x y:V,atI [x,y] ((0:Nat):Int)=some x:=λx y=>zap rfl
 have i1:∀x y:V,atI [x,y] ((1:Nat):Int)=some y:=λx y=>zap rfl
 refine⟨_,zae (zat 2 zd8.nd (zaj GS hr rfl mS FS.kp bS .nil zav (zaa (pv 0) (zaa (pv 1) zaf))))
  (zah (zbr (zc7 (zhr (pv 2)))
   (zae (zat 3 zd8.nd (zaj GF hr rfl mF FF.kp bF .nil zav (zaa (pv 0) (zaa (pv 2) zaf))))
   (zae (ps_asg (zaz zao (pv 3) (zaj GT aA rfl mT FT.kp bT .nil zav (zaa (pv 1) (zaa (zak zaq (by rfl) ah Zw (zaa (pv 3) zaf)) zaf))) (fun _ _=>rfl))
    (zex rfl (za4 (zbb 4 zd8.nd) (za4 (zbb 5 zd8.nd) zch))))
   (zah (zbr (PW.pt (pw_and (zas op_ne (pv 5) (zaz zca (pv 2) zai (fun _ _=>rfl)) (zbf _)) (zfp (zas zcn (pv 5) (zcf hu (pv 0) (zaz zca (pv 2) zai (fun _ _=>rfl))) rfl))))
    (zah (za3 (zaj GI hr rfl mI FI.kp bI .nil zav (zaa (pv 0) (zaa (zaz zca (pv 2) zai (λ_ _=>rfl)) (zaa (zaz zca (pv 2) zai (λ_ _=>rfl)) (zaa (pv 5) (zaa (pv 4) zaf)))))))) za2))))
   za2)),?_⟩
 have eT:∀y∈[p],y∈p::d::es.map (·.2.2):=λy hy=>by rw[Qb.mp hy];exact Qc
 have none':∀(b1 m1:Int) (H1:Hp),Pot H1 p b1 m1→Dr H1 d es→Keep [p] H H1→Q .non H1:=λb1 m1 H1 aL D1 k1 =>
  k b1 m1 es H1 aL ⟨D1,(Zu _).symm,λc hc=>.inl hc,k1.sub eT⟩
 refine⟨_,rfl,_,rfl,p,d,b,m,es,rfl,hp,D0,λb1 m1 H1 aL k1=>?_,λt s b1 m1 H1 hft dE ap aL k1=>?_⟩
 ·refine ⟨_,rfl,_,rfl,iteF ?_⟩
  exact none' b1 m1 H1 aL (D0.pot hp k1) k1
 ·refine ⟨_,rfl,_,rfl,iteT ?_⟩
  have D1:=D0.pot hp k1
  refine⟨_,rfl,_,rfl,d,t,es,s,rfl,D1.rn.toRAt,ap,D0.gd,D0.few,dE,λl as n H2 kH ak pa nd hL k2=>?_⟩
  have aB:Pot H2 p b1 m1:=aL.keep k2 (by simp)
  have cO:as.length=n+1:=by
   have:=Yo pa
   unfold Wb.run at this
   rw[Qa,Yd]at this
   exact this
  have aI:(as.map V.ref).length=n+1:=by rw[Qa,cO]
  have hnb:n+1≤1600:=by
   have:=zef nd (m:=zif (rsOf es)) λx hx=>by
    obtain⟨i,_,rfl⟩:=Qh.mp hx
    exact zfu.mpr (zfz (za1.clo _ D0.gd) ap i)
   unfold Wb.run at this
   rw[Qa,Yd]at this
   exact Zl this (za1.steps D0.gd (by rw[show(rsOf es).length=es.length from Qa ..];exact D0.few))
  refine⟨_,rfl,_,rfl,_,rfl,l,_,rfl,.inl (SqL.of ak),p,b1,m1,_,rfl,aB,by rw[aI];omega,by rw[aI];omega,λj1 b3 m3 H3 lR r9 ay eV=>?_⟩
  obtain⟨j,rfl⟩:=Zt lR
  have hj:j<n+1:=by rw[aI]at r9;omega
  have hja:j<as.length:=by omega
  have k3:=zba eV
  have nlp:l≠p:=zax ak aB.1 (by
   intro z
   injection z with z
   rcases as with _ | ⟨_,_⟩<;>cases z)
  have aP:H3 l=some (.lst (as.map V.ref)):=k3 _ _ ak (by simpa using nlp)
  obtain⟨oM,gK⟩:=zbd pa hja
  have dq:=k2 _ _ dE (by simp)
  have ntp:∀{c:Nc} {u v:V},H2 c=some (.tup [u,v])→c≠p:=λhc=>zax hc aB.1 (by intro z;cases z)
  have pE:=k3 _ _ gK (by simpa using ntp gK)
  have dm:=k3 _ _ dq (by simpa using ntp dq)
  have eq:(run (rsOf es) s (n+1))[j]=itr (rsOf es) s j:=by simp[Wb.run]
  rw[eq]at pE
  refine⟨l,_,_,_,rfl,rfl,SqL.of aP,zap (by rw[Qq,Qd hja];rfl),as[j],_,rfl,SqT.of pE,rfl,_,_,rfl,_,_,rfl,rfl,?_⟩
  have D3:=(D1.k0 k2).pot aB k3
  have gy:Keep [p] H H3:=(k1.trans (k2.sub (by simp))).trans k3
  have hqs:=zfz (za1.clo _ D0.gd) ap j
  obtain⟨e1,dU,e2,cv,q1,q2,qm,lq,cS⟩:=zg8 D0.gd ap
  obtain⟨f1,hf1,f2,j7,p1,p2,m3',m4',n34⟩:=zg8 D0.gd hqs
  refine⟨_,rfl,_,rfl,t,_,_,_,rfl,rfl,SqT.of dm,i1 _ _,rfl,_,rfl,?_⟩
  by_cases c1:(itr (rsOf es) s j).2=s.2
  ·refine zcq (by show (!decide (V.str (itr (rsOf es) s j).2=V.str s.2))=false;rw [c1,decide_eq_true rfl];rfl) ?_
   exact none' b3 m3 H3 ay D3 gy
  ·refine zdj (by show (!decide (V.str (itr (rsOf es) s j).2=V.str s.2))=true;rw [decide_eq_false (fun z=>c1 (by injection z))];rfl) ?_
   have g3:=DGet.k (k:=Sum.inr e2.1) D3.rn.dc
   rw[zb6 D3.rn.nd cv,q2]at g3
   have lD:=D3.rn.ro e2 cv
   refine⟨_,rfl,_,rfl,_,rfl,t,_,_,_,rfl,rfl,SqT.of dm,i1 _ _,d,_,rfl,g3,e2.2.2,_,rfl,.inl (SqL.of lD),rfl,zcj _,_,rfl,?_⟩
   rw[zf2]
   by_cases c2:(itr (rsOf es) s j).2∈e2.2.1
   ·refine zcq (by rw [decide_eq_true c2];rfl) ?_
    exact none' b3 m3 H3 ay D3 gy
   ·refine zdj (by rw [decide_eq_false c2];rfl) ?_
    have nef:e2.1≠f2.1:=λz=>c1 (by rw[←p2,←z,q2])
    refine⟨_,rfl,_,rfl,t,_,_,_,rfl,rfl,SqT.of dm,i1 _ _,_,rfl,t,_,_,_,rfl,rfl,SqT.of dm,i0 _ _,_,rfl,_,rfl,d,es,e2,f2,some s.1,some (itr (rsOf es) s j).1,by rw[q2,p2];rfl,D3.rn,cv,j7,nef,λy z=>by rw[←Qk z];exact lq,λy z=>by rw[←Qk z];exact m4',Zl (D3.row e2 cv) (by decide),Zl (D3.row f2 j7) (by decide),λH4 R4 k4=>?_⟩
    have uH:f2∈setE es e2.1 (ins e2.2.1 (some s.1) f2.1) e2.2.2:=zcw j7 (Qu nef)
    have eI:p∉[e2.2.2,f2.2.2]:=by
     have z1:=zbt ay lD
     have z2:=zbt ay (D3.rn.ro f2 j7)
     simp
     exact⟨Qu z1,Qu z2⟩
    refine k b3 m3 _ H4 (ay.keep k4 eI) ⟨⟨R4,?_,?_⟩,?_,λc hc=>.inl ?_,?_⟩
    ·rw [zb1,zb1]
     have hs:s=(s.1,e2.1):=Uu rfl q2.symm
     have:=za1.tie (rsOf es) s.1 (e2.1,e2.2.1) j D0.gd (Qh.mpr ⟨e2,cv,rfl⟩) lq (by show(itr (rsOf es) (s.1,e2.1) j).2≠e2.1;rw[←hs];exact λz=>nef (by rw[p2];exact z.symm)) (by show(itr (rsOf es) (s.1,e2.1) j).2∉e2.2.1;rw[←hs];exact c2)
     simp only[←hs]at this
     rw[←p2,zbl R.nd j7]at this
     exact this
    ·unfold setE
     rw[Qa,Qa]
     exact D0.few
    ·rw[zaw,zaw,Zu]
    ·rw [zb3 (by rw [zaw];exact R.nd) uH,zb3 R.nd cv] at hc
     exact hc
    ·refine fun c o ec hc=>k4 c o (gy c o ec fun z=>hc (eT c z)) ?_
     simp
     exact⟨out3 hc cv,out3 hc j7⟩
end
end K21
end
section
namespace Wb
section
variable{α:Type}[DecidableEq α]
def zf4{A B:List α}{n:α}(h:n∉A):(A++n::B).erase n=A++B:=by
 rw[List.erase_append_right _ h,List.erase_cons_head]
def nxt_erase{zs:List α}(nd:zs.Nodup){n w:α}(hn:n∈zs)(hw:w∈zs)(iQ:w≠n):nxt (zs.erase n) w=if nxt zs w=n then nxt zs n else nxt zs w:=by
 obtain⟨A,B,rfl,hA,hB⟩:=zbo hw nd
 have k1:=za8 (B:=B) hA
 rw[Ze,Qs]at nd
 obtain⟨nA,⟨_,nB⟩,nAB⟩:=nd
 rcases Qj.mp hn with h | h
 ·obtain ⟨A1,A2,rfl,h1,h2⟩:=zbo h nA
  have e0:(A1++n::A2)++w::B=A1++n::(A2++w::B):=by rw[Qw];rfl
  have hw':w∉A1++A2:=λz=>hA (by
   rcases Qj.mp z with q | q
   ·exact Qp _ q
   ·exact Qo _ (Qf _ q))
  have k2:=za8 (B:=B) hw'
  have e1:((A1++n::A2)++w::B).erase n=(A1++A2)++w::B:=by rw[e0,zf4 h1,Qw]
  have k3:=za8 (B:=A2++w::B) h1
  rw[←e0]at k3
  rw[e1]
  cases B with
  |cons b t =>
   have q1:=Qk k1;have q2:=Qk k2
   rw[if_neg (λz=>nAB n h n (Qf _ (by rw[q1.trans z];exact Qc)) rfl)]
   exact q2.symm.trans q1
  | nil =>
   cases A1 with
   |cons a t =>
    have q1:=Qk k1;have q2:=Qk k2
    rw[if_neg (λz=>h1 (by rw[q1.trans z];exact Qc))]
    exact q2.symm.trans q1
   |nil =>
    have q1:=Qk k1
    rw[if_pos q1.symm]
    refine Qk (k2.symm.trans (Eq.trans ?_ k3))
    cases A2<;>rfl
 ·have h':n∈B:=by
   rcases Qe.mp h with z | z
   ·exact absurd z.symm iQ
   ·exact z
  obtain⟨B1,B2,rfl,h1,h2⟩:=zbo h' nB
  have tX:n∉A:=λz=>nAB n z n h rfl
  have hm:n∉A++w::B1:=by
   simp only[Qj,Qe,not_or];exact⟨tX,λz=>iQ z.symm,h1⟩
  have e0:A++w::(B1++n::B2)=(A++w::B1)++n::B2:=by rw[Qw];rfl
  have e1:(A++w::(B1++n::B2)).erase n=A++w::(B1++B2):=by rw[e0,zf4 hm,Qw];rfl
  have k2:=za8 (B:=B1++B2) hA
  have k3:=za8 (B:=B2) hm
  rw[←e0]at k3
  rw[e1]
  cases B1 with
  |cons b t =>
   have q1:=Qk k1;have q2:=Qk k2
   rw[if_neg (λz=>h1 (by rw[q1.trans z];exact Qc))]
   exact q2.symm.trans q1
  |nil =>
   have q1:=Qk k1
   rw[if_pos q1.symm]
   refine Qk (k2.symm.trans (Eq.trans ?_ k3))
   cases B2 with
   |cons b t=>rfl
   |nil=>cases A<;>rfl
def nxt_self{zs:List α}(nd:zs.Nodup)(hw:w∈zs)(h:nxt zs w=w):zs=[w]:=by
 obtain⟨A,B,rfl,hA,hB⟩:=zbo hw nd
 have k:=za8 (B:=B) hA
 rw[h]at k
 cases B with
 |cons b t=>exact absurd (by rw[←Qk k];exact Qc) hB
 |nil =>
  cases A with
  |nil=>rfl
  |cons a t=>exact absurd (by rw[←Qk k];exact Qc) hA
structure Web(ns:List α)(r:α→List α)(cs:List (List (α×α))):Prop where
 nd:ns.Nodup
 ro:∀x,x∉ns→r x=[]
 rn:∀x,(r x).Nodup
 ir:∀x,x∉r x
 sy:∀x y,y∈r x→x∈r y
 cf:cs.flatten.Nodup
 cm:∀s,s∈cs.flatten↔s.1∈r s.2
 cy:∀c∈cs,Cyc (st r) c
def vl(r:α→List α)(x:α):Int:=2+(if r x=[] then 2 else 0)-((r x).length:Int)
def tot(ns:List α)(r:α→List α)(cs:List (List (α×α))):Int:=(ns.map (vl r)).sum+2*(cs.length:Int)
structure Flat(ns:List α)(r:α→List α)(cs:List (List (α×α))):Prop extends Web ns r cs where
 fl:∀T:List α,(∀t∈T,t∈ns)→T.Pairwise (λx y=>¬Conn r x y)→4*(T.length:Int)≤tot ns r cs
def Conn.symm{r:α→List α}(sy:∀x y,y∈r x→x∈r y)(h:Conn r x y):Conn r y x:=by
 induction h with
 |refl=>exact .refl
 |step a hz ih=>exact Conn.trans (.step .refl (sy _ _ hz)) ih
variable{ns:List α}{r r':α→List α}{cs:List (List (α×α))}
def Web.inn(C:Web ns r cs)(h:y∈r x):x∈ns:=Kh λz=>by rw[C.ro x z]at h;cases h
structure Less(r r':α→List α)(v u:α):Prop where
 tie:u∈r v
 one:r' v=(r v).erase u
 two:r' u=(r u).erase v
 els:∀x,x≠v→x≠u→r' x=r x
section del
variable{v u:α}(C:Web ns r cs)(L:Less r r' v u)
include C L
theorem del_ne:v≠u:=λe=>C.ir u (by have:=L.tie;rwa[e]at this)
theorem zb2(s:α×α):s.1∈r' s.2↔s.1∈r s.2∧s≠(v,u)∧s≠(u,v):=by
 obtain⟨a,b⟩:=s
 have eB:=del_ne C L
 by_cases hb:b=v
 ·subst hb
  show a∈r' b↔a∈r b∧_
  rw[L.one,(C.rn b).mem_erase_iff]
  constructor
  ·rintro ⟨h1,h2⟩
   exact⟨h2,λe=>eB (congrArg Prod.snd e),λe=>h1 (congrArg Prod.fst e)⟩
  ·rintro ⟨h1,h2,h3⟩
   exact⟨λe=>h3 (by rw[e]),h1⟩
 ·by_cases cb:b=u
  ·subst cb
   show a∈r' b↔a∈r b∧_
   rw[L.two,(C.rn b).mem_erase_iff]
   constructor
   ·rintro ⟨h1,h2⟩
    exact⟨h2,λe=>h1 (congrArg Prod.fst e),λe=>hb (congrArg Prod.snd e)⟩
   ·rintro ⟨h1,h2,h3⟩
    exact⟨λe=>h2 (by rw[e]),h1⟩
  ·show a∈r' b↔a∈r b∧_
   rw[L.els b hb cb]
   exact⟨λh=>⟨h,λe=>cb (congrArg Prod.snd e),λe=>hb (congrArg Prod.snd e)⟩,λh=>h.1⟩
theorem del_st{s:α×α}(hs:s.1∈r' s.2):st r' s=if st r s=(v,u) then st r (u,v) else if st r s=(u,v) then st r (v,u) else st r s:=by
 have hm:=(zb2 C L s).mp hs
 obtain⟨a,b⟩:=s
 have eB:=del_ne C L
 obtain⟨ha,gG,ba⟩:=hm
 by_cases hb:b=v
 ·subst hb
  have va:a≠u:=λe=>ba (by rw[e])
  have k:=nxt_erase (C.rn b) L.tie ha va
  show(b,nxt (r' b) a)=if(b,nxt (r b) a)=(b,u) then(b,nxt (r b) u) else if(b,nxt (r b) a)=(u,b) then _ else(b,nxt (r b) a)
  rw[L.one,k]
  by_cases h:nxt (r b) a=u
  ·rw[if_pos h,if_pos (by rw[h])]
  ·rw[if_neg h,if_neg (λe=>h (congrArg Prod.snd e)),if_neg (λe=>eB (congrArg Prod.fst e))]
 ·by_cases cb:b=u
  ·subst cb
   have va:a≠v:=λe=>gG (by rw[e])
   have k:=nxt_erase (C.rn b) (C.sy _ _ L.tie) ha va
   show(b,nxt (r' b) a)=if(b,nxt (r b) a)=(v,b) then _ else if(b,nxt (r b) a)=(b,v) then(b,nxt (r b) v) else(b,nxt (r b) a)
   rw[L.two,k,if_neg (λe=>hb (congrArg Prod.fst e))]
   by_cases h:nxt (r b) a=v
   ·rw[if_pos h,if_pos (by rw[h])]
   ·rw[if_neg h,if_neg (λe=>h (congrArg Prod.snd e))]
  ·show (b,nxt (r' b) a)=if (b,nxt (r b) a)=(v,u) then _ else if (b,nxt (r b) a)=(u,v) then _ else (b,nxt (r b) a)
   rw[if_neg (λe=>hb (congrArg Prod.fst e)),if_neg (λe=>cb (congrArg Prod.fst e)),L.els b hb cb]
theorem del_web(hp:cs.flatten.Perm ((v,u)::(u,v)::cs'.flatten))(hc:∀c∈cs',Cyc (st r') c):Web ns r' cs':=by
 have eB:=del_ne C L
 have nd:=hp.nodup_iff.mp C.cf
 rw[Qs,Qs,Qe,not_or]at nd
 refine⟨C.nd,λx hx=>?_,λx=>?_,λx h=>?_,λx y h=>?_,nd.2.2,λs=>?_,hc⟩
 ·have hv:x≠v:=fun e=>hx (by rw [e];exact C.inn L.tie)
  have hu:x≠u:=λe=>hx (by rw[e];exact C.inn (C.sy _ _ L.tie))
  rw[L.els x hv hu,C.ro x hx]
 ·by_cases h1:x=v
  ·rw[h1,L.one];exact(C.rn v).erase _
  ·by_cases h2:x=u
   ·rw[h2,L.two];exact(C.rn u).erase _
   ·rw[L.els x h1 h2];exact C.rn x
 ·exact C.ir x ((zb2 C L (x,x)).mp h).1
 ·obtain ⟨h1,h2,h3⟩:=(zb2 C L (y,x)).mp h
  exact(zb2 C L (x,y)).mpr ⟨C.sy x y h1,λe=>h3 (by cases e;rfl),λe=>h2 (by cases e;rfl)⟩
 ·rw [zb2 C L,← C.cm,hp.mem_iff,Qe,Qe]
  constructor
  ·intro h
   exact⟨.inr (.inr h),λe=>nd.1.2 (e▸h),λe=>nd.2.1 (e▸h)⟩
  ·rintro ⟨h | h | h,h2,h3⟩
   ·exact absurd h h2
   ·exact absurd h h3
   ·exact h
theorem del_tot:tot ns r' cs'=tot ns r cs+2+(if r' v=[] then 2 else 0)+(if r' u=[] then 2 else 0)+2*((cs'.length:Int)-(cs.length:Int)):=by
 have eB:=del_ne C L
 have hv:=C.inn L.tie
 have hu:=C.inn (C.sy _ _ L.tie)
 have e1:=zen (g:=vl r) (g':=λx=>if x=v then vl r' v else vl r x) C.nd hv λx _ h=>if_neg h
 have e2:=zen (g:=λx=>if x=v then vl r' v else vl r x) (g':=vl r') C.nd hu λx _ h=>by
  show vl r' x=if x=v then vl r' v else vl r x
  by_cases hx:x=v
  ·rw[if_pos hx,hx]
  ·rw[if_neg hx];unfold vl;rw[L.els x hx h]
 have a1:(if v=v then vl r' v else vl r v)=vl r' v:=if_pos rfl
 have a2:(if u=v then vl r' v else vl r u)=vl r u:=if_neg λe=>eB e.symm
 have l1:=Yl L.tie
 have l2:=Yl (C.sy _ _ L.tie)
 have p1:=Yj L.tie
 have p2:=Yj (C.sy _ _ L.tie)
 have n1:r v≠[]:=λe=>by have:=L.tie;rw[e]at this;cases this
 have n2:r u≠[]:=λe=>by have:=C.sy _ _ L.tie;rw[e]at this;cases this
 have b1:vl r' v=vl r v+1+(if r' v=[] then 2 else 0):=by
  unfold vl;rw[if_neg n1];rw[←L.one]at l1;rw[l1];omega
 have b2:vl r' u=vl r u+1+(if r' u=[] then 2 else 0):=by
  unfold vl;rw[if_neg n2];rw[←L.two]at l2;rw[l2];omega
 unfold tot
 rw[e2,e1]
 show(_+((if v=v then vl r' v else vl r v)-vl r v))+(vl r' u-(if u=v then vl r' v else vl r u))+_=_
 rw[a1,a2,b1,b2];omega
theorem del_conn(h:Conn r x y):Conn r' x y∨(Conn r' x v∧Conn r' u y)∨(Conn r' x u∧Conn r' v y):=by
 induction h with
 |refl=>exact .inl .refl
 | @step y z a hz ih =>
  by_cases h1:(z,y)=(v,u)
  ·cases h1
   rcases ih with h | ⟨h,_⟩ | ⟨h,_⟩
   ·exact .inr (.inr ⟨h,.refl⟩)
   ·exact .inl h
   ·exact .inr (.inr ⟨h,.refl⟩)
  ·by_cases h2:(z,y)=(u,v)
   ·cases h2
    rcases ih with h | ⟨h,_⟩ | ⟨h,_⟩
    ·exact .inr (.inl ⟨h,.refl⟩)
    ·exact .inr (.inl ⟨h,.refl⟩)
    ·exact .inl h
   ·have ce:z∈r' y:=(zb2 C L (z,y)).mpr ⟨hz,h1,h2⟩
    rcases ih with h | ⟨h,k⟩ | ⟨h,k⟩
    ·exact .inl (.step h ce)
    ·exact .inr (.inl ⟨h,.step k ce⟩)
    ·exact .inr (.inr ⟨h,.step k ce⟩)
end del
end
section
variable{α:Type}[DecidableEq α]{ns:List α}{r r':α→List α}{cs:List (List (α×α))}
def Web.iso(C:Web ns r cs)(h:p∈r q):(r q).erase p=[]↔st r (p,q)=(q,p):=by
 constructor
 ·intro e
  have l:=Yl h
  rw[e]at l
  have p1:=Yj h
  obtain⟨a,ha⟩:=List.length_eq_one_iff.mp (show(r q).length=1 by simp at l;omega)
  rw[ha]at h
  have:p=a:=Qb.mp h
  show(q,nxt (r q) p)=_
  rw[ha,this,zhu]
 ·intro e
  have:=nxt_self (C.rn q) h (congrArg Prod.snd e)
  rw[this,List.erase_cons_head]
section del
variable{v u:α}(C:Web ns r cs)(L:Less r r' v u)
include C L
theorem lk_del:∀{t:List (α×α)} {s:α×α},Lk (st r) s t x→(∀y,y=s∨y∈t→y.1∈r' y.2)→Lk (st r') s t (if x=(v,u) then st r (u,v) else if x=(u,v) then st r (v,u) else x):=by
 intro t
 induction t with
 |nil=>intro s k h;rw[←show st r s=x from k];exact del_st C L (h s (.inl rfl))
 |cons a t ih =>
  intro s k h
  refine⟨?_,ih k.2 λy hy=>h y (.inr (Qe.mpr hy))⟩
  have ha:=((zb2 C L a).mp (h a (.inr Qc))).2
  rw[del_st C L (h s (.inl rfl)),k.1,if_neg ha.1,if_neg ha.2]
theorem rest_cyc(hc:c∈cs)(h1:(v,u)∉c)(h2:(u,v)∉c):Cyc (st r') c:=by
 refine zei (λy hy=>?_) (C.cy c hc)
 have hn:=zh3 (C.cy c hc) hy
 have fC:y.1∈r' y.2:=(zb2 C L y).mpr ⟨(C.cm y).mp (Zs.mpr ⟨c,hc,hy⟩),λe=>h1 (e▸hy),λe=>h2 (e▸hy)⟩
 rw[del_st C L fC,if_neg (show st r y≠(v,u) from λe=>h1 (by rw[←e];exact hn)),if_neg (show st r y≠(u,v) from λe=>h2 (by rw[←e];exact hn))]
theorem lk_conn(sy:∀x y,y∈r' x→x∈r' y):∀{t:List (α×α)} {s:α×α},Lk (st r) s t x→(∀y,y=s∨y∈t→y.1∈r' y.2)→Conn r' s.1 x.1:=by
 intro t
 induction t with
 |nil=>intro s k h;rw[←show st r s=x from k];exact .step .refl (sy _ _ (h s (.inl rfl)))
 |cons a t ih =>
  intro s k h
  refine Conn.trans (.step .refl (sy _ _ (h s (.inl rfl)))) ?_
  have:=ih k.2 λy hy=>h y (.inr (Qe.mpr hy))
  rwa[show a.1=s.2 by rw[←k.1];rfl]at this
end del
def filter_one{T:List α}{R:α→α→Prop}{P:α→Bool}(h:T.Pairwise fun x y=>¬ R x y)(hR:∀ x y,P x=false→P y=false→R x y):T.length≤(T.filter P).length+1:=by
 induction T with
 |nil=>exact Zg _
 | cons a t ih =>
  rw[Ka]at h
  by_cases ha:P a=true
  ·rw [Zx ha]
   have:=ih h.2
   rw[Qx,Qx];omega
  ·rw [Zy ha]
   have:t.filter P=t:=List.filter_eq_self.mpr λy hy=>by
    cases e:P y with
    |true=>rfl
    |false=>exact absurd (hR a y (by simpa using ha) e) (h.1 y hy)
   rw[this];exact Qg _
def web_less(C:Web ns r cs)(L:Less r r' v u):∃ cs',Web ns r' cs'∧(tot ns r' cs'=tot ns r cs∧Conn r' u v∨tot ns r' cs'=tot ns r cs+4):=by
 have eB:=del_ne C L
 have u5:v∈r u:=C.sy _ _ L.tie
 have az:((u,v):α×α)≠(v,u):=λe=>eB (congrArg Prod.snd e)
 obtain⟨c,hc,hec⟩:=Zs.mp ((C.cm (v,u)).mpr u5)
 obtain⟨P,Q,ecq⟩:=Ym hec
 have k0:Lk (st r) (v,u) (Q++P) (v,u):=zcz (ecq▸C.cy c hc)
 have pc:c.Perm ((v,u)::(Q++P)):=by
  rw[ecq];exact Ji.trans ((Yu).cons _)
 by_cases hb:(u,v)∈c
 ·have cM:(u,v)∈Q++P:=by
   rcases Qe.mp (pc.mem_iff.mp hb) with z | z
   ·exact absurd z az
   ·exact z
  obtain⟨A,B,eAB⟩:=Ym cM
  rw[eAB]at k0 pc
  obtain⟨kA,kB⟩:=lk_app.mp k0
  have qj:c.Perm ((v,u)::(u,v)::(A++B)):=pc.trans (Ji.cons _)
  let N:List (List (α×α)):=(if A=[] then[] else[A])++(if B=[] then[] else[B])
  have hN:N.flatten=A++B:=by
   show((if A=[] then[] else[A])++(if B=[] then[] else[B])).flatten=_
   rw[Wh]
   congr 1
   ·by_cases h:A=[]
    ·rw[if_pos h,h];rfl
    ·rw[if_neg h];simp
   ·by_cases h:B=[]
    ·rw[if_pos h,h];rfl
    ·rw[if_neg h];simp
  have hp:cs.flatten.Perm ((v,u)::(u,v)::(N++cs.erase c).flatten):=by
   rw[Wh,hN]
   refine(zb0 hc).trans ((qj.append_right _).trans ?_)
   exact List.Perm.refl _
  have nd:=hp.nodup_iff.mp C.cf
  have ax:∀y,y∈(N++cs.erase c).flatten→y.1∈r' y.2:=λy hy=>by
   rw[Qs,Qs,Qe,not_or]at nd
   exact(zb2 C L y).mpr ⟨(C.cm y).mp (hp.mem_iff.mpr (Qf _ (Qf _ hy))),λe=>nd.1.2 (e▸hy),λe=>nd.2.1 (e▸hy)⟩
  have dQ:∀y∈A,y.1∈r' y.2:=λy hy=>ax y (by rw[Wh,hN];exact Qp _ (Qp _ hy))
  have gf:∀y∈B,y.1∈r' y.2:=λy hy=>ax y (by rw[Wh,hN];exact Qp _ (Qo _ hy))
  have cA:∀a t,A=a::t→Cyc (st r') A:=λa t e=>by
   subst e
   have k:=lk_del C L kA.2 λy hy=>dQ y (Qe.mpr hy)
   rw[if_neg az,if_pos rfl,kA.1]at k
   exact⟨a,t,rfl,k⟩
  have cB:∀a t,B=a::t→Cyc (st r') B:=λa t e=>by
   subst e
   have k:=lk_del C L kB.2 λy hy=>gf y (Qe.mpr hy)
   rw[if_pos rfl,kB.1]at k
   exact⟨a,t,rfl,k⟩
  have pj:∀d∈N++cs.erase c,Cyc (st r') d:=λd hd=>by
   rcases Qj.mp hd with z | z
   ·rcases Qj.mp z with y | y
    ·cases A with
     |nil=>rw[if_pos rfl]at y;cases y
     |cons a t =>
      rw[if_neg (Kw _ _)]at y
      rw[Qb.mp y];exact cA a t rfl
    ·cases B with
     |nil=>rw[if_pos rfl]at y;cases y
     |cons a t =>
      rw[if_neg (Kw _ _)]at y
      rw[Qb.mp y];exact cB a t rfl
   ·rw [Qs,Qs,Qe,not_or] at nd
    have hf:∀y∈d,y∈(N++cs.erase c).flatten:=λy hy=>Zs.mpr ⟨d,hd,hy⟩
    exact rest_cyc C L (Wy z) (λy=>nd.1.2 (hf _ y)) (λy=>nd.2.1 (hf _ y))
  have W:=del_web C L hp pj
  have iA:r' u=[]↔A=[]:=by
   rw[L.two,C.iso u5]
   constructor
   ·intro e
    cases A with
    |nil=>rfl
    |cons a t =>
     have ha:a=(u,v):=kA.1.symm.trans e
     have:=((zb2 C L a).mp (dQ a Qc)).2.2
     exact absurd ha this
   ·intro e;subst e;exact kA
  have iB:r' v=[]↔B=[]:=by
   rw[L.one,C.iso L.tie]
   constructor
   ·intro e
    cases B with
    |nil=>rfl
    |cons a t =>
     have ha:a=(v,u):=kB.1.symm.trans e
     have:=((zb2 C L a).mp (gf a Qc)).2.1
     exact absurd ha this
   ·intro e;subst e;exact kB
  have ht:tot ns r' (N++cs.erase c)=tot ns r cs+4:=by
   rw[del_tot C L (cs':=N++cs.erase c)]
   have lc:=Yl hc
   have lp:=Yj hc
   have ln:N.length=(if A=[] then 0 else 1)+(if B=[] then 0 else 1):=by
    show((if A=[] then[] else[A])++(if B=[] then[] else[B])).length=_
    rw[Qt]
    congr 1
    ·by_cases h:A=[]
     ·rw[if_pos h,if_pos h];rfl
     ·rw[if_neg h,if_neg h];rfl
    ·by_cases h:B=[]
     ·rw[if_pos h,if_pos h];rfl
     ·rw[if_neg h,if_neg h];rfl
   rw[Qt,ln,lc]
   by_cases hA:A=[]
   ·by_cases hB:B=[]
    ·rw[if_pos (iA.mpr hA),if_pos (iB.mpr hB),if_pos hA,if_pos hB];omega
    ·rw[if_pos (iA.mpr hA),if_neg (λz=>hB (iB.mp z)),if_pos hA,if_neg hB];omega
   ·by_cases hB:B=[]
    ·rw[if_neg (λz=>hA (iA.mp z)),if_pos (iB.mpr hB),if_neg hA,if_pos hB];omega
    ·rw[if_neg (λz=>hA (iA.mp z)),if_neg (λz=>hB (iB.mp z)),if_neg hA,if_neg hB];omega
  exact⟨N++cs.erase c,W,.inr ht⟩
 ·obtain ⟨c2,qT,pd⟩:=Zs.mp ((C.cm (u,v)).mpr L.tie)
  have dW:c2≠c:=λe=>hb (e▸pd)
  have kS:c2∈cs.erase c:=(List.mem_erase_of_ne dW).mpr qT
  obtain⟨P2,Q2,pV⟩:=Ym pd
  have k2:Lk (st r) (u,v) (Q2++P2) (u,v):=zcz (pV▸C.cy c2 qT)
  have qj:c2.Perm ((u,v)::(Q2++P2)):=by
   rw[pV];exact Ji.trans ((Yu).cons _)
  generalize hA:Q++P=A at k0 pc
  generalize hB:Q2++P2=B at k2 qj
  have hp:cs.flatten.Perm ((v,u)::(u,v)::((A++B)::(cs.erase c).erase c2).flatten):=by
   rw[Yv]
   refine(zb0 hc).trans ((pc.append_right _).trans ?_)
   rw[Us]
   refine List.Perm.cons _ ?_
   refine((zb0 kS).append_left A).trans ?_
   refine((qj.append_right _).append_left A).trans ?_
   rw[Us]
   refine Ji.trans ?_
   rw[Qw]
  have nd:=hp.nodup_iff.mp C.cf
  have ax:∀y,y∈((A++B)::(cs.erase c).erase c2).flatten→y.1∈r' y.2:=λy hy=>by
   rw[Qs,Qs,Qe,not_or]at nd
   exact(zb2 C L y).mpr ⟨(C.cm y).mp (hp.mem_iff.mpr (Qf _ (Qf _ hy))),λe=>nd.1.2 (e▸hy),λe=>nd.2.1 (e▸hy)⟩
  have dQ:∀y∈A,y.1∈r' y.2:=λy hy=>ax y (by rw[Yv];exact Qp _ (Qp _ hy))
  have gf:∀y∈B,y.1∈r' y.2:=λy hy=>ax y (by rw[Yv];exact Qp _ (Qo _ hy))
  have nA:∃a t,A=a::t:=by
   cases A with
   |nil =>
    have:=congrArg Prod.fst (show st r (v,u)=(v,u) from k0)
    exact absurd this.symm eB
   |cons a t=>exact⟨a,t,rfl⟩
  have nB:∃a t,B=a::t:=by
   cases B with
   |nil =>
    have:=congrArg Prod.fst (show st r (u,v)=(u,v) from k2)
    exact absurd this eB
   |cons a t=>exact⟨a,t,rfl⟩
  obtain⟨a,tA,rfl⟩:=nA
  obtain⟨b,tB,rfl⟩:=nB
  have pj:∀d∈((a::tA)++(b::tB))::(cs.erase c).erase c2,Cyc (st r') d:=λd hd=>by
   rcases Qe.mp hd with z | z
   ·have k:=lk_del C L k0.2 fun y hy=>dQ y (Qe.mpr hy)
    have k':=lk_del C L k2.2 λy hy=>gf y (Qe.mpr hy)
    rw[if_pos rfl,k2.1]at k
    rw[if_neg az,if_pos rfl,k0.1]at k'
    rw[z]
    exact⟨a,tA++b::tB,rfl,lk_app.mpr ⟨k,k'⟩⟩
   ·rw [Qs,Qs,Qe,not_or] at nd
    have hf:∀y∈d,y∈(((a::tA)++(b::tB))::(cs.erase c).erase c2).flatten:=λy hy=>Zs.mpr ⟨d,hd,hy⟩
    exact rest_cyc C L (Wy (Wy z)) (λy=>nd.1.2 (hf _ y)) (λy=>nd.2.1 (hf _ y))
  have W:=del_web C L hp pj
  have nu:r' u≠[]:=λe=>by
   rw[L.two,C.iso u5]at e
   have ha:a=(u,v):=k0.1.symm.trans e
   exact((zb2 C L a).mp (dQ a Qc)).2.2 ha
  have nv:r' v≠[]:=λe=>by
   rw[L.one,C.iso L.tie]at e
   have ha:b=(v,u):=k2.1.symm.trans e
   exact((zb2 C L b).mp (gf b Qc)).2.1 ha
  have gr:Conn r' u v:=by
   have:=lk_conn C L W.sy k0.2 λy hy=>dQ y (Qe.mpr hy)
   rwa[←k0.1]at this
  refine⟨_,W,.inl ⟨?_,gr⟩⟩
  rw[del_tot C L,if_neg nu,if_neg nv]
  have lc:=Yl hc
  have lc2:=Yl kS
  have lp:=Yj hc
  have lp2:=Yj kS
  rw[Qx,lc2,lc]
  omega
def zg0{v u:α}(C:Web ns r cs)(L:Less r r' v u)(sy:∀x y,y∈r' x→x∈r' y){T:List α}(lE:T.Pairwise λx y=>¬Conn r' x y):∃T':List α,(∀t∈T',t∈T)∧T'.Pairwise (λx y=>¬Conn r x y)∧T.length≤T'.length+1:=by
 let P:α→Bool:=λx=>@decide (¬Conn r' x v) (Classical.propDecidable _)
 have hP:∀x,P x=false→Conn r' x v:=λx e=>by
  have:=@of_decide_eq_false _ (Classical.propDecidable _) e
  exact Classical.not_not.mp this
 refine⟨T.filter P,λt ht=>(Yc.mp ht).1,?_,filter_one (P:=P) lE λx y hx hy=>Conn.trans (hP x hx) (Conn.symm sy (hP y hy))⟩
 refine Ko ?_ (lE.filter P)
 intro x y hx hy sG hc
 have px:¬Conn r' x v:=@of_decide_eq_true _ (Classical.propDecidable _) (Yc.mp hx).2
 have py:¬Conn r' y v:=@of_decide_eq_true _ (Classical.propDecidable _) (Yc.mp hy).2
 rcases del_conn C L hc with h | ⟨h,_⟩ | ⟨_,h⟩
 ·exact sG h
 ·exact px h
 ·exact py (Conn.symm sy h)
def back_less(C:Web ns r cs)(L:Less r r' v u)(sy:∀x y,y∈r' x→x∈r' y)(h:Conn r' u v)(hc:Conn r x y):Conn r' x y:=by
 rcases del_conn C L hc with z | ⟨z1,z2⟩ | ⟨z1,z2⟩
 ·exact z
 ·exact(z1.trans (Conn.symm sy h)).trans z2
 ·exact(z1.trans h).trans z2
def flat_less{v u:α}(F:Flat ns r cs)(L:Less r r' v u):∃cs',Flat ns r' cs':=by
 obtain⟨cs',W,⟨ht,gr⟩ | ht⟩:=web_less F.toWeb L
 ·refine ⟨cs',W,fun T hT lE=>?_⟩
  rw[ht]
  exact F.fl T hT (lE.imp λ{x y} h hc=>h (back_less F.toWeb L W.sy gr hc))
 ·refine ⟨cs',W,fun T hT lE=>?_⟩
  obtain⟨T',h1,h2,h3⟩:=zg0 F.toWeb L W.sy lE
  have:=F.fl T' (λt ht=>hT t (h1 t ht)) h2
  rw[ht]
  omega
end
section
variable{α:Type}[DecidableEq α]{ns:List α}{r r':α→List α}{cs:List (List (α×α))}
def conn_iso(hr:r x=[])(h:Conn r x y):y=x:=by
 induction h with
 |refl=>rfl
 |step _ hz ih=>rw[ih,hr]at hz;cases hz
def sum_one{L:List α}(nd:L.Nodup){a:α}(h:a∈L)(k:Int):(L.map λl=>if a=l then k else 0).sum=k:=by
 have:=zen (g:=λ_=>(0:Int)) (g':=λl=>if a=l then k else 0) nd h λx _ hx=>if_neg λe=>hx e.symm
 rw[this,zde λ_ _=>rfl,if_pos rfl];omega
def zfj{β:Type}(f g:β→Int):∀l:List β,(l.map λx=>f x+g x).sum=(l.map f).sum+(l.map g).sum:=by
 intro l
 induction l with
 |nil=>rfl
 |cons a t ih=>rw[Ql,Ql,Ql,Zk,Zk,Zk,ih];omega
def sum_exch{β:Type}{L:List α}(nd:L.Nodup)(f:β→α)(g:β→Int):∀{xs:List β},(∀x∈xs,f x∈L)→(L.map λl=>(xs.map λx=>if f x=l then g x else 0).sum).sum=(xs.map g).sum:=by
 intro xs
 induction xs with
 |nil=>intro _;exact zde λ_ _=>rfl
 |cons a t ih =>
  intro h
  rw[Ql,Zk,←ih λx hx=>h x (Qf _ hx),←sum_one nd (h a Qc) (g a),←zfj]
  refine zb7 λl _=>?_
  rw[Ql,Zk]
def labels(af:α→α):∀ ns:List α,∃ L:List α,L.Nodup∧(∀ x∈ns,af x∈L)∧∀ l∈L,∃ x∈ns,af x=l:=by
 intro ns
 induction ns with
 |nil=>exact⟨[],Zn,(by intro x h;cases h),(by intro x h;cases h)⟩
 | cons a t ih =>
  obtain⟨L,h1,h2,h3⟩:=ih
  by_cases h:af a∈L
  ·refine ⟨L,h1,fun x hx=>?_,fun l hl=>?_⟩
   ·rcases Qe.mp hx with z | z
    ·rw[z];exact h
    ·exact h2 x z
   ·obtain ⟨x,hx,e⟩:=h3 l hl
    exact⟨x,Qf _ hx,e⟩
  ·refine ⟨af a::L,Qs.mpr ⟨h,h1⟩,fun x hx=>?_,fun l hl=>?_⟩
   ·rcases Qe.mp hx with z | z
    ·rw[z];exact Qc
    ·exact Qf _ (h2 x z)
   ·rcases Qe.mp hl with z | z
    ·exact⟨a,Qc,z.symm⟩
    ·obtain ⟨x,hx,e⟩:=h3 l z
     exact⟨x,Qf _ hx,e⟩
def cert_flat{af:α→α}(C:Cert ns r cs af):Flat ns r cs:=by
 refine⟨⟨C.nd,C.ro,C.rn,C.ir,C.sy,C.cf,C.cm,C.cy⟩,λT hT hp=>?_⟩
 obtain⟨L,h1,h2,h3⟩:=labels af ns
 have e1:(L.map λl=>wt ns r af l).sum=(ns.map (vl r)).sum:=sum_exch h1 af (vl r) h2
 have e2:(L.map λl=>ct cs af l).sum=2*(cs.length:Int):=by
  have key:∀D:List (List (α×α)),(∀c∈D,c∈cs)→(L.map λl=>ct D af l).sum=2*(D.length:Int):=by
   intro D
   induction D with
   |nil=>intro _;exact zde λ_ _=>rfl
   | cons c D ih =>
    intro h
    have hc:=h c Qc
    obtain⟨s,t,rfl,_⟩:=C.cy c hc
    have ha:af s.1∈L:=h2 _ (C.inn' (C.inc hc Qc))
    have hs:∀l∈L,ct ((s::t)::D) af l=(if af s.1=l then 2 else 0)+ct D af l:=λl _=>by
     rw[zdc,zdd (λu hu=>C.one_lab hc Qc hu) (Kw _ _)]
     congr 1
     by_cases e:af s.1=l
     ·rw[if_pos e,if_pos (decide_eq_true e)]
     ·rw[if_neg e,if_neg (λz=>e (of_decide_eq_true z))]
    rw[zb7 hs,zfj,sum_one h1 ha,ih λd hd=>h d (Qf _ hd),Qx];omega
  exact key cs λ_ h=>h
 have e3:(L.map λl=>wt ns r af l+ct cs af l).sum=4*(L.length:Int):=by
  have:∀M:List α,(∀l∈M,l∈L)→(M.map λl=>wt ns r af l+ct cs af l).sum=4*(M.length:Int):=by
   intro M
   induction M with
   |nil=>intro _;rfl
   |cons a t ih =>
    intro h
    obtain⟨x,hx,e⟩:=h3 a (h a Qc)
    rw[Ql,Zk,ih λl hl=>h l (Qf _ hl),←e,C.eu x hx,Qx];omega
  exact this L λ_ h=>h
 rw[zfj,e1,e2]at e3
 have nd:(T.map af).Nodup:=Wo.mpr (Ko (λ{x y} hx hy h e=>h (C.co x (hT x hx) y (hT y hy) e)) hp)
 have:=nd.length_le_of_subset (l₂:=L) λl hl=>by
  obtain⟨x,hx,rfl⟩:=Qh.mp hl
  exact h2 x (hT x hx)
 rw[Qa]at this
 unfold tot
 omega
end
section
variable{α:Type}[DecidableEq α]{ns:List α}{r r':α→List α}{cs:List (List (α×α))}
end
section
variable{α:Type}[DecidableEq α]{ns:List α}{r r':α→List α}{cs:List (List (α×α))}{af:α→α}
def cutR(r:α→List α)(v u:α):α→List α:=λx=>if x=v then(r v).erase u else if x=u then(r u).erase v else r x
def cut_less(C:Web ns r cs){v u:α}(h:u∈r v):Less r (cutR r v u) v u :=
 have eB:v≠u:=λe=>C.ir u (by rw[e]at h;exact h)
 ⟨h,if_pos rfl,(if_neg (Qu eB)).trans (if_pos rfl),λx h1 h2=>(if_neg h1).trans (if_neg h2)⟩
def sum_lt{f g:α→Nat}:∀ {l:List α},(∀ x∈l,f x≤g x)→(∃ a∈l,f a < g a)→(l.map f).sum < (l.map g).sum:=by
 intro l
 induction l with
 |nil=>rintro _ ⟨a,h,_⟩;cases h
 | cons b t ih =>
  rintro h ⟨a,ha,hl⟩
  rw[Ql,Ql,Zk,Zk]
  have h1:=h b Qc
  have h2:(t.map f).sum≤(t.map g).sum:=by
   clear ih hl ha
   induction t with
   |nil=>exact Qg _
   |cons c t ih2 =>
    rw[Ql,Ql,Zk,Zk]
    have:=h c (by simp)
    have:=ih2 (λx hx=>h x (by rcases Qe.mp hx with z | z<;>simp[z]))
    omega
  rcases Qe.mp ha with z | z
  ·subst z;omega
  ·have:=ih (fun x hx=>h x (Qf _ hx)) ⟨a,z,hl⟩
   omega
def genus:∀ (n:Nat) {r:α→List α} {cs:List (List (α×α))},Web ns r cs→(ns.map fun x=>(r x).length).sum=n→∃ T:List α,(∀ t∈T,t∈ns)∧T.Pairwise (fun x y=>¬ Conn r x y)∧tot ns r cs≤4*(T.length:Int):=by
 intro n
 induction n using Nat.strongRecOn with
 | ind n ih =>
  intro r cs C hn
  by_cases h:∃v u,u∈r v
  ·obtain ⟨v,u,h⟩:=h
   have L:=cut_less C h
   obtain⟨cs',W,hh⟩:=web_less C L
   have ua:∀x∈ns,(cutR r v u x).length≤(r x).length:=λx _=>by
    unfold cutR
    by_cases e1:x=v
    ·rw[if_pos e1,e1];exact List.length_erase_le ..
    ·rw [if_neg e1]
     by_cases e2:x=u
     ·rw[if_pos e2,e2];exact List.length_erase_le ..
     ·rw[if_neg e2];exact Qg _
   have ai:(ns.map λx=>(cutR r v u x).length).sum<n:=by
    rw[←hn]
    refine sum_lt ua ⟨v,C.inn h,?_⟩
    rw[L.one,Yl h]
    have:=Yj h
    omega
   obtain⟨T,h1,h2,h3⟩:=ih _ ai W rfl
   rcases hh with⟨ht,gr⟩ | ht
   ·exact⟨T,h1,h2.imp λ{x y} h hc=>h (back_less C L W.sy gr hc),by rw[←ht];exact h3⟩
   ·obtain ⟨T',g1,g2,g3⟩:=zg0 C L W.sy h2
    exact⟨T',λt ht=>h1 t (g1 t ht),g2,by omega⟩
  ·have hr:∀ x,r x=[]:=fun x=>by
    cases e:r x with
    |nil=>rfl
    |cons a t=>exact absurd ⟨x,a,by rw[e];exact Qc⟩ h
   have kL:cs=[]:=by
    cases cs with
    |nil=>rfl
    |cons c t =>
     obtain⟨s,t',rfl,_⟩:=C.cy c Qc
     have:=(C.cm s).mp (by rw[Yv];exact Qp _ Qc)
     rw[hr]at this
     cases this
   refine⟨ns,λt h=>h,C.nd.imp λ{x y} h hc=>h (conn_iso (hr x) hc).symm,?_⟩
   have:∀l:List α,(l.map (vl r)).sum=4*(l.length:Int):=by
    intro l
    induction l with
    |nil=>rfl
    |cons a t ih2 =>
     rw[Ql,Zk,ih2,Qx]
     unfold vl
     rw[if_pos (hr a),hr a,Ui]
     omega
   unfold tot
   rw[kL,this,Ui]
   omega
def Web.inc(C:Web ns r cs){c:List (α×α)}(hc:c∈cs){s:α×α}(hs:s∈c):s.1∈r s.2:=(C.cm s).mp (Zs.mpr ⟨c,hc,hs⟩)
def Web.one_lab(C:Web ns r cs)(la:∀ x y,y∈r x→af y=af x){c:List (α×α)}(hc:c∈cs){s u:α×α}(hs:s∈c)(hu:u∈c):af u.1=af s.1:=by
 obtain⟨A,B,rfl⟩:=Ym hs
 have k:=zcz (C.cy _ hc)
 have hl:∀y,y=s∨y∈B++A→af (st r y).1=af y.1:=λy hy=>by
  have fC:y∈A++s::B:=by
   rcases hy with z | z
   ·rw[z];exact hs
   ·rcases Qj.mp z with q | q
    ·exact Qo _ (Qf _ q)
    ·exact Qp _ q
  exact(la _ _ (C.inc hc fC)).symm
 rcases Qj.mp hu with z | z
 ·exact lk_lab (lb:=λy:α×α=>af y.1) hl k u (Qo _ z)
 ·rcases Qe.mp z with q | q
  ·rw[q]
  ·exact lk_lab (lb:=λy:α×α=>af y.1) hl k u (Qp _ q)
def sum_filter(p:β→Bool)(f:β→Int):∀l:List β,((l.filter p).map f).sum=(l.map λx=>if p x=true then f x else 0).sum:=by
 intro l
 induction l with
 |nil=>rfl
 |cons a t ih =>
  rw[Ql,Zk]
  by_cases h:p a=true
  ·rw[Zx h,if_pos h,Ql,Zk,ih]
  ·rw[Zy h,if_neg h,ih];omega
theorem zh2(p:List β→Bool):∀cs:List (List β),(cs.filter p).flatten.Sublist cs.flatten
 |[]=>List.Sublist.refl _
 | c::t=>by
  by_cases h:p c=true
  ·rw [Zx h,Yv,Yv]
   exact List.Sublist.append (List.Sublist.refl _) (zh2 p t)
  ·rw [Zy h,Yv]
   exact(zh2 p t).trans (List.sublist_append_right _ _)
def sum_two(p:β→Bool)(l:List β):(l.map λc=>if p c=true then(2:Int) else 0).sum=2*((l.filter p).length:Int):=by
 rw[←sum_filter p λ_=>2]
 induction l.filter p with
 |nil=>rfl
 |cons a t ih=>rw[Ql,Zk,ih,Qx];omega
def piece_le(C:Web ns r cs)(la:∀ x y,y∈r x→af y=af x)(co:∀ x∈ns,∀ y∈ns,af x=af y→Conn r x y)(t:α):wt ns r af t+ct cs af t≤4:=by
 let rt:α→List α:=λx=>if af x=t then r x else[]
 have r1:∀{x},af x=t→rt x=r x:=λh=>if_pos h
 have r0:∀{x},¬af x=t→rt x=[]:=λh=>if_neg h
 have rm:∀{x y},y∈rt x↔y∈r x∧af x=t:=λ{x y}=>by
  by_cases h:af x=t
  ·rw[r1 h];exact⟨λz=>⟨z,h⟩,λz=>z.1⟩
  ·rw[r0 h];exact⟨λz=>(by cases z),λz=>absurd z.2 h⟩
 have iE:∀{c},c∈cs→(c.any λs=>decide (af s.1=t))=true→∀s∈c,af s.2=t:=λ{c} hc h s hs=>by
  obtain⟨q,hq,e⟩:=Yw.mp h
  rw[←la _ _ (C.inc hc hs),C.one_lab la hc hq hs]
  exact of_decide_eq_true e
 have W:Web (ns.filter λx=>decide (af x=t)) rt (cs.filter λc=>c.any λs=>decide (af s.1=t)):=by
  refine⟨C.nd.filter _,λx hx=>?_,λx=>?_,λx h=>C.ir x (rm.mp h).1,λx y h=>?_,Yz (zh2 _ cs) C.cf,λs=>?_,λc hc=>?_⟩
  ·by_cases h:af x=t
   ·rw [r1 h]
    exact C.ro x λz=>hx (Yc.mpr ⟨z,decide_eq_true h⟩)
   ·exact r0 h
  ·by_cases h:af x=t
   ·rw[r1 h];exact C.rn x
   ·rw[r0 h];exact Zn
  ·obtain ⟨h1,h2⟩:=rm.mp h
   exact rm.mpr ⟨C.sy _ _ h1,(la _ _ h1).trans h2⟩
  ·rw [rm]
   constructor
   ·intro h
    obtain⟨c,hc,hs⟩:=Zs.mp h
    obtain⟨h1,h2⟩:=Yc.mp hc
    exact⟨C.inc h1 hs,iE h1 h2 s hs⟩
   ·rintro ⟨h1,h2⟩
    obtain⟨c,hc,hs⟩:=Zs.mp ((C.cm s).mpr h1)
    exact Zs.mpr ⟨c,Yc.mpr ⟨hc,Yw.mpr ⟨s,hs,decide_eq_true ((la _ _ h1).trans h2)⟩⟩,hs⟩
  ·obtain ⟨h1,h2⟩:=Yc.mp hc
   refine zei (λy hy=>?_) (C.cy c h1)
   show(y.2,nxt (rt y.2) y.1)=(y.2,nxt (r y.2) y.1)
   rw[r1 (iE h1 h2 y hy)]
 have e1:((ns.filter λx=>decide (af x=t)).map (vl rt)).sum=wt ns r af t:=by
  rw[sum_filter]
  refine zb7 λx _=>?_
  by_cases h:af x=t
  ·rw [if_pos (decide_eq_true h),if_pos h]
   unfold vl
   rw[r1 h]
  ·rw[if_neg (by simpa using h),if_neg h]
 have e2:=sum_two (λc:List (α×α)=>c.any λs=>decide (af s.1=t)) cs
 obtain⟨T,h1,h2,h3⟩:=genus _ W rfl
 unfold tot at h3
 rw[e1,←e2]at h3
 have hl:T.length≤1:=by
  match T,h1,h2 with
  |[],_,_=>exact Zg _
  |[_],_,_=>exact Qg _
  | a::b::T',h1,h2 =>
   obtain⟨a1,a2⟩:=Yc.mp (h1 a Qc)
   obtain⟨b1,b2⟩:=Yc.mp (h1 b (by simp))
   have a2:=of_decide_eq_true a2
   have b2:=of_decide_eq_true b2
   have key:∀{y},Conn r a y→Conn rt a y∧af y=t:=λ{y} h=>by
    induction h with
    |refl=>exact⟨.refl,a2⟩
    |step _ hz ih=>exact⟨.step ih.1 (rm.mpr ⟨hz,ih.2⟩),(la _ _ hz).trans ih.2⟩
   exact absurd (key (co a a1 b b1 (a2.trans b2.symm))).1 ((Ka.mp h2).1 b Qc)
 have:wt ns r af t+ct cs af t≤4*(T.length:Int):=h3
 omega
def tot_sum(C:Web ns r cs)(la:∀ x y,y∈r x→af y=af x){L:List α}(h1:L.Nodup)(h2:∀ x∈ns,af x∈L):(L.map fun l=>wt ns r af l+ct cs af l).sum=tot ns r cs:=by
 have e1:(L.map λl=>wt ns r af l).sum=(ns.map (vl r)).sum:=sum_exch h1 af (vl r) h2
 have e2:(L.map λl=>ct cs af l).sum=2*(cs.length:Int):=by
  have key:∀D:List (List (α×α)),(∀c∈D,c∈cs)→(L.map λl=>ct D af l).sum=2*(D.length:Int):=by
   intro D
   induction D with
   |nil=>intro _;exact zde λ_ _=>rfl
   | cons c D ih =>
    intro h
    have hc:=h c Qc
    obtain⟨s,t,rfl,_⟩:=C.cy c hc
    have ha:af s.1∈L:=h2 _ (C.inn (C.sy _ _ (C.inc hc Qc)))
    have hs:∀l∈L,ct ((s::t)::D) af l=(if af s.1=l then 2 else 0)+ct D af l:=λl _=>by
     rw[zdc,zdd (λu hu=>C.one_lab la hc Qc hu) (Kw _ _)]
     congr 1
     by_cases e:af s.1=l
     ·rw[if_pos e,if_pos (decide_eq_true e)]
     ·rw[if_neg e,if_neg (λz=>e (of_decide_eq_true z))]
    rw[zb7 hs,zfj,sum_one h1 ha,ih λd hd=>h d (Qf _ hd),Qx];omega
  exact key cs λ_ h=>h
 rw[zfj,e1,e2]
 rfl
def all_four{g:α→Int}:∀ {L:List α},(∀ l∈L,g l≤4)→4*(L.length:Int)≤(L.map g).sum→∀ l∈L,g l=4:=by
 intro L
 induction L with
 |nil=>intro _ _ l hl;cases hl
 | cons a t ih =>
  intro h hs l hl
  rw[Ql,Zk,Qx]at hs
  have ha:=h a Qc
  have ht:(t.map g).sum≤4*(t.length:Int):=by
   clear ih hs hl ha
   induction t with
   |nil=>exact Int.le_refl _
   |cons b t ih =>
    rw[Ql,Zk,Qx]
    have:=h b (by simp)
    have:=ih λx hx=>h x (by rcases Qe.mp hx with z | z<;>simp[z])
    omega
  rcases Qe.mp hl with z | z
  ·rw[z];omega
  ·exact ih (λx hx=>h x (Qf _ hx)) (by omega) l z
def flat_cert(F:Flat ns r cs):∃af,Cert ns r cs af:=by
 have C:=F.toWeb
 let f:α→Option α:=λx=>ns.find? λy=>@decide (Conn r x y) (Classical.propDecidable _)
 have hf:∀{x},x∈ns→∃y,f x=some y∧y∈ns∧Conn r x y:=λ{x} hx=>by
  cases e:f x with
  |none=>exact absurd (@decide_eq_true _ (Classical.propDecidable _) (Conn.refl (r:=r) (x:=x))) (List.find?_eq_none.mp e x hx)
  |some y =>
   have h:=List.find?_some (p:=λy=>@decide (Conn r x y) (Classical.propDecidable _)) e
   exact⟨y,rfl,List.mem_of_find?_eq_some e,@of_decide_eq_true _ (Classical.propDecidable _) h⟩
 have hs:∀{x y},Conn r x y→f x=f y:=λ{x y} h=>by
  show ns.find? _=ns.find? _
  congr 1
  funext z
  congr 1
  exact propext ⟨λq=>(h.symm C.sy).trans q,λq=>h.trans q⟩
 let af:α→α:=λx=>(f x).getD x
 have hl:∀{x},x∈ns→af x∈ns∧Conn r x (af x):=λ{x} hx=>by
  obtain⟨y,e,h1,h2⟩:=hf hx
  show(f x).getD x∈ns∧Conn r x ((f x).getD x)
  rw[e];exact⟨h1,h2⟩
 have he:∀{x y},x∈ns→y∈ns→Conn r x y→af x=af y:=λ{x y} hx hy h=>by
  obtain⟨z,e,_⟩:=hf hy
  show(f x).getD x=(f y).getD y
  rw[hs h,e];rfl
 have la:∀x y,y∈r x→af y=af x:=λx y h=>(he (C.inn h) (C.inn (C.sy _ _ h)) (.step .refl h)).symm
 have co:∀x∈ns,∀y∈ns,af x=af y→Conn r x y:=λx hx y hy e=>by
  have h1:=(hl hx).2
  rw[e]at h1
  exact h1.trans ((hl hy).2.symm C.sy)
 obtain⟨L,h1,h2,h3⟩:=labels af ns
 have hL:∀l∈L,l∈ns∧af l=l:=λl hl'=>by
  obtain⟨x,hx,e⟩:=h3 l hl'
  obtain⟨a,b⟩:=hl hx
  refine⟨e▸a,?_⟩
  have:=he hx a b
  rw[e]at this
  exact this.symm
 have fl:=F.fl L (λl h=>(hL l h).1) (Ko (λ{x y} hx hy sG hc=>sG (by
  have:=he (hL x hx).1 (hL y hy).1 hc
  rwa[(hL x hx).2,(hL y hy).2]at this)) h1)
 rw[←tot_sum C la h1 h2]at fl
 have four:=all_four (λl _=>piece_le C la co l) fl
 exact⟨af,C.nd,C.ro,C.rn,C.ir,C.sy,C.cf,C.cm,C.cy,λx hx=>(hl hx).1,la,co,λx hx=>four _ (h2 x hx)⟩
def cert_less(C:Cert ns r cs af)(L:Less r r' v u):∃cs' aj,Cert ns r' cs' aj:=by
 obtain⟨cs',F⟩:=flat_less (cert_flat C) L
 obtain⟨aj,C'⟩:=flat_cert F
 exact⟨cs',aj,C'⟩
end
section
variable{α:Type}[DecidableEq α]
structure Fil(r0 rs:Rs α)(s:α×α)(x:α)(L j:Nat):Prop where
 gd:Good rs
 nm:rs.map (·.1)=r0.map (·.1)
 su:∀y z,z∈row r0 y→z∈row rs y
 ch:∀i,j≤i→i≤L→stp rs (itr r0 s i)=itr r0 s (i+1)
 cs:stp rs s=(s.2,x)
 in2:s.2∈row rs x
variable{r0 rs:Rs α}{s:α×α}{x:α}{L j:Nat}
def run_inj(nd:(run r0 s (L+1)).Nodup)(ha:a≤L)(hb:b≤L)(e:itr r0 s a=itr r0 s b):a=b:=by
 unfold run at nd
 exact(Yi (i:=a) (j:=b) (h₀:=by rw[Qa,Yd];omega) (h₁:=by rw[Qa,Yd];omega) nd).mp (by
  rw[Zm,Zm,Ug,Ug];exact e)
def fil_leaf(G:Good rb)(hx:x∉rb.map (·.1))(hs:IsSt rb s)(hr:r0=rb++[(x,[])])(nd:(run r0 s (L+1)).Nodup) :
  Fil r0 (zay (zay r0 s.2 (ins (row rb s.2) (some s.1) x)) x [s.2]) s x L 1:=by
 obtain⟨cs,af,C⟩:=id G
 have h1:=(zbu C.nd).mp hs
 have ba:s.2∈rb.map (·.1):=C.inn h1
 have e0:row r0=row rb:=by rw[hr];exact zhi hx
 have lB:s.2≠x:=λe=>hx (e▸ba)
 have ij:r0.map (·.1)=rb.map (·.1)++[x]:=by rw[hr,Qn];rfl
 have n2:s.2∈r0.map (·.1):=by rw[ij];exact Qp _ ba
 have nx:x∈(zay r0 s.2 (ins (row rb s.2) (some s.1) x)).map (·.1):=by rw[za9,ij];exact Qo _ Qc
 have r2:row (zay (zay r0 s.2 (ins (row rb s.2) (some s.1) x)) x [s.2]) s.2=ins (row rb s.2) (some s.1) x:=by rw[za5 lB,za6 n2]
 have rx:row (zay (zay r0 s.2 (ins (row rb s.2) (some s.1) x)) x [s.2]) x=[s.2]:=za6 nx
 have ro:∀y,y≠s.2→y≠x→row (zay (zay r0 s.2 (ins (row rb s.2) (some s.1) x)) x [s.2]) y=row rb y:=λy a b=>by rw[za5 b,za5 a,e0]
 have iO:x∉row rb s.2:=λz=>hx (C.inn' z)
 obtain⟨p,hp,ep,_⟩:=hs
 have ap:∀i,IsSt rb (itr r0 s i):=λi=>by
  induction i with
  |zero=>exact(zbu C.nd).mpr h1
  |succ n ih =>
   have:=za1.clo _ G _ ih
   show IsSt rb (stp r0 (itr r0 s n))
   unfold stp at this ⊢
   rw[e0];exact this
 refine⟨?_,by rw[za9,za9],λy z hz=>?_,λi hi hl=>?_,?_,by rw[rx];exact Qc⟩
 ·have:=za1.leaf rb x p (some s.1) G hx hp (fun y z=>by rw [← Qk z,← zdn C.nd hp,ep];exact h1) (fun z=>by cases z)
  rw[ep,←zdn C.nd hp,ep,←hr]at this
  exact this
 ·rw [e0] at hz
  by_cases a:y=s.2
  ·rw [a,r2,zdv h1 (C.rn _)]
   exact .inr (a▸hz)
  ·rw[ro y a (λb=>hx (b▸C.inn hz))];exact hz
 ·have ht:=(zbu C.nd).mp (ap i)
  have tx:(itr r0 s i).2≠x:=λb=>hx (b▸C.inn ht)
  show((itr r0 s i).2,nxt (row _ (itr r0 s i).2) (itr r0 s i).1)=((itr r0 s i).2,nxt (row r0 (itr r0 s i).2) (itr r0 s i).1)
  congr 1
  rw[e0]
  by_cases a:(itr r0 s i).2=s.2
  ·rw [a] at ht ⊢
   rw[r2]
   exact zc9 h1 (C.rn _) iO ht λb=>round_ne nd (Zj Nat.zero_lt_one hi) hl (Uu b a)
  ·rw[ro _ a tx]
 ·show (s.2,nxt (row _ s.2) s.1)=_
  rw[r2,zee h1 (C.rn _)]
theorem Fil.go(F:Fil r0 rs s x L j):∀k,j+k≤L+1→itr rs (itr r0 s j) k=itr r0 s (j+k)
 |0,_=>rfl
 |k+1,h=>by
  show stp rs (itr rs (itr r0 s j) k)=_
  rw[F.go k (by omega),F.ch _ (by omega) (by omega)]
  rfl
def Fil.skip(F:Fil r0 rs s x L j):Fil r0 rs s x L (j+1):=⟨F.gd,F.nm,F.su,λi h=>F.ch i (by omega),F.cs,F.in2⟩
def Fil.tie(F:Fil r0 rs s x L j)(nd:(run r0 s (L+1)).Nodup)(hL:itr r0 s (L+1)=s)(hj:j≤L)(hs:∀i,IsSt r0 (itr r0 s i))(gS:(r0.map (·.1)).Nodup)(rf:row r0 x=[])(bD:(itr r0 s j).2∉row rs x) :
  Fil r0 (zay (zay rs (itr r0 s j).2 (ins (row rs (itr r0 s j).2) (some (itr r0 s j).1) x)) x (ins (row rs x) (some s.2) (itr r0 s j).2)) s x L (j+1):=by
 obtain⟨cs,af,C⟩:=id F.gd
 have ax:∀i,(itr r0 s i).1∈row rs (itr r0 s i).2:=λi=>F.su _ _ ((zbu gS).mp (hs i))
 have e8:∀i,(itr r0 s i).2≠x:=λi e=>by
  have:=(zbu gS).mp (hs i)
  rw[e,rf]at this
  cases this
 have far:itr rs (itr r0 s j) (L+1-j+1)=(s.2,x):=by
  show stp rs (itr rs (itr r0 s j) (L+1-j))=_
  rw[F.go _ (by omega),show j+(L+1-j)=L+1 by omega,hL,F.cs]
 have tu:s.2≠x:=e8 0
 have nO:s.2≠(itr r0 s j).2:=λe=>bD (e▸F.in2)
 have az:∀i,j+1≤i→i≤L→itr r0 s i≠itr r0 s j:=λi h1 h2 e=>by
  have:=run_inj nd h2 hj e
  omega
 have aW:=ax j
 have sH:=e8 j
 generalize hq:itr r0 s j=q at far bD nO az aW sH
 have i9:q.2∈rs.map (·.1):=C.inn aW
 have hxm:x∈rs.map (·.1):=C.inn F.in2
 have qq:x∉row rs q.2:=λz=>bD (C.sy _ _ z)
 obtain⟨p,hp,ep⟩:=Qh.mp i9
 have er:=zdn C.nd hp
 have rq:row (zay (zay rs q.2 (ins (row rs q.2) (some q.1) x)) x (ins (row rs x) (some s.2) q.2)) q.2=ins (row rs q.2) (some q.1) x:=by rw[za5 sH,za6 i9]
 have rx:row (zay (zay rs q.2 (ins (row rs q.2) (some q.1) x)) x (ins (row rs x) (some s.2) q.2)) x=ins (row rs x) (some s.2) q.2:=za6 (by rw[za9];exact hxm)
 have ro:∀y,y≠q.2→y≠x→row (zay (zay rs q.2 (ins (row rs q.2) (some q.1) x)) x (ins (row rs x) (some s.2) q.2)) y=row rs y:=λy a b=>by rw[za5 b,za5 a]
 refine⟨?_,by rw[za9,za9];exact F.nm,λy z hz=>?_,λi hi hl=>?_,?_,?_⟩
 ·have ep':p.1=q.2:=ep
  have:=za1.tie rs q.1 p (L+1-j+1) F.gd hp (by rw[←er,ep'];exact aW) (by rw[ep',far];exact Qu sH) (by rw[ep',far,←er,ep'];exact qq)
  rw[ep',far,←er,ep']at this
  exact this
 ·have ce:=F.su _ _ hz
  by_cases a:y=q.2
  ·rw[a,rq,zdv aW (C.rn _)];exact .inr (a▸ce)
  ·by_cases b:y=x
   ·rw[b,rx,zdv F.in2 (C.rn _)];exact .inr (b▸ce)
   ·rw[ro y a b];exact ce
 ·rw [← F.ch i (by omega) hl]
  show((itr r0 s i).2,nxt (row _ (itr r0 s i).2) (itr r0 s i).1)=((itr r0 s i).2,nxt (row rs (itr r0 s i).2) (itr r0 s i).1)
  congr 1
  have hii:=ax i
  by_cases a:(itr r0 s i).2=q.2
  ·rw [a] at hii ⊢
   rw[rq]
   exact zc9 aW (C.rn _) qq hii λb=>az i hi hl (Uu b a)
  ·rw[ro _ a (e8 i)]
 ·show (s.2,nxt (row _ s.2) s.1)=_
  rw[ro _ nO tu]
  exact F.cs
 ·rw [rx,zdv F.in2 (C.rn _)]
  exact .inr F.in2
def good_less(G:Good rs)(h:u∈row rs v)(hn:r1.map (·.1)=rs.map (·.1))(hv:row r1 v=(row rs v).erase u)(hu:row r1 u=(row rs u).erase v)(ho:∀y,y≠v→y≠u→row r1 y=row rs y):Good r1:=by
 obtain⟨cs,af,C⟩:=G
 obtain⟨cs',aj,C'⟩:=cert_less C (v:=v) (u:=u) (r':=row r1) ⟨h,hv,hu,ho⟩
 exact⟨cs',aj,by rw[hn];exact C'⟩
end
end Wb
end
section
namespace HT
open PySem PyProof.Rows
section
open PySem.SeqAt
open PySem.AutoSeq1 (wpAny_loadPart')
open PySem.MeetsSeq PySem.MeetsSeq2 PySem.MeetsSeq3
end
section
variable{prog:Ni}{w:Nk}{A:Nm}{E:Nb}{s:Ng}
end
end HT
namespace PySem
section
variable{prog:Ni}{w:Nk}{A:Nm}{R:Nt}{I:Nc}{fp wr:Nn}{n:Nat}{P:Nat→Value→Prop}{St:Nat→Heap→Prop}
end
section
variable{prog:Ni}{w:Nk}{A:Nm}{E:Nb}{s:Ng}
end
end PySem
end
section
namespace L2
open PySem PySem.Spec PyProof.Rows
section
variable{X:Cx}
theorem idx_le:∀(l:Nh) (j:Nat) (hj:j<l.length),l[j]=x→l.idxOf x≤j
 |a::r,0,_,e=>by
  have e':a=x:=e
  rw[e',List.idxOf_cons_self];exact Qg _
 |a::r,j+1,hj,e=>by
  have:=idx_le r j (Nat.lt_of_succ_lt_succ hj) e
  rw[Xc]
  cases(a==x)
  ·exact Kv this
  ·exact Zg _
theorem ze0:∀(l:Nh) (i:Nat),(l.eraseIdx i).map V.str=(l.map V.str).eraseIdx i
 |[],_=>rfl
 |a::r,0=>rfl
 |a::r,i+1=>congrArg (V.str a::·) (ze0 r i)
inductive RrRemove(x:V)(vs:List V)(H:Hp)(Q:VK):Prop
 |mk (l:Nc) (zs:Nh) (z:Str) (h0:x=.ref l) (h1:vs=[.str z]) (h2:H l=some (.lst (zs.map V.str))) (h3:z∈zs) (h4:Q .non (upd H l (.lst ((zs.erase z).map V.str)))):RrRemove x vs H Q
def rRemove:V→List V→Hp→VK→Prop:=λx vs H Q=>RrRemove x vs H Q
def mt_remove:MtM X "list.remove" rRemove:=by
 intro aa s σ H x vs v us Q I rx rv h
 obtain⟨l,zs,z,rfl,rfl,hH,hz,q⟩:=h
 cases rx
 obtain⟨u,rfl,⟨t,rfl⟩⟩:=rv.one
 obtain⟨zz,ae,n,r,hl,e⟩:=I.lstM hH
 obtain⟨ps,rfl,qE⟩:=zd0 r
 have bw:ps.length=zs.length:=by rw[←qE,Qa]
 have hj:zs.idxOf z<ps.length:=by rw[bw];exact List.idxOf_lt_length_of_mem hz
 have ig:∀(m:Nat) (hm:m<ps.length),ps[m].1=zs[m]'(bw▸hm):=λm hm=>by
  have:(ps.map (·.1))[m]'(by rw[Qa];exact hm)=zs[m]'(bw▸hm):=by simp[qE]
  rw[←this,Zm]
 have kW:∀(m:Nat) (hm:m<(strValues ps).toArray.size),(strValues ps).toArray[m]=.str (ps[m]'(by simpa[strValues] using hm)).1 (ps[m]'(by simpa[strValues] using hm)).2:=λm hm=>by simp[strValues]
 have hsz:(strValues ps).toArray.size=ps.length:=by simp[strValues]
 refine call_meets F.slot_list_remove ⟨_,e,rfl⟩ F.entry_list_remove (F.args_list_remove_2 _ _)
  (MeetsSeq.list_remove l (strValues ps).toArray n (.str z t) (λv=>match v with | .str a _=>a==z | _=>false) (λy hy=>?_) (zs.idxOf z) (by rw[hsz];exact hj) ?_ (λm hm ai=>?_) (by rw[hsz,bw];rw[Qa]at zz;exact zz)) ⟨e,?_⟩
 ·obtain ⟨pr,_,rfl⟩:=Qh.mp (by simpa [strValues] using hy:y∈ps.map fun p=>Value.str p.1 p.2)
  exact eqGives_str _ _ _ _
 ·rw [kW]
  show((ps[zs.idxOf z]'hj).1==z)=true
  rw[ig,List.getElem_idxOf]
  exact beq_self_eq_true z
 ·rw [kW]
  show((ps[m]'(by rw[←hsz];exact hm)).1==z)=false
  rw[ig]
  exact beq_eq_false_iff_ne.mpr λez=>absurd (idx_le zs m _ ez) (Nat.not_le.mpr ai)
 ·refine ⟨.non,_,I.lset (its':=(strValues ps).eraseIdx (zs.idxOf z)) (ys:=(zs.erase z).map V.str) hH e (by rw [List.eraseIdxIfInBounds_toArray]) ?_ ?_,rfl,q⟩
  ·rw [List.erase_eq_eraseIdx_of_idxOf rfl,ze0]
   exact r.eraseIdx _
  ·rw [Qa] at zz ⊢
   exact Zl (List.length_erase_le ..) zz
end
end L2
end
section
namespace K21
open PySem L2 Wb
abbrev sFill:Stmt:=top 46
abbrev sAway:Stmt:=top 47
inductive IspFill(vs:List V)(H:Hp)(Q:VK):Prop
 |mk (p d:Nc) (b m:Int) (es:List Ent) (x:Str) (h0:vs=[.ref d,.ref p,.str x]) (h1:Pot H p b m) (h2:Dr H d es) (vm:es.length<40) (hx:x∉es.map (·.1)) (h3:∀(b' m':Int) (aq:List Ent) (H':Hp),Pot H' p b' m'→Deed p d H es [x] aq H'→Q .non H'):IspFill vs H Q
def spFill:Sp:=λvs H Q _=>IspFill vs H Q
def run_len{rs:Rs Str}{s:Str×Str}{n:Nat}:(run rs s n).length=n:=by
 unfold Wb.run;rw[List.length_map,List.length_range]
def run_b{es:List Ent}{s:Str×Str}{n:Nat}(G:Good (rsOf es))(few:es.length≤40)(ap:IsSt (rsOf es) s)(nd:(run (rsOf es) s (n+1)).Nodup):n+1≤1600:=by
 have:=zef nd (m:=zif (rsOf es)) λx hx=>by
  obtain⟨i,_,rfl⟩:=Qh.mp hx
  exact zfu.mpr (zfz (za1.clo _ G) ap i)
 rw[run_len]at this
 exact Zl this (za1.steps G (by rw[show(rsOf es).length=es.length from Qa ..];exact few))
section
variable{P:Ni}{w:Nk}{K:Na}{mg:Nf}{base:Nl}
def scFill:zan [qR,qP, "_law_name", "_law_step_here", "_law_row", "_law_after",qO] [qR,qP, "_law_name"] (zag sFill):=fsk
def ok_fill{f fi fs ff:Nc}{fd fdi fds fdf:Np}(F:Fun K "_law_fill" "_law_fill" sFill f fd)(FI:Fun K "_law_tie" "_law_tie" sTie fi fdi)(bI:Binds K fdi [qR, "_law_one",qB,qO, "_law_after"] [])(mI:mg "_law_tie" = some (.ref fi))(GI:FnOk P w K mg base CX0 2 fi fdi [qR, "_law_one",qB,qO, "_law_after"] spTie)(FS:Fun K "_law_step" "_law_step" zhc fs fds)(bS:Binds K fds [qR,qP] [])(mS:mg "_law_step" = some (.ref fs))(GS:FnOk P w K mg base CX0 2 fs fds [qR,qP] spStep)(FF:Fun K "_law_face" "_law_face" sFace ff fdf)(bF:Binds K fdf [qR, "_law_step_here"] [])(mF:mg "_law_face" = some (.ref ff))(GF:FnOk P w K mg base CX0 2 ff fdf [qR, "_law_step_here"] spFace) :
  FnOk P w K mg base CX0 3 f fd [qR,qP, "_law_name"] spFill:=by
 refine F.okL scFill (λcdv A outer s0 H vs Q E hr h=>?_)
 obtain⟨p,d,b,m,es,x,rfl,hp,D0,bf,hx,k⟩:=h
 have R:=D0.rn.toRAt
 have hu:=zcb hr
 have aJ  := sizeLine_eq
 have i0:∀x y:V,atI [x,y] ((0:Nat):Int)=some x:=λx y=>zap rfl
 have i1:∀x y:V,atI [x,y] ((1:Nat):Int)=some y:=λx y=>zap rfl
 refine⟨_,zae (zat 3 scFill.nd (zaj GS hr rfl mS FS.kp bS .nil zav (zaa (pv 0) (zaa (pv 1) zaf))))
  (zae (zcv hu (pv 0) (pv 2) (za7 zaf) rfl)
  (zah (zbr (zc7 (zhr (pv 3)))
   (zae (zat 4 scFill.nd (zaj GF hr rfl mF FF.kp bF .nil zav (zaa (pv 0) (zaa (pv 3) zaf))))
   (zae (za3 (zaj GI hr rfl mI FI.kp bI .nil zav (zaa (pv 0) (zaa (zaz zca (pv 3) zai (λ_ _=>rfl)) (zaa (zaz zca (pv 3) zai (λ_ _=>rfl)) (zaa (pv 2) (zaa zgp zaf)))))))
   (zah (zbm Zp rfl (zbh (zce zc5 (pv 4) (zcp zai) zc8)) (zex rfl (za4 (zbb 5 scFill.nd) (za4 (zbb 6 scFill.nd) zch)))
    (zah (zbr (zas zcn (pv 6) (zcf hu (pv 0) (pv 2)) rfl)
     (zah (za3 (zaj GI hr rfl mI FI.kp bI .nil zav (zaa (pv 0) (zaa (pv 6) (zaa (pv 5) (zaa (pv 2) (zaa (zaz zca (pv 3) zai (λ_ _=>rfl)) zaf)))))))) za2))))))
   za2))),?_⟩
 have new:∀(b1 m1:Int) (H1:Hp) (a:Nc),Pot H1 p b1 m1→Dr H1 d es→Keep [p] H H1→H1 a=none→∃H2,H2=upd (upd H1 a (.lst [])) d (.dK (putK (es.map λe=>((Sum.inr e.1:Key),V.ref e.2.2)) (Sum.inr x) (.ref a)))∧Pot H2 p b1 m1∧Dr H2 d (es++[(x,[],a)])∧Keep [p,d] H H2∧Keep [d] H1 H2∧H a=none:=λb1 m1 H1 a aL D1 k1 ha=>by
  have ka:Keep [] H1 (upd H1 a (.lst [])):=Keep.new ha
  have iW:Pot (upd H1 a (.lst [])) p b1 m1:=aL.keep ka (by simp)
  have npd:p≠d:=Qu (pot_nd aL D1.rn.dc)
  have nap:a≠p:=Qu (zab aL.1 ha)
  have cU:rsOf (es++[(x,[],a)])=rsOf es++[(x,[])]:=by unfold rsOf;rw[List.map_append];rfl
  refine⟨_,rfl,iW.keep (Keep.wr (xs:=[d]) Qc) (by simpa using npd),⟨D1.rn.new ka ha hx zac,by rw[cU];exact za1.new _ _ D0.gd (by rw[zbk];exact hx),by rw[Qt];show _+1≤40;omega⟩,((k1.sub (by simp)).trans (ka.sub (by simp))).trans (Keep.wr (by simp)),(ka.sub (by simp)).trans (Keep.wr Qc),zal k1 ha (by simpa using nap)⟩
 have eS:∀y∈[p,d],y∈p::d::es.map (·.2.2):=λy hy=>by
  rcases Qe.mp hy with z | z
  ·rw[z];exact Qc
  ·rw[Qb.mp z];exact Qf _ Qc
 have kY:∀{a:Nc},H a=none→∀c∈(es++[(x,([]:List Str),a)]).map (·.2.2),c∈es.map (·.2.2)∨H c=none:=λ{a} cF c hc=>by
  rw[Qn]at hc
  rcases Qj.mp hc with z | z
  ·exact .inl z
  ·rw[Qb.mp z];exact .inr cF
 refine⟨_,rfl,_,rfl,p,d,b,m,es,rfl,hp,D0,λb1 m1 H1 aL k1=>?_,λt s b1 m1 H1 hft dE ap aL k1=>?_⟩
 ·have D1:=D0.pot hp k1
  refine⟨(by show 0≤sizeLine;decide),λa ha=>?_⟩
  obtain⟨H2,eH,aB,D2,sx,jv,cF⟩:=new b1 m1 H1 a aL D1 k1 ha
  refine⟨_,rfl,_,rfl,d,_,rfl,DPut.k (k:=Sum.inr x) (by rw[zad (zab D1.rn.dc ha)];exact D1.rn.dc) (by rw[Qa];omega),?_⟩
  rw[←eH]
  refine⟨_,rfl,_,rfl,iteF ?_⟩
  exact k b1 m1 _ H2 aB ⟨D2,by rw[Qn];rfl,kY cF,sx.sub eS⟩
 ·have D1:=D0.pot hp k1
  refine⟨(by show 0≤sizeLine;decide),λa ha=>?_⟩
  obtain⟨H2,eH,aB,D2,sx,jv,cF⟩:=new b1 m1 H1 a aL D1 k1 ha
  refine⟨_,rfl,_,rfl,d,_,rfl,DPut.k (k:=Sum.inr x) (by rw[zad (zab D1.rn.dc ha)];exact D1.rn.dc) (by rw[Qa];omega),?_⟩
  rw[←eH]
  clear eH
  refine⟨_,rfl,_,rfl,iteT ?_⟩
  have dq:=jv _ _ dE (by simpa using zax dE D1.rn.dc (by intro z;cases z))
  have cU:rsOf (es++[(x,[],a)])=rsOf es++[(x,[])]:=by unfold rsOf;rw[List.map_append];rfl
  have iO:x∉(rsOf es).map (·.1):=by rw[zbk];exact hx
  have jL:IsSt (rsOf (es++[(x,[],a)])) s:=by
   obtain⟨q,h1,h2⟩:=ap
   rw[cU]
   exact⟨q,Qp _ h1,h2⟩
  refine⟨_,rfl,_,rfl,d,t,_,s,rfl,D2.rn.toRAt,jL,D2.gd,D2.few,dq,λl as n H3 kH aP pa nd hL k3=>?_⟩
  have D3:=D2.k0 k3
  have ay:Pot H3 p b1 m1:=aB.keep k3 (by simp)
  have dm:=k3 _ _ dq (by simp)
  have gy:Keep [p,d] H H3:=sx.trans (k3.sub (by simp))
  obtain⟨e1,dU,e2,cv,q1,q2,qm,lq,cS⟩:=zg8 D0.gd ap
  have bU:e2∈es++[(x,([]:List Str),a)]:=Qp _ cv
  have ef:(x,([]:List Str),a)∈es++[(x,([]:List Str),a)]:=Qo _ Qc
  have nex:e2.1≠x:=λq=>hx (q▸Qh.mpr ⟨e2,cv,rfl⟩)
  refine⟨_,rfl,_,rfl,t,_,_,_,rfl,rfl,SqT.of dm,i1 _ _,_,rfl,t,_,_,_,rfl,rfl,SqT.of dm,i0 _ _,_,rfl,d,_,e2,(x,[],a),some s.1,none,by rw[q2];rfl,D3.rn,bU,ef,nex,λy z=>by rw[←Qk z];exact lq,λy z=>(by cases z),Zl (D3.row e2 bU) (by decide),Zg _,λH4 R4 k4=>?_⟩
  have lm:((es++[(x,([]:List Str),a)]).map (·.1)).Nodup:=D3.rn.nd
  have hx5:(x,([]:List Str),a)∈setE (es++[(x,[],a)]) e2.1 (ins e2.2.1 (some s.1) x) e2.2.2:=zcw ef (Qu nex)
  have vf:∀y∈[e2.2.2,a],y∈(es++[(x,([]:List Str),a)]).map (·.2.2):=λy hy=>by
   rcases Qe.mp hy with z | z
   ·rw[z];exact Qh.mpr ⟨e2,bU,rfl⟩
   ·rw[Qb.mp z];exact Qh.mpr ⟨_,ef,rfl⟩
  have notRow:∀{c:Nc} {u v:V},H3 c=some (.tup [u,v])→c∉(es++[(x,([]:List Str),a)]).map (·.2.2):=λhc z=>by
   obtain⟨e,he,rfl⟩:=Qh.mp z
   rw[D3.rn.ro e he]at hc
   cases hc
  have cO:as.length=n+1:=by
   have:=Yo pa
   rwa[run_len]at this
  have nlrow:l∉(es++[(x,([]:List Str),a)]).map (·.2.2):=λz=>by
   obtain⟨e,he,ee⟩:=Qh.mp z
   have:=D2.rn.ro e he
   rw[show e.2.2=l from ee,kH]at this
   cases this
  have nprow:p∉(es++[(x,([]:List Str),a)]).map (·.2.2):=λz=>by
   obtain⟨e,he,ee⟩:=Qh.mp z
   exact zbt ay (D3.rn.ro e he) ee
  have k34:Keep ((es++[(x,([]:List Str),a)]).map (·.2.2)) H3 H4:=k4.sub vf
  have aR:=k34 _ _ aP nlrow
  have hnb:=run_b D2.gd D2.few jL nd
  have aI:(as.map V.ref).length=n+1:=by rw[Qa,cO]
  refine⟨_,rfl,_,rfl,l,_,rfl,SqL.of aR,λl5 cz=>?_⟩
  rw[show(1:Int)=((1:Nat):Int) from rfl,zfg (by rw[aI];omega),←Jl]
  have k45:Keep ((es++[(x,([]:List Str),a)]).map (·.2.2)) H3 (upd H4 l5 (.lst ((as.drop 1).map V.ref))):=k34.trans (Keep.new cz)
  have kj:(upd H4 l5 (.lst ((as.drop 1).map V.ref))) l5=some (.lst ((as.drop 1).map V.ref)):=zac
  have R5:=R4.k0 (Keep.new (o:=.lst ((as.drop 1).map V.ref)) cz)
  have nl5row:l5∉(es++[(x,([]:List Str),a)]).map (·.2.2):=λz=>by
   rw[←zb3 lm bU (ins e2.2.1 (some s.1) x),←zb3 (e:=(x,([]:List Str),a)) (by rw[zaw];exact lm) hx5 (ins [] none e2.1)]at z
   obtain⟨e,he,ee⟩:=Qh.mp z
   have:=R4.ro e he
   rw[show e.2.2=l5 from ee,cz]at this
   cases this
  generalize upd H4 l5 (.lst ((as.drop 1).map V.ref))=H5 at k45 kj R5
  have F5:Fil (rsOf (es++[(x,[],a)])) (rsOf (setE (setE (es++[(x,[],a)]) e2.1 (ins e2.2.1 (some s.1) x) e2.2.2) x (ins [] none e2.1) a)) s x n 1:=by
   rw[zb1,zb1]
   have:=fil_leaf (L:=n) D0.gd iO ap cU nd
   rw[←q2,zbl R.nd cv]at this
   exact this
  have nI:∀i,IsSt (rsOf (es++[(x,[],a)])) (itr (rsOf (es++[(x,[],a)])) s i):=zfz (za1.clo _ D2.gd) jL
  have rf:row (rsOf (es++[(x,[],a)])) x=[]:=zbl lm ef
  have gS:((rsOf (es++[(x,([]:List Str),a)])).map (·.1)).Nodup:=by rw[zbk];exact lm
  have g0:∀{aq:List Ent} {H':Hp},RN H' d aq→aq.map (·.1)=(es++[(x,([]:List Str),a)]).map (·.1)→∀y∈(es++[(x,([]:List Str),a)]).map (·.1),∃e∈aq,e.1=y:=λR' nm y hy=>by
   rw[←nm]at hy
   exact Qh.mp hy
  refine⟨l5,rfl,⟨_,SqL.of kj⟩,zbv (xs:=(as.drop 1).map V.ref) (λi σ H'=>Aj2 (Ex2 λx5 x6=>σ=[some (.ref d),some (.ref p),some (.str x),some (.ref t),some (.ref l),x5,x6]) (Ex1 λ(aq:List Ent)=>Aj5 (RN H' d aq) (aq.map (·.1)=(es++[(x,([]:List Str),a)]).map (·.1)) (aq.map (·.2.2)=(es++[(x,([]:List Str),a)]).map (·.2.2)) (Fil (rsOf (es++[(x,[],a)])) (rsOf aq) s x n (i+1)) (Keep ((es++[(x,([]:List Str),a)]).map (·.2.2)) H3 H'∧H' l5=some (.lst ((as.drop 1).map V.ref)))))
   ⟨⟨_,_,rfl⟩,_,R5,by rw[zaw,zaw],by rw[zb3 (e:=(x,([]:List Str),a)) (by rw[zaw];exact lm) hx5,zb3 lm bU],F5,k45,kj⟩ (λi σ H' _ hh=>by obtain⟨_,_,h⟩:=hh;exact SqL.of h.h4.2) ?_ ?_⟩
  ·rintro i v σ H6 hv ⟨⟨x5,x6,rfl⟩,aq,R6,nm,am,F6,k6,cE⟩
   have hi:i+1<as.length:=by
    have:=(Za.mp hv).1
    rw[Qa,Jj]at this
    omega
   have iR:v=.ref as[i+1]:=by
    rw[Qq,List.getElem?_drop,Nat.add_comm 1 i,Qd hi]at hv
    exact(Qk hv).symm
   subst iR
   obtain⟨aE,gK⟩:=zbd pa hi
   have eq:(run (rsOf (es++[(x,[],a)])) s (n+1))[i+1]=itr (rsOf (es++[(x,[],a)])) s (i+1):=by simp[Wb.run]
   rw[eq]at gK
   have vc:=k6 _ _ gK (notRow gK)
   have jK:=k6 _ _ dm (notRow dm)
   refine⟨as[i+1],_,rfl,SqT.of vc,rfl,_,_,rfl,_,_,rfl,rfl,?_⟩
   obtain⟨ex,bQ,eex⟩:=g0 R6 nm x (Qh.mpr ⟨_,ef,rfl⟩)
   have g6:=DGet.k (k:=Sum.inr ex.1) R6.dc
   rw[zb6 R6.nd bQ,eex]at g6
   have qy:=R6.ro ex bQ
   have erx:row (rsOf aq) x=ex.2.1:=by rw[←eex];exact zbl R6.nd bQ
   have hV:=(zbu gS).mp (nI (i+1))
   obtain⟨cs0,lab0,C0⟩:=id D2.gd
   have i9:=C0.inn hV
   rw[zbk]at i9
   have qq:(itr (rsOf (es++[(x,[],a)])) s (i+1)).2≠x:=λe=>by rw[e,rf]at hV;cases hV
   refine⟨_,rfl,_,rfl,_,rfl,d,_,rfl,g6,ex.2.2,_,rfl,.inl (SqL.of qy),rfl,zcj _,_,rfl,?_⟩
   rw[zf2]
   by_cases c2:(itr (rsOf (es++[(x,[],a)])) s (i+1)).2∈ex.2.1
   ·refine zcq (by rw [decide_eq_true c2];rfl) ?_
    exact⟨⟨_,_,rfl⟩,aq,R6,nm,am,F6.skip,k6,cE⟩
   ·refine zdj (by rw [decide_eq_false c2];rfl) ?_
    obtain⟨eo,eM,eeo⟩:=g0 R6 nm _ i9
    have ero:row (rsOf aq) (itr (rsOf (es++[(x,[],a)])) s (i+1)).2=eo.2.1:=by rw[←eeo];exact zbl R6.nd eM
    have nox:eo.1≠ex.1:=by rw[eeo,eex];exact qq
    have pT:∀e∈aq,e.2.1.length≤1000:=λe he=>by
     have:=za1.rows F6.gd (e.1,e.2.1) (Qh.mpr ⟨e,he,rfl⟩)
     rw[show(rsOf aq).length=aq.length from Qa ..]at this
     have h1:e.2.1.length≤aq.length:=this
     have e1:=congrArg List.length nm
     rw[Qa,Qa]at e1
     have:=D2.few
     omega
    refine⟨_,rfl,_,rfl,_,rfl,_,rfl,_,rfl,t,_,_,_,rfl,rfl,SqT.of jK,i1 _ _,d,aq,eo,ex,some (itr (rsOf (es++[(x,[],a)])) s (i+1)).1,some s.2,by rw[eeo,eex];rfl,R6,eM,bQ,nox,λy z=>by rw[←Qk z,←ero];exact F6.su _ _ hV,λy z=>by rw[←Qk z,←erx];exact F6.in2,pT eo eM,pT ex bQ,λH7 R7 k7=>?_⟩
    have uS:ex∈setE aq eo.1 (ins eo.2.1 (some (itr (rsOf (es++[(x,[],a)])) s (i+1)).1) ex.1) eo.2.2:=zcw bQ (Qu nox)
    have ui:∀y∈[eo.2.2,ex.2.2],y∈(es++[(x,([]:List Str),a)]).map (·.2.2):=λy hy=>by
     rw[←am]
     rcases Qe.mp hy with z | z
     ·rw[z];exact Qh.mpr ⟨eo,eM,rfl⟩
     ·rw[Qb.mp z];exact Qh.mpr ⟨ex,bQ,rfl⟩
    have k7':=k7.sub ui
    refine⟨⟨_,_,rfl⟩,_,R7,by rw[zaw,zaw];exact nm,by rw[zb3 (by rw[zaw];exact R6.nd) uS,zb3 R6.nd eM];exact am,?_,k6.trans k7',k7' _ _ cE nl5row⟩
    rw[zb1,zb1,eex,eeo]
    have:=F6.tie nd hL (by omega) nI gS rf (by rw[erx];exact c2)
    rw[erx,ero]at this
    exact this
  ·rintro σ H6 ⟨⟨x5,x6,rfl⟩,aq,R6,nm,am,F6,k6,cE⟩
   have ow:aq.length=(es++[(x,([]:List Str),a)]).length:=by
    have:=congrArg List.length nm
    rwa[Qa,Qa]at this
   refine k b1 m1 aq H6 (ay.keep k6 nprow) ⟨⟨R6,F6.gd,by rw[ow];exact D2.few⟩,by rw[nm,Qn];rfl,λc hc=>?_,λc o ec hc=>k6 c o (gy c o ec λz=>hc (eS c z)) λz=>?_⟩
   ·rw [am] at hc
    exact kY cF c hc
   ·rcases kY cF c z with y | y
    ·exact hc (Qf _ (Qf _ y))
    ·rw[ec]at y;cases y
def scAway:zan [qR,qP, "_law_step_here"] [qR,qP] (zag sAway):=fsk
def ok_away(F:Fun K "_law_away" "_law_away" sAway f fd)(FS:Fun K "_law_step" "_law_step" zhc fs fds)(bS:Binds K fds [qR,qP] [])(mS:mg "_law_step" = some (.ref fs))(GS:FnOk P w K mg base CX0 2 fs fds [qR,qP] spStep) :
  FnOk P w K mg base CX0 3 f fd [qR,qP] zfb:=by
 refine F.okL scAway (λcdv A outer s0 H vs Q E hr h=>?_)
 obtain⟨p,d,b,m,es,rfl,hp,D0,k⟩:=h
 have R:=D0.rn.toRAt
 have hu:=zcb hr
 have i0:∀x y:V,atI [x,y] ((0:Nat):Int)=some x:=λx y=>zap rfl
 have i1:∀x y:V,atI [x,y] ((1:Nat):Int)=some y:=λx y=>zap rfl
 refine⟨_,zae (zat 2 scAway.nd (zaj GS hr rfl mS FS.kp bS .nil zav (zaa (pv 0) (zaa (pv 1) zaf))))
  (zah (zbr (zc7 (zhr (pv 2)))
   (zae (za3 (zer Zr PySem.F.slot_list_remove PySem.F.type_list_remove mt_remove (zcf hu (pv 0) (zaz zca (pv 2) zai (λ_ _=>rfl))) (zaa (zaz zca (pv 2) zai (λ_ _=>rfl)) zaf)))
   (zah (za3 (zer Zr PySem.F.slot_list_remove PySem.F.type_list_remove mt_remove (zcf hu (pv 0) (zaz zca (pv 2) zai (λ_ _=>rfl))) (zaa (zaz zca (pv 2) zai (λ_ _=>rfl)) zaf)))))
   za2)),?_⟩
 have eT:∀y∈[p],y∈p::d::es.map (·.2.2):=λy hy=>by rw[Qb.mp hy];exact Qc
 refine⟨_,rfl,_,rfl,p,d,b,m,es,rfl,hp,D0,λb1 m1 H1 aL k1=>?_,λt s b1 m1 H1 hft dE ap aL k1=>?_⟩
 ·refine ⟨_,rfl,_,rfl,iteF ?_⟩
  exact k b1 m1 es H1 aL ⟨D0.pot hp k1,(Zu _).symm,λc hc=>.inl hc,k1.sub eT⟩
 ·refine ⟨_,rfl,_,rfl,iteT ?_⟩
  have D1:=D0.pot hp k1
  obtain⟨e1,dU,e2,cv,q1,q2,qm,lq,cS⟩:=zg8 D0.gd ap
  have g1:=DGet.k (k:=Sum.inr e1.1) D1.rn.dc
  rw[zb6 D1.rn.nd dU,q1]at g1
  have aA:=D1.rn.ro e1 dU
  refine⟨_,rfl,_,rfl,t,_,_,_,rfl,rfl,SqT.of dE,i0 _ _,d,_,rfl,g1,.inl ⟨rfl,_,SqL.of aA⟩,_,rfl,t,_,_,_,rfl,rfl,SqT.of dE,i1 _ _,e1.2.2,_,s.2,rfl,rfl,aA,qm,?_⟩
  have R2:=D1.rn.set dU (e1.2.1.erase s.2)
  have k2:Keep [e1.2.2] H1 (upd H1 e1.2.2 (.lst ((e1.2.1.erase s.2).map V.str))):=Keep.wr Qc
  generalize upd H1 e1.2.2 (.lst ((e1.2.1.erase s.2).map V.str))=H2 at R2 k2
  have dq:=k2 _ _ dE (by simpa using zax dE aA (by intro z;cases z))
  have bU:e2∈setE es e1.1 (e1.2.1.erase s.2) e1.2.2:=zcw cv (Qu cS)
  have g2:=DGet.k (k:=Sum.inr e2.1) R2.dc
  rw[zb6 R2.nd bU,q2]at g2
  have d8:=R2.ro e2 bU
  refine⟨_,rfl,_,rfl,t,_,_,_,rfl,rfl,SqT.of dq,i1 _ _,d,_,rfl,g2,.inl ⟨rfl,_,SqL.of d8⟩,_,rfl,t,_,_,_,rfl,rfl,SqT.of dq,i0 _ _,e2.2.2,_,s.1,rfl,rfl,d8,lq,?_⟩
  have R3:=R2.set bU (e2.2.1.erase s.1)
  have k3:Keep [e2.2.2] H2 (upd H2 e2.2.2 (.lst ((e2.2.1.erase s.1).map V.str))):=Keep.wr Qc
  generalize upd H2 e2.2.2 (.lst ((e2.2.1.erase s.1).map V.str))=H3 at R3 k3
  have lw:Keep [e1.2.2,e2.2.2] H1 H3:=(k2.sub (by simp)).trans (k3.sub (by simp))
  have eI:p∉[e1.2.2,e2.2.2]:=by
   have z1:=zbt aL aA
   have z2:=zbt aL (D1.rn.ro e2 cv)
   simp
   exact⟨Qu z1,Qu z2⟩
  refine k b1 m1 _ H3 (aL.keep lw eI) ⟨⟨R3,?_,?_⟩,?_,λc hc=>.inl ?_,?_⟩
  ·rw [zb1,zb1]
   have h1n:e1.1∈(rsOf es).map (·.1):=by rw[zbk];exact Qh.mpr ⟨e1,dU,rfl⟩
   have h2n:e2.1∈(rsOf es).map (·.1):=by rw[zbk];exact Qh.mpr ⟨e2,cv,rfl⟩
   refine good_less D0.gd (v:=e1.1) (u:=e2.1) (by rw[zbl R.nd dU,q2];exact qm) (by rw[za9,za9]) ?_ ?_ λy h1 h2=>by rw[za5 h2,za5 h1]
   ·rw[za5 cS,za6 h1n,zbl R.nd dU,q2]
   ·rw[za6 (by rw[za9];exact h2n),zbl R.nd cv,q1]
  ·unfold setE
   rw[Qa,Qa]
   exact D0.few
  ·rw[zaw,zaw,Zu]
  ·rw [zb3 (by rw [zaw];exact R.nd) bU,zb3 R.nd dU] at hc
   exact hc
  ·refine fun c o ec hc=>lw c o (k1 c o ec fun z=>hc (eT c z)) ?_
   simp
   exact⟨out3 hc dU,out3 hc cv⟩
end
abbrev sLong:Stmt:=top 49
def at_last(ys:List α)(z:α):atI (ys++[z]) (-1)=some z:=by
 unfold atI ixN
 rw[Qt,if_neg (by decide),if_pos (by show -((ys.length+1:Nat):Int)≤-1;omega)]
 show(ys++[z])[((-1:Int)+((ys.length+1:Nat):Int)).toNat]?=some z
 rw[show((-1:Int)+((ys.length+1:Nat):Int)).toNat=ys.length by omega,Uq (Qg _),Nat.sub_self]
 rfl
inductive IspMade(ns:List Str→Prop)(vs:List V)(H:Hp)(Q:VK)(l:Nc)(zs:Nh):Prop
 |mk (h1:H l=some (.lst (zs.map V.str))) (h2:zs.Nodup) (h3:zs.length=40) (h4:∀(d:Nc) (es:List Ent) (H':Hp),H d=none→Dr H' d es→es≠[]→ns (es.map (·.1))→(∀e∈es,H e.2.2=none)→Keep [] H H'→Q (.ref d) H'):IspMade ns vs H Q l zs
def spLong:Sp:=λvs H Q _=>∃l zs,vs=[.ref l]∧IspMade (λn=>n=zs) vs H Q l zs
section
variable{P:Ni}{w:Nk}{K:Na}{mg:Nf}{base:Nl}
def scLong:zan [qN,qR, "_law_k",qB] [qN] (zag sLong):=fsk
def ok_long(F:Fun K "_law_long" "_law_long" sLong f fd)(FI:Fun K "_law_tie" "_law_tie" sTie fi fdi)(bI:Binds K fdi [qR, "_law_one",qB,qO, "_law_after"] [])(mI:mg "_law_tie" = some (.ref fi))(GI:FnOk P w K mg base CX0 2 fi fdi [qR, "_law_one",qB,qO, "_law_after"] spTie)(ah:mg "len" = none)(bv:mg "range" = none):FnOk P w K mg base CX0 3 f fd [qN] spLong:=by
 refine F.okL scLong (λcdv A outer s0 H vs Q E hr h=>?_) λ_ _ _ _ ⟨_,_,e,_⟩=>e▸rfl
 obtain⟨l,zs,rfl,hl,aH,cT,k⟩:=h
 have hu:=zcb hr
 have aJ  := sizeLine_eq
 refine⟨_,zae (zat 1 scLong.nd (zhq (zeb (zaz zao (pv 0) zai (λ_ _=>rfl)) (za7 zaf) zhn) rfl rfl (by decide) (by decide)))
  (zae (zbm Zp rfl (pi_range2 rfl bv (zaa zai (zaa (zak zaq (by rfl) ah Zw (zaa (pv 0) zaf)) zaf))) (zbb 2 scLong.nd)
   (zae (zat 3 scLong.nd (zau zc2 (za7 (zaa zgp zaf)) (zce zc5 (pv 0) zc8 (zcp (zau zed (pv 2) zai)))))
   (zae (zcv hu (pv 1) (zaz zao (pv 0) (pv 2) (λ_ _=>rfl)) (za7 zaf) rfl)
   (zah (za3 (zaj GI hr rfl mI FI.kp bI .nil zav (zaa (pv 1) (zaa (zaz zao (pv 0) (zau zed (pv 2) zai) (λ_ _=>rfl)) (zaa (zaz zao (pv 3) (pe_un un_neg zai) (λ_ _=>rfl)) (zaa (zaz zao (pv 0) (pv 2) (λ_ _=>rfl)) (zaa zgp zaf)))))))))))
  (zah (zbp (pv 1)))),?_⟩
 have aI:(zs.map V.str).length=40:=by rw[Qa,cT]
 have z0:0<zs.length:=by omega
 refine λd hd=>?_
 have k1:Keep [] H (upd H d (.dK [])):=Keep.new hd
 have bJ:=k1 _ _ hl (by simp)
 refine⟨_,rfl,l,_,_,_,rfl,rfl,SqL.of bJ,zap (j:=0) (by rw[Qq,Qd z0];rfl),(by show 0≤sizeLine;decide),λa ha=>⟨by rw[zad (zab (o:=_) zac ha)];exact zac,[(Sum.inr zs[0],.ref a)],rfl,(by show 1≤15;decide),?_⟩⟩
 have nda:d≠a:=zab (o:=_) zac ha
 have cF:H a=none:=zal k1 ha (by simp)
 have k2:Keep [] H (upd (upd (upd H d (.dK [])) a (.lst [])) d (.dK (zco [] [((Sum.inr zs[0]:Key),V.ref a)]))):=λc o ec _=>by
  rw[zad (zab ec hd),zad (zab ec cF),zad (zab ec hd)];exact ec
 have R2:RN (upd (upd (upd H d (.dK [])) a (.lst [])) d (.dK (zco [] [((Sum.inr zs[0]:Key),V.ref a)]))) d [(zs[0],[],a)]:=by
  refine⟨⟨zac,λe he=>?_,Wn _ _⟩,Wn _ _⟩
  rw[Qb.mp he]
  show upd _ _ _ a=_
  rw[zad (Qu nda)]
  exact zac
 generalize upd (upd (upd H d (.dK [])) a (.lst [])) d (.dK (zco [] [((Sum.inr zs[0]:Key),V.ref a)]))=H2 at k2 R2
 have ak:=k2 _ _ hl (by simp)
 have D2:Dr H2 d [(zs[0],[],a)]:=⟨R2,za1.new [] zs[0] za1.nil (by simp),by show 1≤40;decide⟩
 refine⟨_,rfl,l,_,rfl,.inl (SqL.of ak),1,40,by rw[aI];rfl,⟨by decide,by decide,by decide,by decide⟩,?_⟩
 refine zdb (n:=39) (lo:=1) (λi σ H'=>Ex3 λ(es:List Ent) (x2 x3:Option V)=>Aj6 (σ=[some (.ref l),some (.ref d),x2,x3]) (Dr H' d es) (es.map (·.1)=zs.take (i+1)) (row (rsOf es) (zs.getD i zs[0])=if i=0 then[] else[zs.getD (i-1) zs[0]]) (∀e∈es,H e.2.2=none) (Keep [] H H'))
  ⟨_,none,none,rfl,D2,by rw[Qm z0];rfl,?_,λe he=>by rw[Qb.mp he];exact cF,k2⟩ ?_ ?_
 ·rw [show zs.getD 0 zs[0]=zs[0] by simp [List.getD,z0]]
  exact zbl (e:=(zs[0],[],a)) R2.nd Qc
 ·rintro i σ H3 hi ⟨es,x2,x3,rfl,D3,ig,au,eJ,k3⟩
  have aP:=k3 _ _ hl (by simp)
  have qL:i<zs.length:=by omega
  have qK:i+1<zs.length:=by omega
  have gi:∀(j:Nat) (hj:j<zs.length),(zs.map V.str)[j]?=some (.str zs[j]):=λj hj=>by rw[Qq,Qd hj];rfl
  have gd:∀(j:Nat) (hj:j<zs.length),zs.getD j zs[0]=zs[j]:=λj hj=>by simp[List.getD,hj]
  refine⟨(by show 1≤sizeLine;decide),λp1 h1=>?_⟩
  have n1:l≠p1:=zab aP h1
  refine⟨_,rfl,_,rfl,_,_,rfl,rfl,_,rfl,l,_,rfl,SqL.of (by rw[zad n1];exact aP),λp2 h2=>?_⟩
  have cS:p1≠p2:=zab (o:=_) zac h2
  rw[show(1:Int)+(i:Int)-1=(i:Int) by omega,cut_to (by rw[aI];omega),←Ue]
  refine⟨p1,p2,_,_,rfl,rfl,(by rw[zad cS];exact zac),zac,by rw[Qa,Zh];show 1+_≤_;omega,λp3 h3=>?_⟩
  have k4:Keep [] H3 (upd (upd (upd H3 p1 (.lst [.non])) p2 (.lst ((zs.take i).map V.str))) p3 (.lst ([.non]++(zs.take i).map V.str))):=((Keep.new h1).trans (Keep.new h2)).trans (Keep.new h3)
  have lN:(upd (upd (upd H3 p1 (.lst [.non])) p2 (.lst ((zs.take i).map V.str))) p3 (.lst ([.non]++(zs.take i).map V.str))) p3=some (.lst ([.non]++(zs.take i).map V.str)):=zac
  generalize upd (upd (upd H3 p1 (.lst [.non])) p2 (.lst ((zs.take i).map V.str))) p3 (.lst ([.non]++(zs.take i).map V.str))=H4 at k4 lN
  have D4:=D3.k0 k4
  have aR:=k4 _ _ aP (by simp)
  refine⟨(by show 0≤sizeLine;decide),λa ha=>?_⟩
  have k5:Keep [] H4 (upd H4 a (.lst [])):=Keep.new ha
  have cz:=k5 _ _ aR (by simp)
  have e8:zs[i+1]∉es.map (·.1):=λz=>by
   rw[ig]at z
   obtain⟨j,hj,e⟩:=Zo z
   rw[Zh]at hj
   rw[Wp]at e
   have:=(Yi aH).mp e
   omega
  have bf:es.length<40:=by
   have:=congrArg List.length ig
   rw[Qa,Zh]at this
   omega
  refine⟨_,rfl,_,rfl,_,rfl,l,_,_,_,rfl,rfl,SqL.of cz,by rw[show(1:Int)+(i:Int)=((i+1:Nat):Int) by omega];exact zap (gi _ qK),d,_,rfl,DPut.k (k:=Sum.inr zs[i+1]) (k5 _ _ D4.rn.dc (by simp)) (by rw[Qa];omega),?_⟩
  have R6:=D4.rn.new k5 ha e8 zac
  have nld:l≠d:=zax cz (k5 _ _ D4.rn.dc (by simp)) (by intro z;cases z)
  have nbd:p3≠d:=zax lN D4.rn.dc (by intro z;cases z)
  have k6:Keep [d] H3 (upd (upd H4 a (.lst [])) d (.dK (putK (es.map λe=>((Sum.inr e.1:Key),V.ref e.2.2)) (Sum.inr zs[i+1]) (.ref a)))):=((k4.trans k5).sub (by simp)).trans (Keep.wr Qc)
  have ss:Keep [d] H4 (upd (upd H4 a (.lst [])) d (.dK (putK (es.map λe=>((Sum.inr e.1:Key),V.ref e.2.2)) (Sum.inr zs[i+1]) (.ref a)))):=(k5.sub (by simp)).trans (Keep.wr Qc)
  generalize upd (upd H4 a (.lst [])) d (.dK (putK (es.map λe=>((Sum.inr e.1:Key),V.ref e.2.2)) (Sum.inr zs[i+1]) (.ref a)))=H6 at R6 k6 ss
  have cE:=ss _ _ aR (by simpa using nld)
  have lM:=ss _ _ lN (by simpa using nbd)
  have oW:H a=none:=zal ((k3.trans k4)) ha (by simp)
  obtain⟨e,he,ee⟩:∃e∈es,e.1=zs[i]:=by
   have:zs[i]∈es.map (·.1):=by
    rw[ig,Qm qL]
    exact Qo _ Qc
   exact Qh.mp this
  have he6:e∈es++[(zs[i+1],([]:List Str),a)]:=Qp _ he
  have sJ:(zs[i+1],([]:List Str),a)∈es++[(zs[i+1],([]:List Str),a)]:=Qo _ Qc
  have nex:e.1≠zs[i+1]:=λq=>e8 (q▸Qh.mpr ⟨e,he,rfl⟩)
  have her:e.2.1=if i=0 then[] else[zs.getD (i-1) zs[0]]:=by
   rw[←zbl D3.rn.nd he,ee,←gd i qL];exact au
  obtain⟨c,hc,hcr,eO⟩:∃c:Option Str,atI ([V.non]++(zs.take i).map V.str) (-1)=some (zf5 c)∧(∀y,c=some y→y∈e.2.1)∧(c=none→e.2.1=[]):=by
   cases i with
   |zero=>exact⟨none,rfl,λy z=>(by cases z),λ_=>by rw[her,if_pos rfl]⟩
   | succ j =>
    have hj:j<zs.length:=by omega
    refine⟨some zs[j],?_,λy z=>?_,λz=>(by cases z)⟩
    ·rw [Qm hj,Qn,← Qw]
     exact at_last _ _
    ·rw [her,if_neg (Nat.succ_ne_zero j),← Qk z,Nat.add_sub_cancel,gd j hj]
     exact Qc
  refine⟨_,rfl,_,rfl,_,rfl,_,_,rfl,rfl,l,_,_,_,rfl,rfl,SqL.of cE,by rw[show(1:Int)+(i:Int)-1=(i:Int) by omega];exact zap (gi _ qL),_,rfl,_,rfl,p3,_,_,_,rfl,rfl,SqL.of lM,hc,_,rfl,_,rfl,l,_,_,_,rfl,rfl,SqL.of cE,by rw[show(1:Int)+(i:Int)=((i+1:Nat):Int) by omega];exact zap (gi _ qK),?_⟩
  have cU:rsOf (es++[(zs[i+1],[],a)])=rsOf es++[(zs[i+1],[])]:=by unfold rsOf;rw[List.map_append];rfl
  have iO:zs[i+1]∉(rsOf es).map (·.1):=by rw[zbk];exact e8
  refine⟨d,_,e,(zs[i+1],[],a),c,none,by rw[ee];rfl,R6,he6,sJ,nex,hcr,λy z=>(by cases z),Zl (D3.row e he) (by decide),Zg _,λH7 R7 k7=>?_⟩
  have jD:(zs[i+1],([]:List Str),a)∈setE (es++[(zs[i+1],[],a)]) e.1 (ins e.2.1 c zs[i+1]) e.2.2:=zcw sJ (Qu nex)
  refine⟨_,_,_,rfl,⟨R7,?_,?_⟩,?_,?_,λe' bV=>?_,λc' o ec _=>k7 c' o (k6 c' o (k3 c' o ec (by simp)) (by simpa using zab ec hd)) ?_⟩
  ·rw [zb1,zb1,cU]
   exact za1.leaf (rsOf es) _ (e.1,e.2.1) c D3.gd iO (Qh.mpr ⟨e,he,rfl⟩) hcr eO
  ·unfold setE
   rw[Qa,Qa,Qt]
   show _+1≤40
   omega
  ·rw[zaw,zaw,Qn,ig,Qm qK];rfl
  ·rw [if_neg (Nat.succ_ne_zero i),Nat.add_sub_cancel,gd _ qK,gd _ qL,zb1,zb1,za6]
   ·rw[←ee];rfl
   ·rw[za9,zbk];exact Qh.mpr ⟨_,sJ,rfl⟩
  ·have:e'.2.2∈(es++[(zs[i+1],([]:List Str),a)]).map (·.2.2):=by
    rw[←zb3 R6.nd he6 (ins e.2.1 c zs[i+1]),←zb3 (e:=(zs[i+1],([]:List Str),a)) (by rw[zaw];exact R6.nd) jD (ins [] none e.1)]
    exact Qh.mpr ⟨e',bV,rfl⟩
   obtain⟨e'',h1,h2⟩:=Qh.mp this
   rw[←h2]
   rcases Qj.mp h1 with z | z
   ·exact eJ _ z
   ·rw[Qb.mp z];exact oW
  ·simp
   exact⟨λz=>(by rw[z,eJ e he]at ec;cases ec),λz=>(by rw[z,oW]at ec;cases ec)⟩
 ·rintro σ H3 ⟨es,x2,x3,rfl,D3,ig,au,eJ,k3⟩
  have kb:es.map (·.1)=zs:=by rw[ig,Qz (by omega)]
  refine⟨_,rfl,k d es H3 hd D3 (λz=>?_) kb eJ k3⟩
  rw[z]at kb
  rw[←kb]at cT
  cases cT
end
abbrev sRows:Stmt:=top 51
def zgq{α β:Type}{R:α→β→Prop}{as:List α}{bs:List β}(h:Paired R as bs):Paired R as.reverse bs.reverse:=by
 induction h with
 |nil=>exact .nil
 |cons h t ih=>rw[Kk,Kk];exact zbe ih (.cons h .nil)
inductive IspRows(vs:List V)(H:Hp)(Q:VK):Prop
 |mk (p d:Nc) (b m:Int) (es:List Ent) (h0:vs=[.ref d,.ref p]) (h1:Pot H p b m) (h2:Dr H d es)
  (h3:∀(l:Addr) (as:List Addr) (bo aq:List Ent) (b' m':Int) (H':Hp),RwAt H' l as bo→aq.Perm es→zf9 bo aq→Pot H' p b' m'→Keep [p] H H'→Q (.ref l) H'):IspRows vs H Q
def spRows:Sp:=λvs H Q _=>IspRows vs H Q
section
variable{P:Ni}{w:Nk}{K:Na}{mg:Nf}{base:Nl}
def scRows:zan [qR,qP, "_law_found", "_law_place", "_law_at"] [qR,qP] (zag sRows):=fsk
def ok_rows{f ft:Nc}{fd fdt:Np}(F:Fun K "_law_rows" "_law_rows" sRows f fd)(FT:Fun K qD qD zfo ft fdt)(bT:Binds K fdt [qP,qM] [])(mT:mg qD=some (.ref ft))(GT:FnOk P w K mg base CX0 1 ft fdt [qP,qM] zd3)(ah:mg "len" = none):FnOk P w K mg base CX0 2 f fd [qR,qP] spRows:=by
 refine F.okL scRows (λcdv A outer s H vs Q E hr h=>?_)
 obtain⟨p,d,b,m,es,rfl,hp,D0,k⟩:=h
 have R:=D0.rn.toRAt
 have hu:=zcb hr
 have aJ  := sizeLine_eq
 refine⟨_,zae (zat 2 scRows.nd (za7 zaf))
  (zae (zeq (zbm Zp rfl (zds (pv 0)) (zbb 3 scRows.nd)
   (zae (zat 4 scRows.nd (zaj GT hr rfl mT FT.kp bT .nil zav (zaa (pv 1) (zaa (zau zbq (zak zaq (by rfl) ah Zw (zaa (zcf hu (pv 0) (pv 3)) zaf)) zai) zaf))))
   (zah (za3 (zer Zr Wl Wk zcr (pv 2)
    (zaa (zey (zaa (pv 3) (zaa (zau zc2 (zce zc5 (zcf hu (pv 0) (pv 3)) (zcp (pv 4)) zc8) (zce zc5 (zcf hu (pv 0) (pv 3)) zc8 (zcp (pv 4)))) zaf))) zaf)))))))
  (zae (zbr (zas op_eq (zaj GT hr rfl mT FT.kp bT .nil zav (zaa (pv 1) (zaa zai zaf))) zai (zbf _))
   (zah (za3 (pe_bm0 Zr PySem.F.slot_list_reverse PySem.F.type_list_reverse mt_reverse (pv 2)))) za2)
  (zah (zbp (pv 2))))),?_⟩
 have aH:(es.map (·.1)).Nodup:=R.nd
 have aV:=D0.row
 have bf:=D0.few
 refine⟨(by show 0≤sizeLine;decide),λro dG=>?_⟩
 have nfz:∀o' u',H d≠some (.frz o' u'):=λo' u' z=>by rw[R.dc]at z;cases z
 have npd:p≠d:=Qu (pot_nd hp R.dc)
 have npr:p≠ro:=zab hp.1 dG
 have dl:d≠ro:=zab R.dc dG
 have k1:Keep [] H (upd H ro (.lst [])):=Keep.new dG
 have nV:(upd H ro (.lst [])) ro=some (.lst []):=zac
 generalize upd H ro (.lst [])=H1 at k1 nV
 have R1:RAt H1 d es:=R.keep k1 (by simp) (λ_ _=>by simp)
 have aL:Pot H1 p b m:=hp.keep k1 (by simp)
 have rowne:∀e∈es,e.2.2∉[p,d,ro]:=λe he=>by
  have h1:=R.ro e he
  simp only[Qe,Wa,or_false,not_or]
  exact⟨zbt hp h1,zax h1 R.dc (by intro z;cases z),zab h1 dG⟩
 refine⟨_,rfl,d,_,rfl,R1.dc,λo=>zfe (λi σ H'=>Aj4 (Ex2 λx3 x4=>σ=[some (.ref d),some (.ref p),some (.ref ro),x3,x4]) (H' d=some (.frz o (.dK (es.map λe=>((Sum.inr e.1:Key),V.ref e.2.2))))) (Keep [p,d,ro] H1 H') (Ex4 λ(b' m':Int) (as:Nn) (bo:List Ent)=>Aj6 (Pot H' p b' m') (H' ro=some (.lst (as.map V.ref))) (Paired (λa (e:Ent)=>H' a=some (.tup [.str e.1,.ref e.2.2])) as bo) (∀e∈bo,H' e.2.2=some (.lst (e.2.1.map V.str))) (zf9 bo (es.take i)) (∀e∈bo,e.2.2≠ro)))
  ⟨⟨_,_,rfl⟩,zac,Keep.wr (by simp),b,m,[],[],aL.keep (xs:=[d]) (Keep.wr (by simp)) (by simpa using npd),by rw[zad (Qu dl)];exact nV,.nil,λe he=>(by cases he),.nil,λe he=>(by cases he)⟩ (λi σ H' _ hh=>hh.2) ?_ ?_⟩
 ·rintro i pr σ H2 fR ⟨⟨x3,x4,rfl⟩,hz,k2,b2,m2,as,bo,aB,jQ,dD,fH,bp,rowro⟩
  have hi:i<es.length:=by
   have:=(Za.mp fR).1
   rwa[Qa]at this
  have g1:pr=((Sum.inr es[i].1:Key),V.ref es[i].2.2):=by
   rw[Qq,Qd hi]at fR
   exact(Qk fR).symm
  subst g1
  have aX:es[i]∈es:=Zb hi
  have tk:es.take (i+1)=es.take i++[es[i]]:=Qm hi
  have cO:as.length=i:=by
   rw[Yo dD,Yo bp,Zh];lia
  generalize es[i]=e at aX tk
  have tF:=aV _ aX
  have bu:=R1.ro _ aX
  have d0:=k2 _ _ bu (rowne _ aX)
  have aI:(e.2.1.map V.str).length=e.2.1.length:=Qa ..
  have dg:∀{H':Hp},H' d=some (.frz o (.dK (es.map λe=>((Sum.inr e.1:Key),V.ref e.2.2))))→DGet H' d (.str e.1) (some (.ref e.2.2)):=λce=>.inl ⟨_,Sum.inr e.1,.inr ⟨o,ce⟩,rfl,(zb6 aH aX).symm⟩
  refine⟨_,rfl,_,rfl,_,rfl,d,.ref e.2.2,rfl,dg hz,e.2.2,_,rfl,.inl (SqL.of d0),_,_,rfl,rfl,p,b2,m2,_,rfl,aB,(by rw[aI];lia),(by rw[aI];lia),λj3 b3 m3 H3 hj3 ug ay eV=>?_⟩
  have k3:=zba eV
  obtain⟨j,rfl⟩:=Zt hj3
  rw[aI]at ug
  have hj:j≤e.2.1.length:=by lia
  have nrop:ro≠p:=Qu npr
  have jP:=k3 _ _ jQ (by simpa using nrop)
  have fI:=k3 _ _ d0 (by simpa using zbt aB d0)
  have fj:=k3 _ _ hz (by simpa using Qu npd)
  have sU:Paired (λa (e:Ent)=>H3 a=some (.tup [.str e.1,.ref e.2.2])) as bo:=Paired.imp' (λa e h=>k3 _ _ h (by simpa using zax h aB.1 (by intro z;cases z))) dD
  have tz:∀e∈bo,H3 e.2.2=some (.lst (e.2.1.map V.str)):=λe he=>k3 _ _ (fH e he) (by simpa using zbt aB (fH e he))
  refine⟨_,rfl,.inl ⟨rfl,_,SqL.of jP⟩,.str e.1,rfl,_,rfl,_,rfl,d,_,rfl,dg fj,_,rfl,_,rfl,e.2.2,_,rfl,SqL.of fI,λq1 h1=>?_⟩
  have n1:e.2.2≠q1:=zab fI h1
  have nd1:d≠q1:=zab fj h1
  refine⟨_,rfl,_,rfl,d,_,rfl,dg (by rw[zad nd1];exact fj),_,rfl,_,rfl,e.2.2,_,rfl,SqL.of (by rw[zad n1];exact fI),λq2 h2=>?_⟩
  have cS:q1≠q2:=zab (o:=_) zac h2
  refine⟨q1,q2,_,_,rfl,rfl,(by rw[zad cS];exact zac),zac,?_,λq3 h3=>?_⟩
  ·have c1:=zbx (e.2.1.map V.str) (some (j:Int)) none
   have c2:=zbx (e.2.1.map V.str) none (some (j:Int))
   rw[aI]at c1 c2
   lia
  have ecut:cutV (e.2.1.map V.str) (some (j:Int)) none++cutV (e.2.1.map V.str) none (some (j:Int))=(e.2.1.drop j++e.2.1.take j).map V.str:=by
   rw[zfg (by rw[aI];exact hj),cut_to (by rw[aI];exact hj),Qn,Jl,Ue]
  rw[ecut]
  have k5:Keep [] H3 (upd (upd (upd H3 q1 (.lst (cutV (e.2.1.map V.str) (some (j:Int)) none))) q2 (.lst (cutV (e.2.1.map V.str) none (some (j:Int))))) q3 (.lst ((e.2.1.drop j++e.2.1.take j).map V.str))):=((Keep.new h1).trans (Keep.new h2)).trans (Keep.new h3)
  have tI:(upd (upd (upd H3 q1 (.lst (cutV (e.2.1.map V.str) (some (j:Int)) none))) q2 (.lst (cutV (e.2.1.map V.str) none (some (j:Int))))) q3 (.lst ((e.2.1.drop j++e.2.1.take j).map V.str))) q3=some (.lst ((e.2.1.drop j++e.2.1.take j).map V.str)):=zac
  have nq3ro:q3≠ro:=Qu (zab (((Keep.new (xs:=[]) h1).trans (Keep.new h2)) _ _ jP (by simp)) h3)
  generalize upd (upd (upd H3 q1 (.lst (cutV (e.2.1.map V.str) (some (j:Int)) none))) q2 (.lst (cutV (e.2.1.map V.str) none (some (j:Int))))) q3 (.lst ((e.2.1.drop j++e.2.1.take j).map V.str))=H5 at k5 tI
  refine⟨(by show 2≤sizeLine;decide),λt ht=>?_⟩
  have k6:Keep [] H3 (upd H5 t (.tup [.str e.1,.ref q3])):=k5.trans (Keep.new ht)
  have jK:(upd H5 t (.tup [.str e.1,.ref q3])) t=some (.tup [.str e.1,.ref q3]):=zac
  have o8:(upd H5 t (.tup [.str e.1,.ref q3])) q3=some (.lst ((e.2.1.drop j++e.2.1.take j).map V.str)):=by rw[zad (zab tI ht)];exact tI
  generalize upd H5 t (.tup [.str e.1,.ref q3])=H6 at k6 jK o8
  have nU:=k6 _ _ jP (by simp)
  refine⟨ro,_,_,rfl,rfl,nU,by rw[Qa];lia,?_⟩
  have keepro:∀{a:Nc} {u:HO},H6 a=some u→a≠ro→(upd H6 ro (.lst (as.map V.ref++[V.ref t]))) a=some u:=λ{a u} e ne=>by rw[zad ne];exact e
  have tupro:∀{a:Nc} {xs:List V},H6 a=some (.tup xs)→a≠ro:=λ{a xs} e=>zax e nU (by intro z;cases z)
  refine⟨⟨_,_,rfl⟩,by rw[zad dl];exact k6 _ _ fj (by simp),((k2.trans (k3.sub (by simp))).trans (k6.sub (by simp))).trans (Keep.wr (by simp)),b3,m3,as++[t],bo++[(e.1,e.2.1.drop j++e.2.1.take j,q3)],(ay.keep k6 (by simp)).keep (xs:=[ro]) (Keep.wr (by simp)) (by simpa using npr),by rw[zac,Qn];rfl,?_,λe' he=>?_,?_,λe' he=>?_⟩
  ·exact zbe (Paired.imp' (λa e h=>keepro (k6 _ _ h (by simp)) (tupro (k6 _ _ h (by simp)))) sU) (.cons (keepro jK (tupro jK)) .nil)
  ·rcases Qj.mp he with z | z
   ·exact keepro (k6 _ _ (tz e' z) (by simp)) (rowro e' z)
   ·rw[Qb.mp z];exact keepro o8 nq3ro
  ·rw [tk]
   exact zbe bp (.cons ⟨rfl,j,rfl⟩ .nil)
  ·rcases Qj.mp he with z | z
   ·exact rowro e' z
   ·rw[Qb.mp z];exact nq3ro
 ·rintro σ H2 ⟨⟨x3,x4,rfl⟩,hz,k2,b2,m2,as,bo,aB,jQ,dD,fH,bp,rowro⟩
  rw[Qa,Qz (Qg _)]at bp
  refine⟨d,o,_,hz,nfz,?_⟩
  have kf:Keep [p,ro] H1 (upd H2 d (.dK (es.map λe=>((Sum.inr e.1:Key),V.ref e.2.2)))):=λc u ec hc=>by
   by_cases ar:c=d
   ·subst ar
    rw[zac,←R1.dc];exact ec
   ·rw [zad ar]
    refine k2 c u ec ?_
    simp only[Qe,Wa,or_false,not_or]at hc ⊢
    exact⟨hc.1,ar,hc.2⟩
  have ay:Pot (upd H2 d (.dK (es.map λe=>((Sum.inr e.1:Key),V.ref e.2.2)))) p b2 m2:=aB.keep (xs:=[d]) (Keep.wr (by simp)) (by simpa using npd)
  have pM:RwAt (upd H2 d (.dK (es.map λe=>((Sum.inr e.1:Key),V.ref e.2.2)))) ro as bo:=⟨by rw[zad (Qu dl)];exact jQ,Paired.imp' (λa e h=>by rw[zad (zax h hz (by intro z;cases z))];exact h) dD,λe he=>by rw[zad (zax (fH e he) hz (by intro z;cases z))];exact fH e he⟩
  generalize upd H2 d (.dK (es.map λe=>((Sum.inr e.1:Key),V.ref e.2.2)))=H3 at kf ay pM
  have lw:Keep [p,ro] H H3:=(k1.sub (by simp)).trans kf
  have nrop:ro≠p:=Qu npr
  refine⟨_,rfl,p,b2,m2,2,rfl,ay,by decide,by decide,λj4 b4 m4 H4 r8 r6 cj iL=>?_⟩
  have k4:=zba iL
  have R4:RwAt H4 ro as bo:=⟨k4 _ _ pM.ls (by simpa using nrop),Paired.imp' (λa e h=>k4 _ _ h (by simpa using zax h ay.1 (by intro z;cases z))) pM.ts,λe he=>k4 _ _ (pM.ro e he) (by simpa using zbt ay (pM.ro e he))⟩
  have ms:Keep [p,ro] H H4:=lw.trans (k4.sub (by simp))
  have out:∀{H':Hp},Keep [p,ro] H H'→Keep [p] H H':=λkk c o ec hc=>kk c o ec (by simp at hc ⊢;exact⟨hc,zab ec dG⟩)
  refine⟨rfl,_,rfl,?_⟩
  refine ite2 (λ_=>?_) (λ_=>?_)
  ·refine ⟨_,rfl,.inl ⟨rfl,_,SqL.of R4.ls⟩,ro,_,rfl,rfl,R4.ls,?_⟩
   have tupro:∀{a:Nc} {xs:List V},H4 a=some (.tup xs)→a≠ro:=λ{a xs} e=>zax e R4.ls (by intro z;cases z)
   refine⟨_,rfl,k ro as.reverse bo.reverse es.reverse b4 m4 _ ⟨by rw[zac,List.map_reverse],zgq (Paired.imp' (λa e h=>by rw[zad (tupro h)];exact h) R4.ts),λe he=>?_⟩ (Jd es) (zgq bp) (cj.keep (xs:=[ro]) (Keep.wr (by simp)) (by simpa using npr)) (out (ms.trans (Keep.wr (by simp))))⟩
   rw[zad (rowro e (List.mem_reverse.mp he))]
   exact R4.ro e (List.mem_reverse.mp he)
  ·exact⟨_,rfl,k ro as bo es b4 m4 H4 R4 (List.Perm.refl _) bp cj (out ms)⟩
end
end K21
end
section
namespace L2
open PySem PySem.Spec PyProof.Rows
def lc_map{K:Na}{g:TG}{te:TE}{Q:VK}{a:Nc}{τ:St}{H:Hp}{xs:List V}(T:St→Prop)(f:V→V)(ha:SqL K H a xs)(hn:xs.length≤sizeLine)(h0:T τ)(hs:∀x∈xs,∀τ,T τ→∀k:V→St→Hp→Prop,(∀τ2,T τ2→k (f x) τ2 H)→g x τ H λ τ2 H2=>te τ2 H2 λy H4=>k y τ2 H4)(q:∀D,H D=none→Q (.ref D) (upd H D (.lst (xs.map f)))):rLC g tAll te Q (Itl K a) τ H:=by
 refine⟨λi m ys τ H1=>Aj5 (H1=H) (T τ) (m=xs.length-i) (i≤xs.length) (ys=(xs.take i).map f),⟨_,rfl,h0,rfl,Zg _,rfl⟩,?_⟩
 rintro i m ys τ H1 ⟨rfl,ht,rfl,hi,rfl⟩
 by_cases ai:i<xs.length
 ·refine .inr ⟨⟨xs,xs[i],ha,Qd ai⟩,by rw [Qa,Zh];lia,?_⟩
  rintro x H' ⟨rfl,hx⟩
  have cw:=hx xs ha
  rw[Qd ai]at cw
  have jC:xs[i]=x:=Qk cw
  refine hs x (jC▸Zb ai) τ ht (λy τ2 H4=>∃m',m'<xs.length-i∧Aj5 (H4=H') (T τ2) (m'=xs.length-(i+1)) (i+1≤xs.length) ((xs.take i).map f++[y]=(xs.take (i+1)).map f)) λ τ2 h2=>?_
  exact⟨_,by exact zar1 ‹_›,rfl,h2,rfl,ai,by rw[Qm ai,Qn,jC];rfl⟩
 ·have e:i=xs.length:=by exact zar3 ‹_› ‹_›
  subst e
  refine .inl ⟨⟨xs,ha,Qg _⟩,λD hD=>?_⟩
  rw[Qz (Qg _)]
  exact q D hD
def zhs{X:Cx}{K:Na}(hK:X.K=K):OpR X (compareOp .NotIn) (rIn K true):=hK▸zcn
end L2
namespace L2
end L2
namespace K21
open PySem L2 Wb
abbrev sHues:Stmt:=top 52
structure HAt(H:Hp)(u:Nc)(hs:List (Str×Int)):Prop where
 dc:H u=some (.dK (hs.map λe=>((Sum.inr e.1:Key),V.int e.2)))
 nd:(hs.map (·.1)).Nodup
def zg6{hs:List (Str×Int)}{x:Str}(h:x∉hs.map (·.1)):valV (hs.map λe=>((Sum.inr e.1:Key),V.int e.2)) (Sum.inr x)=none:=by
 induction hs with
 |nil=>rfl
 |cons a t ih =>
  rw[Ql,Qe,not_or]at h
  rw[Ql,zbj]
  ·exact ih h.2
  ·intro q;exact h.1 (Ws q).symm
def valH_in{hs:List (Str×Int)}(nd:(hs.map (·.1)).Nodup){e:Str×Int}(h:e∈hs):valV (hs.map fun e=>((Sum.inr e.1:Key),V.int e.2)) (Sum.inr e.1)=some (.int e.2):=by
 induction hs with
 |nil=>cases h
 | cons a t ih =>
  rw[Ql,Qs]at nd
  rw[Ql]
  rcases Qe.mp h with z | z
  ·subst z;exact zcd rfl
  ·rw [zbj]
   ·exact ih nd.2 z
   ·intro q
    exact nd.1 (by rw[Ws q];exact Qh.mpr ⟨e,z,rfl⟩)
def HAt.keep{H H':Hp}{u:Nc}{hs:List (Str×Int)}{xs:Nn}(h:HAt H u hs)(k:Keep xs H H')(hu:u∉xs):HAt H' u hs:=⟨k _ _ h.dc hu,h.nd⟩
def hueV(hs:List (Str×Int))(z:Str):V:=(valV (hs.map λe=>((Sum.inr e.1:Key),V.int e.2)) (Sum.inr z)).getD .non
def hueV_is(hs:List (Str×Int))(z:Str):hueV hs z=.non∨∃v,hueV hs z=.int v:=by
 unfold hueV
 induction hs with
 |nil=>exact .inl rfl
 |cons a t ih =>
  rw[Ql]
  by_cases h:a.1=z
  ·rw[h,zcd rfl];exact .inr ⟨_,rfl⟩
  ·rw[zbj (λq=>h (Ws q))];exact ih
def flat_hues(hs:List (Str×Int))(zs:Nh):(zs.map (hueV hs)).all zdk=true:=by
 rw[Ut]
 intro v hv
 obtain⟨z,_,rfl⟩:=Qh.mp hv
 rcases hueV_is hs z with h | ⟨n,h⟩<;>rw[h]<;>rfl
def HAt.new{H:Hp}{u:Nc}{hs:List (Str×Int)}(h:HAt H u hs){x:Str}(v:Int)(hx:x∉hs.map (·.1)):HAt (upd H u (.dK (putK (hs.map λe=>((Sum.inr e.1:Key),V.int e.2)) (Sum.inr x) (.int v)))) u (hs++[(x,v)]):=by
 refine⟨by rw[zac,zea _ (zg6 hx),Qn];rfl,?_⟩
 rw[Qn,Ze]
 refine⟨h.nd,Qs.mpr ⟨by simp,Zn⟩,λy hy z hz e=>?_⟩
 have ce:z=x:=by simpa using hz
 exact hx (by rw[←ce,←e];exact hy)
inductive IspHues(vs:List V)(H:Hp)(Q:VK):Prop
 |mk (p d:Nc) (b m:Int) (es:List Ent) (h0:vs=[.ref d,.ref p]) (h1:Pot H p b m) (h2:Dr H d es)
  (h5:∀(t u l:Nc) (hs:List (Str×Int)) (ns:List Int) (b' m':Int) (H':Hp),H' t=some (.tup [.ref u,.ref l])→HAt H' u hs→(∀h∈hs,h.1∈es.map (·.1))→hs.length≤40→H' l=some (.lst (ns.map V.int))→ns.length≤7→Pot H' p b' m'→H u=none→H l=none→Keep [p] H H'→Q (.ref t) H'):IspHues vs H Q
def spHues:Sp:=λvs H Q _=>IspHues vs H Q
def cpOf:Stmt→Expr
 |.If (.BoolOp _ (_::.Compare _ _ (e::_) _::_) _) _ _ _=>e
 |_=>.Name "" ⟨0,0,0,0⟩
abbrev csHa:Scope:=scOf (cpOf (bAt (sAt sHues 2) 1))
def csHa_k:csHa.kind=.function:=by rfl
def csHa_c:∀y∈csHa.names,y.2≠.cell:=by decide +kernel
def csHa_n:∀y∈csHa.names,y.2=.local→csHa.names.lookup y.1=some .local:=by decide +kernel
def csHa_f:∀y∈csHa.names,y.2=.free→(zag sHues).names.lookup y.1=some .cell∨(zag sHues).names.lookup y.1=some .free:=by decide +kernel
def csHa_l:csHa.names.lookup ("_law_found" : Str)=some NameKind.free:=by decide +kernel
def ndHa:([qO, "_law_found"]:List Str).Nodup:=by decide +kernel
section
variable{P:Ni}{w:Nk}{K:Na}{mg:Nf}{base:Nl}
def scHues:zan [qR,qP, "_law_sorts", "_law_found", "_law_place", "_law_hue"] [qR,qP] (zag sHues):=fsk
def ok_hues{f ft:Nc}{fd fdt:Np}(F:Fun K "_law_hues" "_law_hues" sHues f fd)(FT:Fun K qD qD zfo ft fdt)(bT:Binds K fdt [qP,qM] [])(mT:mg qD=some (.ref ft))(GT:FnOk P w K mg base CX0 1 ft fdt [qP,qM] zd3)(ah:mg "len" = none):FnOk P w K mg base CX0 2 f fd [qR,qP] spHues:=by
 refine F.okL scHues (λcdv A outer s H vs Q E hr h=>?_)
 obtain⟨p,d,b,m,es,rfl,hp,D0,k⟩:=h
 have R:=D0.rn.toRAt
 have hu:=zcb hr
 have aJ  := sizeLine_eq
 refine⟨_,zae (zat 2 scHues.nd (zce zc5 (za7 (zaa zai (zaa zai (zaa zai (zaa zai
    (zaa (zau zed (zau op_pow zai zai) (zaj GT hr rfl mT FT.kp bT .nil zav (zaa (pv 1) (zaa zai zaf))))
    (zaa (zau zbq zai (zaj GT hr rfl mT FT.kp bT .nil zav (zaa (pv 1) (zaa zai zaf)))) zaf))))))) zc8
    (zcp (zau zbq zai (zaj GT hr rfl mT FT.kp bT .nil zav (zaa (pv 1) (zaa zai zaf)))))))
  (zae (ps_set (i:=3) scHues.nd rfl (Or.inr rfl) pe_dnewK)
  (zae (zeq (zbm Zp rfl (zds (pv 0)) (zbb 4 scHues.nd)
   (zae (zat 5 scHues.nd (zaz zao (pv 2) (zaj GT hr rfl mT FT.kp bT .nil zav (zaa (pv 1) (zaa (zak zaq (by rfl) ah Zw (zaa (pv 2) zaf)) zaf))) (λ_ _=>rfl)))
   (zah (zbr (PW.pt (pw_and (zas op_gt (zaj GT hr rfl mT FT.kp bT .nil zav (zaa (pv 1) (zaa zai zaf))) zai (zbf _))
     (zfp (zas (zhs (K:=K) rfl) (pv 5) (pe_lc (M:=[qO, "_law_found"]) (ix:=[none,some 3]) ⟨csHa_k,csHa_c,csHa_n,csHa_f,rfl,ndHa,fun j i x h1 h2=>by
      match j,h1,h2 with
      |0,_,h2=>cases h2
      |1,h1,h2=>cases h1;cases h2;exact⟨rfl,csHa_l⟩
      |n+2,h1,_=>cases h1⟩ rfl (zbh (zcf hu (pv 0) (pv 4))) (λC aa ex s H=>zbb 0 ndHa)
      (λC aa ex s H=>zcu) (λC aa ex s H=>pe_dget1 (by exact hu) (pv 1) (pv 0) ⟨rfl,rfl,rfl,rfl⟩)) rfl))))
    (zah (zcv hu (pv 3) (pv 4) (pv 5) rfl)) za2)))))
  (zah (zbp (zey (zaa (pv 3) (zaa (zau zc2 (pv 2) (za7 (zaa (zau op_pow zai zai) zaf))) zaf))))))),?_⟩
 have aH:(es.map (·.1)).Nodup:=R.nd
 refine⟨_,_,rfl,rfl,⟨by decide,by decide,by decide⟩,_,rfl,p,b,m,9,rfl,hp,by decide,by decide,λd1 b1 m1 H1 iI vn aL kp1=>?_⟩
 have k1:=zba kp1
 refine⟨_,_,rfl,rfl,_,rfl,p,b1,m1,99,rfl,aL,by decide,by decide,λd2 b2 m2 H2 h20 h21 aB kp2=>?_⟩
 have k2:=k1.trans (zba kp2)
 refine⟨_,_,rfl,rfl,(by show 6≤sizeLine;decide),λq hq=>?_⟩
 have hqp:q≠p:=Qu (zab aB.1 hq)
 refine⟨_,rfl,p,b2,m2,5,rfl,aB.keep (xs:=[]) (Keep.new hq) (by simp),by decide,by decide,λd3 b3 m3 H3 lR r9 ay eV=>?_⟩
 have k3:Keep [p] H H3:=(k2.trans (Keep.new hq)).trans (zba eV)
 have hq3:=eV _ _ zac hqp
 obtain⟨j3,rfl⟩:=Zt lR
 refine⟨_,_,rfl,rfl,_,rfl,q,_,rfl,SqL.of hq3,λso iS=>?_⟩
 have e6:cutV [V.int 0,V.int 1,V.int 2,V.int 3,V.int (10 ^ (9:Int).toNat-d1),V.int (4+d2)] none (some (2+(j3:Int)))=([0,1,2,3,10 ^ (9:Int).toNat-d1,4+d2].take (2+j3)).map V.int:=by
  rw[show(2:Int)+(j3:Int)=((2+j3:Nat):Int) by omega,cut_to (by show 2+j3≤6;omega),Ue];rfl
 rw[e6]
 have hnl:([0,1,2,3,10 ^ (9:Int).toNat-d1,4+d2].take (2+j3)).length≤6:=by rw[Zh];exact Nat.min_le_right _ _
 have gF:0<([0,1,2,3,10 ^ (9:Int).toNat-d1,4+d2].take (2+j3)).length:=by rw[Zh];show 0<min (2+j3) 6;omega
 generalize[0,1,2,3,10 ^ (9:Int).toNat-d1,4+d2].take (2+j3)=ns at hnl gF
 have k4:Keep [p] H (upd H3 so (.lst (ns.map V.int))):=k3.trans (Keep.new iS)
 have jN:(upd H3 so (.lst (ns.map V.int))) so=some (.lst (ns.map V.int)):=zac
 have cj:Pot (upd H3 so (.lst (ns.map V.int))) p b3 m3:=ay.keep (xs:=[]) (Keep.new iS) (by simp)
 have nsop:so≠p:=Qu (zab ay.1 iS)
 generalize upd H3 so (.lst (ns.map V.int))=H4 at k4 jN cj
 refine λu ny=>?_
 have npu:p≠u:=zab cj.1 ny
 have nsu:so≠u:=zab jN ny
 have k5:Keep [p] H (upd H4 u (.dK [])):=k4.trans (Keep.new ny)
 have bz:Pot (upd H4 u (.dK [])) p b3 m3:=cj.keep (xs:=[]) (Keep.new ny) (by simp)
 have hJ:(upd H4 u (.dK [])) so=some (.lst (ns.map V.int)):=by rw[zad nsu];exact jN
 have sP:HAt (upd H4 u (.dK [])) u []:=⟨zac,Zn⟩
 have uq:H u=none:=zal k4 ny (by simpa using Qu npu)
 generalize upd H4 u (.dK [])=H5 at k5 bz hJ sP
 have R5:RAt H5 d es:=R.pot hp k5
 have ndu:d≠u:=zab R.dc uq
 have npd:p≠d:=Qu (pot_nd hp R.dc)
 have nfz:∀o' u',H d≠some (.frz o' u'):=λo' u' z=>by rw[R.dc]at z;cases z
 have nsd:so≠d:=zax hJ R5.dc (by intro z;cases z)
 refine⟨_,rfl,d,_,rfl,R5.dc,λo=>zfe (λi σ H'=>Aj4 (Ex2 λx4 x5=>σ=[some (.ref d),some (.ref p),some (.ref so),some (.ref u),x4,x5]) (H' d=some (.frz o (.dK (es.map λe=>((Sum.inr e.1:Key),V.ref e.2.2))))) (Keep [p,d,u] H5 H') (Ex3 λ(hs:List (Str×Int)) (b' m':Int)=>Aj4 (HAt H' u hs) (∀h∈hs,h.1∈(es.take i).map (·.1)) (hs.length≤i) (Pot H' p b' m')))
  ⟨⟨_,_,rfl⟩,zac,Keep.wr (by simp),[],b3,m3,sP.keep (xs:=[d]) (Keep.wr (by simp)) (by simpa using Qu ndu),λh hh=>(by cases hh),Qg _,bz.keep (xs:=[d]) (Keep.wr (by simp)) (by simpa using npd)⟩ (λi σ H' _ hh=>hh.2) ?_ ?_⟩
 ·rintro i pr σ H7 tL ⟨⟨x4,x5,rfl⟩,hz,k7,hs,b7,m7,nn,iu,qQ,i5⟩
  have hi:i<es.length:=by
   have:=(Za.mp tL).1
   rwa[Qa]at this
  have g1:pr=((Sum.inr es[i].1:Key),V.ref es[i].2.2):=by
   rw[Qq,Qd hi]at tL
   exact(Qk tL).symm
  subst g1
  have aX:es[i]∈es:=Zb hi
  have tk:es.take (i+1)=es.take i++[es[i]]:=Qm hi
  have e8:es[i].1∉hs.map (·.1):=λz=>by
   obtain⟨h,hh,e⟩:=Qh.mp z
   have:=iu h hh
   rw[show h.1=es[i].1 from e]at this
   have jq:((es.take (i+1)).map (·.1)).Nodup:=Yz ((Jc _ _).map _) aH
   rw[tk,Qn,Ze]at jq
   exact jq.2.2 _ this _ (by simp) rfl
  have bf:=D0.few
  generalize es[i]=e at aX tk e8
  have tF:=D0.row _ aX
  have dH:=R5.ro _ aX
  have nY:=k7 _ _ dH (by
   simp
   exact⟨zbt bz dH,zax dH R5.dc (by intro z;cases z),zax dH sP.dc (by intro z;cases z)⟩)
  have nK:=k7 _ _ hJ (by simp;exact⟨nsop,nsd,nsu⟩)
  have stop:∀(x5:Option V) (b' m':Int) (H':Hp),Pot H' p b' m'→Keep [p] H7 H'→Aj4 (Ex2 λy4 y5=>[some (V.ref d),some (.ref p),some (.ref so),some (.ref u),some (.str e.1),x5]=[some (V.ref d),some (.ref p),some (.ref so),some (.ref u),y4,y5]) (H' d=some (.frz o (.dK (es.map λe=>((Sum.inr e.1:Key),V.ref e.2.2))))) (Keep [p,d,u] H5 H') (Ex3 λ(hs:List (Str×Int)) (b' m':Int)=>Aj4 (HAt H' u hs) (∀h∈hs,h.1∈(es.take (i+1)).map (·.1)) (hs.length≤i+1) (Pot H' p b' m')):=λx5 b' m' H' i8 k' =>
   ⟨⟨_,_,rfl⟩,k' _ _ hz (by simpa using Qu npd),k7.trans (k'.sub (by simp)),hs,b',m',nn.keep k' (by simpa using Qu npu),λh hh=>by rw[tk,Qn];exact Qp _ (iu h hh),by omega,i8⟩
  have u3:(ns.map V.int).length=ns.length:=Qa ..
  refine⟨_,rfl,_,rfl,_,rfl,so,_,rfl,.inl (SqL.of nK),p,b7,m7,((ns.map V.int).length:Int),rfl,i5,by omega,by omega,λj b8 m8 H8 im il gE gT=>?_⟩
  have k8:Keep [p] H7 H8:=zba gT
  have gZ:=gT _ _ nK nsop
  obtain⟨jn,rfl⟩:=Zt im
  have oI:jn<ns.length:=by omega
  refine⟨so,_,_,.int ns[jn],rfl,rfl,SqL.of gZ,zap (by rw[Qq,Qd oI];rfl),?_⟩
  refine⟨_,rfl,p,b8,m8,2,rfl,gE,by decide,by decide,λj2 b9 m9 H9 _ _ dL kp9=>⟨_,_,rfl,rfl,_,rfl,?_⟩⟩
  have k9:Keep [p] H7 H9:=k8.trans (zba kp9)
  cases decide (j2>0) with
  |false=>exact iteF (iteF (stop _ b9 m9 H9 dL k9))
  | true =>
   refine iteT ?_
   have hz9:=k9 _ _ hz (by simpa using Qu npd)
   have nX:=k9 _ _ nY (by simpa using zbt i5 nY)
   have jI:HAt H9 u hs:=nn.keep k9 (by simpa using Qu npu)
   refine⟨_,rfl,_,rfl,.str e.1,rfl,d,.ref e.2.2,rfl,.inl ⟨_,Sum.inr e.1,.inr ⟨o,hz9⟩,rfl,(zb6 aH aX).symm⟩,e.2.2,rfl,⟨_,SqL.of nX⟩,lc_map (xs:=e.2.1.map V.str) (λ τ=>∃x0,τ=[x0,some (.ref u)]) (λx=>match x with | .str z=>hueV hs z | v=>v) (SqL.of nX) (by rw[Qa];omega) ⟨none,rfl⟩ ?_ (λha hha=>?_)⟩
   ·rintro x hx τ ⟨x0,rfl⟩ kk hk
    obtain⟨z,hz,rfl⟩:=Qh.mp hx
    exact⟨_,rfl,u,rfl,.inl ⟨_,.inl jI.dc⟩,_,rfl,_,DGet.k (k:=Sum.inr z) jI.dc,hk _ ⟨_,rfl⟩⟩
   ·have emap:(e.2.1.map V.str).map (fun x=>match x with | .str z=>hueV hs z | v=>v)=e.2.1.map (hueV hs):=by rw [Zi];rfl
    rw[emap]
    have dB:Keep [p] H7 (upd H9 ha (.lst (e.2.1.map (hueV hs)))):=k9.trans (Keep.new hha)
    have iZ:(upd H9 ha (.lst (e.2.1.map (hueV hs)))) ha=some (.lst (e.2.1.map (hueV hs))):=zac
    have dN:Pot (upd H9 ha (.lst (e.2.1.map (hueV hs)))) p b9 m9:=dL.keep (xs:=[]) (Keep.new hha) (by simp)
    generalize upd H9 ha (.lst (e.2.1.map (hueV hs)))=cQ at dB iZ dN
    refine⟨ha,_,rfl,.inl (SqL.of iZ),rfl,flat_hues _ _,_,rfl,?_⟩
    cases inV (.int ns[jn]) (e.2.1.map (hueV hs)) with
    |true=>exact iteF (stop _ b9 m9 cQ dN dB)
    | false =>
     have gY:HAt cQ u hs:=nn.keep dB (by simpa using Qu npu)
     have uj:hs.length<sizeLine:=by omega
     refine iteT ⟨_,rfl,_,rfl,_,rfl,u,_,rfl,DPut.k (k:=Sum.inr e.1) gY.dc (by rw[Qa];exact uj),?_⟩
     refine⟨⟨_,_,rfl⟩,by rw[zad ndu];exact dB _ _ hz (by simpa using Qu npd),(k7.trans (dB.sub (by simp))).trans (Keep.wr (by simp)),hs++[(e.1,ns[jn])],b9,m9,gY.new _ e8,λh hh=>?_,by rw[Qt];exact Kv qQ,dN.keep (xs:=[u]) (Keep.wr (by simp)) (by simpa using npu)⟩
     rw[tk,Qn]
     rcases Qj.mp hh with z | z
     ·exact Qp _ (iu h z)
     ·rw [Qb.mp z]
      exact Qo _ (Qb.mpr rfl)
 ·rintro σ H7 ⟨⟨x4,x5,rfl⟩,hz,k7,hs,b7,m7,nn,iu,qQ,i5⟩
  rw[Qa]at iu qQ
  rw[Qz (Qg _)]at iu
  refine⟨d,o,_,hz,nfz,?_⟩
  have kf:Keep [p,u] H5 (upd H7 d (.dK (es.map λe=>((Sum.inr e.1:Key),V.ref e.2.2)))):=λc w' ec hc=>by
   by_cases ar:c=d
   ·subst ar
    rw[zac,←R5.dc];exact ec
   ·rw [zad ar]
    refine k7 c w' ec ?_
    simp only[Qe,Wa,or_false,not_or]at hc ⊢
    exact⟨hc.1,ar,hc.2⟩
  have gE:Pot (upd H7 d (.dK (es.map λe=>((Sum.inr e.1:Key),V.ref e.2.2)))) p b7 m7:=i5.keep (xs:=[d]) (Keep.wr (by simp)) (by simpa using npd)
  have nj:HAt (upd H7 d (.dK (es.map λe=>((Sum.inr e.1:Key),V.ref e.2.2)))) u hs:=nn.keep (xs:=[d]) (Keep.wr (by simp)) (by simpa using Qu ndu)
  generalize upd H7 d (.dK (es.map λe=>((Sum.inr e.1:Key),V.ref e.2.2)))=H8 at kf gE nj
  have gZ:=kf _ _ hJ (by simp;exact⟨nsop,nsu⟩)
  refine⟨_,rfl,_,rfl,_,_,rfl,rfl,⟨by decide,by decide,by decide⟩,(by show 1≤sizeLine;decide),λq1 eF=>?_⟩
  refine⟨so,q1,_,_,rfl,rfl,by rw[zad (zab gZ eF)];exact gZ,zac,by rw[Qa];show ns.length+1≤sizeLine;omega,λl hl=>?_⟩
  have el:ns.map V.int++[V.int (10 ^ (8:Int).toNat)]=(ns++[10 ^ (8:Int).toNat]).map V.int:=by rw[Qn];rfl
  rw[el]
  refine⟨(by show 2≤sizeLine;decide),λt ht=>?_⟩
  have k9:Keep [] H8 (upd (upd (upd H8 q1 (.lst [V.int (10 ^ (8:Int).toNat)])) l (.lst ((ns++[10 ^ (8:Int).toNat]).map V.int))) t (.tup [.ref u,.ref l])):=((Keep.new eF).trans (Keep.new hl)).trans (Keep.new ht)
  have nlt:l≠t:=zab zac ht
  have hd9:es.length≤40:=D0.few
  refine k t u l hs (ns++[10 ^ (8:Int).toNat]) b7 m7 _ zac (nj.keep k9 (by simp)) iu (by omega) (by rw[zad nlt];exact zac) (by rw[Qt];show ns.length+1≤7;omega) (gE.keep k9 (by simp)) uq ?_ ?_
  ·have nlp:l≠p:=Qu (zab (gE.keep (xs:=[]) (Keep.new eF) (by simp)).1 hl)
   have nlu:l≠u:=Qu (zab ((nj.keep (xs:=[]) (Keep.new eF) (by simp)).dc) hl)
   refine zal (xs:=[p,u]) ((k5.sub (by simp)).trans (kf.trans (Keep.new eF))) hl (by simp;exact⟨nlp,nlu⟩)
  ·intro c w' ec hc
   have kk:Keep [p,u] H _:=(k5.sub (by simp)).trans (kf.trans (k9.sub (by simp)))
   exact kk c w' ec (by simp at hc ⊢;exact⟨hc,zab ec uq⟩)
end
end K21
end
section
namespace L2
open PySem PySem.Spec PyProof.Rows
section
variable{X:Cx}{aa:Nd}{σ:St}{H:Hp}{s:Ng}
end
section
variable{prog:Ni}{w:Nk}{A:Nm}{E:Nb}{s:Ng}
def rev_no_len:typeLookup (.type "list_reverseiterator") "__len__" = pure none:=by rw[typeLookup_type,builtinLookup_eq_fast];kernel_rfl
def rev_hint:typeLookup (.type "list_reverseiterator") "__length_hint__" = pure (some (.builtin "list_reverseiterator.__length_hint__")):=by rw[typeLookup_type,builtinLookup_eq_fast];kernel_rfl
def hint_rev(hT:s.TypeIs (.ref r) "list_reverseiterator")(h:Q false s):wpAny (model prog w) A (Builtin.List.listLengthHint (.ref r)) Q E s:=by
 unfold Builtin.List.listLengthHint
 refine wpAny_bind (wpAny_specialOf hT rev_no_len ?_)
 show wpAny _ A (specialOf (Value.ref r) (Str.ofString "__length_hint__") >>= _) _ _ _
 refine wpAny_bind (wpAny_specialOf hT rev_hint ?_)
 generalize hid:("list_reverseiterator.__length_hint__" : String)=id0
 wp_delta
 rw[show splitId id0=some ("list_reverseiterator", "__length_hint__") from by subst hid;decide +kernel]
 subst hid
 refine wpAny_bind (wpAny_isInstance (T := "list_reverseiterator") (b:=true) hT (by rw[isSubtype_type];kernel_rfl) ?_)
 refine wpAny_ite_split (λgL=>absurd gL (by decide)) (λ_=>?_)
 refine wpAny_ite_split (λ_=>?_) (λgL=>absurd (by decide +kernel) gL)
 refine wpAny_ite_split (λgL=>absurd gL (by decide)) (λ_=>?_)
 exact wpAny_pure h
def zib(hh:A.handled=none)(hit:s.heap.IsRevIter I l ((items.size:Int)-1))(hl:s.heap.IsList l items)(az:l≠I)(hn:items.size≤sizeLine)(hQ:∀h' tk ao c',(∀b o,b≠I→s.heap.get? b=some o→h'.get? b=some o)→h'.get? s.heap.objs.size=some {cls:=.type "list",dict:=none,data:=.seq ao c',slots:=#[]}→ItemsOf (λi v=>items[items.size-1-i]?=some v) ao items.size→Q (.ref s.heap.objs.size) {s with heap:=h',toks:=tk}) :
  wpAny (model prog w) A (call (.type "list") [.ref I]) Q E s:=by
 have W:=Walks.listRev (prog:=prog) (w:=w) (A:=A.in1.in1) hh I l az items
 refine callType_codes (Q₁:=λobj s₁=>obj=.ref s.heap.objs.size∧s₁={s with heap:=s.heap.push {cls:=.type "list",data:=.seq #[]}}) PySem.F.called_list (PySem.F.typeCall_list_1 _) PySem.F.entry_list_init
  (code_list_new _ ⟨rfl,rfl⟩) λobj s₁ h₁=>?_
 obtain⟨rfl,rfl⟩:=h₁
 have hS:(s.heap.push {cls:=.type "list",data:=.seq #[]}).get? s.heap.objs.size=some {cls:=.type "list",data:=.seq #[]}:=Zd _ rfl
 have hSI:s.heap.objs.size≠I:=by obtain⟨o,e,_⟩:=hit;exact Yb (Qr e)
 have hSl:s.heap.objs.size≠l:=by obtain⟨o,e,_⟩:=hl;exact Yb (Qr e)
 have lQ:s.heap.objs.size∉[I,l]:=by simp;exact⟨hSI,hSl⟩
 refine⟨⟨_,hS,rfl⟩,PySem.F.args_list_init_2 _ _,?_⟩
 show wpAny _ _ (do let old ←Builtin.List.listItems (.ref s.heap.objs.size);Builtin.List.listUpdate (.ref s.heap.objs.size) (λ_=>#[]);letGo old.toList.reverse;Builtin.List.listExtendWith (.ref s.heap.objs.size) (.ref I) .none) _ _ _
 refine wpAny_bind ?_
 unfold Builtin.List.listItems
 refine wpAny_bind (wpAny_seqItems hS rfl (wpAny_pure ?_))
 show wpAny _ _ (updateSeq s.heap.objs.size (λ_=>#[]) >>= λ_=>letGo (#[]:Array Value).toList.reverse >>= λ_=>Builtin.List.listExtendWith (.ref s.heap.objs.size) (.ref I) .none) _ _ _
 refine wpAny_bind (wpAny_updateSeq hS rfl ?_)
 have hS₂:=Jx (Obj.mapSeq (λ_=>(#[]:Array Value))) hS rfl
 have oth:∀b o,s.heap.get? b=some o→((s.heap.push {cls:=.type "list",data:=.seq #[]}).update s.heap.objs.size (Obj.mapSeq (λ_=>(#[]:Array Value)))).get? b=some o :=
  λb o e=>(Ua _ _ (Yb (Qr e))).trans (Qi _ e)
 refine wpAny_bind (wpAny_letGo ?_)
 generalize(s.heap.push {cls:=.type "list",data:=.seq #[]}).update s.heap.objs.size (Obj.mapSeq (λ_=>(#[]:Array Value)))=h2 at hS₂ oth
 have iq:h2.IsRevIter I l ((items.size:Int)-1):=hit.at λo e=>oth I o e
 have ak:h2.IsList l items:=hl.at λo e=>oth l o e
 unfold Builtin.List.listExtendWith
 refine wpAny_bind (wpAny_typeOf (T := "list_reverseiterator") iq.typeIs ?_)
 have h1:Builtin.List.listSameRef (.ref s.heap.objs.size) (.ref I)=false:=by simp[Builtin.List.listSameRef,hSI]
 have e1:(Value.type "list_reverseiterator" == Value.type "list")=false:=by decide
 have e2:(Value.type "list_reverseiterator" == Value.type "tuple")=false:=by decide
 simp only[h1,e1,e2,Bool.or_false,Ja,if_false]
 refine wpAny_bind (wpAny_pyIter_revIter iq ?_)
 refine wpAny_bind (wpAny_holding (hint_rev iq.typeIs ?_))
 refine wpAny_ite_split (λgL=>absurd gL (by decide)) (λ_=>?_)
 refine wpAny_pure ⟨plainId_quiet PySem.F.plain_extend_loop _,codeAny_extend_loopS W.toS hn s.heap.objs.size lQ .none items.size 0 _ #[] _ rfl (Zg _) ⟨Zg _,by simpa using iq,ak⟩ hS₂ (ItemsOf.nil _) λs' vY c' hm jd iG=>?_⟩
 rw[Moved.eq_with hm]
 refine⟨rfl,hQ s'.heap s'.toks vY c' (λb o hb e=>hm.heap b o (λhmem=>?_) (oth b o e)) jd iG⟩
 rcases Qe.mp hmem with e' | hmem
 ·exact absurd (Qr e) (by rw[e'];exact Yp _)
 ·exact hb (Qb.mp hmem)
end
section
variable{X:Cx}
def tRev(K:Na)(t:TE):TE:=λ σ H Q=>t σ H λv H1=>Ex2 λl xs=>Aj3 (v=.ref l) (SqL K H1 l xs) (∀p,H1 p=none→Q (.ref p) (upd H1 p (.lst xs.reverse)))
def pe_rev(hc:X.calm=true)(hg:Gl X "list")(hm:X.mg "list" = none)(hg':Gl X "reversed")(u7:X.mg "reversed" = none)(he:PE X e t)(h1:starEach [e] X.env=[(false,eval e X.env)]:=by rfl)(h2:starEach [.Call (.Name "reversed" p2) [e] [] q2] X.env=[(false,eval (.Call (.Name "reversed" p2) [e] [] q2) X.env)]:=by rfl) :
  PE X (.Call (.Name "list" p1) [.Call (.Name "reversed" p2) [e] [] q2] [] q1) (tRev X.K t):=by
 intro aa s σ H Q I h
 refine Call_ (zdo I hg hm boot_list (Yn (rest:=[]) ?_ h2 rfl))
 rw[h2]
 show wpAny _ _ (spliced ((false,eval (.Call (.Name "reversed" p2) [e] [] q2) X.env)::[])) _ _ s
 refine Ul (Call_ (zdo I hg' u7 boot_reversed (Yn (rest:=[]) ?_ h1 rfl)))
 rw[h1]
 show wpAny _ _ (spliced ((false,eval e X.env)::[])) _ _ s
 refine Ul (thn (he aa s σ H _ I h) λu s1 ⟨v,H1,I1,r1,l,xs,ev,hq,q⟩=>Jp ?_)
 subst ev
 cases r1
 obtain⟨ae,rv,pl,hz⟩:=I1.list hq
 have ah:=rv.length
 have hl:=pl.isList
 have lt:l<s1.heap.objs.size:=by obtain⟨o,z,_⟩:=hl;exact Qr z
 refine call_reversed_list hl (Jp ?_)
 have hsz:(s1.heap.push (revObj l ((ae.toArray.size:Int)-1))).objs.size=s1.heap.objs.size+1:=Wq ..
 refine zib (s:={s1 with heap:=s1.heap.push (revObj l ((ae.toArray.size:Int)-1))}) (I:=s1.heap.objs.size) (l:=l) (items:=ae.toArray) (I1.ok.hd hc) ⟨_,Zd _ rfl,rfl,rfl⟩ (hl.at λo z=>Qi _ z) (Zc lt) (by simp;omega) λh' tk ao c' kp hn iG=>?_
 have kp':∀b o,s1.heap.get? b=some o→h'.get? b=some o:=λb o z=>kp b o (Zc (Qr z)) (Qi _ z)
 have hf:H1 (s1.heap.push (revObj l ((ae.toArray.size:Int)-1))).objs.size=none:=I1.hok.fresh (by rw[hsz];exact Ub _)
 have eacc:ao=ae.reverse.toArray:=by
  refine Array.ext (by simpa using iG.1) λi hi dh=>?_
  have:=iG.2 i ao[i] (by simp[hi])
  have hil:i<ae.length:=by simpa using dh
  simp only[List.getElem?_toArray,Qv]at this
  rw[Qd (by omega)]at this
  show ao[i]=ae.reverse[i]'(by simpa using dh)
  rw[List.getElem_reverse]
  exact(Qk this).symm
 subst eacc
 exact⟨.ref _,_,I1.laid (t':=tk) kp' (by rw[hsz];exact Ub _) (show zbi X.prog X.w _ h' _ (.lst xs.reverse) from⟨by rw[List.length_reverse];exact hz,ae.reverse,c',rv.reverse,hn⟩),rfl,q _ hf⟩
end
def IteL(a:Nc)(K:Na):It :=
 ⟨λi H=>∃xs,SqL K H a xs∧i<xs.length,λi H x H'=>∃y t,(∀xs,SqL K H a xs→xs[i]?=some y)∧H t=none∧x=.ref t∧H'=upd H t (.tup [.int i,y]),λi H=>∃xs,SqL K H a xs∧xs.length≤i⟩
theorem turn_enumL{P:Ni}{w:Nk}{K:Na}{elts:No}{kk:Nat}{pos:Pos}(a e j:Nc)(dS:e≠j)(gK:a≠j)(ve:e≠a) :
  Turn P w K (.Tuple elts kk pos) (IteL a K) [e,j] e (λi h=>(∃old,IsEnum h e j i old)∧h.IsListIter j a i) where
 mem:=by simp
 obj:=λi h st b hb=>by
  rcases Qe.mp hb with z | z
  ·subst z
   obtain⟨old,q⟩:=st.1
   exact⟨_,q,λv z=>by
    have z':Data.fields _=Data.cell v:=z
    cases z'⟩
  ·rw [Qb.mp z]
   obtain⟨o,q,c,d⟩:=st.2
   exact⟨o,q,λv z=>by rw[d]at z;cases z⟩
 keep:=λi h h' st k=>⟨let⟨old,q⟩:=st.1;⟨old,k e (by simp) _ q⟩,st.2.at λo q=>k j (by simp) o q⟩
 item:=by
  intro X hP hw hK hc i aa s σ H E I hf st hg
  subst hP hw hK
  obtain⟨xs,hq,hi⟩:=hg
  obtain⟨ae,rv,p,hz⟩:=I.list hq
  have hl:=rv.length
  obtain⟨⟨old,he⟩,hit⟩:=st
  have hh:X.A.in1.handled=none:=I.ok.hd hc
  refine wpAny_pyNext_enum_itemD (Draws.list hh j a gK ae.toArray) he ⟨hit,p.isList⟩ (by simp;exact zar7 ‹_› ‹_›) dS (by simp[dS,ve]) λx g tk hP ho hs hT hsz hk=>⟨.ref s.heap.objs.size,rfl,?_⟩
  have fr:∀b,b∈[e,j]→FpOk X aa H b:=hf
  obtain⟨e0,e1,e2,e3,e4,e5⟩:=hf e (by simp)
  obtain⟨j0,j1,j2,j3,j4,j5⟩:=hf j (by simp)
  have pQ:∀b u,H b=some u→b≠e∧b≠j:=λb u q=>⟨λz=>(by rw[z,e0]at q;cases q),λz=>(by rw[z,j0]at q;cases q)⟩
  have I1:Inv X aa σ H {s with heap:=g,toks:=tk+1}:=by
   refine I.step (g':=s.gens) (d':=s.drawn) (ch:=[e,j]) (λb hb=>?_) (λb o _ _ hc q _=>hk b o (λz=>hc (by simp[z])) (λz=>hc (by simp[z])) q) (λb o _ _ hc q _=>⟨o.slots,hk b o (λz=>hc (by simp[z])) (λz=>hc (by simp[z])) q⟩) (λ_ _ _ _ n=>n)
    (λb o hc q=>⟨o,hk b o (λz=>hc (by simp[z])) (λz=>hc (by simp[z])) q⟩) (λ_ _ q=>q) (λ_ _ _ q=>q) (λb ps q=>⟨#[],by rw[q];simp⟩) (λm hm=>?_) (λb u q=>?_) I.bare
   ·rcases Qe.mp hb with z | z
    ·subst z;exact⟨e3,e1,e4,e5⟩
    ·rw[Qb.mp z];exact⟨j3,j1,j4,j5⟩
   ·obtain ⟨o,es,ep,q,r⟩:=hm
    exact⟨o,es,ep,hk _ o (Qu e1) (Qu j1) q,r⟩
   ·refine (I.hok b u q).stay (fun c v hc z=>?_) (fun _ z=>z) fun _ _ z=>z
    have pk:c≠e∧c≠j:=by
     rcases hc with rfl | hc
     ·exact pQ c u q
     ·exact pQ c _ hc
    exact hk c v pk.1 pk.2 z
  obtain⟨y,hy⟩:∃y,xs[i]?=some y:=⟨xs[i],Qd hi⟩
  obtain⟨u,hu,ru⟩:=rv.get hy
  have pN:ae[i]?=some x:=by simpa using hP
  rw[hu]at pN
  have sM:u=x:=Qk pN
  subst sM
  have hN:H s.heap.objs.size=none:=I.hok.fresh (Qg _)
  refine wpAny_letOwnedTupleGo_enum ho λg' bV aO=>?_
  have nT:s.heap.objs.size≠e:=Yb (Qr he)
  have nJ:s.heap.objs.size≠j:=by obtain⟨o,q,_⟩:=hit;exact Yb (Qr q)
  have I2:Inv X aa σ H {s with heap:=g',toks:=tk+1}:=Inv.turned (s:={s with heap:=g,toks:=tk+1}) (t':=tk+1) (it:=e) I1 (λb o hb q=>(aO.2 b hb).trans q) e0 e1 e3 e4 e5
  have pI:g'.get? s.heap.objs.size=some {cls:=.type "tuple",data:=.seq #[.int i tk,u]}:=(aO.2 _ nT).trans hT
  have I3:Inv X aa σ (upd H s.heap.objs.size (.tup [.int i,y])) {s with heap:=g',toks:=tk+1}:=by
   refine⟨I2.ok,I2.os,I2.bare,⟨I2.base.keep,I2.base.slot,λb o q n hx=>?_,I2.base.there,λb zs q=>?_,λb o v q=>?_,λb ps q=>?_⟩,I2.loc,I2.cell,?_,λz c q=>?_,λpp hp=>?_,λb v q=>?_,I2.len⟩
   ·have lt:b < s.heap.objs.size:=Zj (Qr q) I.sz
    rw[zad (Zc lt)];exact I2.base.free b o q n hx
   ·have:=I2.base.tups b zs q
    rw[zad (zab this hN)];exact this
   ·have:=I2.base.frzs b o v q
    rw[zad (zab this hN)];exact this
   ·obtain ⟨m,z⟩:=I2.base.tbls b ps q
    exact⟨m,by rw[zad (zab z hN)];exact z⟩
   ·rw[zad (Zc I.lt)];exact I2.free
   ·rw[zad (Zc (I.cl_lt z c q))];exact I2.freeC z c q
   ·obtain ⟨h1,h2,h3⟩:=I2.pin pp hp
    exact⟨h1,by rw[zad (Zc (I.pin_lt pp hp))];exact h2,h3⟩
   ·by_cases hb:b=s.heap.objs.size
    ·subst hb
     rw[zac]at q
     cases q
     exact⟨by show 2≤sizeLine;decide,[.int i tk,u],.cons ⟨tk,rfl⟩ (.cons ru .nil),_,pI,rfl,_,rfl⟩
    ·rw [zad hb] at q
     exact(I2.hok b v q).stay (λc v _ z=>z) (λc z=>by rw[zad (zab z hN)];exact z) λc zs z=>by rw[zad (zab z hN)];exact z
  refine⟨.ref s.heap.objs.size,_,I3,rfl,⟨y,_,λys jA=>by rw[I.list_inj jA hq];exact hy,hN,rfl,rfl⟩,⟨⟨u,by simpa using bV⟩,?_⟩,λb hb=>?_⟩
  ·exact hs.1.at λo q=>(aO.2 j (Qu dS)).trans q
  ·rcases Qe.mp hb with z | z
   ·rw[z,zad (Qu nT)];exact e0
   ·rw[Qb.mp z,zad (Qu nJ)];exact j0
 done:=by
  intro X hP hw hK hc i aa s σ H E I hf st hg
  subst hP hw hK
  obtain⟨xs,hq,hi⟩:=hg
  obtain⟨ae,rv,p,hz⟩:=I.list hq
  have hl:=rv.length
  obtain⟨⟨old,he⟩,hit⟩:=st
  obtain⟨j0,j1,j2,j3,j4,j5⟩:=hf j (by simp)
  have hh:X.A.in1.handled=none:=I.ok.hd hc
  have hT:s.TypeIs (.ref e) "enumerate" := ⟨_,he,rfl⟩
  unfold pyNext
  refine wpAny_bind (wpAny_attempt (wpAny_callSpecial?_slot (name:=Str.ofString "__next__") hT Jy (wpAny_call_entry Jy hT F.entry_enumerate_next ?_ (F.args_enumerate_next_1 _))))
  show wpAny _ _ (field (.ref e) 2 >>= _) _ _ _
  refine wpAny_bind (wpAny_field he rfl (x:=.ref j) rfl (wpAny_bind (wpAny_nextOf_list_end hh hit p.isList (by simp;exact zdp ‹_› ‹_›) λg x hg hx=>?_)))
  obtain⟨o,ho,hc⟩:=hx
  refine wpAny_bind (wpAny_isInstance (T := "StopIteration") (b:=true) ⟨o,ho,hc⟩ isSubtype_stop (wpAny_pure ⟨rfl,?_⟩))
  exact I.turned (t':=s.toks) (λb o hb q=>hg b o hb q) j0 j1 j3 j4 j5
 self:=λA i s Q E st h=>by
  obtain⟨⟨old,he⟩,_⟩:=st
  exact wpAny_pyIter_enum he h
section
variable{X:Cx}
def iEnumL(K:Na)(ta:TA):TI:=λ σ H R=>ta σ H λvs H1=>∃a,vs=[.ref a]∧(∃xs,SqL K H1 a xs)∧R (IteL a K) H1
def pi_enumL{elts:No}{kk:Nat}{tpos:Pos}{a:Expr}{ta:TA}{p pos:Pos}(hg:Gl X "enumerate")(hm:X.mg "enumerate" = none)(ha:PA X [a] ta)(hs:starEach [a] X.env=[(false,eval a X.env)]:=by rfl) :
  PI X (.Tuple elts kk tpos) (.Call (.Name "enumerate" p) [a] [] pos) (iEnumL X.K ta):=by
 intro aa s σ H R I h
 refine Call_ (zdo I hg hm boot_enumerate (Yn (thn (ha pos aa s σ H _ I h) λus s1 ⟨vs,H1,I1,r1,q1⟩=>?_) hs rfl))
 obtain⟨t,e,⟨xs,hq⟩,q⟩:=q1
 subst e
 obtain⟨u,rfl,ru⟩:=vals1 r1
 cases ru
 obtain⟨ae,rv,pl,hz⟩:=I1.list hq
 have lt:t<s1.heap.objs.size:=by obtain⟨o,q,_⟩:=pl.isList;exact Qr q
 refine call_enumerate_list pl.isList λg he hit hsz k=>wpAny_pyIter_enum he ?_
 have I2:Inv X aa σ H1 {s1 with heap:=g}:=I1.kept (t':=s1.toks) k
 refine⟨s1.heap.objs.size+1,[s1.heap.objs.size+1,s1.heap.objs.size],_,_,H1,rfl,I2,turn_enumL t _ _ (Ku _) (Zc lt) (Yb (Uj lt)),⟨⟨_,he⟩,hit⟩,λb hb=>?_,q⟩
 have cM:s1.heap.objs.size≤b:=by
  rcases Qe.mp hb with z | z
  ·rw[z];exact Ub _
  ·rw[Qb.mp z];exact Qg _
 exact I1.fpOk cM (I1.hok.fresh cM)
def for_enumL{K:Na}{a:Nc}{xs:List V}{g:TG}{tb:TS}{D:Ends}{σ:St}{H:Hp}(Pv:Nat→St→Hp→Prop)(h0:Pv 0 σ H)(hl:∀i σ H,i≤xs.length→Pv i σ H→H a=some (.lst xs))(hs:∀i x t σ H,xs[i]?=some x→Pv i σ H→H t=none→g (.ref t) σ (upd H t (.tup [.int i,x])) λ σ2 H2=>tb {D with nx:=Pv (i+1),ct:=Pv (i+1),bk:=D.nx} σ2 H2)(hd:∀σ H,Pv xs.length σ H→D.nx σ H) :
  ∃W:Nat→Nat→St→Hp→Prop,(∃m,W 0 m σ H)∧∀i m σ H,W i m σ H →
   ((IteL a K).stop i H∧D.nx σ H)∨((IteL a K).go i H∧∃N:St→Hp→Prop,(∀σ' H',N σ' H'→∃m',m'<m∧W (i+1) m' σ' H')∧∀x H',(IteL a K).yld i H x H'→g x σ H' λ σ2 H2=>tb {D with nx:=N,ct:=N,bk:=D.nx} σ2 H2):=by
 refine⟨λi m σ H=>m=xs.length-i∧i≤xs.length∧Pv i σ H,⟨xs.length,by simp,Zg _,h0⟩,?_⟩
 rintro i m σ H ⟨rfl,hi,p⟩
 have q:=hl i σ H hi p
 by_cases ai:i<xs.length
 ·refine .inr ⟨⟨xs,SqL.of q,ai⟩,Pv (i+1),fun σ' H' p'=>⟨xs.length - (i+1),by exact zar1 ‹_›,rfl,ai,p'⟩,fun x H' y=>?_⟩
  obtain⟨z,t,e1,e3,rfl,rfl⟩:=y
  exact hs i z t σ H (e1 xs (SqL.of q)) p e3
 ·have e:i=xs.length:=by exact zar3 ‹_› ‹_›
  subst e
  exact .inl ⟨⟨xs,SqL.of q,Qg _⟩,hd σ H p⟩
end
end L2
end
section
namespace Wb
section
variable{α β:Type}[DecidableEq α][DecidableEq β]{ns:List α}{r:α→List α}{cs:List (List (α×α))}{f:α→β}
theorem idx_map(hf:∀x y,f x=f y→x=y)(w:α):∀zs:List α,(zs.map f).idxOf (f w)=zs.idxOf w
 |[]=>rfl
 |a::t=>by
  rw[Ql,Xc,Xc,idx_map hf w t]
  by_cases h:a=w
  ·rw[h,beq_self_eq_true,beq_self_eq_true]
  ·rw[beq_eq_false_iff_ne.mpr h,beq_eq_false_iff_ne.mpr λe=>h (hf _ _ e)]
def nxt_map(hf:∀x y,f x=f y→x=y)(zs:List α)(w:α):nxt (zs.map f) (f w)=f (nxt zs w):=by
 unfold nxt
 rw[idx_map hf,Qa,Zq,Zq,Qq]
 cases zs[(zs.idxOf w+1)%zs.length]?<;>rfl
def lk_map{γ δ:Type}{F:γ→γ}{G:δ→δ}{g:γ→δ}{e:γ}:∀{t:List γ} {s:γ},(∀y,y=s∨y∈t→G (g y)=g (F y))→Lk F s t e→Lk G (g s) (t.map g) (g e):=by
 intro t
 induction t with
 |nil=>intro s h k;exact(h s (.inl rfl)).trans (congrArg g k)
 |cons a t ih =>
  intro s h k
  exact⟨(h s (.inl rfl)).trans (congrArg g k.1),ih (λy hy=>h y (.inr (Qe.mpr hy))) k.2⟩
def cert_map(hf:∀x y,f x=f y→x=y){a:α}(C:Cert ns r cs λ_=>a){r':β→List β}(hr:∀x,r' (f x)=(r x).map f)(gD:∀y,(∀x,y≠f x)→r' y=[])(ha:a∈ns) :
  Cert (ns.map f) r' (cs.map λc=>c.map λs=>(f s.1,f s.2)) λ_=>f a:=by
 have hm:∀{y z},z∈r' y→∃x w,y=f x∧z=f w∧w∈r x:=λ{y z} h=>by
  by_cases hy:∃x,y=f x
  ·obtain ⟨x,rfl⟩:=hy
   rw[hr]at h
   obtain⟨w,hw,rfl⟩:=Qh.mp h
   exact⟨x,w,rfl,rfl,hw⟩
  ·rw [gD y fun x e=>hy ⟨x,e⟩] at h
   cases h
 have hb:∀{x w},w∈r x→f w∈r' (f x):=λh=>by rw[hr];exact Qh.mpr ⟨_,h,rfl⟩
 have hg:∀s t:α×α,(f s.1,f s.2)=(f t.1,f t.2)→s=t:=λs t e=>Uu (hf _ _ (congrArg Prod.fst e)) (hf _ _ (congrArg Prod.snd e))
 have ki:∀{l:List α},l.Nodup→(l.map f).Nodup:=λnd=>Wo.mpr (nd.imp λh e=>h (hf _ _ e))
 have kH:(cs.map λc=>c.map λs=>(f s.1,f s.2)).flatten=cs.flatten.map λs=>(f s.1,f s.2):=List.map_flatten.symm
 refine⟨ki C.nd,λy hy=>?_,λy=>?_,λy h=>?_,λx y h=>?_,?_,λs=>?_,λc hc=>?_,λx hx=>Qh.mpr ⟨a,ha,rfl⟩,λ_ _ _=>rfl,λx hx y hy _=>?_,λx hx=>?_⟩
 ·cases e:r' y with
  |nil=>rfl
  |cons z t =>
   obtain⟨x,w,rfl,_,hw⟩:=hm (y:=y) (z:=z) (by rw[e];exact Qc)
   exact absurd (Qh.mpr ⟨x,C.inn hw,rfl⟩) hy
 ·by_cases hy:∃ x,y=f x
  ·obtain ⟨x,rfl⟩:=hy
   rw[hr];exact ki (C.rn x)
  ·rw[gD y λx e=>hy ⟨x,e⟩];exact Zn
 ·obtain ⟨x,w,e1,e2,hw⟩:=hm h
  have:=hf _ _ (e1.symm.trans e2)
  subst this
  exact C.ir _ hw
 ·obtain ⟨a,w,rfl,rfl,hw⟩:=hm h
  exact hb (C.sy _ _ hw)
 ·rw [kH]
  exact Wo.mpr (C.cf.imp λh e=>h (hg _ _ e))
 ·rw [kH]
  constructor
  ·intro h
   obtain⟨t,ht,rfl⟩:=Qh.mp h
   exact hb ((C.cm t).mp ht)
  ·intro h
   obtain⟨x,w,e1,e2,hw⟩:=hm h
   exact Qh.mpr ⟨(w,x),(C.cm (w,x)).mpr hw,Uu e2.symm e1.symm⟩
 ·obtain ⟨c0,eO,rfl⟩:=Qh.mp hc
  obtain⟨s,t,rfl,k⟩:=C.cy c0 eO
  refine⟨(f s.1,f s.2),_,rfl,lk_map (g:=λs:α×α=>(f s.1,f s.2)) (λy _=>?_) k⟩
  show(f y.2,nxt (r' (f y.2)) (f y.1))=(f y.2,f (nxt (r y.2) y.1))
  rw[hr,nxt_map hf]
 ·obtain ⟨x0,qr,rfl⟩:=Qh.mp hx
  obtain⟨y0,qp,rfl⟩:=Qh.mp hy
  have:=C.co x0 qr y0 qp rfl
  clear hy qp
  induction this with
  |refl=>exact .refl
  |step _ hz ih=>exact .step ih (hb hz)
 ·have e1:wt (ns.map f) r' (fun _=>f a) (f a)=wt ns r (fun _=>a) a:=by
   unfold wt
   rw[Zi]
   refine zb7 λx _=>?_
   show(if f a=f a then _ else _)=_
   rw[if_pos rfl,if_pos rfl,hr,Qa]
   simp only[List.map_eq_nil_iff]
  have e2:ct (cs.map λc=>c.map λs=>(f s.1,f s.2)) (λ_=>f a) (f a)=ct cs (λ_=>a) a:=by
   unfold ct
   rw[Zi]
   refine zb7 λc _=>?_
   show(if(List.any (c.map λs=>(f s.1,f s.2)) λs=>decide (f a=f a))=true then _ else _)=_
   rw[List.any_map]
   simp only[Function.comp_def,decide_true]
  rw[e1,e2]
  exact C.eu a ha
end
end Wb
end
section
namespace Wb
open PySem
def bk(n j:Nat):Nat:=if j=0 then n-1 else j-1
def capR(m l i:Nat):List Nat :=
 if i=0 then(List.range m).map (2+·)
 else if i=1 then((List.range m).map λk=>2+m*(l-1)+k).reverse
 else[2+m*((i-2)/m)+((i-2)%m+1)%m]++(if 0<(i-2)/m then[2+m*((i-2)/m-1)+((i-2)%m+1)%m,2+m*((i-2)/m-1)+(i-2)%m] else[0])
  ++ [2+m*((i-2)/m)+bk m ((i-2)%m)]++(if(i-2)/m+1<l then[2+m*((i-2)/m+1)+bk m ((i-2)%m),2+m*((i-2)/m+1)+(i-2)%m] else[1])
def capF(m l:Nat)(i:Fin (2+m*l)):List (Fin (2+m*l)):=(capR m l i.1).filterMap λk=>if h:k<2+m*l then some ⟨k,h⟩ else none
def capT(m l:Nat):List (Fin (2+m*l)×Fin (2+m*l)×Fin (2+m*l)):=(List.finRange (2+m*l)).flatMap λa=>(capF m l a).filterMap λb=>if a<b∧a<nxt (capF m l b) a then some (a,b,nxt (capF m l b) a) else none
def capC(m l:Nat):List (List (Fin (2+m*l)×Fin (2+m*l))):=(capT m l).map λt=>[(t.1,t.2.1),(t.2.1,t.2.2),(t.2.2,t.1)]
def cap0(m l:Nat):Fin (2+m*l):=⟨0,by omega⟩
structure CapOk(m l:Nat):Prop where
 lo:∀i<2+m*l,∀k∈capR m l i,k<2+m*l
 cyc:∀t∈capT m l,st (capF m l) (t.1,t.2.1)=(t.2.1,t.2.2)∧st (capF m l) (t.2.1,t.2.2)=(t.2.2,t.1)∧st (capF m l) (t.2.2,t.1)=(t.1,t.2.1)
 rn:∀x,(capF m l x).Nodup
 ir:∀x,x∉capF m l x
 sy:∀x,∀y∈capF m l x,x∈capF m l y
 cf:(capC m l).flatten.Nodup
 cm:∀s∈(capC m l).flatten,s.1∈capF m l s.2
 mc:∀x,∀y∈capF m l x,(y,x)∈(capC m l).flatten
 eu:wt (List.finRange (2+m*l)) (capF m l) (λ_=>cap0 m l) (cap0 m l)+ct (capC m l) (λ_=>cap0 m l) (cap0 m l)=4
 up:∀x,x.1≠1→x.1=0∨∃y∈capF m l x,y<x∧y.1≠1
 one:∀x,x.1=1→∃y∈capF m l x,y.1≠1
def cap_cert{m l:Nat}(h:CapOk m l):Cert (List.finRange (2+m*l)) (capF m l) (capC m l) λ_=>cap0 m l:=by
 have con:∀n,∀x:Fin (2+m*l),x.1<n→x.1≠1→Conn (capF m l) (cap0 m l) x:=by
  intro n
  induction n with
  |zero=>intro x hx;cases hx
  |succ n ih =>
   intro x hx h1
   rcases h.up x h1 with z | ⟨y,hy,ai,y1⟩
   ·rw[show x=cap0 m l from Fin.ext z];exact .refl
   ·exact .step (ih y (Zj ai (Nat.le_of_lt_succ hx)) y1) (h.sy x y hy)
 have pZ:∀x:Fin (2+m*l),Conn (capF m l) (cap0 m l) x:=λx=>by
  by_cases h1:x.1=1
  ·obtain ⟨y,hy,y1⟩:=h.one x h1
   exact .step (con _ y (Yr _) y1) (h.sy x y hy)
  ·exact con _ x (Yr _) h1
 refine⟨List.nodup_finRange _,λx hx=>absurd (List.mem_finRange x) hx,h.rn,h.ir,λx y=>h.sy x y,h.cf,λs=>⟨h.cm s,λz=>h.mc s.2 s.1 z⟩,λc hc=>?_,λ_ _=>List.mem_finRange _,λ_ _ _=>rfl,λx _ y _ _=>((pZ x).symm λa b=>h.sy a b).trans (pZ y),λ_ _=>h.eu⟩
 obtain⟨t,ht,rfl⟩:=Qh.mp hc
 obtain⟨h1,h2,h3⟩:=h.cyc t ht
 exact⟨_,_,rfl,h1,h2,h3⟩
def cap_ok{m l:Nat}(hm:m=5∨m=6∨m=7)(hl:l=2∨l=3):CapOk m l:=by
 rcases hm with rfl | rfl | rfl<;>rcases hl with rfl | rfl <;>
  exact⟨by decide +kernel,by decide +kernel,by decide +kernel,by decide +kernel,by decide +kernel,by decide +kernel,by decide +kernel,by decide +kernel,by decide +kernel,by decide +kernel,by decide +kernel⟩
def cap_good{m l:Nat}(hm:m=5∨m=6∨m=7)(hl:l=2∨l=3){zs:Nh}(nd:zs.Nodup)(hz:2+m*l≤zs.length)(z0:Str) :
  Good ((List.range (2+m*l)).map λi=>(zs.getD i z0,(capR m l i).map λk=>zs.getD k z0)):=by
 have h:=cap_ok hm hl
 have hf:∀x y:Fin (2+m*l),zs.getD x.1 z0=zs.getD y.1 z0→x=y:=λx y e=>by
  have hx:x.1<zs.length:=Zj x.2 hz
  have hy:y.1<zs.length:=Zj y.2 hz
  simp only[List.getD,Qd hx,Qd hy,Option.getD_some]at e
  exact Fin.ext ((Yi nd).mp e)
 have hn:((List.range (2+m*l)).map λi=>(zs.getD i z0,(capR m l i).map λk=>zs.getD k z0)).map (·.1)=(List.finRange (2+m*l)).map λx=>zs.getD x.1 z0:=by
  rw[Zi]
  refine List.ext_getElem (by simp) λi h1 h2=>?_
  simp
 have aH:(((List.range (2+m*l)).map λi=>(zs.getD i z0,(capR m l i).map λk=>zs.getD k z0)).map (·.1)).Nodup:=by
  rw[hn]
  exact Wo.mpr ((List.nodup_finRange _).imp λne e=>ne (hf _ _ e))
 refine⟨_,_,hn▸cert_map (f:=λx:Fin (2+m*l)=>zs.getD x.1 z0) hf (cap_cert h) (λx=>?_) (λy hy=>?_) (List.mem_finRange _)⟩
 ·have hmem:(zs.getD x.1 z0,(capR m l x.1).map fun k=>zs.getD k z0)∈(List.range (2+m*l)).map fun i=>(zs.getD i z0,(capR m l i).map fun k=>zs.getD k z0):=Qh.mpr ⟨x.1,Uo.mpr x.2,rfl⟩
  rw[zdn aH hmem]
  show(capR m l x.1).map _=(List.filterMap _ _).map _
  have lH:=h.lo x.1 x.2
  generalize capR m l x.1=ks at lH
  induction ks with
  |nil=>rfl
  |cons a t ih =>
   have ha:=lH a Qc
   rw[List.filterMap_cons,dif_pos ha,Ql,Ql,ih λk hk=>lH k (Qf _ hk)]
 ·refine zhj fun z=>?_
  rw[hn]at z
  obtain⟨x,_,e⟩:=Qh.mp z
  exact hy x e.symm
end Wb
end
section
namespace L2
open PySem PySem.Spec PyProof.Rows
def lc_range{g:TG}{te:TE}{Q:VK}{τ:St}{H:Hp}{lo:Int}{n:Nat}(T:St→Prop)(Pv:List V→Hp→Prop)(hn:n≤sizeLine)(h0:T τ)(p0:Pv [] H)(hs:∀i ys τ H,i<n→ys.length=i→T τ→Pv ys H→∀k:V→St→Hp→Prop,(∀y τ2 H2,T τ2→Pv (ys++[y]) H2→k y τ2 H2)→g (.int (lo+i)) τ H λ τ2 H2=>te τ2 H2 λy H4=>k y τ2 H4)(q:∀ys H',ys.length=n→Pv ys H'→∀D,H' D=none→Q (.ref D) (upd H' D (.lst ys))):rLC g tAll te Q (Itr lo n) τ H:=by
 refine⟨λi m ys τ H1=>Aj5 (T τ) (Pv ys H1) (m=n-i) (i≤n) (ys.length=i),⟨_,h0,p0,rfl,Zg _,rfl⟩,?_⟩
 rintro i m ys τ H1 ⟨ht,hp,rfl,hi,hl⟩
 by_cases ai:i<n
 ·refine .inr ⟨ai,by lia,?_⟩
  rintro x H' ⟨rfl,rfl⟩
  refine hs i ys τ H' ai hl ht hp (λy τ2 H4=>∃m',m'<n-i∧Aj5 (T τ2) (Pv (ys++[y]) H4) (m'=n-(i+1)) (i+1≤n) ((ys++[y]).length=i+1)) λy τ2 H2 h2 p2=>?_
  exact⟨_,by exact zar1 ‹_›,h2,p2,rfl,ai,by rw[Qt,hl];rfl⟩
 ·have e:i=n:=by exact zar3 ‹_› ‹_›
  subst e
  exact .inl ⟨Qg _,λD hD=>q ys H1 hl hp D hD⟩
def sl_listK{X:Cx}{K:Na}(hK:X.K=K):SlR X (rSlL K):=hK▸zc5
def join{t u:TS}{D:Ends}{σ:St}{H:Hp}{c b:St→Hp→Prop}{r:V→Hp→Prop}(P:St→Hp→Prop)(h:∀D':Ends,(∀σ H,P σ H→D'.nx σ H)→t D' σ H)(hD:∀σ H,P σ H→u D σ H):({nx:=tSeq t u D,ct:=c,bk:=b,rt:=r}:Ends).nx σ H:=h {D with nx:=u D} hD
def joinS{t u:TS}{D:Ends}{σ:St}{H:Hp}(P:St→Hp→Prop)(h:∀D':Ends,(∀σ H,P σ H→D'.nx σ H)→t D' σ H)(hD:∀σ H,P σ H→u D σ H):tSeq t u D σ H:=h {D with nx:=u D} hD
end L2
namespace K21
open PySem L2 Wb
abbrev sCap:Stmt:=top 48
def cut_mid{xs:List V}{a b:Nat}(h:a≤b)(hb:b≤xs.length):cutV xs (some (a:Int)) (some (b:Int))=(xs.drop a).take (b-a):=by
 unfold cutV
 have e1:HT.sIx xs.length 0 (some (a:Int))=a:=by rw[HT.sIx_nat];omega
 have e2:HT.sIx xs.length xs.length (some (b:Int))=b:=by rw[HT.sIx_nat];omega
 rw[e1,e2]
def zb5(zs:Nh)(z0:Str)(m j:Nat):List Str:=(List.range m).map λk=>zs.getD (2+m*j+k) z0
def cut_ring{zs:Nh}{z0:Str}{m j:Nat}(h:2+m*j+m≤zs.length):((zs.map V.str).drop (2+m*j)).take m=(zb5 zs z0 m j).map V.str:=by
 unfold zb5
 refine List.ext_getElem ?_ λi h1 h2=>?_
 ·rw[Zh,Jj,Qa,Qa,Qa,Yd];omega
 ·have hi:i < m:=by rw [Qa,Qa,Yd] at h2;exact h2
  rw[Wp,List.getElem_drop,Zm,Zm,Zm,Ug,Zq,Qd (by omega)]
  rfl
def capR_at{m l j k:Nat}(hk:k<m):capR m l (2+m*j+k)=[2+m*j+(k+1)%m]++(if 0<j then[2+m*(j-1)+(k+1)%m,2+m*(j-1)+k] else[0])++[2+m*j+bk m k]++(if j+1<l then[2+m*(j+1)+bk m k,2+m*(j+1)+k] else[1]):=by
 have e1:(2+m*j+k-2)=m*j+k:=by omega
 have e2:(m*j+k)/m=j:=by rw[Nat.mul_add_div (by omega),Nat.div_eq_of_lt hk];rfl
 have e3:(m*j+k)%m=k:=by rw[Nat.mul_add_mod,Nat.mod_eq_of_lt hk]
 unfold capR
 rw[if_neg (by omega),if_neg (by omega),e1,e2,e3]
abbrev csC:Scope:=scOf (eOf (sAt sCap 0))
def csC_k:csC.kind=.function:=by rfl
def csC_c:∀y∈csC.names,y.2≠.cell:=by decide +kernel
def csC_n:∀y∈csC.names,y.2=.local→csC.names.lookup y.1=some .local:=by decide +kernel
def csC_f:∀y∈csC.names,y.2=.free→(zag sCap).names.lookup y.1=some .cell∨(zag sCap).names.lookup y.1=some .free:=by decide +kernel
def csC_l1:csC.names.lookup (qN:Str)=some NameKind.free:=by decide +kernel
def csC_l2:csC.names.lookup (qM:Str)=some NameKind.free:=by decide +kernel
def ndC:(["_law_j",qN,qM]:List Str).Nodup:=by decide +kernel
def zf7{zs:Nh}{z0:Str}{m j k:Nat}(h:k<m):atI ((zb5 zs z0 m j).map V.str) (k:Int)=some (.str (zs.getD (2+m*j+k) z0)):=by
 refine zap ?_
 unfold zb5
 rw[Qq,Qq,List.getElem?_range h]
 rfl
def at_ring'{zs:Nh}{z0:Str}{m j k:Nat}(h:k<m):atI ((zb5 zs z0 m j).map V.str) ((k:Int)-1)=some (.str (zs.getD (2+m*j+bk m k) z0)):=by
 have hl:((zb5 zs z0 m j).map V.str).length=m:=by unfold zb5;rw[List.length_map,List.length_map,List.length_range]
 rw[zie (by rw[hl];exact h),hl]
 unfold zb5
 have hb:pidx m k<m:=by unfold pidx;split<;>omega
 rw[Qq,Qq,List.getElem?_range hb]
 rfl
def RN.newR{H H1:Hp}{d a:Nc}{es:List Ent}{x:Str}{r:Nh}(R:RN H d es)(k:Keep [] H H1)(hn:H a=none)(hx:x∉es.map (·.1))(ha:H1 a=some (.lst (r.map V.str))) :
  RN (upd H1 d (.dK (putK (es.map λe=>((Sum.inr e.1:Key),V.ref e.2.2)) (Sum.inr x) (.ref a)))) d (es++[(x,r,a)]):=by
 refine⟨rat_new (R.k0 k).toRAt hx ha,?_⟩
 rw[Qn,Ze]
 refine⟨R.an,Qs.mpr ⟨by simp,Zn⟩,λy hy z hz e=>?_⟩
 have ce:z=a:=by simpa using hz
 obtain⟨e0,h0,rfl⟩:=Qh.mp hy
 have:=R.ro e0 h0
 rw[show e0.2.2=a from e.trans ce,hn]at this
 cases this
inductive CapI(zs:Nh)(z0:Str)(m ly:Nat)(H H3:Hp)(d:Nc)(c:Nat)(H':Hp):Prop
 |mk (es:List Ent) (rn:RN H' d es) (rs:rsOf es=(List.range c).map λi=>(zs.getD i z0,(capR m ly i).map λk=>zs.getD k z0)) (fr:∀e∈es,H e.2.2=none) (kp:Keep [d] H3 H'):CapI zs z0 m ly H H3 d c H'
def CapI.k0{zs:Nh}{z0:Str}{m ly:Nat}{H H3:Hp}{d:Nc}{c:Nat}{H' H2:Hp}(h:CapI zs z0 m ly H H3 d c H')(k:Keep [] H' H2):CapI zs z0 m ly H H3 d c H2:=by
 obtain⟨es,rn,rs,fr,kp⟩:=h
 exact⟨es,rn.k0 k,rs,fr,kp.trans (k.sub (by simp))⟩
def spCap:Sp:=λvs H Q _=>Ex4 λl zs m ly=>Aj4 (vs=[.ref l,.int (m:Nat),.int (ly:Nat)]) (m=5∨m=6∨m=7) (ly=2∨ly=3) (IspMade (λn=>n=zs.take (2+m*ly)) vs H Q l zs)
section
variable{P:Ni}{w:Nk}{K:Na}{mg:Nf}{base:Nl}
def zgd:zan [qN,qM, "_law_layers", "_law_rows_here",qR, "_law_j", "_law_row", "_law_k", "_law_on", "_law_above", "_law_below"] [qN,qM, "_law_layers"] (zag sCap):=fsk
def ok_cap{f:Nc}{fd:Np}(F:Fun K "_law_capped" "_law_capped" sCap f fd)(bv:mg "range" = none)(cn:mg "list" = none)(tG:mg "reversed" = none)(uT:mg "enumerate" = none):FnOk P w K mg base CX0 1 f fd [qN,qM, "_law_layers"] spCap:=by
 refine F.okL zgd (λcdv A outer s H vs Q E hr h=>?_) λ_ _ _ _ ⟨_,_,_,_,e,_,_,_⟩=>e▸rfl
 obtain⟨l,zs,m,ly,rfl,hm,hly,hl,aH,cT,k⟩:=h
 have hu:=zcb hr
 have aJ  := sizeLine_eq
 refine⟨_,zae (ps_lc (i:=3) (M:=["_law_j",qN,qM]) (ix:=[none,some 0,some 1]) zgd.nd rfl rfl ⟨csC_k,csC_c,csC_n,csC_f,rfl,ndC,λj i x h1 h2=>by
      match j,h1,h2 with
      |0,_,h2=>cases h2
      |1,h1,h2=>cases h1;cases h2;exact⟨rfl,csC_l1⟩
      |2,h1,h2=>cases h1;cases h2;exact⟨rfl,csC_l2⟩
      |n+3,h1,_=>cases h1⟩ rfl (zec rfl bv (zaa (pv 2) zaf)) (λC aa ex s H=>zbb 0 ndC)
      (λC aa ex s H=>zcu) (λC aa ex s H=>zce (sl_listK (K:=K) rfl) (pv 1) (zcp (zau zbq zai (zau zgs (pv 2) (pv 0)))) (zcp (zau zbq (zau zbq zai (zau zgs (pv 2) (pv 0))) (pv 2)))) rfl)
  (zae (zat 4 zgd.nd (zhq (zeb (zaz zao (pv 0) zai (λ_ _=>rfl)) (zb9 ze3 (by rfl) cn Xa (zaa (zaz zao (pv 3) zai (λ_ _=>rfl)) zaf))
    (zeb (zaz zao (pv 0) zai (λ_ _=>rfl)) (pe_rev rfl (by rfl) cn (by rfl) tG (zaz zao (pv 3) (pe_un un_neg zai) (λ_ _=>rfl))) zhn)) rfl rfl (by decide) (by decide)))
  (zae (zbm Zp rfl (pi_enumL (by rfl) uT (zaa (pv 3) zaf)) (zex rfl (za4 (zbb 5 zgd.nd) (za4 (zbb 6 zgd.nd) zch)))
   (zah (zbm Zp rfl (zec rfl bv (zaa (pv 1) zaf)) (zbb 7 zgd.nd)
    (zae (zat 8 zgd.nd (zau zez (zau zbq (pv 7) zai) (pv 1)))
    (zae (ps_par (i:=9) (j:=10) rfl zgd.nd rfl rfl (by decide) rfl rfl (zaa (za7 (zaa (zaz zao (pv 0) zai (λ_ _=>rfl)) zaf)) (zaa (za7 (zaa (zaz zao (pv 0) zai (λ_ _=>rfl)) zaf)) zaf)) rfl)
    (zae (zbr (zas op_gt (pv 5) zai (zbf _)) (zah (zat 9 zgd.nd (za7 (zaa (zaz zao (zaz zao (pv 3) (zau zed (pv 5) zai) (λ_ _=>rfl)) (pv 8) (λ_ _=>rfl)) (zaa (zaz zao (zaz zao (pv 3) (zau zed (pv 5) zai) (λ_ _=>rfl)) (pv 7) (λ_ _=>rfl)) zaf))))) za2)
    (zae (zbr (zas op_lt (zau zbq (pv 5) zai) (pv 2) (zbf _)) (zah (zat 10 zgd.nd (za7 (zaa (zaz zao (zaz zao (pv 3) (zau zbq (pv 5) zai) (λ_ _=>rfl)) (zau zed (pv 7) zai) (λ_ _=>rfl)) (zaa (zaz zao (zaz zao (pv 3) (zau zbq (pv 5) zai) (λ_ _=>rfl)) (pv 7) (λ_ _=>rfl)) zaf))))) za2)
    (zah (zcv hu (pv 4) (zaz zao (pv 6) (pv 7) (λ_ _=>rfl)) (zau zc2 (zau zc2 (zau zc2 (za7 (zaa (zaz zao (pv 6) (pv 8) (λ_ _=>rfl)) zaf)) (pv 9)) (za7 (zaa (zaz zao (pv 6) (zau zed (pv 7) zai) (λ_ _=>rfl)) zaf))) (pv 10)) rfl)))))))))
  (zah (zbp (pv 4))))),?_⟩
 have aI:(zs.map V.str).length=40:=by rw[Qa,cT]
 have hb:∀i,i<ly→2+m*i+m≤40:=by
  rcases hm with rfl | rfl | rfl<;>rcases hly with rfl | rfl<;>(intro i hi;omega)
 have hmp:5≤m∧m≤7:=by omega
 have hlp:2≤ly∧ly≤3:=by omega
 obtain⟨z0,hz0⟩:∃z0,z0=zs[0]:=⟨_,rfl⟩
 have gz:∀j,j<40→(zs.map V.str)[j]?=some (.str (zs.getD j z0)):=λj hj=>by
  rw[Qq,Zq,Qd (by omega)];rfl
 refine⟨_,rfl,(ly:Int),rfl,by omega,by omega,?_⟩
 refine lc_range (n:=ly) (λ τ=>∃x0,τ=[x0,some (.ref l),some (.int m)]) (λys H'=>Ex1 λas:List Addr=>Aj4 (ys=as.map V.ref) (∀j (hj:j<as.length),H' as[j]=some (.lst ((zb5 zs z0 m j).map V.str))) (∀a∈as,H a=none) (Keep [] H H')) (by omega) ⟨none,rfl⟩ ⟨[],rfl,λj hj=>(by cases hj),λa ha=>(by cases ha),λ_ _ e _=>e⟩ ?_ ?_
 ·rintro i ys τ H1 hi mJ ⟨x0,rfl⟩ ⟨as,rfl,qV,eJ,k1⟩ kk hk
  rw[Qa]at mJ
  have bJ:=k1 _ _ hl (by simp)
  refine⟨_,rfl,_,rfl,_,rfl,_,_,rfl,rfl,.inl ⟨by omega,by omega⟩,_,_,rfl,rfl,_,rfl,_,rfl,_,rfl,_,_,rfl,rfl,.inl ⟨by omega,by omega⟩,_,_,rfl,rfl,_,rfl,_,_,rfl,rfl,_,rfl,l,_,rfl,SqL.of bJ,λp hp=>?_⟩
  have e1:(2:Int)+(m:Int)*(0+(i:Int))=((2+m*i:Nat):Int):=by simp
  have v7:=hb i hi
  rw[e1,show((2+m*i:Nat):Int)+(m:Int)=((2+m*i+m:Nat):Int) from(Xe _ _).symm,cut_mid (Yh _ _) (by rw[aI];exact v7),Nat.add_sub_cancel_left,cut_ring (z0:=z0) (by rw[cT];exact v7)]
  refine hk _ _ _ ⟨_,rfl⟩ ⟨as++[p],by rw[Qn];rfl,λj hj=>?_,λa ha=>?_,k1.trans (Keep.new hp)⟩
  ·rw [Qt] at hj
   have oN:j<as.length+1:=hj
   by_cases h:j<as.length
   ·rw[List.getElem_append_left h,zad (zab (qV j h) hp)];exact qV j h
   ·have:j=i:=by omega
    subst this
    rw[List.getElem_append_right (by omega)]
    simp only[mJ,Nat.sub_self,List.getElem_cons_zero]
    exact zac
  ·rcases Qj.mp ha with z | z
   ·exact eJ a z
   ·rw[Qb.mp z];exact zal k1 hp (by simp)
 ·rintro ys H1 mJ ⟨as,rfl,qV,eJ,k1⟩ rl aV
  rw[Qa]at mJ
  have bJ:=k1 _ _ hl (by simp)
  have k2:Keep [] H (upd H1 rl (.lst (as.map V.ref))):=k1.trans (Keep.new aV)
  have cI:(upd H1 rl (.lst (as.map V.ref))) rl=some (.lst (as.map V.ref)):=zac
  obtain⟨fa,cF⟩:∃fa:Nat→Addr,∀j (hj:j<as.length),as[j]=fa j:=⟨λj=>as.getD j 0,λj hj=>by simp[List.getD,hj]⟩
  have di:∀j,j<ly→(upd H1 rl (.lst (as.map V.ref))) (fa j)=some (.lst ((zb5 zs z0 m j).map V.str)):=λj hj=>by
   have:=qV j (by omega)
   rw[cF]at this
   rw[zad (zab this aV)];exact this
  have ra:∀j:Nat,j<ly→(as.map V.ref)[j]?=some (.ref (fa j)):=λj hj=>by
   rw[Qq,Qd (by omega),cF j (by omega)];rfl
  have cO:(as.map V.ref).length=ly:=by rw[Qa,mJ]
  generalize upd H1 rl (.lst (as.map V.ref))=H2 at k2 cI di
  have ak:=k2 _ _ hl (by simp)
  have jv:1<ly:=hlp.1
  refine λd hd=>?_
  have kd:Keep [] H2 (upd H2 d (.dK [])):=Keep.new hd
  refine⟨_,rfl,l,_,_,_,rfl,rfl,SqL.of (kd _ _ ak (by simp)),zap (j:=0) (gz 0 (by decide)),_,rfl,rl,_,_,_,rfl,rfl,SqL.of (kd _ _ cI (by simp)),zap (j:=0) (ra 0 (by omega)),fa 0,_,rfl,.inl (SqL.of (kd _ _ (di 0 (by omega)) (by simp))),λa0 h0=>?_⟩
  have k0:Keep [] H2 (upd (upd H2 d (.dK [])) a0 (.lst ((zb5 zs z0 m 0).map V.str))):=kd.trans (Keep.new h0)
  have gS:d≠a0:=zab (o:=_) zac h0
  have elast:atI (as.map V.ref) (-1)=some (.ref (fa (ly-1))):=by
   have:=zie (zs:=as.map V.ref) (j:=0) (by rw[cO];omega)
   rw[cO]at this
   rw[show(-1:Int)=((0:Nat):Int)-1 by rfl,this]
   exact ra (ly-1) (by omega)
  refine⟨_,rfl,l,_,_,_,rfl,rfl,SqL.of (k0 _ _ ak (by simp)),zap (j:=1) (gz 1 (by decide)),_,rfl,_,rfl,rl,_,_,_,rfl,rfl,SqL.of (k0 _ _ cI (by simp)),elast,fa (ly-1),_,rfl,SqL.of (k0 _ _ (di (ly-1) (by omega)) (by simp)),λa1 h1=>?_⟩
  have k1':Keep [] H2 (upd (upd (upd H2 d (.dK [])) a0 (.lst ((zb5 zs z0 m 0).map V.str))) a1 (.lst ((zb5 zs z0 m (ly-1)).map V.str).reverse)):=k0.trans (Keep.new h1)
  have nd1:d≠a1:=zab (o:=_) (by rw[zad gS];exact zac) h1
  have n01:a0≠a1:=zab (o:=_) zac h1
  have kJ:(upd (upd (upd H2 d (.dK [])) a0 (.lst ((zb5 zs z0 m 0).map V.str))) a1 (.lst ((zb5 zs z0 m (ly-1)).map V.str).reverse)) d=some (.dK []):=by rw[zad nd1,zad gS];exact zac
  have qr:(upd (upd (upd H2 d (.dK [])) a0 (.lst ((zb5 zs z0 m 0).map V.str))) a1 (.lst ((zb5 zs z0 m (ly-1)).map V.str).reverse)) a0=some (.lst ((zb5 zs z0 m 0).map V.str)):=by rw[zad n01];exact zac
  have hx1:(upd (upd (upd H2 d (.dK [])) a0 (.lst ((zb5 zs z0 m 0).map V.str))) a1 (.lst ((zb5 zs z0 m (ly-1)).map V.str).reverse)) a1=some (.lst (((zb5 zs z0 m (ly-1)).reverse).map V.str)):=by rw[zac,List.map_reverse]
  have f0:H a0=none:=zal (k2.trans kd) h0 (by simp)
  have f1:H a1=none:=zal (k2.trans k0) h1 (by simp)
  have fd:H d=none:=zal k2 hd (by simp)
  refine⟨kJ,[(Sum.inr (zs.getD 0 z0),.ref a0),(Sum.inr (zs.getD 1 z0),.ref a1)],rfl,(by show 2≤15;decide),?_⟩
  generalize upd (upd (upd H2 d (.dK [])) a0 (.lst ((zb5 zs z0 m 0).map V.str))) a1 (.lst ((zb5 zs z0 m (ly-1)).map V.str).reverse)=H4 at k1' kJ qr hx1
  have sE:∀i j,i<40→j<40→zs.getD i z0=zs.getD j z0→i=j:=λi j hi hj e=>by
   rw[Zq,Zq,Qd (by omega),Qd (by omega)]at e
   exact(Yi aH).mp e
  have z01:zs.getD 1 z0∉[zs.getD 0 z0]:=λz=>by
   have:=sE 1 0 (by decide) (by decide) (Qb.mp z)
   cases this
  have C0:CapI zs z0 m ly H H2 d 2 (upd H4 d (.dK (zco [] [((Sum.inr (zs.getD 0 z0):Key),V.ref a0),(Sum.inr (zs.getD 1 z0),.ref a1)]))):=by
   refine⟨[(zs.getD 0 z0,zb5 zs z0 m 0,a0),(zs.getD 1 z0,(zb5 zs z0 m (ly-1)).reverse,a1)],⟨⟨?_,λe he=>?_,?_⟩,?_⟩,?_,λe he=>?_,(k1'.sub (by simp)).trans (Keep.wr (by simp))⟩
   ·rw [zac]
    exact congrArg (λx=>some (HO.dK x)) (put_new (es:=[(zs.getD 0 z0,zb5 zs z0 m 0,a0)]) (r:=(zb5 zs z0 m (ly-1)).reverse) z01)
   ·rcases Qe.mp he with z | z
    ·rw [z]
     show upd _ _ _ a0=_
     rw[zad (Qu gS)];exact qr
    ·rw [Qb.mp z]
     show upd _ _ _ a1=_
     rw[zad (Qu nd1)];exact hx1
   ·exact Qs.mpr ⟨λz=>z01 (Qb.mpr (Qb.mp z).symm),Qs.mpr ⟨by simp,Zn⟩⟩
   ·exact Qs.mpr ⟨λz=>n01 (Qb.mp z),Qs.mpr ⟨by simp,Zn⟩⟩
   ·show [_,_]=[_,_]
    unfold zb5 capR
    simp
   ·rcases Qe.mp he with z | z
    ·rw[z];exact f0
    ·rw[Qb.mp z];exact f1
  generalize upd H4 d (.dK (zco [] [((Sum.inr (zs.getD 0 z0):Key),V.ref a0),(Sum.inr (zs.getD 1 z0),.ref a1)]))=H5 at C0
  have ndl:l≠d:=zab ak hd
  have dl:rl≠d:=zab cI hd
  have nda:∀j,j<ly→fa j≠d:=λj hj=>zab (di j hj) hd
  refine⟨_,rfl,rl,rfl,⟨_,SqL.of (by obtain⟨_,_,_,_,kp⟩:=C0;exact kp _ _ cI (by simpa using dl))⟩,?_⟩
  refine for_enumL (xs:=as.map V.ref) (λj σ H'=>Ex6 λx5 x6 x7 x8 x9 eR=>Aj2 (σ=[some (.ref l),some (.int m),some (.int ly),some (.ref rl),some (.ref d),x5,x6,x7,x8,x9,eR]) (CapI zs z0 m ly H H2 d (2+m*j) H'))
   ⟨_,_,_,_,_,_,rfl,C0⟩ (λj σ H' _ hh=>by obtain⟨_,_,_,_,_,_,_,_,_,_,_,kp⟩:=hh;exact kp _ _ cI (by simpa using dl)) ?_ ?_
  ·rintro j x t σ H6 hx ⟨x5,x6,x7,x8,x9,eR,rfl,C6⟩ ht
   have hj:j<ly:=by
    have:=(Za.mp hx).1
    rwa[cO]at this
   have ex:x=.ref (fa j):=Qk (hx.symm.trans (ra j hj))
   subst ex
   have C7:=C6.k0 (Keep.new (o:=.tup [.int j,.ref (fa j)]) ht)
   have qw:(upd H6 t (.tup [.int j,.ref (fa j)])) t=some (.tup [.int j,.ref (fa j)]):=zac
   generalize upd H6 t (.tup [.int j,.ref (fa j)])=H7 at C7 qw
   refine⟨t,_,rfl,SqT.of qw,rfl,_,_,rfl,_,_,rfl,rfl,?_⟩
   refine⟨_,rfl,(m:Int),rfl,by omega,by omega,?_⟩
   refine zdb (n:=m) (lo:=0) (λk σ H'=>Ex4 λx7 x8 x9 eR=>Aj2 (σ=[some (.ref l),some (.int m),some (.int ly),some (.ref rl),some (.ref d),some (.int j),some (.ref (fa j)),x7,x8,x9,eR]) (CapI zs z0 m ly H H2 d (2+m*j+k) H'))
    ⟨_,_,_,_,rfl,C7⟩ ?_ (λ σ H' ⟨_,_,_,_,e,C⟩=>⟨_,_,_,_,_,_,e,by rw[show 2+m*(j+1)=2+m*j+m by rw[Nat.mul_add];omega];exact C⟩)
   rintro q σ H8 hq ⟨y7,y8,y9,rN,rfl,C8⟩
   have hbj:=hb j hj
   have ck:∀{H':Hp},CapI zs z0 m ly H H2 d (2+m*j+q) H'→Keep [d] H2 H':=λ{H'} C=>by obtain⟨_,_,_,_,kp⟩:=C;exact kp
   have eq0:(0:Int)+(q:Int)=(q:Int):=Int.zero_add _
   have eon:((q:Int)+1)%(m:Int)=(((q+1)%m:Nat):Int):=by simp
   rw[eq0]
   have i9:(q+1)%m<m:=Nat.mod_lt _ (by omega)
   refine⟨_,rfl,_,_,rfl,rfl,_,rfl,_,_,rfl,rfl,(by show(0:Int)<m;omega),?_⟩
   rw[eon]
   generalize tO:(q+1)%m=on at i9
   have ox:=ck C8 _ _ ak (by simpa using ndl)
   refine⟨_,rfl,l,_,_,_,rfl,rfl,SqL.of ox,zap (j:=0) (gz 0 (by decide)),(by show 1≤sizeLine;decide),λa9 h9=>?_⟩
   have C9:=C8.k0 (Keep.new (o:=.lst [.str (zs.getD 0 z0)]) h9)
   have e9:(upd H8 a9 (.lst [.str (zs.getD 0 z0)])) a9=some (.lst ([0].map λk=>V.str (zs.getD k z0))):=zac
   generalize upd H8 a9 (.lst [.str (zs.getD 0 z0)])=H9 at C9 e9
   have hl9:=ck C9 _ _ ak (by simpa using ndl)
   refine⟨_,rfl,l,_,_,_,rfl,rfl,SqL.of hl9,zap (j:=1) (gz 1 (by decide)),(by show 1≤sizeLine;decide),λlf iI=>⟨_,_,rfl,?_⟩⟩
   have qe:=C9.k0 (Keep.new (o:=.lst [.str (zs.getD 1 z0)]) iI)
   have rj:(upd H9 lf (.lst [.str (zs.getD 1 z0)])) lf=some (.lst ([1].map λk=>V.str (zs.getD k z0))):=zac
   have e9':(upd H9 lf (.lst [.str (zs.getD 1 z0)])) a9=some (.lst ([0].map λk=>V.str (zs.getD k z0))):=by rw[zad (zab e9 iI)];exact e9
   generalize upd H9 lf (.lst [.str (zs.getD 1 z0)])=cQ at qe rj e9'
   refine join (λ σ H'=>Ex1 λb9=>Aj4 (σ=[some (.ref l),some (.int m),some (.int ly),some (.ref rl),some (.ref d),some (.int j),some (.ref (fa j)),some (.int q),some (.int on),some (.ref b9),some (.ref lf)]) (CapI zs z0 m ly H H2 d (2+m*j+q) H') (H' lf=some (.lst ([1].map λk=>V.str (zs.getD k z0)))) (H' b9=some (.lst ((if 0<j then[2+m*(j-1)+on,2+m*(j-1)+q] else[0]).map λk=>V.str (zs.getD k z0))))) (λD' hD=>?_) ?_
   ·refine ⟨_,rfl,_,_,rfl,rfl,_,rfl,?_⟩
    have fQ:=ck qe _ _ cI (by simpa using dl)
    refine ite2 (λhc=>?_) (λhc=>?_)
    ·have im:0 < j:=by have:=of_decide_eq_true hc;omega
     have il:j-1<ly:=by omega
     have eat:atI (as.map V.ref) ((j:Int)-1)=some (.ref (fa (j-1))):=by rw[show(j:Int)-1=((j-1:Nat):Int) by omega];exact zap (ra _ il)
     have hg:=ck qe _ _ (di _ il) (by simpa using nda _ il)
     refine⟨_,rfl,_,rfl,_,_,rfl,rfl,rl,_,_,_,rfl,rfl,SqL.of fQ,eat,_,rfl,fa (j-1),_,_,_,rfl,rfl,SqL.of hg,zf7 i9,_,rfl,_,rfl,_,_,rfl,rfl,rl,_,_,_,rfl,rfl,SqL.of fQ,eat,_,rfl,fa (j-1),_,_,_,rfl,rfl,SqL.of hg,zf7 hq,(by show 2≤sizeLine;decide),λb9 hb9=>hD _ _ ⟨b9,rfl,qe.k0 (Keep.new hb9),by rw[zad (zab rj hb9)];exact rj,by rw[zac,if_pos im];rfl⟩⟩
    ·have im:¬ 0 < j:=fun z=>hc (decide_eq_true (by omega))
     exact hD _ _ ⟨a9,rfl,qe,rj,by rw[if_neg im];exact e9'⟩
   rintro σ lh ⟨b9,rfl,rM,vt,lT⟩
   refine joinS (λ σ H'=>Ex1 λgO=>Aj4 (σ=[some (.ref l),some (.int m),some (.int ly),some (.ref rl),some (.ref d),some (.int j),some (.ref (fa j)),some (.int q),some (.int on),some (.ref b9),some (.ref gO)]) (CapI zs z0 m ly H H2 d (2+m*j+q) H') (H' b9=some (.lst ((if 0<j then[2+m*(j-1)+on,2+m*(j-1)+q] else[0]).map λk=>V.str (zs.getD k z0)))) (H' gO=some (.lst ((if j+1<ly then[2+m*(j+1)+bk m q,2+m*(j+1)+q] else[1]).map λk=>V.str (zs.getD k z0))))) (λD' hD=>?_) ?_
   ·refine ⟨_,rfl,_,_,rfl,rfl,_,rfl,_,_,rfl,rfl,_,rfl,?_⟩
    have fQ:=ck rM _ _ cI (by simpa using dl)
    refine ite2 (λhc=>?_) (λhc=>?_)
    ·have il:j+1 < ly:=by have:=of_decide_eq_true hc;omega
     have eat:atI (as.map V.ref) ((j:Int)+1)=some (.ref (fa (j+1))):=by rw[show(j:Int)+1=((j+1:Nat):Int) by omega];exact zap (ra _ il)
     have hg:=ck rM _ _ (di _ il) (by simpa using nda _ il)
     refine⟨_,rfl,_,rfl,_,_,rfl,rfl,rl,_,_,_,rfl,rfl,SqL.of fQ,eat,_,rfl,_,_,rfl,rfl,fa (j+1),_,_,_,rfl,rfl,SqL.of hg,at_ring' hq,_,rfl,_,rfl,_,_,rfl,rfl,rl,_,_,_,rfl,rfl,SqL.of fQ,eat,_,rfl,fa (j+1),_,_,_,rfl,rfl,SqL.of hg,zf7 hq,(by show 2≤sizeLine;decide),λgO dX=>hD _ _ ⟨gO,rfl,rM.k0 (Keep.new dX),by rw[zad (zab lT dX)];exact lT,by rw[zac,if_pos il];rfl⟩⟩
    ·have im:¬ j+1 < ly:=fun z=>hc (decide_eq_true (by omega))
     exact hD _ _ ⟨lf,rfl,rM,lT,by rw[if_neg im];exact vt⟩
   rintro σ gQ ⟨gO,rfl,C12,lT,pW⟩
   generalize gL:(if 0<j then[2+m*(j-1)+on,2+m*(j-1)+q] else[0])=ab at lT
   generalize gI:(if j+1<ly then[2+m*(j+1)+bk m q,2+m*(j+1)+q] else[1])=be at pW
   have pC:ab.length≤2:=by rw[←gL];split<;>simp
   have hbl2:be.length≤2:=by rw[←gI];split<;>simp
   have kD:=ck C12 _ _ (di _ hj) (by simpa using nda _ hj)
   refine⟨_,rfl,_,rfl,fa j,_,_,_,rfl,rfl,SqL.of kD,zf7 i9,(by show 1≤sizeLine;decide),λp1 h1=>?_⟩
   have k1:Keep [] gQ (upd gQ p1 (.lst [V.str (zs.getD (2+m*j+on) z0)])):=Keep.new h1
   have q1:(upd gQ p1 (.lst [V.str (zs.getD (2+m*j+on) z0)])) p1=some (.lst ([2+m*j+on].map λk=>V.str (zs.getD k z0))):=zac
   generalize upd gQ p1 (.lst [V.str (zs.getD (2+m*j+on) z0)])=iJ at k1 q1
   refine⟨_,rfl,p1,b9,_,_,rfl,rfl,q1,k1 _ _ lT (by simp),by rw[Qa,Qa];show 1+_≤_;omega,λp2 h2=>?_⟩
   rw[←Qn]
   have sw:Keep [] gQ (upd iJ p2 (.lst (([2+m*j+on]++ab).map λk=>V.str (zs.getD k z0)))):=k1.trans (Keep.new h2)
   have q2:(upd iJ p2 (.lst (([2+m*j+on]++ab).map λk=>V.str (zs.getD k z0)))) p2=some (.lst (([2+m*j+on]++ab).map λk=>V.str (zs.getD k z0))):=zac
   generalize upd iJ p2 (.lst (([2+m*j+on]++ab).map λk=>V.str (zs.getD k z0)))=H14 at sw q2
   refine⟨_,rfl,_,rfl,_,_,rfl,rfl,fa j,_,_,_,rfl,rfl,SqL.of (sw _ _ kD (by simp)),at_ring' hq,(by show 1≤sizeLine;decide),λp3 h3=>?_⟩
   have k3:Keep [] gQ (upd H14 p3 (.lst [V.str (zs.getD (2+m*j+bk m q) z0)])):=sw.trans (Keep.new h3)
   have q3:(upd H14 p3 (.lst [V.str (zs.getD (2+m*j+bk m q) z0)])) p3=some (.lst ([2+m*j+bk m q].map λk=>V.str (zs.getD k z0))):=zac
   have lj:(upd H14 p3 (.lst [V.str (zs.getD (2+m*j+bk m q) z0)])) p2=_:=(zad (zab q2 h3)).trans q2
   generalize upd H14 p3 (.lst [V.str (zs.getD (2+m*j+bk m q) z0)])=dZ at k3 q3 lj
   refine⟨p2,p3,_,_,rfl,rfl,lj,q3,by rw[Qa,Qa,Qt];show 1+_+1≤_;omega,λp4 h4=>?_⟩
   rw[←Qn]
   have k4:Keep [] gQ (upd dZ p4 (.lst (([2+m*j+on]++ab++[2+m*j+bk m q]).map λk=>V.str (zs.getD k z0)))):=k3.trans (Keep.new h4)
   have q4:(upd dZ p4 (.lst (([2+m*j+on]++ab++[2+m*j+bk m q]).map λk=>V.str (zs.getD k z0)))) p4=some (.lst (([2+m*j+on]++ab++[2+m*j+bk m q]).map λk=>V.str (zs.getD k z0))):=zac
   generalize upd dZ p4 (.lst (([2+m*j+on]++ab++[2+m*j+bk m q]).map λk=>V.str (zs.getD k z0)))=lX at k4 q4
   refine⟨_,rfl,p4,gO,_,_,rfl,rfl,q4,k4 _ _ pW (by simp),by rw[Qa,Qa,Qt,Qt];show 1+_+1+_≤_;omega,λp5 h5=>?_⟩
   rw[←Qn]
   have ecr:[2+m*j+on]++ab++[2+m*j+bk m q]++be=capR m ly (2+m*j+q):=by rw[capR_at hq,tO,gL,gI]
   rw[ecr]
   have k5:Keep [] gQ (upd lX p5 (.lst ((capR m ly (2+m*j+q)).map λk=>V.str (zs.getD k z0)))):=k4.trans (Keep.new h5)
   have q5:(upd lX p5 (.lst ((capR m ly (2+m*j+q)).map λk=>V.str (zs.getD k z0)))) p5=some (.lst (((capR m ly (2+m*j+q)).map λk=>zs.getD k z0).map V.str)):=by rw[zac,Zi];rfl
   have f5:gQ p5=none:=zal k4 h5 (by simp)
   generalize upd lX p5 (.lst ((capR m ly (2+m*j+q)).map λk=>V.str (zs.getD k z0)))=ji at k5 q5
   obtain⟨es,rn,rs,fr,kp⟩:=C12
   have bi:es.length=2+m*j+q:=by
    have:=congrArg List.length rs
    unfold rsOf at this
    rw[Qa,Qa,Yd]at this;exact this
   have e8:zs.getD (2+m*j+q) z0∉es.map (·.1):=λz=>by
    rw[←zbk,rs,Zi]at z
    obtain⟨i,hi,e⟩:=Qh.mp z
    have dh:=Uo.mp hi
    have:=sE i (2+m*j+q) (by omega) (by omega) e
    omega
   refine⟨_,rfl,_,rfl,_,rfl,fa j,_,_,_,rfl,rfl,SqL.of (k5 _ _ kD (by simp)),zf7 hq,d,_,rfl,DPut.k (k:=Sum.inr (zs.getD (2+m*j+q) z0)) (k5 _ _ rn.dc (by simp)) (by rw[Qa,bi];omega),?_⟩
   have uv:H p5=none:=by
    refine zal (xs:=[d]) ((k2.sub (by simp)).trans kp) f5 ?_
    simpa using λz:p5=d=>(by rw[z,rn.dc]at f5;cases f5)
   refine⟨_,_,_,_,rfl,es++[(zs.getD (2+m*j+q) z0,(capR m ly (2+m*j+q)).map λk=>zs.getD k z0,p5)],rn.newR k5 f5 e8 q5,?_,λe he=>?_,(kp.trans (k5.sub (by simp))).trans (Keep.wr (by simp))⟩
   ·rw [← Nat.add_assoc,List.range_succ,Qn,← rs]
    unfold rsOf
    rw[Qn];rfl
   ·rcases Qj.mp he with z | z
    ·exact fr e z
    ·rw[Qb.mp z];exact uv
  ·rintro σ H6 ⟨x5,x6,x7,x8,x9,eR,rfl,es,rn,rs,fr,kp⟩
   rw[cO]at rs
   have hc40:2+m*ly≤40:=by have:=hb (ly-1) (by omega);rw[show m*ly=m*(ly-1)+m by rw[←Nat.mul_succ];congr 1;omega];omega
   have bi:es.length=2+m*ly:=by
    have:=congrArg List.length rs
    unfold rsOf at this
    rw[Qa,Qa,Yd]at this;exact this
   refine⟨_,rfl,k d es H6 fd ⟨rn,?_,by omega⟩ (λz=>by rw[z]at bi;have:0=2+m*ly:=bi;omega) ?_ fr ?_⟩
   ·rw[rs];exact cap_good hm hly aH (by omega) z0
   ·rw [← zbk,rs,Zi]
    refine List.ext_getElem (by rw[Qa,Yd,Zh];omega) λi h1 h2=>?_
    have hi:i<zs.length:=by rw[Zh]at h2;omega
    rw[Zm,Ug,Wp]
    show zs.getD i z0=_
    rw[Zq,Qd hi];rfl
   ·intro c o ec _
    exact kp c o (k2 c o ec (by simp)) (by simpa using zab ec fd)
end
end K21
end
section
namespace L2
def if_and(P:Prop)(ht:∀k:Bool→Hp→Prop,k true H→k false H→t σ H k)(hu:∀k:Bool→Hp→Prop,(P→k true H)→k false H→u σ H k)(q0:B D σ H)(q1:P→A D σ H):tIfS (tAnd t u) A B D σ H :=
 have q0':if(false=true) then A D σ H else B D σ H:=iteF q0
 ht _ (by
  show if(true=true) then u σ H (λb H1=>if b=true then A D σ H1 else B D σ H1) else _
  exact iteT (hu _ (λp=>iteT (q1 p)) q0')) (by
  show if(false=true) then _ else(if(false=true) then A D σ H else B D σ H)
  exact iteF q0')
end L2
namespace K21
open PySem L2 Wb
abbrev zhd:Stmt:=top 50
inductive RI(zs:Nh)(l:Nc)(H:Hp)(d:Nc)(H':Hp):Prop
 |mk (es:List Ent) (dr:Dr H' d es) (nm:es.map (·.1)=zs.take es.length) (ne:es≠[]) (fr:∀e∈es,H e.2.2=none) (nl:∀e∈es,e.2.2≠l) (hl:H' l=some (.lst (zs.map V.str))) (kp:Keep [] H H'):RI zs l H d H'
def RI.deed(fd:H d=none)(nm:es.map (·.1)=zs.take es.length)(ne:es≠[])(fr:∀e∈es,H e.2.2=none)(nl:∀e∈es,e.2.2≠l)(hl:Hr l=some (.lst (zs.map V.str)))(dr:Dr Hr d es)(kp:Keep [] H Hr)(hp:H p=none)(lp:l≠p)(D:Deed p d Hr es ex aq H2)(bQ:zs.take es.length++ex=zs.take (es.length+ex.length)):RI zs l H d H2:=by
 have ah:aq.length=es.length+ex.length:=by
  have:=congrArg List.length D.nm
  rwa[Qa,Qt,Qa]at this
 have nld:l≠d:=zax hl dr.rn.dc (by intro z;cases z)
 have ad:∀e∈aq,H e.2.2=none∧e.2.2≠l:=λe he=>by
  rcases D.ad _ (Qh.mpr ⟨e,he,rfl⟩) with z | z
  ·obtain ⟨e0,h0,e1⟩:=Qh.mp z
   rw[←e1];exact⟨fr e0 h0,nl e0 h0⟩
  ·exact⟨zal kp z (by simp),Qu (zab hl z)⟩
 refine⟨aq,D.dr,by rw[D.nm,nm,bQ,ah],λz=>?_,λe he=>(ad e he).1,λe he=>(ad e he).2,D.kp _ _ hl ?_,λc o ec _=>D.kp c o (kp c o ec (by simp)) ?_⟩
 ·rw [z] at ah
  have:0<es.length:=Uf.mpr ne
  have:0=es.length+ex.length:=ah
  omega
 ·simp only [Qe,not_or]
  refine⟨lp,nld,λz=>?_⟩
  obtain⟨e0,h0,e1⟩:=Qh.mp z
  exact nl e0 h0 e1
 ·simp only [Qe,not_or]
  refine⟨zab ec hp,zab ec fd,λz=>?_⟩
  obtain⟨e0,h0,e1⟩:=Qh.mp z
  exact zab ec (fr e0 h0) e1.symm
inductive zgb(K:Na)(vs:List V)(H:Hp)(Q:VK):Prop
 |mk (a:Nc) (ns:List Int) (h0:vs=[.ref a]) (h1:SqL K H a (ns.map V.int)) (h2:ns.length≤1000) (h3:∀(d:Nc) (es:List Ent) (H':Hp),Dr H' d es→es≠[]→(∀e∈es,ze6 e.1)→H d=none→Keep [] H H'→Q (.ref d) H'):zgb K vs H Q
def zgn(K:Na):Sp:=λvs H Q _=>zgb K vs H Q
section
variable{P:Ni}{w:Nk}{K:Na}{mg:Nf}{base:Nl}
def zb8:zan [qS,qP,qN,qR, "_law_way", "_law_k", "_law_line", "_law_deed"] [qS] (zag zhd):=fsk
def ok_rounds(F:Fun K "_law_rounds" "_law_rounds" zhd f fd)(FP:Fun K "_law_pot" "_law_pot" sPot fp fdp)(bP:Binds K fdp [qS, "_law_k"] [])(mP:mg "_law_pot" = some (.ref fp))(GP:FnOk P w K mg base CX0 1 fp fdp [qS, "_law_k"] (spPot K))(FN:Fun K "_law_names" "_law_names" zdm fn fdn)(bN:Binds K fdn [qP,qM] [])(mN:mg "_law_names" = some (.ref fn))(GN:FnOk P w K mg base CX0 2 fn fdn [qP,qM] spNames)(FT:Fun K qD qD zfo ft fdt)(bT:Binds K fdt [qP,qM] [])(mT:mg qD=some (.ref ft))(GT:FnOk P w K mg base CX0 1 ft fdt [qP,qM] zd3)(FG:Fun K "_law_long" "_law_long" sLong fg fdg)(bG:Binds K fdg [qN] [])(mG:mg "_law_long" = some (.ref fg))(GG:FnOk P w K mg base CX0 3 fg fdg [qN] spLong)(FC:Fun K "_law_capped" "_law_capped" sCap fc fdc)(bC:Binds K fdc [qN,qM, "_law_layers"] [])(mC:mg "_law_capped" = some (.ref fc))(GC:FnOk P w K mg base CX0 1 fc fdc [qN,qM, "_law_layers"] spCap)(FL:Fun K "_law_fill" "_law_fill" sFill fl fdl)(bL:Binds K fdl [qR,qP, "_law_name"] [])(mL:mg "_law_fill" = some (.ref fl))(GL:FnOk P w K mg base CX0 3 fl fdl [qR,qP, "_law_name"] spFill)(FM:Fun K "_law_more" "_law_more" sMore fm fdm)(bM:Binds K fdm [qR,qP, "_law_name"] [])(mM:mg "_law_more" = some (.ref fm))(GM:FnOk P w K mg base CX0 3 fm fdm [qR,qP, "_law_name"] spMore)(FA:Fun K "_law_away" "_law_away" sAway fa fda)(bA:Binds K fda [qR,qP] [])(mA:mg "_law_away" = some (.ref fa))(GA:FnOk P w K mg base CX0 3 fa fda [qR,qP] zfb)(FX:Fun K "_law_across" "_law_across" zhh fx fdx)(bX:Binds K fdx [qR,qP] [])(mX:mg "_law_across" = some (.ref fx))(GX:FnOk P w K mg base CX0 3 fx fdx [qR,qP] zfb)(ah:mg "len" = none)(fV:mg "min" = none)(bv:mg "range" = none):FnOk P w K mg base CX0 4 f fd [qS] (zgn K):=by
 refine F.okL zb8 (λcdv A outer s H vs Q E hr h=>?_)
 obtain⟨a,ns,rfl,ha,ie,k⟩:=h
 have hu:=zcb hr
 have aA:Room 1 _:=hr.mono (by decide)
 have d8:Room 2 _:=hr.mono (by decide)
 have aJ  := sizeLine_eq
 refine⟨_,zae (zat 1 zb8.nd (zaj GP aA rfl mP FP.kp bP .nil zav (zaa (pv 0) (zaa zai zaf))))
  (zae (zat 2 zb8.nd (zaj GN d8 rfl mN FN.kp bN .nil zav (zaa (pv 1) (zaa zai zaf))))
  (zae (zat 3 zb8.nd (zhq (zeb (zaz zao (pv 2) zai (λ_ _=>rfl)) (za7 zaf) zhn) rfl rfl (by decide) (by decide)))
  (zae (zat 4 zb8.nd (zaj GT aA rfl mT FT.kp bT .nil zav (zaa (pv 1) (zaa zai zaf))))
  (zae (zbr (zas op_eq (pv 4) zai (zbf _)) (zah (zat 3 zb8.nd (zaj GG hr rfl mG FG.kp bG .nil zav (zaa (pv 2) zaf))))
    (zah (zbr (zas op_lt (pv 4) zai (zbf _)) (zah (zat 3 zb8.nd (zaj GC aA rfl mC FC.kp bC .nil zav (zaa (pv 2) (zaa (zau zbq zai (zaj GT aA rfl mT FT.kp bT .nil zav (zaa (pv 1) (zaa zai zaf)))) (zaa (zau zbq zai (zaj GT aA rfl mT FT.kp bT .nil zav (zaa (pv 1) (zaa zai zaf)))) zaf)))))) za2)))
  (zae (zbm Zp rfl (pi_range2 rfl bv (zaa zai (zaa (zak (call_min2 rfl) (by rfl) fV Xf (zaa (zak zaq (by rfl) ah Zw (zaa (pv 0) zaf)) (zaa zai zaf))) zaf))) (zbb 5 zb8.nd)
   (zae (zat 6 zb8.nd (zaj GP aA rfl mP FP.kp bP .nil zav (zaa (pv 0) (zaa (pv 5) zaf))))
   (zae (zat 7 zb8.nd (zaj GT aA rfl mT FT.kp bT .nil zav (zaa (pv 6) (zaa zai zaf))))
   (zah (zbr (PW.pt (pw_and (zas op_lt (pv 7) zai (zbf _)) (zfp (zas op_lt (zak zel (by rfl) ah Zw (zaa (pv 3) zaf)) zai (zbf _)))))
    (zah (za3 (zaj GL hr rfl mL FL.kp bL .nil zav (zaa (pv 3) (zaa (pv 6) (zaa (zaz zao (pv 2) (zak zel (by rfl) ah Zw (zaa (pv 3) zaf)) (λ_ _=>rfl)) zaf))))))
    (zah (zbr (PW.pt (pw_and (zas op_eq (pv 7) zai (zbf _)) (zfp (zas op_lt (zak zel (by rfl) ah Zw (zaa (pv 3) zaf)) zai (zbf _)))))
     (zah (za3 (zaj GM hr rfl mM FM.kp bM .nil zav (zaa (pv 3) (zaa (pv 6) (zaa (zaz zao (pv 2) (zak zel (by rfl) ah Zw (zaa (pv 3) zaf)) (λ_ _=>rfl)) zaf))))))
     (zah (zbr (zas op_eq (pv 7) zai (zbf _))
      (zah (za3 (zaj GA hr rfl mA FA.kp bA .nil zav (zaa (pv 3) (zaa (pv 6) zaf)))))
      (zah (za3 (zaj GX hr rfl mX FX.kp bX .nil zav (zaa (pv 3) (zaa (pv 6) zaf))))))))))))))
  (zah (zbp (pv 3)))))))),?_⟩
 refine⟨_,rfl,a,ns,0,rfl,ha,by decide,ie,λp b m H1 jY aL k1=>?_⟩
 have fp:H p=none:=jY
 refine⟨_,rfl,p,b,m,40,rfl,aL,by decide,λl zs b2 m2 H2 ak cT jw sB aB fl k2=>?_⟩
 have z0:0<zs.length:=by omega
 have lu:Keep [] H H2:=λc o ec _=>k2 c o (k1 c o ec (by simp)) (by simpa using zab ec fp)
 have gz:∀j (hj:j<zs.length),(zs.map V.str)[j]?=some (.str zs[j]):=λj hj=>by rw[Qq,Qd hj];rfl
 have nlp:l≠p:=zbt aB ak
 refine λd hd=>?_
 have kd:Keep [] H2 (upd H2 d (.dK [])):=Keep.new hd
 refine⟨_,rfl,l,_,_,_,rfl,rfl,SqL.of (kd _ _ ak (by simp)),zap (j:=0) (gz 0 z0),(by show 0≤sizeLine;decide),λr gD=>⟨by rw[zad (zab (o:=_) zac gD)];exact zac,[(Sum.inr zs[0],.ref r)],rfl,(by show 1≤15;decide),?_⟩⟩
 have dl:d≠r:=zab (o:=_) zac gD
 have frr:H2 r=none:=zal kd gD (by simp)
 have k3:Keep [] H2 (upd (upd (upd H2 d (.dK [])) r (.lst [])) d (.dK (zco [] [((Sum.inr zs[0]:Key),V.ref r)]))):=λc o ec _=>by
  rw[zad (zab ec hd),zad (zab ec frr),zad (zab ec hd)];exact ec
 have R3:RN (upd (upd (upd H2 d (.dK [])) r (.lst [])) d (.dK (zco [] [((Sum.inr zs[0]:Key),V.ref r)]))) d [(zs[0],[],r)]:=by
  refine⟨⟨zac,λe he=>?_,Wn _ _⟩,Wn _ _⟩
  rw[Qb.mp he]
  show upd _ _ _ r=_
  rw[zad (Qu dl)]
  exact zac
 generalize upd (upd (upd H2 d (.dK [])) r (.lst [])) d (.dK (zco [] [((Sum.inr zs[0]:Key),V.ref r)]))=H3 at k3 R3
 have D3:Dr H3 d [(zs[0],[],r)]:=⟨R3,za1.new [] zs[0] za1.nil (by simp),by show 1≤40;decide⟩
 have ay:=aB.keep k3 (by simp)
 refine⟨_,rfl,p,b2,m2,8,rfl,ay,by decide,by decide,λway b4 m4 H4 hw0 hw1 cj iL=>?_⟩
 have k4:Keep [p] H2 H4:=(k3.sub (by simp)).trans (zba iL)
 have iM:Keep [] H H4:=λc o ec _=>k4 c o (lu c o ec (by simp)) (by simpa using zab ec fp)
 have aR:=k4 _ _ ak (by simpa using nlp)
 have fd:H d=none:=zal lu hd (by simp)
 have R0:RI zs l H d H4:=⟨_,D3.pot ay (zba iL),by show[zs[0]]=zs.take (0+1);rw[Qm z0];rfl,by simp,λe he=>by rw[Qb.mp he];exact zal lu frr (by simp),λe he=>by rw[Qb.mp he];exact Qu (zab ak frr),aR,iM⟩
 refine join (λ σ H'=>Ex4 λ(d':Nc) x5 x6 x7=>Aj3 (σ=[some (.ref a),some (.ref p),some (.ref l),some (.ref d'),some (.int way),x5,x6,x7]) (H d'=none) (RI zs l H d' H')) (λD' hD=>?_) ?_
 ·refine ⟨_,rfl,rfl,_,rfl,?_⟩
  refine ite2 (λ_=>?_) (λ_=>?_)
  ·refine ⟨_,rfl,l,zs,rfl,aR,jw,cT,fun d' es H5 lS D5 ne nm fr k5=>hD _ _ ⟨d',_,_,_,rfl,zal iM lS (by simp),es,D5,?_,ne,fun e he=>zal iM (fr e he) (by simp),fun e he=>Qu (zab aR (fr e he)),k5 _ _ aR (by simp),iM.trans k5⟩⟩
   have:=congrArg List.length nm
   rw[Qa]at this
   rw[nm,this,Qz (Qg _)]
  ·refine ⟨_,rfl,_,_,rfl,rfl,_,rfl,?_⟩
   refine ite2 (λ_=>?_) (λ_=>?_)
   ·refine ⟨_,rfl,_,rfl,p,b4,m4,3,rfl,cj,by decide,by decide,fun e1 b5 m5 H5 vk h51 bz si=>⟨_,_,rfl,rfl,_,rfl,p,b5,m5,2,rfl,bz,by decide,by decide,fun e2 b6 m6 H6 pS qZ dM eU=>⟨_,_,rfl,rfl,?_⟩⟩⟩
    obtain⟨e1,rfl⟩:=Zt vk
    obtain⟨e2,rfl⟩:=Zt pS
    have k6:Keep [p] H4 H6:=(zba si).trans (zba eU)
    have cE:=k6 _ _ aR (by simpa using nlp)
    have sk:Keep [] H H6:=λc o ec _=>k6 c o (iM c o ec (by simp)) (by simpa using zab ec fp)
    refine⟨l,zs,5+e1,2+e2,by rw[Xe,Xe];rfl,by omega,by omega,cE,jw,cT,λd' es H7 lS D7 ne nm fr k7=>hD _ _ ⟨d',_,_,_,rfl,zal sk lS (by simp),es,D7,?_,ne,λe he=>zal sk (fr e he) (by simp),λe he=>Qu (zab cE (fr e he)),k7 _ _ cE (by simp),sk.trans k7⟩⟩
    have:=congrArg List.length nm
    rw[Qa,Zh]at this
    rw[nm,this,←List.take_eq_take_min]
   ·exact hD _ _ ⟨d,_,_,_,rfl,fd,R0⟩
 rintro σ H5 ⟨d',x5,x6,x7,rfl,lS,R5⟩
 have sm:Keep [] H H5:=by obtain⟨_,_,_,_,_,_,_,kp⟩:=R5;exact kp
 have ki:∀n:Nat,(if(25:Int)<(n:Int) then(25:Int) else(n:Int))≤25∧0≤(if(25:Int)<(n:Int) then(25:Int) else(n:Int)):=λn=>by split<;>omega
 have hmi:=ki (ns.map V.int).length
 refine⟨_,rfl,a,_,rfl,.inl (zg9 ha sm),_,_,rfl,1,_,rfl,⟨by decide,by decide,by omega,by omega⟩,?_⟩
 generalize(if(25:Int)<((ns.map V.int).length:Int) then(25:Int) else((ns.map V.int).length:Int))=top at hmi
 refine zdb (lo:=1) (λi σ H'=>Ex3 λx5 x6 x7=>Aj2 (σ=[some (.ref a),some (.ref p),some (.ref l),some (.ref d'),some (.int way),x5,x6,x7]) (RI zs l H d' H')) ⟨_,_,_,rfl,R5⟩ ?_ ?_
 ·rintro i σ H6 hi ⟨y5,y6,y7,rfl,es,D6,nm,ne,fr,nl,cE,eU⟩
  refine⟨_,rfl,_,rfl,a,ns,1+i,by rw[Xe];rfl,zg9 ha eU,by omega,ie,λq bq mq H7 hq0 eF k7=>?_⟩
  refine⟨_,rfl,q,bq,mq,6,rfl,eF,by decide,by decide,λdeed b8 m8 H8 h80 h81 gE gT=>?_⟩
  have k8:=zba gT
  have D8:Dr H8 d' es:=(D6.k0 k7).pot eF k8
  have nlq:l≠q:=zab cE hq0
  have ox:=k8 _ _ (k7 _ _ cE (by simp)) (by simpa using nlq)
  have fq:H q=none:=zal eU hq0 (by simp)
  have kk8:Keep [] H H8:=λc o ec _=>k8 c o (k7 c o (eU c o ec (by simp)) (by simp)) (by simpa using zab ec fq)
  have fin:∀(ex:Nh) (aq:List Ent) (H9:Hp),Deed q d' H8 es ex aq H9→zs.take es.length++ex=zs.take (es.length+ex.length)→RI zs l H d' H9:=λex aq H9 Dd bQ=>RI.deed lS nm ne fr nl ox D8 kk8 fq nlq Dd bQ
  have aZ:∀(h:es.length<24),(zs.map V.str)[(es.map λe=>((Sum.inr e.1:Key),V.ref e.2.2)).length]?=some (.str (zs[es.length]'(by omega))):=λh=>by rw[Qa];exact gz _ (by omega)
  have hnx:∀(h:es.length<24),zs[es.length]'(by omega)∉es.map (·.1):=λh z=>by
   rw[nm]at z
   obtain⟨j,hj,e⟩:=Zo z
   rw[Zh]at hj
   rw[Wp]at e
   have:=(Yi jw).mp e
   omega
  have bQ:∀(h:es.length<24),zs.take es.length++[zs[es.length]'(by omega)]=zs.take (es.length+[zs[es.length]'(by omega)].length):=λh=>(Qm (by omega)).symm
  have small:∀k:Bool→Hp→Prop,(es.length<24→k true H8)→k false H8→k (decide (((es.map λe=>((Sum.inr e.1:Key),V.ref e.2.2)).length:Int)<24)) H8:=λk h1 h0=>by
   rw[Qa]
   by_cases h:es.length<24
   ·rw[decide_eq_true (by omega:(es.length:Int)<24)];exact h1 h
   ·rw[decide_eq_false (by omega:¬(es.length:Int)<24)];exact h0
  have both:∀(c:Prop) [Decidable c] (k:Bool→Hp→Prop),k true H8→k false H8→k (decide c) H8:=λc _ k h1 h0=>by
   cases decide c
   ·exact h0
   ·exact h1
  dsimp only[gName]
  refine if_and (es.length<24) (λk h1 h0=>⟨_,rfl,_,_,rfl,rfl,_,rfl,both _ k h1 h0⟩) (λk h1 h0=>⟨_,rfl,d',_,rfl,D8.rn.dc,_,_,rfl,rfl,_,rfl,small k h1 h0⟩) ?_ (λai=>?_)
  ·refine if_and (es.length < 24) (fun k h1 h0=>⟨_,rfl,rfl,_,rfl,both _ k h1 h0⟩) (fun k h1 h0=>⟨_,rfl,d',_,rfl,D8.rn.dc,_,_,rfl,rfl,_,rfl,small k h1 h0⟩) ?_ (fun ai=>?_)
   ·refine ⟨_,rfl,rfl,_,rfl,ite2 (fun _=>?_) (fun _=>?_)⟩
    ·exact⟨_,rfl,_,rfl,q,d',b8,m8,es,rfl,gE,D8,λb9 m9 aq H9 dL Dd=>⟨_,_,_,rfl,fin [] aq H9 Dd (by simp)⟩⟩
    ·exact⟨_,rfl,_,rfl,q,d',b8,m8,es,rfl,gE,D8,λb9 m9 aq H9 dL Dd=>⟨_,_,_,rfl,fin [] aq H9 Dd (by simp)⟩⟩
   ·exact⟨_,rfl,_,rfl,_,rfl,_,rfl,d',_,rfl,D8.rn.dc,l,_,_,_,rfl,rfl,SqL.of ox,zap (aZ ai),q,d',b8,m8,es,_,rfl,gE,D8,by omega,ne,hnx ai,λb9 m9 aq H9 dL Dd=>⟨_,_,_,rfl,fin _ aq H9 Dd (bQ ai)⟩⟩
  ·exact⟨_,rfl,_,rfl,_,rfl,_,rfl,d',_,rfl,D8.rn.dc,l,_,_,_,rfl,rfl,SqL.of ox,zap (aZ ai),q,d',b8,m8,es,_,rfl,gE,D8,by omega,hnx ai,λb9 m9 aq H9 dL Dd=>⟨_,_,_,rfl,fin _ aq H9 Dd (bQ ai)⟩⟩
 ·rintro σ H6 ⟨y5,y6,y7,rfl,es,D6,nm,ne,fr,nl,cE,eU⟩
  exact⟨_,rfl,k d' es H6 D6 ne (λe he=>sB _ (Jn (nm▸Qh.mpr ⟨e,he,rfl⟩))) lS eU⟩
end
end K21
end
section
namespace K21
open PySem L2 Wb
structure HF(H:Hp)(u:Nc)(hs:List (Str×Int)):Prop where
 dc:H u=some (.dK (hs.map λe=>((Sum.inr e.1:Key),V.int e.2)))∨∃o,H u=some (.frz o (.dK (hs.map λe=>((Sum.inr e.1:Key),V.int e.2))))
 nd:(hs.map (·.1)).Nodup
def HF.get(h:HF H u hs)(k:Key):DGet H u (kV k) (valV (hs.map λe=>((Sum.inr e.1:Key),V.int e.2)) k):=.inl ⟨_,k,h.dc,rfl,rfl⟩
def HF.keep(h:HF H u hs)(k:Keep [] H H'):HF H' u hs:=⟨h.dc.imp (λe=>k _ _ e (by simp)) λ⟨o,e⟩=>⟨o,k _ _ e (by simp)⟩,h.nd⟩
end K21
end
section
namespace L2
open PySem PySem.Spec PyProof.Rows
section
variable{prog:Ni}{w:Nk}
end
section
variable{X:Cx}{i o:Expr}{ty td:TE}
end
def zbi.got{P:Ni}{w:Nk}{H:Hp}{h:Nl}{a:Nc}{o:HO}(x:zbi P w H h a o):∃u,h.get? a=some u:=by
 cases o with
 |lst xs=>obtain⟨_,_,_,_,e⟩:=x;exact⟨_,e⟩
 |tup xs=>obtain⟨_,_,_,u,e,_⟩:=x;exact⟨u,e⟩
 |dK kvs=>obtain⟨_,_,_,_,o,_,_,e,_⟩:=x;exact⟨_,e⟩
 |dT kvs=>obtain⟨_,_,_,_,o,_,_,e,_⟩:=x;exact⟨_,e⟩
 |set S n=>obtain⟨o,_,_,_,e,_⟩:=x;exact⟨_,e⟩
 |ins C dx fs=>obtain⟨_,_,_,e,_⟩:=x;exact⟨_,e⟩
 |own y=>obtain⟨_,e⟩:=x;exact⟨_,e⟩
 |xd fs=>obtain⟨_,⟨_,_,_,e,_⟩,_⟩:=x;exact⟨_,e⟩
 |rng lo hi=>obtain⟨_,_,_,e⟩:=x;exact⟨_,e⟩
 |frz ob u=>obtain⟨e,_⟩:=x;exact⟨_,e⟩
 |tbl ps=>exact⟨_,(show h.get? a=some _ from x)⟩
 |met f y=>exact⟨_,(show h.get? a=some _ from x)⟩
 |ext φ=>obtain⟨_,⟨_,e⟩,_⟩:=x;exact⟨_,e⟩
inductive CXr(P:Ni)(w:Nk)(outer:List Env)(H:Hp)(s:Ng)(E:XK)(e:Value)(s':Ng):Prop
 | mk (a:Nc) (cls a0:Value) (H':Hp) (B:Nl) (he:e=.ref a) (os:s'.os=s.os) (bare:AllBare s'.gens) (un:Un (frs outer) [] H H' s.heap s'.heap) (hok:HOk P w H' s'.heap)
   (hB:∀b o,s.heap.get? b=some o→b∉frs outer→∃u,B.get? b=some u) (hT:∀b o,H' b=some o→∃u,B.get? b=some u) (fl:Heap.FlyingW B outer a cls a0 s'.heap) (q:E cls none H'):CXr P w outer H s E e s'
def flyUn{P:Ni}{w:Nk}{l:List Env}{H H':Hp}{h g h' B base:Nl}(un:Un (frs l) [] H H' h g)(hok:HOk P w H' g)(hB:∀b o,h.get? b=some o→b∉frs l→∃u,B.get? b=some u)(hT:∀b o,H' b=some o→∃u,B.get? b=some u)(hg:B.StaysIn g)(hh:B.StaysIn h')(fr:g.FunFrames base l)(us:g.UpToSlots h'):Un (frs l) [] H H' h h'∧HOk P w H' h':=by
 have same:∀b o u,B.get? b=some u→g.get? b=some o→h'.get? b=some o:=λb o u e q=>by
  have:=hg b u e
  rw[q]at this;cases this
  exact hh b _ e
 refine⟨⟨λb o e n hb hx=>?_,λb o e n hb hx=>?_,un.free,λb o e hx=>?_,un.tups,un.frzs,un.tbls⟩,λb o e=>?_⟩
 ·obtain ⟨u,eu⟩:=hB b o e hb
  exact same b o u eu (un.keep b o e n hb hx)
 ·obtain ⟨sl,e1⟩:=un.slot b o e n hb hx
  obtain⟨_,o',bg,hd⟩:=fr.mem hb
  obtain⟨li,e2⟩:=us b _ e1 λvs z=>by rw[e1]at bg;cases bg;exact hd vs z
  exact⟨li,e2⟩
 ·by_cases hb:b∈frs l
  ·obtain ⟨_,o',bg,hd⟩:=fr.mem hb
   obtain⟨li,e2⟩:=us b _ bg hd
   exact⟨_,e2⟩
  ·obtain ⟨u,eu⟩:=hB b o e hb
   exact⟨u,hh b u eu⟩
 ·refine (hok b o e).stay (fun c v hc q=>?_) (fun _ q=>q) fun _ _ q=>q
  obtain⟨u,eu⟩:∃u,B.get? c=some u:=by
   rcases hc with rfl | hc
   ·exact hT _ _ e
   ·exact hT _ _ hc
  exact same c v u eu q
def Inv.fly{X:Cx}{aa:Nd}{σ:St}{H H':Hp}{s s':Ng}{B h':Nl}(I:Inv X aa σ H s)(os:s'.os=s.os)(bare:AllBare s'.gens)(un:Un (frs X.stack) [] H H' s.heap s'.heap)(hok:HOk X.prog X.w H' s'.heap)(hB:∀b o,s.heap.get? b=some o→b∉frs X.stack→∃u,B.get? b=some u)(hT:∀b o,H' b=some o→∃u,B.get? b=some u)(hg:B.StaysIn s'.heap)(hh:B.StaysIn h')(fr:s'.heap.FunFrames B X.stack)(us:s'.heap.UpToSlots h') :
  Inv X aa σ H' {s' with heap:=h'}:=by
 obtain⟨u,k⟩:=flyUn un hok hB hT hg hh fr us
 exact I.call' (s':={s' with heap:=h'}) (ch:=[]) os u k bare λb z=>absurd z (by simp)
def Inv.out{X:Cx}{aa:Nd}{σ:St}{H H':Hp}{s s':Ng}{B:Nl}{E:XK}{a:Nc}{cls a0:Value}(I:Inv X aa σ H s)(bQ:X.ex=[])(J:Inv X aa σ H' s')(hB:∀b o,s.heap.get? b=some o→b∉frs X.stack→∃u,B.get? b=some u)(hT:∀b o,H' b=some o→∃u,B.get? b=some u)(fl:Heap.FlyingW B X.outer a cls a0 s'.heap)(q:E cls none H'):CXr X.prog X.w X.outer X.H₀ X.s₀ E (.ref a) s':=by
 refine⟨a,cls,a0,H',B,rfl,J.os,J.bare,by have:=J.base;rw[bQ]at this;exact this,J.hok,λb o e hb=>?_,hT,fl,q⟩
 obtain⟨o',e'⟩:=I.base.there b o e (by rw[bQ];simp)
 refine hB b o' e' λz=>?_
 rcases Qe.mp (I.stkSub b z) with r | r
 ·exact absurd (Zj (Qr e) I.ok.above) (by rw[r];exact Yp _)
 ·exact hb r
def PassesS(CX:CXT)(X:Cx)(E:St→XK):Prop:=∀(aa:Nd) (σ:St) (H:Hp) (s:Ng) (e:Value) (s':Ng),Inv X aa σ H s→CX X.stack H s (E σ) e s'→X.xe e s'
section
variable{P:Ni}{w:Nk}{K:Na}{mg:Nf}{base:Nl}{N ps:Nh}{qual:Str}{scope:Scope}{f:Nc}{cd:Value}{A:Nm}{outer:List Env}{s:Ng}{H:Hp}{E:XK}
def passR{E':XK}(h:∀c d H,E' c d H→E c d H):zg1 (CXr P w) (cxOf (CXr P w) P w K mg base N qual scope f cd A outer s H E) E':=by
 intro aa σ H1 s1 e s' I hx
 obtain⟨a,cls,a0,H',B,rfl,os,bare,un,hok,hB,hT,fl,q⟩:=hx
 refine wpAny_leaves_onW I.ok.frames rfl fl λh' fl' us=>?_
 exact I.out rfl (I.fly os bare un hok hB hT fl.1 fl'.1 fl.2.2.1 us) hB hT fl' (h _ _ _ q)
def raiseR{aa:Nd}{σ:St}{H1:Hp}{s1:Ng}{h1:Nl}{e:Nc}{cls:Value}{vs:Nj}(I:Inv (cxOf (CXr P w) P w K mg base N qual scope f cd A outer s H E) aa σ H1 s1)(hx:Heap.MadeExcOf s1.heap h1 e cls vs)(q:E cls none H1) :
  (cxOf (CXr P w) P w K mg base N qual scope f cd A outer s H E).xe (.ref e) {s1 with heap:=h1}:=by
 have ax:∀b o,s1.heap.get? b=some o→b∉frs (envOfC qual scope s.heap.objs.size f cd::outer)→∃u,(PySem.W.hideAll s1.heap (frs (envOfC qual scope s.heap.objs.size f cd::outer))).get? b=some u:=λb o e nb=>⟨o,PySem.W.hideAll_get _ e nb⟩
 have ap:Heap.StaysIn (PySem.W.hideAll s1.heap (frs (envOfC qual scope s.heap.objs.size f cd::outer))) s1.heap:=λb o e=>PySem.W.of_hideAll _ e
 have eJ:=PySem.W.funFrames_hide (as:=frs (envOfC qual scope s.heap.objs.size f cd::outer)) I.stack λenv he b hb=>List.mem_filterMap.mpr ⟨env,he,hb⟩
 have hT:∀b o,H1 b=some o→∃u,(PySem.W.hideAll s1.heap (frs (envOfC qual scope s.heap.objs.size f cd::outer))).get? b=some u:=λb o e=>by
  have ai:=I.hok.lt e
  obtain⟨u,hu⟩:∃u,s1.heap.get? b=some u:=(I.hok b o e).got
  exact ax b u hu λz=>by rw[I.stkFree b z]at e;cases e
 refine wpAny_leaves_madeW (base:=PySem.W.hideAll s1.heap (frs (envOfC qual scope s.heap.objs.size f cd::outer))) I.ok.frames rfl ap eJ hx λh' t fl _ _ us=>?_
 refine I.out rfl (I.fly (s':=s1) rfl I.bare Un.refl I.hok ax hT ap fl.1 eJ ((Heap.UpToSlots.of_keeps hx.keeps).trans us)) ax hT fl q
end
abbrev bmVE:List Value:=[.type "ValueError",.type "Exception",.type "BaseException",.type "object"]
structure Exc(K:Na)(C:Nc):Prop where
 inK:PySem.W.excIn K C bmVE "ValueError.__new__" = true
def exc_obj{K:Na}{h:Nl}{C:Nc}{bmB:Nj}{newId:String}(X:K.In h)(q:PySem.W.excIn K C bmB newId=true) :
  ∃bm N nm qn bs hdct sn sub ab col dd k0 k1 k2 k3 k5 mN,h.get? C=some (excClassObj nm qn C N bs bm hdct sn sub ab col dd k0 k1 k2 k3 k5 newId)∧h.Ns N mN∧mN "__init__" = none∧OwnTail h bmB bm:=by
 unfold PySem.W.excIn at q
 split at q
 ·rename_i dd cd sl ho
  split at q
  ·rename_i C' bm k0 k1 k2 k3 n k5 hm hs
   simp only[Jk,beq_iff_eq,Jf]at q
   obtain⟨⟨⟨⟨⟨rfl,rfl⟩,pf⟩,ht⟩,hok⟩,qF⟩:=q
   obtain⟨nm,bs,mro,ns,qn,hd,sn,sub,ab,col,del⟩:=cd
   dsimp only at hm pf hok qF
   subst hm pf
   have hsl:sl=#[k0,k1,k2,k3,some (.builtin n),k5]:=by
    obtain⟨l⟩:=sl
    simp only at hs
    rw[hs]
   subst hsl
   exact⟨bm,ns,nm,qn,bs,hd,sn,sub,ab,col,dd,k0,k1,k2,k3,k5,_,X _ _ ho,.of_isNs (PySem.W.isNs_of_in X hok),PySem.W.nsMap_none_of_in X hok qF,PySem.W.tail_of_in X ht⟩
  ·cases q
 ·cases q
section
variable{P:Ni}{w:Nk}{K:Na}{mg:Nf}{base:Nl}{N ps:Nh}{qual:Str}{scope:Scope}{f:Nc}{cd:Value}{A:Nm}{outer:List Env}{s:Ng}{H:Hp}{E:XK}
def tRaise(C:Nc)(E:XK)(t:TA):TS:=λ_ σ H=>t σ H λvs H1=>Aj2 (vs.length≤sizeLine) (E (.ref C) none H1)
def ps_raise{x:Str}{C:Nc}{e₀:Expr}{rest:No}{np cpos pos:Pos}{t:TA}(c:Exc K C)(hg:Gl (cxOf (CXr P w) P w K mg base N qual scope f cd A outer s H E) x)(hm:mg x=some (.ref C))(ha:PA (cxOf (CXr P w) P w K mg base N qual scope f cd A outer s H E) (e₀::rest) t)(cL:(x==("__debug__" : Str))=false:=by decide)(he:starEach (e₀::rest) (envOfC qual scope s.heap.objs.size f cd)=(false,eval e₀ (envOfC qual scope s.heap.objs.size f cd))::starEach rest (envOfC qual scope s.heap.objs.size f cd):=by rfl)(bw:(backTo cpos (starEach rest (envOfC qual scope s.heap.objs.size f cd))).any (·.1)=false:=by rfl) :
  PS (cxOf (CXr P w) P w K mg base N qual scope f cd A outer s H E) (.Raise (some (.Call (.Name x np) (e₀::rest) [] cpos)) none pos) (tRaise C E t):=by
 intro aa s1 σ H1 D I h
 obtain⟨tl,N',nm,q,bs,hdct,sn,sub,ab,col,dd,k0,k1,k2,k3,k5,mN,hC,hN,qF,T⟩:=exc_obj I.ok.mod.kin c.inK
 refine wpAny_Raise_call_subT (C:=C) (nm:=nm) (q:=q) (N:=N') (bs:=bs) (bm:=tl) (hdct:=hdct) (sn:=sn) (sub:=sub) (ab:=ab) (col:=col) (dd:=dd) (k0:=k0) (k1:=k1) (k2:=k2) (k3:=k3) (k5:=k5)
  PySem.F.excBase_ValueError (mN:=mN) (T.hasType PySem.F.excBase_ValueError.hasBase) (I.ok.hd rfl) (by rw[show starEach (e₀::rest) (cxOf (CXr P w) P w K mg base N qual scope f cd A outer s H E).env=_ from he];show(false||(backTo cpos (starEach rest (cxOf (CXr P w) P w K mg base N qual scope f cd A outer s H E).env)).any (·.1))=false;rw[show(backTo cpos (starEach rest (cxOf (CXr P w) P w K mg base N qual scope f cd A outer s H E).env)).any (·.1)=false from bw];rfl) qF (zdy I hg hm ⟨rfl,?_⟩ cL)
 have h2:=ha cpos aa s1 σ H1 _ I h
 rw[show starEach (e₀::rest) (cxOf (CXr P w) P w K mg base N qual scope f cd A outer s H E).env=_ from he]at h2 ⊢
 exact Kb (wpAny_mono h2 (λus s2 ⟨vs,H2,I2,r,hl,q2⟩=>⟨rfl,by rw[←r.length];exact hl,I2.bk _ _ hC,hN.keeps I2.bk,T.keeps I2.bk,λh' e hx=>raiseR I2 hx q2⟩) λ_ _ y=>y)
def Fun.okX{x qual:Str}{st:Stmt}{f:Nc}{fd:Np}{N ps:Nh}{k:Nat}{sp:Sp}(F:Fun K x qual st f fd)(S:zan N ps (zag st))(len:∀vs H Q E,sp vs H Q E→vs.length=ps.length)(aK:∀ (cdv:Value) (A:Nm) (outer:List Env) (s:Ng) (H:Hp) (vs:List V) (Q:VK) (E:XK),Room k (A.deeper (envOfC qual (zag st) s.heap.objs.size f cdv))→sp vs H Q E →
   ∃t,PSs (cxOf (CXr P w) P w K mg base N qual (zag st) f cdv A outer s H E) (zbs st) t∧t {nx:=λ_ H'=>Q .non H',rt:=Q} (start N vs) H):FnOk P w K mg base (CXr P w) (k+1) f fd ps sp:=by
 obtain⟨oc,od,kV,doc,pm,an,cdv,ct,osl,rfl,lk,ar⟩:=F.ex
 exact fn_of lk ar S len λA outer s H vs Q E hr aT=>aK cdv A outer s H vs Q E hr aT
end
section
variable{X:Cx}{CX:CXT}{k:Nat}{f C:Nc}{fd:Np}{ps:Nh}{sp:Sp}{dvs:List V}{ds:Nj}{E:St→XK}{x m:Str}{p pos apos:Pos}{e o:Expr}{es:No}{ta:TE}{t:TA}
def run_fnS{aa:Nd}{σ:St}{H:Hp}{s:Ng}{Q:VK}{us:Nj}{vs:List V}(F:FnOk X.prog X.w X.K X.mg X.base CX k f fd ps sp)(hr:Room k X.A)(hb:Binds X.K fd ps ds)(hd:Vals dvs ds)(hx:PassesS CX X E)(I:Inv X aa σ H s)(r:Vals vs us)(h:sp (vs++dvs) H Q (E σ)):wpAny (model X.prog X.w) X.A (call (.ref f) us) (EP X aa σ Q) X.xe s:=by
 have r2:Vals (vs++dvs) (us++ds):=r.append hd
 have hl:(us++ds).length=ps.length:=by rw[←r2.length];exact F.len _ _ _ _ h
 refine wpAny_call (codeAny_mono (F.run X.A X.stack s H ⟨us,[]⟩ (us++ds) (vs++dvs) Q (E σ) hr I.env0 (hb s us I.kIn hl) r2 h) λr s' hq=>?_)
 cases r with
 |error e=>exact hx aa σ H s e s' I hq
 |ok fl =>
  cases fl with
  |ret u=>exact I.after hq
  |next=>exact False.elim hq
  |brk=>exact False.elim hq
  |cont=>exact False.elim hq
def tCallS(sp:Sp)(dvs:List V)(E:St→XK)(t:TA):TE:=λ σ H Q=>t σ H λvs H1=>sp (vs++dvs) H1 Q (E σ)
def pe_callS(F:FnOk X.prog X.w X.K X.mg X.base CX k f fd ps sp)(hr:Room k X.A)(hg:Gl X x)(hm:X.mg x=some (.ref f))(hk:PySem.W.keepIn X.K (.ref f)=true)(hb:Binds X.K fd ps ds)(hd:Vals dvs ds)(hx:PassesS CX X E)(ha:PA X (e::es) t)(cL:(x==("__debug__" : Str))=false:=by decide)(he:starEach (e::es) X.env=(false,eval e X.env)::starEach es X.env:=by rfl)(bw:(backTo pos (starEach es X.env)).any (·.1)=false:=by rfl) :
  PE X (.Call (.Name x p) (e::es) [] pos) (tCallS sp dvs E t):=by
 intro aa s σ H Q I h
 refine wpAny_Call_Name_kw (zdy I hg hm ?_ cL)
 refine Jz (h₀:=X.base) I.ok.mod.kin hk (thn (ha pos aa s σ H _ I h) λus s1 ⟨vs,H1,I1,r,q⟩=>⟨I1.kIn,?_⟩) he bw
 exact run_fnS F hr hb hd hx I1 r q
end
def ExO(a:Nc)(cls:Value):HO:=.ext λh=>∃o,h.get? a=some o∧o.cls=cls
def zd1{X:Cx}{aa:Nd}{σ:St}{H:Hp}{s:Ng}{M:Model}{A:Nm}{E:Nb}{i:Nat}{x:Str}{pos:Pos}{Q:Unit→Shared→Prop}(I:Inv X aa σ H s)(hN:X.N.Nodup)(hi:X.N[i]?=some x)(hk:X.env.scope.names.lookup x=some .local)(h:∀s',Inv X aa (σ.set i none) H s'→Q () s'):wpAny M A (do bindName X.env x .none;unbindBehindTheSuite X.env x pos) Q E s:=by
 obtain⟨m,hn,hl⟩:=id I.loc
 have kO:(X.env.scope.kind==.class||(X.env.scope.kind==.module&&X.env.locals != X.env.globals))=false:=by rw[I.ok.kind];rfl
 refine wpAny_nameGoes_keeps hk hn kO λh' v tY hs=>h _ ?_
 obtain⟨oL,_,_,hoL,_⟩:=id hn
 have neL:∀b o,X.s₀.heap.get? b=some o→b≠X.env.locals:=λb o e=>Zc (Zj (Qr e) I.ok.above)
 refine⟨I.ok,I.os,I.bare,⟨λb o e n hb hx=>(hs.2 b (neL b o e)).trans (I.base.keep b o e n hb hx),λb o e n hb hx=>?_,I.base.free,λb o e hx=>?_,I.base.tups,I.base.frzs,I.base.tbls⟩,⟨_,tY,λj y v' e1 e2 e3=>?_⟩,λy c e=>?_,I.free,I.freeC,λp hp=>?_,λb ob e=>?_,by simpa using I.len⟩
 ·obtain ⟨sl,e1⟩:=I.base.slot b o e n hb hx
  exact⟨sl,(hs.2 b (neL b o e)).trans e1⟩
 ·obtain ⟨o',e1⟩:=I.base.there b o e hx
  exact⟨o',(hs.2 b (neL b o e)).trans e1⟩
 ·have hj:j≠i:=fun z=>by
   subst z
   rw[List.getElem?_set]at e2
   split at e2
   ·split at e2<;>cases e2
   ·contradiction
  rw[List.getElem?_set_ne (Qu hj)]at e2
  obtain⟨u',r',q⟩:=hl j y v' e1 e2 e3
  refine⟨u',r',?_⟩
  rcases q with⟨k,e⟩ | ⟨k,c,e,z⟩
  ·refine .inl ⟨k,?_⟩
   have:y≠x:=λe=>hj (zhw hN e1 (e▸hi))
   simp[this,e]
  ·exact .inr ⟨k,c,e,z.sameBut hs (I.cne y c e)⟩
 ·obtain ⟨w',z⟩:=I.cell y c e
  exact⟨w',z.sameBut hs (I.cne y c e)⟩
 ·obtain ⟨e,n,ne,nf,d⟩:=I.pin p hp
  exact⟨(hs.2 p.1 ne).trans e,n,ne,nf,d⟩
 ·refine (I.hok b ob e).stay (fun c w' hc q=>(hs.2 c ?_).trans q) (fun _ q=>q) fun _ _ q=>q
  rintro rfl
  rcases hc with hc | hc
  ·rw[←hc,I.free]at e;cases e
  ·rw[I.free]at hc;cases hc
def Ends.off(i:Nat)(D:Ends):Ends:={nx:=λ σ H=>D.nx (σ.set i none) H,rt:=D.rt,bk:=λ σ H=>D.bk (σ.set i none) H,ct:=λ σ H=>D.ct (σ.set i none) H}
abbrev Cx.tried(X:Cx)(E:Nb)(pn:Nd):Cx:={X with xe:=E,pn:=pn}
abbrev Cx.suite(X:Cx)(a:Nc):Cx:={X with A:=X.A.mark (some (.ref a)),calm:=false,xe:=λ_ _=>False}
section
variable{X:Cx}{aa:Nd}{σ:St}{H:Hp}{s:Ng}{E:Nb}{a:Nc}
def Cx.Ok.tried(ok:X.Ok)(E:Nb)(pn:Nd):(X.tried E pn).Ok :=
 ⟨ok.mod,ok.kind,ok.glob,ok.blt,ok.above,ok.inj,ok.has,ok.cab,ok.hd,ok.frames,ok.stk,ok.exf,ok.bs,ok.bsz,ok.noex,ok.exfs,ok.funs,ok.frf⟩
def Inv.tried(I:Inv X aa σ H s)(E:Nb):Inv (X.tried E (X.pn++aa)) [] σ H s :=
 ⟨I.ok.tried E _,I.os,I.bare,I.base,I.loc,I.cell,I.free,I.freeC,λp hp=>I.pin p (by rwa[Zu]at hp),I.hok,I.len⟩
def Inv.untried{pn:Nd}{pins':Nd}(ok:X.Ok)(I:Inv (X.tried E (X.pn++aa)) pins' σ H s):Inv X aa σ H s :=
 ⟨ok,I.os,I.bare,I.base,I.loc,I.cell,I.free,I.freeC,λp hp=>I.pin p (Qp _ hp),I.hok,I.len⟩
def Inv.suite(I:Inv X aa σ H s)(a:Nc):Inv (X.suite a) aa σ H s :=
 ⟨⟨I.ok.mod,I.ok.kind,I.ok.glob,I.ok.blt,I.ok.above,I.ok.inj,I.ok.has,I.ok.cab,(λh=>nomatch h),I.ok.frames,I.ok.stk,I.ok.exf,I.ok.bs,I.ok.bsz,I.ok.noex,I.ok.exfs,I.ok.funs,I.ok.frf⟩,I.os,I.bare,I.base,I.loc,I.cell,I.free,I.freeC,I.pin,I.hok,I.len⟩
def Inv.unsuite(ok:X.Ok)(I:Inv (X.suite a) aa σ H s):Inv X aa σ H s :=
 ⟨ok,I.os,I.bare,I.base,I.loc,I.cell,I.free,I.freeC,I.pin,I.hok,I.len⟩
def Inv.track{o:HO}(J:Inv X aa σ H s)(na:H a=none)(n0:X.s₀.heap.get? a=none)(nL:a≠X.env.locals)(nC:∀x c,X.env.cells.lookup x=some c→c≠a)(nP:∀p∈X.pn++aa,p.1≠a)(new:zbi X.prog X.w (upd H a o) s.heap a o):Inv X aa σ (upd H a o) s:=by
 have ne:∀b u,H b=some u→b≠a:=λb u e z=>by rw[z,na]at e;cases e
 refine⟨J.ok,J.os,J.bare,⟨J.base.keep,J.base.slot,λb u e n hx=>?_,J.base.there,λb xs e=>?_,λb u v e=>?_,λb ps e=>?_⟩,J.loc,J.cell,?_,λx c e=>?_,λp hp=>?_,λb u e=>?_,J.len⟩
 ·rw[zad (λz=>by rw[z,n0]at e;cases e)];exact J.base.free b u e n hx
 ·have:=J.base.tups b xs e
  rw[zad (ne _ _ this)];exact this
 ·have:=J.base.frzs b u v e
  rw[zad (ne _ _ this)];exact this
 ·obtain ⟨m,this⟩:=J.base.tbls b ps e
  exact⟨m,by rw[zad (ne _ _ this)];exact this⟩
 ·rw[zad (Qu nL)];exact J.free
 ·rw[zad (nC x c e)];exact J.freeC x c e
 ·obtain ⟨h1,h2,h3⟩:=J.pin p hp
  exact⟨h1,by rw[zad (nP p hp)];exact h2,h3⟩
 ·by_cases hb:b=a
  ·subst hb
   rw[zac]at e;cases e;exact new
  ·rw [zad hb] at e
   exact(J.hok b u e).stay (λ_ _ _ q=>q) (λc q=>by rw[zad (ne _ _ q)];exact q) λc xs q=>by rw[zad (ne _ _ q)];exact q
def SP.off{D:Ends}{i:Nat}{x:Str}{pos:Pos}{f:Flow}{E:Nb}{M:Model}{A:Nm}(ok:X.Ok)(hN:X.N.Nodup)(hi:X.N[i]?=some x)(hk:X.env.scope.names.lookup x=some .local)(h:SP (X.suite a) aa (D.off i) f s) :
  wpAny M A (do bindName X.env x .none;unbindBehindTheSuite X.env x pos) (λ_ s'=>SP X aa D f s') E s:=by
 cases f with
 |next=>obtain⟨σ',H',I,q⟩:=h;exact zd1 (I.unsuite ok) hN hi hk λs' I'=>⟨_,H',I',q⟩
 |brk=>obtain⟨σ',H',I,q⟩:=h;exact zd1 (I.unsuite ok) hN hi hk λs' I'=>⟨_,H',I',q⟩
 |cont=>obtain⟨σ',H',I,q⟩:=h;exact zd1 (I.unsuite ok) hN hi hk λs' I'=>⟨_,H',I',q⟩
 |ret u=>obtain⟨v,σ',H',I,r,q⟩:=h;exact zd1 (I.unsuite ok) hN hi hk λs' I'=>⟨v,_,H',I',r,q⟩
def SP.untried{D:Ends}{f:Flow}(ok:X.Ok)(h:SP (X.tried E (X.pn++aa)) [] D f s):SP X aa D f s:=by
 cases f with
 |next=>obtain⟨σ',H',I,q⟩:=h;exact⟨σ',H',I.untried (pn:=[]) ok,q⟩
 |brk=>obtain⟨σ',H',I,q⟩:=h;exact⟨σ',H',I.untried (pn:=[]) ok,q⟩
 |cont=>obtain⟨σ',H',I,q⟩:=h;exact⟨σ',H',I.untried (pn:=[]) ok,q⟩
 |ret u=>obtain⟨v,σ',H',I,r,q⟩:=h;exact⟨v,σ',H',I.untried (pn:=[]) ok,r,q⟩
def tTry(K:Na)(c:Value)(i:Nat)(EX:St→XK)(tb ts:TS):TS:=λD σ H=>Aj2 (tb D σ H) (∀(σ':St) (cls:Value) (H':Hp) (a:Nc),σ'.length=σ.length→EX σ' cls none H'→H' a=none →
 Aj2 (PySem.W.exmOne K cls c=some true) (ts (D.off i) (σ'.set i (some (.ref a))) (upd H' a (ExO a cls))))
def ps_try{body suite:List Stmt}{b₀:Stmt}{x n:Str}{np da pos:Pos}{i:Nat}{c:Value}{EX:St→XK}{tb ts:TS}(ap:X.stack=X.env::X.outer)(bQ:X.ex=[])(hfm:X.env.frame=some X.env.locals)(hb:∀(E':Nb) (pn:Nd),PassesS (CXr X.prog X.w) (X.tried E' pn) EX→PSs (X.tried E' pn) body tb)(hs:∀a,PSs (X.suite a) (b₀::suite) ts)(hN:X.N.Nodup)(hi:X.N[i]?=some n)(hk:X.env.scope.names.lookup n=some .local)(hg:Gl X x)(hm:X.mg x=some c)(cL:(x==("__debug__" : Str))=false:=by decide) :
  PS X (.Try body [.ExceptHandler (some (.Name x np)) (some n) (b₀::suite) da] [] [] pos) (tTry X.K c i EX tb ts):=by
 intro aa s σ H D I h
 obtain⟨h1,h2⟩:=h
 refine wpAny_Try_except ?_
 refine wpAny_mono (hb (λe s₁=>wpAny (model X.prog X.w) X.A (noteFrame e X.env) (λ_ s₂=>wpAny (model X.prog X.w) X.A (setFlight e none) (λ_ s₃=>wpAny (model X.prog X.w) X.A (handleBy e X.env [.ExceptHandler (some (.Name x np)) (some n) (b₀::suite) da]) (SP X aa D) X.xe s₃) X.xe s₂) X.xe s₁) (X.pn++aa) ?_ [] s σ H D (I.tried _) h1) (λfl s1 hq=>?_) λ_ _ z=>z
 ·intro pins' σ' H1 s1 e s' J hx
  obtain⟨a,cls,a0,H',B,rfl,os,bare,un,hok,hB,hT,fl,q⟩:=hx
  have J:Inv X aa σ' H1 s1:=J.untried (pn:=[]) I.ok
  rw[ap]at fl
  have eJ:X.A.frames=some (X.env::X.outer):=by rw[I.ok.frames,ap]
  refine wpAny_looks_onW eJ hfm fl λh₄ held₄ us₄=>?_
  refine wpAny_landsW held₄ λh₅ fl₅ us₅=>?_
  have J₅:Inv X aa σ' H' {s' with heap:=h₅}:=J.fly os bare un hok hB hT fl.1 fl₅.1 (by rw[ap];exact fl.2.2.1) (us₄.trans us₅)
  have na:H' a=none:=by
   cases z:H' a with
   |none=>rfl
   |some o=>obtain⟨u,hu⟩:=hT a o z;rw[fl.2.1]at hu;cases hu
  obtain⟨he,hsu⟩:=h2 σ' cls H' a (by rw[J.len,I.len]) q na
  refine wpAny_handleBy_cons (codeAny_handlers_test (zdy (J₅.suite a) hg hm ?_ cL)) (by intro z;cases z)
  obtain⟨ob,hob,tT⟩:=fl₅.there
  have LT:PySem.W.Looks (model X.prog X.w) h₅ (typeOf (.ref a)) cls:=tT▸(PySem.W.Looks.ld hob).andThen .now
  refine(PySem.W.exm_one J₅.kIn LT he).here ?_
  refine codeAny_handlers_suite_as ?_
  refine lands_againW fl₅ λh₆ fl₆ us₆=>?_
  have J₆:Inv X aa σ' H' {s' with heap:=h₆}:=J.fly os bare un hok hB hT fl.1 fl₆.1 (by rw[ap];exact fl.2.2.1) ((us₄.trans us₅).trans us₆)
  have n1:s1.heap.get? a=none:=by
   cases z:s1.heap.get? a with
   |none=>rfl
   | some o =>
    exfalso
    by_cases hf:a∈frs X.stack
    ·rw [ap] at hf
     obtain⟨_,o',bg,hd⟩:=fl.2.2.1.mem hf
     obtain⟨oe,vs,hoe,_,tR,_⟩:=fl.first
     rw[bg]at hoe;cases hoe
     exact hd vs tR
    ·obtain ⟨u,hu⟩:=hB a o z hf
     rw[fl.2.1]at hu;cases hu
  have J₇:Inv X aa σ' (upd H' a (ExO a cls)) {s' with heap:=h₆}:=by
   obtain⟨o6,ho6,kR⟩:=fl₆.there
   refine J₆.track na ?_ ?_ (λy c e z=>?_) (λp hp z=>?_) ⟨⟨o6,ho6,kR⟩,⟨o6,ho6⟩,λg1 g2 ⟨o,ho,hc⟩ k=>⟨o,k o ho,hc⟩⟩
   ·cases z:X.s₀.heap.get? a with
    |none=>rfl
    |some o =>
     obtain⟨o',e⟩:=J.base.there a o z (by rw[bQ];simp)
     rw[n1]at e;cases e
   ·rintro rfl
    obtain⟨m,⟨o,_,_,ho,_⟩,_⟩:=J.loc
    rw[n1]at ho;cases ho
   ·subst z
    obtain⟨v,o,ho,_⟩:=J.cell y c e
    rw[n1]at ho;cases ho
   ·subst z
    have:=(J.pin p hp).1
    rw[n1]at this;cases this
  refine zd2 (v:=.ref a) J₇ hN hi (.inl hk) rfl (λs₈ I₈=>?_) (.inr hk)
  refine wpAny_mono (hs a aa s₈ _ _ (D.off i) (I₈.suite a) hsu) (λf s₉ hq=>?_) λ_ _ z=>z.elim
  exact SP.off I.ok hN hi hk hq
 ·have hq:=SP.untried I.ok hq
  cases fl with
  |next=>exact wpAny_pure hq
  |brk=>exact hq
  |cont=>exact hq
  |ret u=>exact hq
end
end L2
end
section
namespace L2
open PySem PySem.Spec PyProof.Rows PySem.W PySem.Builtin PySem.Builtin.ObjectAttr PySem.Builtin.Getset_descriptor
structure ExI(K:Na)(D:Nc):Prop where
 ga:findIn K (.ref D) "__getattribute__" = some (some (.builtin "BaseException.__getattribute__"))
 nga:findIn K (.ref D) "__getattr__" = some none
 bx:mroIn K D (.type "BaseException")=some true
 at_:findIn K (.ref D) "__class__" = some (some (.builtin "object.__class__"))
 gs:specialIn K (.builtin "object.__class__") "__get__" = some (some (.builtin "getset_descriptor.__get__"))
 tk:takesIn K (.builtin "object.__class__")=some true
 ob:mroIn K D (.type "object")=some true
def ExI.cl{K:Na}{D:Nc}(c:ExI K D):(clsIn K D).isSome=true:=by
 have h:=c.ob
 unfold mroIn at h
 cases z:clsIn K D with
 |none=>rw[z]at h;cases h
 |some _=>rfl
abbrev ExAt(x:Nc)(cls:Value)(h:Nl):Prop:=∃o,h.get? x=some o∧o.cls=cls
def ExAt.type{M:Model}{x:Nc}{cls:Value}{h:Nl}(p:ExAt x cls h):Looks M h (typeOf (.ref x)) cls:=by
 obtain⟨o,ho,rfl⟩:=p
 exact(Looks.ld ho).andThen .now
section
variable{prog:Ni}{w:Nk}{A:Nm}{E:Nb}{s:Ng}{K:Na}{x D:Nc}
def ex_find{M:Model}{h:Nl}(c:ExI K D)(X:K.In h)(p:ExAt x (.ref D) h):Looks M h (find (.ref x) (.ref D) "__class__") (.bind (.builtin "getset_descriptor.__get__") (.builtin "object.__class__")):=by
 have L1:=looks_findIn (M:=M) X c.at_
 have L2:Looks M h (getOf (some (.builtin "object.__class__"))) (some (.builtin "getset_descriptor.__get__")):=looks_specialIn X c.gs
 have L3:=looks_takesIn (M:=M) X c.tk
 refine L1.andThen (L2.andThen ?_)
 exact(show Looks M h (dataDescriptor? (some (.builtin "object.__class__")) (some (.builtin "getset_descriptor.__get__"))) (some (.builtin "getset_descriptor.__get__",.builtin "object.__class__")) from L3.andThen .now).andThen (Looks.tag .now)
def ex_class_get{tp:Value}{R:Nt}(X:K.In s.heap)(p:ExAt x (.ref D) s.heap)(hm:mroIn K D (.type "object")=some true)(h:R (.ok (.ret (.ref D))) s):codeAny (model prog w) A (.call (.builtin "getset_descriptor.__get__") ⟨[.builtin "object.__class__",.ref x,tp],[]⟩) R s:=by
 obtain⟨hh,g,dr,t,os⟩:=s
 have L0:=p.type (M:=model prog w)
 have L1:=looks_mroIn (M:=model prog w) X hm
 refine codeAny_call_builtin KF.slot_gs.plain KF.entry_gs (KF.slot_gs.check _ _ _ _ _ _ _ _ KF.type_class (KF.args_gs _ _ _) ?_)
 unfold Builtin.«getset_descriptor.__get__» descrGet
 rw[dga_obj]
 refine wpAny_bind (wpAny_pure ?_)
 unfold descrGetter descrCheckInstance descrNameAndClass isInstance
 simp only[KF.owner_class]
 repeat lk
 refine⟨Code.quiet_builtin _ (by decide +kernel),codeAny_builtin KF.entry_class ?_⟩
 unfold Builtin.«object.__class__» shownTypeOf
 repeat lk
 exact h
def ex_check{M:Model}{nameV:Value}{Q:Unit→Shared→Prop}(c:ExI K D)(X:K.In s.heap)(p:ExAt x (.ref D) s.heap)(hq:Q () s):wpAny M A (checkBuiltinCall "BaseException.__getattribute__" ⟨[.ref x,nameV],[]⟩) Q E s:=by
 obtain⟨h,g,d,t,os⟩:=s
 have hk:builtinKind "BaseException.__getattribute__" = some .slot:=by decide +kernel
 have jM:splitId "BaseException.__getattribute__" = some ("BaseException", "__getattribute__"):=by decide +kernel
 have ha:=F.args_bexc_ga (.ref x) nameV
 have L0:=p.type (M:=M)
 have L1:=looks_mroIn (M:=M) X c.bx
 have LI:Looks M h (isInstance (.ref x) (.type "BaseException")) true:=L0.andThen L1
 simp only[checkBuiltinCall,hk,jM]
 refine wpAny_bind (LI.at ?_)
 repeat(first | lk | wp_step)
 exact hq
def ex_entry{tk:Tok}{Q:Fin→Shared→Prop}(c:ExI K D)(X:K.In s.heap)(p:ExAt x (.ref D) s.heap)(hq:Q (.done (.ret (.ref D))) s):wpAny (model prog w) A (Builtin.«object.__getattribute__» ⟨[.ref x,.str "__class__" tk],[]⟩) Q E s:=by
 have p':=p
 have X':=X
 obtain⟨h,g,d,t,os⟩:=s
 have L0:=p.type (M:=model prog w)
 have M1:=ex_find (M:=model prog w) c X p
 refine wpAny_bind (wpAny_pure (wpAny_bind (wpAny_pure (wpAny_bind (Looks.at L0 (wpAny_bind (M1.at ?_)))))))
 show wpAny _ _ (holding _ (call _ [_,.ref x,.ref D]) >>= ret) _ _ _
 exact wpAny_bind (wpAny_holding (wpAny_call (ex_class_get (s:=⟨h,g,d,t,os⟩) X p c.ob (wpAny_pure hq))))
def ex_class{Q:Option Value→Shared→Prop}(c:ExI K D)(X:K.In s.heap)(p:ExAt x (.ref D) s.heap)(h:Q (some (.ref D)) {s with toks:=s.toks+1}):wpAny (model prog w) A (getAttr? (.ref x) "__class__") Q E s:=by
 obtain⟨hh,g,d,t,os⟩:=s
 have L0:=p.type (M:=model prog w)
 have L1:=looks_findIn (M:=model prog w) X c.ga
 have L2:=looks_findIn (M:=model prog w) X c.nga
 have lB:(Value.builtin "BaseException.__getattribute__" == Value.builtin "object.__getattribute__")=false:=by decide +kernel
 have f3:=PySem.F.excAttr_ValueError.ga.bind (.ref x)
 unfold getAttr? getAttrBy? getAttrBy
 refine wpAny_bind (wpAny_mkText (wpAny_bind (wpAny_attempt (wpAny_holding (wpAny_bind (Looks.at L0 (wpAny_bind (L1.at ?_))))))))
 dsimp only
 rw[if_neg (by rw[lB,Bool.and_false];exact Zf)]
 unfold getAttrByItsOwn hookBefore
 rw[if_pos (show onTheHeap (Value.ref D)=true from rfl)]
 refine wpAny_bind (Looks.at L2 (wpAny_bind (wpAny_attempt (wpAny_holding ?_))))
 unfold callGetattribute
 rw[if_neg (by exact Zf)]
 unfold boundAndCalled
 rw[f3]
 refine wpAny_bind (wpAny_pure ?_)
 show wpAny _ _ (call (.builtin "BaseException.__getattribute__") [.ref x,.str "__class__" t]) _ _ _
 refine wpAny_call (codeAny_call_builtin PySem.F.excAttr_ValueError.ga.plain PySem.F.entry_bexc_ga (ex_check (s:=⟨hh,g,d,t+1,os⟩) c X p (ex_entry (s:=⟨hh,g,d,t+1,os⟩) c X p ?_)))
 show wpAny _ _ (handedOut (.ref D)) _ _ _
 exact handed_on rfl (wpAny_pure h)
end
theorem ex_kit{K:Na}{x D:Nc}(c:ExI K D):KitX K (.ref x) (.ref D) (ExAt x (.ref D)) where
 ty:=λ_ _ _ p=>p.type
 it:=λ_ _ X _=>by
  have iC:=c.cl
  unfold clsIn at iC
  split at iC
  ·rename_i c' d' cd' li ho
   intro A' Q' E' s' k q
   unfold isType loadHead
   exact wpAny_bind (wpAny_loadPart (k _ _ (X _ _ ho)) (wpAny_pure q))
  ·cases iC
 ne:=λh tp dd ae n sl X jJ=>by
  have iC:=c.cl
  refine Bool.eq_false_iff.mpr λq=>?_
  have e:D=tp:=Value.ref.inj (beq_iff_eq.mp q)
  subst e
  unfold clsIn at iC
  split at iC
  ·rename_i c' d' cd' li ho
   have z:=(X _ _ ho).symm.trans jJ
   cases z
  ·cases iC
 ca:=λX p k=>ex_class c X p k
section
variable{X:Cx}
def ex_at{H:Hp}{h:Nl}{P:Ni}{w:Nk}{a:Nc}{cls:Value}(ok:HOk P w H h)(e:H a=some (ExO a cls)):ExAt a cls h:=by
 obtain⟨p,_⟩:=ok a _ e
 exact p
def zdz:zcc X (.builtin "isinstance") (λxs H Q=>Ex5 λ(a C:Nc) (c:V) (u:Value) (b:Bool)=>Aj6 (xs=[.ref a,c]) (H a=some (ExO a (.ref C))) (ExI X.K C) (∀u',RelV c u'→u'=u) (kitOne X.K (.ref C) u=some b) (Q (.bl b) H)):=by
 intro aa s σ H xs us Q I r h
 obtain⟨a,C,c,u,b,rfl,ha,ci,hc,e,q⟩:=h
 obtain⟨u1,u2,rfl,r1,r2⟩:=vals2 r
 cases r1
 rw[hc _ r2]
 exact kia_one (ex_kit ci) I.kIn (ex_at I.hok ha) e (λz=>nomatch z) λtk=>⟨.bl b,H,I.tok tk,rfl,q⟩
def ze4:zcc X (.builtin "isinstance") (λxs H Q=>Ex5 λ(a C t:Nc) (cs:Nn) (b:Bool)=>Aj6 (xs=[.ref a,.ref t]) (H a=some (ExO a (.ref C))) (ExI X.K C) (H t=some (.tup (cs.map V.ref))) (kitAny X.K (.ref C) (cs.map Value.ref)=some b) (Q (.bl b) H)):=by
 intro aa s σ H xs us Q I r h
 obtain⟨a,C,t,cs,b,rfl,ha,ci,ht,e,q⟩:=h
 obtain⟨u1,u2,rfl,r1,r2⟩:=vals2 r
 cases r1;cases r2
 obtain⟨hz,ae,rv,o,ho,oi,n,ic⟩:=I.hok t _ ht
 have hi:ae=cs.map Value.ref:=by
  clear e ht ho ic hz
  induction cs generalizing ae with
  |nil=>cases rv;rfl
  |cons c cs ih =>
   cases rv with
   |cons r1 r2=>cases r1;rw[ih _ r2];rfl
 subst hi
 obtain⟨oc,od,oda,osl⟩:=o
 dsimp only at oi ic
 subst oi ic
 exact kia_tup (ex_kit ci) I.kIn (ex_at I.hok ha) ho e (λz=>nomatch z) λtk=>⟨.bl b,H,I.tok tk,rfl,q⟩
end
abbrev calmed(A:Nm):Around:={A with handled:=none}
def zgi(k:Nat)(A:Nm):Prop:=Room k (calmed A)
def Room.toU{k:Nat}{A:Nm}(r:Room k A):zgi k A:=⟨rfl,r.dp,r.un⟩
def zgi.mark{k:Nat}{A:Nm}{e:Option Value}(r:zgi k A):zgi k (A.mark e):=⟨rfl,r.dp,r.un⟩
def zgi.deeper{k:Nat}{A:Nm}(r:zgi (k+1) A)(env:Env):zgi k (A.deeper env):=Room.deeper (A:=calmed A) r env
structure FnOkU(P:Ni)(w:Nk)(K:Na)(mg:Nf)(base:Nl)(k:Nat)(f:Nc)(fd:Np)(ps:Nh)(sp:Sp):Prop where
 len:∀vs H Q E,sp vs H Q E→vs.length=ps.length
 run:∀(A:Nm) (outer:List Env) (s:Ng) (H:Hp) (args:Args) (us:Nj) (vs:List V) (Q:VK) (E:XK),zgi k A→Env0 P w K mg base A outer s H→BindsTo s fd args (ps.zip us)→Vals vs us→sp vs H Q E →
  codeAny (model P w) A (.call (.ref f) args) (CR CX0 outer P w H s Q E) s
abbrev cxU(P:Ni)(w:Nk)(K:Na)(mg:Nf)(base:Nl)(N:Nh)(qual:Str)(scope:Scope)(f:Nc)(cd:Value)(A:Nm)(outer:List Env)(s:Ng)(H:Hp)(E:XK):Cx :=
 {(cxOf CX0 P w K mg base N qual scope f cd A outer s H E).nox with calm:=false}
def inv_startU{P:Ni}{w:Nk}{K:Na}{mg:Nf}{base:Nl}{N ps:Nh}{qual:Str}{scope:Scope}{f:Nc}{cd:Value}{A:Nm}{outer:List Env}{s s1:Ng}{H:Hp}{E:XK}{us:Nj}{vs:List V}(S:zan N ps scope)(e0:Env0 P w K mg base A outer s H)(hl:vs.length=ps.length)(r:Vals vs us)(x:InCallC s s.heap.objs.size (bindL (envOfC qual scope s.heap.objs.size f cd).kindOf (ps.zip us) λ_=>none) (cellsFrom (s.heap.objs.size+1) scope.names []) (bindC (envOfC qual scope s.heap.objs.size f cd).kindOf (ps.zip us) λ_=>none) s1) :
  Inv (cxU P w K mg base N qual scope f cd A outer s H E) [] (start N vs) H s1:=by
 have I:Inv (cxOf CX0 P w K mg base N qual scope f cd (calmed A) outer s H E) [] (start N vs) H s1:=inv_start S rfl ⟨e0.frames,e0.mod,e0.bs,e0.bsz,e0.funs,e0.frf,e0.hok,e0.bare⟩ hl r x
 have ok:=I.ok
 exact⟨⟨ok.mod,ok.kind,ok.glob,ok.blt,ok.above,ok.inj,ok.has,ok.cab,(λh=>nomatch h),ok.frames,ok.stk,ok.exf,ok.bs,ok.bsz,ok.noex,ok.exfs,ok.funs,ok.frf⟩,I.os,I.bare,I.base,I.loc,I.cell,I.free,I.freeC,I.pin,I.hok,I.len⟩
def Fun.okU{P:Ni}{w:Nk}{K:Na}{mg:Nf}{base:Nl}{x qual:Str}{st:Stmt}{f:Nc}{fd:Np}{N ps:Nh}{k:Nat}{sp:Sp}(F:Fun K x qual st f fd)(S:zan N ps (zag st))(len:∀vs H Q E,sp vs H Q E→vs.length=ps.length)(aK:∀ (cdv:Value) (A:Nm) (outer:List Env) (s:Ng) (H:Hp) (vs:List V) (Q:VK) (E:XK),zgi k (A.deeper (envOfC qual (zag st) s.heap.objs.size f cdv))→sp vs H Q E →
   ∃t,PSs (cxU P w K mg base N qual (zag st) f cdv A outer s H E) (zbs st) t∧t {nx:=λ_ H'=>Q .non H',rt:=Q} (start N vs) H):FnOkU P w K mg base (k+1) f fd ps sp:=by
 obtain⟨oc,od,kV,doc,pm,an,cdv,ct,osl,rfl,lk,ar⟩:=F.ex
 refine⟨len,λA outer s H args us vs Q E hr e0 hb r aT=>?_⟩
 have hl:=len _ _ _ _ aT
 have KX:K.In s.heap:=e0.mod.kin.keeps λb o e=>(e0.bs b o e).1
 have lim:s.heap.NoLimit:=e0.mod.nolimit.keeps λb o e=>(e0.bs b o e).1
 have cq:∀y∈ps.zip us,(zag st).names.lookup y.1=some .local∨((zag st).names.lookup y.1=some .cell∧((cellsFrom (s.heap.objs.size+1) (zag st).names []).lookup y.1).isSome=true):=λ⟨n,v⟩ hy=>by
  rcases S.par n (Xb hy).1 with q | q
  ·exact .inl q
  ·exact .inr ⟨q,Kz _ _ _ (.inl q)⟩
 refine codeAny_call_function (show A.depth<recursionLimit from(show Room (k+1) (calmed A) from hr).depth) (KX _ _ lk) rfl S.co S.gen rfl (PySem.W.codeRec_of KX ar) (hb _ _ _ _ ?_)
 refine wpAny_newFunctionEnv_cells S.kind cq λenv he s1 x=>?_
 subst he
 refine⟨lim.keeps x.toInCall.keep,codeAny_func ?_⟩
 obtain⟨t,ht,hq⟩:=aK cdv A outer s H vs Q E (hr.deeper _) aT
 have I:Inv (cxU P w K mg base N qual (zag st) f cdv A outer s H E) [] (start N vs) H s1:=inv_startU S e0 hl r x
 refine wpAny_mono (ht [] s1 (start N vs) H _ I hq) (λfl s' hs=>?_) λe s' hs=>hs.elim
 have fin:∀{σ':St} {H':Hp} {v:V} {u:Value},Inv (cxU P w K mg base N qual (zag st) f cdv A outer s H E) [] σ' H' s'→RelV v u→Q v H'→CE outer P w H s Q u s' :=
  λ{σ' H' v u} J rv q=>⟨v,H',J.os,J.bare,J.base,J.hok,rv,q⟩
 cases fl with
 |ret u =>
  obtain⟨v,σ',H',J,rv,q⟩:=hs
  exact fin J rv q
 |next =>
  obtain⟨σ',H',J,q⟩:=hs
  exact fin (v:=V.non) (u:=Value.none) J rfl q
 |brk =>
  obtain⟨_,_,_,q⟩:=hs
  exact False.elim q
 |cont =>
  obtain⟨_,_,_,q⟩:=hs
  exact False.elim q
section
variable{X:Cx}{k:Nat}{f:Nc}{fd:Np}{ps:Nh}{sp:Sp}{dvs:List V}{ds:Nj}{x:Str}{p pos:Pos}{e:Expr}{es:No}{t:TA}
def pe_callU(F:FnOkU X.prog X.w X.K X.mg X.base k f fd ps sp)(hr:zgi k X.A)(hg:Gl X x)(hm:X.mg x=some (.ref f))(hk:PySem.W.keepIn X.K (.ref f)=true)(hb:Binds X.K fd ps ds)(hd:Vals dvs ds)(ha:PA X (e::es) t)(cL:(x==("__debug__" : Str))=false:=by decide)(he:starEach (e::es) X.env=(false,eval e X.env)::starEach es X.env:=by rfl)(bw:(backTo pos (starEach es X.env)).any (·.1)=false:=by rfl) :
  PE X (.Call (.Name x p) (e::es) [] pos) (tCall sp dvs E0 t):=by
 intro aa s σ H Q I h
 refine wpAny_Call_Name_kw (zdy I hg hm ?_ cL)
 refine Jz (h₀:=X.base) I.ok.mod.kin hk (thn (ha pos aa s σ H _ I h) λus s1 ⟨vs,H1,I1,r,q⟩=>⟨I1.kIn,?_⟩) he bw
 have r2:Vals (vs++dvs) (us++ds):=r.append hd
 have hl:(us++ds).length=ps.length:=by rw[←r2.length];exact F.len _ _ _ _ q
 refine wpAny_call (codeAny_mono (F.run X.A X.stack s1 H1 ⟨us,[]⟩ (us++ds) (vs++dvs) Q E0 hr I1.env0 (hb s1 us I1.kIn hl) r2 q) λr s' hq=>?_)
 cases r with
 |error e=>exact hq.elim
 |ok fl =>
  cases fl with
  |ret u=>exact I1.after hq
  |next=>exact False.elim hq
  |brk=>exact False.elim hq
  |cont=>exact False.elim hq
end
end L2
end
section
namespace L2
open PySem PySem.Spec PyProof.Rows
section
variable{X:Cx}
def part_of{v:Value}{o:Option Int}(h:IsPart v o):∃l:Option (Int×Tok),v=partValue l:=by
 cases h with
 |none=>exact⟨none,rfl⟩
 |int i t=>exact⟨some (i,t),rfl⟩
def sl_strA:SlR X (λx lo hi H Q=>Ex1 λz=>Aj3 (x=.str z) (z.length≤sizeLine) (∀y,Q (.str y) H)):=by
 intro aa s σ H x v vl vu lo hi sl Q I rx hs pl pu h
 obtain⟨z,rfl,hz,q⟩:=h
 obtain⟨t,rfl⟩:=rx
 obtain⟨l,rfl⟩:=part_of pl
 obtain⟨u,rfl⟩:=part_of pu
 refine⟨"str",_,PySem.F.slot_str_getitem.lookup,typeIs_str s z t,wpAny_getItem_str_slice (l:=l) (u:=u) (st:=none) hs rfl ?_⟩
 unfold sliceMade
 split
 ·exact⟨.str z,H,I,⟨t,rfl⟩,q z⟩
 ·refine ⟨?_,⟨.str _,H,I.tok _,⟨_,rfl⟩,q _⟩⟩
  show((slicePicked z l u none).filterMap (z.cps[·]?)).toArray.size≤sizeLine
  rw[Qv]
  exact Zl (List.length_filterMap_le ..) (Zl (indices_len_le _ _ _) hz)
def zdu(hu:X.A.units<cLine):OpR X (compareOp .NotEq) (λx y H Q=>Ex3 λl b (zs:List Bool)=>Aj5 (x=.ref l) (y=.ref b) (SqL X.K H l (List.map V.bl zs)) (SqL X.K H b (List.map V.bl zs)) (Q (.bl false) H)):=by
 intro aa s σ H x y v u Q I rx ry h
 obtain⟨l,b,zs,rfl,rfl,h1,h2,q⟩:=h
 cases rx;cases ry
 obtain⟨ae,r,pl,_⟩:=I.list h1
 obtain⟨cZ,r2,jo,_⟩:=I.list h2
 have l1:=r.length
 have l2:=r2.length
 refine SeqAt.RcNeAt.lists (e:=λ_=>true) pl.isList jo.isList (by rw[Qv,Qv];omega) hu (λj j1 j2=>?_) _ _ _ _ ⟨.bl false,H,I,?_,q⟩
 ·have a1:j < (List.map V.bl zs).length:=by rw [l1];simpa using j1
  have a2:j<zs.length:=by simpa using a1
  have g:(List.map V.bl zs)[j]?=some (.bl zs[j]):=by simp[a2]
  obtain⟨u1,e1,rfl⟩:=r.get g
  obtain⟨u2,e2,rfl⟩:=r2.get g
  rw[Jo,Jo,(Za.mp e1).2,(Za.mp e2).2]
  have:=SeqAt.EqAt.bool_bool (A:=X.A.in1) (s:=s) zs[j] zs[j]
  rw[beq_self_eq_true]at this
  exact this
 ·show Value.bool _=Value.bool false
  simp
end
def pss_no{X:Cx}{l:List Stmt}:PSs X l (λ_ _ _=>False):=λ_ _ _ _ _ _ h=>h.elim
def or_yes1{t u:TT}{A B:TS}{D:Ends}{σ:St}{H:Hp}(ht:∀k:Bool→Hp→Prop,k true H→t σ H k)(q:A D σ H):tIfS (tOr t u) A B D σ H :=
 ht _ (by
  show if(true=true) then(if(true=true) then A D σ H else B D σ H) else _
  exact iteT (iteT q))
def or_yes2{t u:TT}{A B:TS}{D:Ends}{σ:St}{H:Hp}(ht:∀k:Bool→Hp→Prop,k false H→t σ H k)(hu:∀k:Bool→Hp→Prop,k true H→u σ H k)(q:A D σ H):tIfS (tOr t u) A B D σ H :=
 ht _ (by
  show if(false=true) then _ else u σ H (λb H1=>if b=true then A D σ H1 else B D σ H1)
  exact iteF (hu _ (iteT q)))
def or_no{t u:TT}{A B:TS}{D:Ends}{σ:St}{H:Hp}(ht:∀k:Bool→Hp→Prop,k false H→t σ H k)(hu:∀k:Bool→Hp→Prop,k false H→u σ H k)(q:B D σ H):tIfS (tOr t u) A B D σ H :=
 ht _ (by
  show if(false=true) then _ else u σ H (λb H1=>if b=true then A D σ H1 else B D σ H1)
  exact iteF (hu _ (iteF q)))
end L2
namespace K21
open PySem L2 Wb
abbrev sChain:Stmt:=top 23
abbrev sExch:Stmt:=top 25
inductive IspChX(C cp ch:Nc)(vs:List V)(H:Hp)(E:XK):Prop
 |mk (x dx d u:Nc) (es:List Ent) (hs:List (Str×Int)) (s:Str) (o:Int) (h0:vs=[.ref x,.ref u,.str s,.int o]) (h1:WAt H C x dx d es) (h4:HF H u hs)
  (h5:(s∉hs.map (·.1)∧E (.ref cp) none H)∨∃h,(s,h)∈hs∧s∈es.map (·.1)∧(o=h∨o<0)∧E (.ref ch) none H):IspChX C cp ch vs H E
def spChX(C cp ch:Nc):Sp:=λvs H _ E=>IspChX C cp ch vs H E
section
variable{P:Ni}{w:Nk}{K:Na}{mg:Nf}{base:Nl}
def scChain:zan ["web", "hues", "start", "other", "two", "within", "rounds"] ["web", "hues", "start", "other"] (zag sChain):=fsk
def ok_chainX(F:Fun K "chain" "chain" sChain f fd)(cW:Cls K C)(nW:ze5 K C "rounds")(cP:Exc K cp)(mP:mg "NoPlace" = some (.ref cp))(cH:Exc K ch)(mH:mg "NoHue" = some (.ref ch)) :
  FnOk P w K mg base (CXr P w) 1 f fd ["web", "hues", "start", "other"] (spChX C cp ch):=by
 refine F.okX scChain (λvs H Q E h=>by cases h;subst_vars;rfl) (λcdv A outer s0 H vs Q E hr h=>?_)
 obtain⟨x,dx,d,u,es,hs,s,o,rfl,wt,hh,hc⟩:=h
 have hu:=zcb hr
 refine⟨_,zae (zbr (PW.pt (pw_or (zc7 (zci hu (pv 2) (pv 1))) (pw_or1 (zc7 (zci hu (pv 2) (pe_fld (pv 0) rfl)))))) (zah (ps_raise cP rfl mP (zaa zfq zaf))) za2)
  (zae (zbr (PW.pt (pw_or (zas op_eq (pv 3) (zcf hu (pv 1) (pv 2)) (zbf _)) (pw_or1 (zas op_lt (pv 3) zai (zbf _))))) (zah (ps_raise cH rfl mH (zaa zfq zaf))) za2) pss_no),?_⟩
 rcases hc with⟨hn,q⟩ | ⟨h,tm,hU,ho,q⟩
 ·have g1:=hh.get (Sum.inr s)
  rw[zg6 hn]at g1
  exact or_yes1 (λk hk=>⟨_,rfl,_,rfl,u,_,rfl,g1,_,rfl,hk⟩) ⟨by show 1≤sizeLine;decide,q⟩
 ·have aH:=wt.ta.nd
  obtain⟨en,bi,uU⟩:=Qh.mp hU
  have p9:en.1=s:=uU
  have g1:=hh.get (Sum.inr s)
  rw[valH_in hh.nd tm]at g1
  have g2:DGet H d (.str s) (some (.ref en.2.2)):=by
   have:=DGet.k (k:=Sum.inr en.1) wt.ta.dc
   rw[zb6 aH bi,p9]at this
   exact this
  refine or_no (λk hk=>⟨_,rfl,_,rfl,u,_,rfl,g1,_,rfl,hk⟩) (λk hk=>⟨_,rfl,_,rfl,x,C,dx,_,_,rfl,wt.ob,cW,nW,rfl,d,_,rfl,g2,_,rfl,hk⟩) ?_
  dsimp only[tNext]
  by_cases e:o=h
  ·exact or_yes1 (λk hk=>⟨_,rfl,_,rfl,_,rfl,u,_,rfl,g1,rfl,_,rfl,by rw[decide_eq_true (by rw[e])];exact hk⟩) ⟨by show 1≤sizeLine;decide,q⟩
  ·exact or_yes2 (λk hk=>⟨_,rfl,_,rfl,_,rfl,u,_,rfl,g1,rfl,_,rfl,by rw[decide_eq_false (λz=>e (by injection z))];exact hk⟩) (λk hk=>⟨_,rfl,_,_,rfl,rfl,_,rfl,by rw[decide_eq_true (by omega)];exact hk⟩) ⟨by show 1≤sizeLine;decide,q⟩
def scExch:zan ["web", "hues", "start", "other", "places"] ["web", "hues", "start", "other"] (zag sExch):=fsk
def ok_exchX(F:Fun K "exchanged" "exchanged" sExch f fd)(FC:Fun K "chain" "chain" sChain fc fdc)(bC:Binds K fdc ["web", "hues", "start", "other"] [])(mC:mg "chain" = some (.ref fc))(GC:FnOk P w K mg base (CXr P w) 1 fc fdc ["web", "hues", "start", "other"] (spChX C cp ch)) :
  FnOk P w K mg base (CXr P w) 2 f fd ["web", "hues", "start", "other"] (spChX C cp ch):=by
 refine F.okX scExch (λvs H Q E h=>by cases h;subst_vars;rfl) (λcdv A outer s0 H vs Q E hr h=>?_)
 obtain⟨x,dx,d,u,es,hs,s,o,rfl,wt,hh,hc⟩:=h
 refine⟨_,zae (zat 4 scExch.nd (zaj GC hr rfl mC FC.kp bC .nil (passR (E':=E) λ_ _ _ z=>z) (zaa (pv 0) (zaa (pv 1) (zaa (pv 2) (zaa (pv 3) zaf)))))) pss_no,?_⟩
 exact⟨_,rfl,_,rfl,_,rfl,_,rfl,x,dx,d,u,es,hs,s,o,rfl,wt,hh,hc⟩
end
end K21
end
section
namespace K21
open PySem L2 Wb PySem.W
abbrev sKinds:Stmt:=top 53
abbrev sWhy:Stmt:=top 54
structure Ks where
 (a1 a2 a3 a4 a5 a6 a7 a8 a9 b1 b2 b3 cp ch he:Nc)
structure Kd(K:Na)(k:Ks)(C:Nc)(p q:Bool):Prop where
 ex:ExI K C
 k9:kitAny K (.ref C) [.ref k.a1,.ref k.a2,.ref k.a3,.ref k.a4,.ref k.a5,.ref k.a6,.ref k.a7,.ref k.a8,.ref k.a9]=some false
 k3:kitAny K (.ref C) [.ref k.b1,.ref k.b2,.ref k.b3]=some false
 kv:kitOne K (.ref C) (.type "ValueError")=some true
 kp:kitOne K (.ref C) (.ref k.cp)=some p
 kh:kitOne K (.ref C) (.ref k.ch)=some q
 he:exmOne K (.ref C) (.ref k.he)=some true
structure KsM(mg:Nf)(k:Ks):Prop where
 a1:mg "Bridge" = some (.ref k.a1)
 a2:mg "NoCorner" = some (.ref k.a2)
 a3:mg "NoName" = some (.ref k.a3)
 a4:mg "NoRing" = some (.ref k.a4)
 a5:mg "NoText" = some (.ref k.a5)
 a6:mg "NoTie" = some (.ref k.a6)
 a7:mg "NotFlat" = some (.ref k.a7)
 a8:mg "NotOne" = some (.ref k.a8)
 a9:mg "OneWay" = some (.ref k.a9)
 b1:mg "TooMany" = some (.ref k.b1)
 b2:mg "Twice" = some (.ref k.b2)
 b3:mg "Unread" = some (.ref k.b3)
 cp:mg "NoPlace" = some (.ref k.cp)
 ch:mg "NoHue" = some (.ref k.ch)
 he:mg "HueError" = some (.ref k.he)
inductive IspKinds(K:Na)(k:Ks)(vs:List V)(H:Hp)(Q:VK):Prop
 |mk (a C:Nc) (p q:Bool) (h0:vs=[.ref a]) (h1:H a=some (ExO a (.ref C))) (h2:Kd K k C p q) (h3:∀l H',H' l=some (.lst [.bl true,.bl p,.bl q,.bl false])→H l=none→Keep [] H H'→Q (.ref l) H'):IspKinds K k vs H Q
def spKinds(K:Na)(k:Ks):Sp:=λvs H Q _=>IspKinds K k vs H Q
section
variable{P:Ni}{w:Nk}{K:Na}{mg:Nf}{base:Nl}{k:Ks}
def scKinds:zan ["_law_e", "_law_some", "_law_more_here"] ["_law_e"] (zag sKinds):=fsk
def ok_kinds(F:Fun K "_law_kinds" "_law_kinds" sKinds f fd)(M:KsM mg k)(df:mg "isinstance" = none)(hve:mg "ValueError" = none):FnOkU P w K mg base 1 f fd ["_law_e"] (spKinds K k):=by
 refine F.okU scKinds (λvs H Q E h=>by cases h;subst_vars;rfl) (λcdv A outer s0 H vs Q E hr h=>?_)
 obtain⟨a,C,p,q,rfl,ha,kd,kq⟩:=h
 have aJ:=sizeLine_eq
 refine⟨_,zae (zat 1 scKinds.nd (zak ze4 (by rfl) df Yy (zaa (pv 0) (zaa (zey (zaa (zbw (v:=.ref k.a1) (by rfl) M.a1 rfl) (zaa (zbw (v:=.ref k.a2) (by rfl) M.a2 rfl) (zaa (zbw (v:=.ref k.a3) (by rfl) M.a3 rfl) (zaa (zbw (v:=.ref k.a4) (by rfl) M.a4 rfl) (zaa (zbw (v:=.ref k.a5) (by rfl) M.a5 rfl) (zaa (zbw (v:=.ref k.a6) (by rfl) M.a6 rfl) (zaa (zbw (v:=.ref k.a7) (by rfl) M.a7 rfl) (zaa (zbw (v:=.ref k.a8) (by rfl) M.a8 rfl) (zaa (zbw (v:=.ref k.a9) (by rfl) M.a9 rfl) zaf)))))))))) zaf))))
  (zae (zat 2 scKinds.nd (zak ze4 (by rfl) df Yy (zaa (pv 0) (zaa (zey (zaa (zbw (v:=.ref k.b1) (by rfl) M.b1 rfl) (zaa (zbw (v:=.ref k.b2) (by rfl) M.b2 rfl) (zaa (zbw (v:=.ref k.b3) (by rfl) M.b3 rfl) zaf)))) zaf))))
  (zah (zbp (za7 (zaa (zak zdz (by rfl) df Yy (zaa (pv 0) (zaa (pe_tyN (T := "ValueError") rfl hve PyProof.Rows.Boot.«ValueError») zaf)))
   (zaa (zak zdz (by rfl) df Yy (zaa (pv 0) (zaa (zbw (v:=.ref k.cp) (by rfl) M.cp rfl) zaf)))
   (zaa (zak zdz (by rfl) df Yy (zaa (pv 0) (zaa (zbw (v:=.ref k.ch) (by rfl) M.ch rfl) zaf)))
   (zaa (pe_or (pv 1) (pe_one (pv 2))) zaf)))))))),?_⟩
 refine⟨_,rfl,(by show 9≤sizeLine;decide),λt ht=>?_⟩
 have k1:Keep [] H (upd H t (.tup [.ref k.a1,.ref k.a2,.ref k.a3,.ref k.a4,.ref k.a5,.ref k.a6,.ref k.a7,.ref k.a8,.ref k.a9])):=Keep.new ht
 refine⟨a,C,t,[k.a1,k.a2,k.a3,k.a4,k.a5,k.a6,k.a7,k.a8,k.a9],false,rfl,k1 _ _ ha (by simp),kd.ex,zac,kd.k9,?_⟩
 generalize upd H t (.tup [.ref k.a1,.ref k.a2,.ref k.a3,.ref k.a4,.ref k.a5,.ref k.a6,.ref k.a7,.ref k.a8,.ref k.a9])=H1 at k1
 refine⟨_,rfl,(by show 3≤sizeLine;decide),λt2 dq=>?_⟩
 have k2:Keep [] H (upd H1 t2 (.tup [.ref k.b1,.ref k.b2,.ref k.b3])):=k1.trans (Keep.new dq)
 refine⟨a,C,t2,[k.b1,k.b2,k.b3],false,rfl,k2 _ _ ha (by simp),kd.ex,zac,kd.k3,?_⟩
 generalize upd H1 t2 (.tup [.ref k.b1,.ref k.b2,.ref k.b3])=H2 at k2
 have pH:=k2 _ _ ha (by simp)
 refine⟨_,rfl,a,C,.ty "ValueError",.type "ValueError",true,rfl,pH,kd.ex,λ_ h=>h,kd.kv,_,rfl,a,C,.ref k.cp,.ref k.cp,p,rfl,pH,kd.ex,λ_ h=>h,kd.kp,_,rfl,a,C,.ref k.ch,.ref k.ch,q,rfl,pH,kd.ex,λ_ h=>h,kd.kh,_,rfl,false,rfl,iteF ⟨_,rfl,(by show 4≤sizeLine;decide),λl hl=>?_⟩⟩
 exact kq l _ zac (zal k2 hl (by simp)) (k2.trans (Keep.new hl))
inductive IspWhy(K:Na)(k:Ks)(W:Nc)(vs:List V)(H:Hp)(Q:VK):Prop
 |mk (n:Int) (x dx d u:Nc) (es:List Ent) (hs:List (Str×Int)) (s:Str) (o:Int) (c:Nc) (p q:Bool) (h0:vs=[.int n,.ref x,.ref u,.str s,.int o]) (h1:WAt H W x dx d es) (h4:HF H u hs)
  (h5:(s∉hs.map (·.1)∧c=k.cp)∨∃h,(s,h)∈hs∧s∈es.map (·.1)∧(o=h∨o<0)∧c=k.ch) (h6:Kd K k c p q)
  (h7:∀l H',H' l=some (.lst [.bl true,.bl p,.bl q,.bl false])→H l=none→Keep [] H H'→Q (.ref l) H'):IspWhy K k W vs H Q
def spWhy(K:Na)(k:Ks)(W:Nc):Sp:=λvs H Q _=>IspWhy K k W vs H Q
def scWhy:zan ["_law_way", "_law_web",qH, "_law_start",qO, "_law_told", "_law_e"] ["_law_way", "_law_web",qH, "_law_start",qO] (zag sWhy):=fsk
def ok_why(F:Fun K "_law_why" "_law_why" sWhy f fd)(M:KsM mg k)(FK:Fun K "_law_kinds" "_law_kinds" sKinds fk fdk)(bK:Binds K fdk ["_law_e"] [])(mK:mg "_law_kinds" = some (.ref fk))(GK:FnOkU P w K mg base 1 fk fdk ["_law_e"] (spKinds K k))(FC:Fun K "chain" "chain" sChain fc fdc)(bC:Binds K fdc ["web", "hues", "start", "other"] [])(mC:mg "chain" = some (.ref fc))(GC:FnOk P w K mg base (CXr P w) 1 fc fdc ["web", "hues", "start", "other"] (spChX W k.cp k.ch))(FE:Fun K "exchanged" "exchanged" sExch fe fde)(bE:Binds K fde ["web", "hues", "start", "other"] [])(mE:mg "exchanged" = some (.ref fe))(GE:FnOk P w K mg base (CXr P w) 2 fe fde ["web", "hues", "start", "other"] (spChX W k.cp k.ch)) :
  FnOk P w K mg base CX0 3 f fd ["_law_way", "_law_web",qH, "_law_start",qO] (spWhy K k W):=by
 refine F.okL scWhy (λcdv A outer s0 H vs Q E hr h=>?_)
 obtain⟨n,x,dx,d,u,es,hs,s,o,c,p,q,rfl,wt,hh,hc,kd,kq⟩:=h
 have aJ:=sizeLine_eq
 have aA:Room 1 _:=hr.mono (by decide)
 refine⟨_,zae (zat 5 scWhy.nd (za7 zaf))
  (zae (ps_try (i:=6) (EX:=fun σ cls dd H'=>Aj3 (Ex1 fun l=>σ=[some (.int n),some (.ref x),some (.ref u),some (.str s),some (.int o),l,none]) (cls=.ref c) (Keep [] H H')) rfl rfl rfl
   (fun E' pn hp=>zah (zbr (zas op_eq (pv 0) zai (zbf _)) (zah (za3 (pe_callS GC aA rfl mC FC.kp bC .nil hp (zaa (pv 1) (zaa (pv 2) (zaa (pv 3) (zaa (pv 4) zaf)))))))
    (zah (za3 (pe_callS GE hr rfl mE FE.kp bE .nil hp (zaa (pv 1) (zaa (pv 2) (zaa (pv 3) (zaa (pv 4) zaf)))))))))
   (λa=>zah (zat 5 scWhy.nd (pe_callU GK aA.toU.mark rfl mK FK.kp bK .nil (zaa (pv 6) zaf)))) scWhy.nd rfl rfl rfl M.he)
  (zah (zbp (pv 5)))),?_⟩
 refine⟨(by show 0≤sizeLine;decide),λtl qv=>?_⟩
 have k1:Keep [] H (upd H tl (.lst [])):=Keep.new qv
 generalize upd H tl (.lst [])=H1 at k1
 have wt1:WAt H1 W x dx d es:=wt.keep k1 (by simp) (by simp) λ_ _=>by simp
 have lI:=hh.keep k1
 refine⟨?_,?_⟩
 ·have hx:∀ {l:Option V},(s∉hs.map (·.1)∧Aj3 (Ex1 fun l'=>[some (V.int n),some (.ref x),some (.ref u),some (.str s),some (.int o),l,none]=[some (V.int n),some (.ref x),some (.ref u),some (.str s),some (.int o),l',none]) (Value.ref k.cp=.ref c) (Keep [] H H1))∨∃ h,(s,h)∈hs∧s∈es.map (·.1)∧(o=h∨o < 0)∧Aj3 (Ex1 fun l'=>[some (V.int n),some (.ref x),some (.ref u),some (.str s),some (.int o),l,none]=[some (V.int n),some (.ref x),some (.ref u),some (.str s),some (.int o),l',none]) (Value.ref k.ch=.ref c) (Keep [] H H1):=fun {l}=>by
   rcases hc with⟨h1,h2⟩ | ⟨h,h1,h2,h3,h4⟩
   ·exact .inl ⟨h1,⟨l,rfl⟩,by rw[h2],k1⟩
   ·exact .inr ⟨h,h1,h2,h3,⟨l,rfl⟩,by rw[h4],k1⟩
  refine⟨_,rfl,rfl,_,rfl,ite2 (λ_=>?_) λ_=>?_⟩
  ·exact⟨_,rfl,_,rfl,_,rfl,_,rfl,x,dx,d,u,es,hs,s,o,rfl,wt1,lI,hx⟩
  ·exact⟨_,rfl,_,rfl,_,rfl,_,rfl,x,dx,d,u,es,hs,s,o,rfl,wt1,lI,hx⟩
 ·rintro σ' cls H' a hl ⟨⟨l,rfl⟩,rfl,k2⟩ na
  refine⟨kd.he,_,rfl,a,c,p,q,rfl,zac,kd,λl H2 ak fl k3=>⟨_,rfl,?_⟩⟩
  have k4:Keep [] H (upd H' a (ExO a (.ref c))):=k2.trans (Keep.new na)
  exact kq l H2 ak (zal k4 fl (by simp)) (k4.trans k3)
end
end K21
end
section
namespace K21
open PySem L2 Wb
abbrev sLaw:Stmt:=top 55
def HAt.kn(h:HAt H u hs):((hs.map λe=>((Sum.inr e.1:Key),V.int e.2)).map (·.1)).Nodup:=by
 rw[Zi]
 exact Wo.mpr ((Wo.mp h.nd).imp λne e=>ne (Ws e))
def hue_flat(hs:List (Str×Int)):∀p∈hs.map λe=>((Sum.inr e.1:Key),V.int e.2),zdk p.2=true:=λp hp=>by
 obtain⟨e,_,rfl⟩:=Qh.mp hp
 rfl
inductive IspLaw(K:Na)(vs:List V)(H:Hp)(Q:VK):Prop
 |mk (a:Nc) (ns:List Int) (h0:vs=[.ref a]) (h1:SqL K H a (ns.map V.int)) (h2:ns.length≤63) (h3:∀H',Q (.bl true) H'):IspLaw K vs H Q
def spLaw(K:Na):Sp:=λvs H Q _=>IspLaw K vs H Q
def lOf:Expr→Expr
 |.BinOp a _ _ _=>a
 |e=>e
abbrev csR:Scope:=scOf (lOf (eOf (bAt (sAt sLaw 7) 0)))
def csR_k:csR.kind=.function:=by rfl
def csR_c:∀y∈csR.names,y.2≠.cell:=by decide +kernel
def csR_n:∀y∈csR.names,y.2=.local→csR.names.lookup y.1=some .local:=by decide +kernel
def csR_f:∀y∈csR.names,y.2=.free→(zag sLaw).names.lookup y.1=some .cell∨(zag sLaw).names.lookup y.1=some .free:=by decide +kernel
def csR_l:csR.names.lookup (qH:Str)=some NameKind.free:=by decide +kernel
def ndR:(["_law_place",qH]:List Str).Nodup:=by decide +kernel
section
variable{P:Ni}{w:Nk}{K:Na}{mg:Nf}{base:Nl}{k:Ks}
def zd7:zan [qS,qR,qP, "_law_web",qH, "_law_sorts", "_law_kept", "_law_no_place", "_law_no_hue", "_law_way", "_law_start",qO, "_law_below"] [qS] (zag sLaw):=fsk
def ok_law(F:Fun K "law" "law" sLaw f fd)(FR:Fun K "_law_rounds" "_law_rounds" zhd fr fdr)(bR:Binds K fdr [qS] [])(mR:mg "_law_rounds" = some (.ref fr))(GR:FnOk P w K mg base CX0 4 fr fdr [qS] (zgn K))(FP:Fun K "_law_pot" "_law_pot" sPot fp fdp)(bP:Binds K fdp [qS, "_law_k"] [])(mP:mg "_law_pot" = some (.ref fp))(GP:FnOk P w K mg base CX0 1 fp fdp [qS, "_law_k"] (spPot K))(FT:Fun K qD qD zfo ft fdt)(bT:Binds K fdt [qP,qM] [])(mT:mg qD=some (.ref ft))(GT:FnOk P w K mg base CX0 1 ft fdt [qP,qM] zd3)(MW:Mk K C fi)(mW:mg "Web" = some (.ref C))(bI:Binds K fdi ["self", "rows"] [])(GI:FnOk P w K mg base CX0 4 fi fdi ["self", "rows"] (spInit C))(FW:Fun K "_law_rows" "_law_rows" sRows fw fdw)(bW:Binds K fdw [qR,qP] [])(mRw:mg "_law_rows" = some (.ref fw))(GW:FnOk P w K mg base CX0 2 fw fdw [qR,qP] spRows)(FH:Fun K "_law_hues" "_law_hues" sHues fh fdh)(bH:Binds K fdh [qR,qP] [])(mH:mg "_law_hues" = some (.ref fh))(GH:FnOk P w K mg base CX0 2 fh fdh [qR,qP] spHues)(FY:Fun K "_law_why" "_law_why" sWhy fy fdy)(bY:Binds K fdy ["_law_way", "_law_web",qH, "_law_start",qO] [])(mY:mg "_law_why" = some (.ref fy))(GY:FnOk P w K mg base CX0 3 fy fdy ["_law_way", "_law_web",qH, "_law_start",qO] (spWhy K k C))(kd1:Kd K k k.cp true false)(kd2:Kd K k k.ch false true)(gq:mg "dict" = none)(bv:mg "range" = none)(ah:mg "len" = none):FnOk P w K mg base CX0 6 f fd [qS] (spLaw K):=by
 refine F.okL zd7 (λcdv A outer s0 H vs Q E hr h=>?_)
 obtain⟨a,ns,rfl,ha,ie,kq⟩:=h
 have hu:=zcb hr
 have gA:=Kj hu
 have aA:Room 1 _:=hr.mono (by decide)
 have d8:Room 2 _:=hr.mono (by decide)
 have lD:Room 3 _:=hr.mono (by decide)
 have gC:Room 4 _:=hr.mono (by decide)
 have aJ  := sizeLine_eq
 refine⟨_,zae (zat 1 zd7.nd (zaj GR gC rfl mR FR.kp bR .nil zav (zaa (pv 0) zaf)))
  (zae (zat 2 zd7.nd (zaj GP aA rfl mP FP.kp bP .nil zav (zaa (pv 0) (zaa zai zaf))))
  (zae (zat 3 zd7.nd (pe_make MW GI hr rfl mW bI .nil zav (zaa (zaj GW d8 rfl mRw FW.kp bW .nil zav (zaa (pv 1) (zaa (pv 2) zaf))) zaf)))
  (zae (ps_asg (zaj GH d8 rfl mH FH.kp bH .nil zav (zaa (pv 1) (zaa (pv 2) zaf))) (zex rfl (za4 (pg_name (i:=4) zd7.nd rfl (Or.inr rfl)) (za4 (zbb 5 zd7.nd) zch))))
  (zae (zat 6 zd7.nd (zb9 call_dict_of (by rfl) gq PyProof.Rows.boot_dict (zaa (pv 4) zaf)))
  (zae (zat 7 zd7.nd (za7 (zaa zes (zaa zes (zaa zes (zaa zes zaf))))))
  (zae (zat 8 zd7.nd (za7 (zaa zes (zaa zes (zaa zes (zaa zes zaf))))))
  (zae (zbm Zp rfl (zec rfl bv (zaa zai zaf)) (zbb 9 zd7.nd)
   (zae (zbm Zp rfl (zbh (zau zc2 (pe_thaw (pe_lc (M:=["_law_place",qH]) (ix:=[none,some 4]) ⟨csR_k,csR_c,csR_n,csR_f,rfl,ndR,fun j i x h1 h2=>by
      match j,h1,h2 with
      |0,_,h2=>cases h2
      |1,h1,h2=>cases h1;cases h2;exact⟨rfl,csR_l⟩
      |n+2,h1,_=>cases h1⟩ rfl (zds (pv 1)) (λC aa ex s H=>zbb 0 ndR)
      (λC aa ex s H=>zhl (zc7 (zci (by exact hu) (pv 0) (pv 1)))) (λC aa ex s H=>pv 0)))
     (za7 (zaa zfq (zaa (zce sl_strA zfq zc8 (zcp (zau zbq zai (zaj GT aA rfl mT FT.kp bT .nil zav (zaa (pv 2) (zaa zai zaf)))))) zaf))))) (zbb 10 zd7.nd)
    (zae (zat 11 zd7.nd (zaz zao (zau zc2 (pv 5) (za7 (zaa (pe_un un_neg zai) zaf))) (zaj GT aA rfl mT FT.kp bT .nil zav (zaa (pv 2) (zaa (zau zbq (zak zaq (by rfl) ah Zw (zaa (pv 5) zaf)) zai) zaf))) (λ_ _=>rfl)))
    (zah (zbr (PW.pt (pw_and (zc7 (zci hu (pv 10) (pv 4))) (zfp (zas (zdu gA) (zaj GY lD rfl mY FY.kp bY .nil zav (zaa (pv 9) (zaa (pv 3) (zaa (pv 4) (zaa (pv 10) (zaa (pv 11) zaf)))))) (pv 7) (zbf _))))) (zah ps_no) za2))))
   (zah (zeq (zbm Zp rfl (zds (pv 4)) (zbb 10 zd7.nd)
    (zae (zat 12 zd7.nd (zau zed (pe_un un_neg zai) (zaj GT aA rfl mT FT.kp bT .nil zav (zaa (pv 2) (zaa zai zaf)))))
    (zae (zbr (PW.pt (pw_or (zas (zdu gA) (zaj GY lD rfl mY FY.kp bY .nil zav (zaa (pv 9) (zaa (pv 3) (zaa (pv 4) (zaa (pv 10) (zaa (zcf hu (pv 4) (pv 10)) zaf)))))) (pv 8) (zbf _)) (pw_or1 (zas (zgr gA) (pv 4) (pv 6) (zbf _))))) (zah ps_no) za2)
    (zah (zbr (PW.pt (pw_or (zas (zdu gA) (zaj GY lD rfl mY FY.kp bY .nil zav (zaa (pv 9) (zaa (pv 3) (zaa (pv 4) (zaa (pv 10) (zaa (pv 12) zaf)))))) (pv 8) (zbf _)) (pw_or1 (zas (zgr gA) (pv 4) (pv 6) (zbf _))))) (zah ps_no) za2)))))))))
  (zah (zbp zes))))))))),?_⟩
 refine⟨_,rfl,a,ns,rfl,ha,by omega,λd es H1 D1 ne hok fd k1=>?_⟩
 refine⟨_,rfl,a,ns,25,rfl,zg9 ha k1,by decide,by omega,λp b m H2 jY aB k2=>?_⟩
 have D2:=D1.k0 k2
 have fp':H p=none:=zal k1 jY (by simp)
 refine⟨_,rfl,_,rfl,p,d,b,m,es,rfl,aB,D2,λl as bo aq b3 m3 H3 RW cC bp ay k3=>?_⟩
 refine λx dx hx hdx az=>?_
 have k4:Keep [] H3 (upd (upd H3 dx (.own x)) x (.ins C dx [])):=λc u ec _=>by
  rw[zad (zab ec hx),zad (zab ec hdx)];exact ec
 have ef:(upd (upd H3 dx (.own x)) x (.ins C dx [])) x=some (.ins C dx []):=zac
 generalize upd (upd H3 dx (.own x)) x (.ins C dx [])=H4 at k4 ef
 obtain⟨cs,af,Ct⟩:=D1.gd
 rw[zbk]at Ct
 have aH:(es.map (·.1)).Nodup:=D1.rn.nd
 have gB:=zby bp
 have uW:bo.length=es.length:=by rw[Yo bp,cC.length_eq]
 have bf:=D1.few
 have C1:Cert (bo.map (·.1)) (row (rsOf bo)) cs af:=cert_turn Ct (by rw[gB];exact cC.map _) (zgm bp cC aH)
 have hnd1:(bo.map (·.1)).Nodup:=by rw[gB];exact(cC.map _).nodup_iff.mpr aH
 refine⟨x,dx,l,as,bo,cs,af,rfl,ef,RW.keep k4,by omega,λe he=>?_,C1,λd2 ts aG H5 wt bz ht5 k5=>⟨rfl,?_⟩⟩
 ·obtain ⟨e',bV,e1,_⟩:=zem bp he
  rw[e1];exact hok e' (cC.mem_iff.mp bV)
 have ie:(ts.map (·.1)).Perm (es.map (·.1)):=by
  rw[zby ht5]
  refine(bz.map _).trans ?_
  rw[gB];exact cC.map _
 have gw:Keep [] H3 H5:=λc u ec _=>k5 c u (k4 c u ec (by simp)) (by simpa using zab ec hx)
 have D5:=(D2.pot aB k3).k0 gw
 have fS:=ay.keep gw (by simp)
 have kH5:Keep [p] H H5:=((k1.trans k2).sub (by simp)).trans (k3.trans (gw.sub (by simp)))
 refine⟨_,rfl,_,rfl,p,d,b3,m3,es,rfl,fS,D5,λt u so hs cR b6 m6 H6 jK eD iu qQ nM hnl dM fu fso k6=>?_⟩
 refine⟨t,_,rfl,SqT.of jK,rfl,_,_,rfl,_,_,rfl,rfl,?_⟩
 have D6:=D5.pot fS k6
 have wt6:=wt.pot fS k6
 have nup:u≠p:=λz=>by rw[z,fS.1]at fu;cases fu
 have nsp:so≠p:=λz=>by rw[z,fS.1]at fso;cases fso
 have fuH:H u=none:=zal kH5 fu (by simpa using nup)
 have nfu:∀o' u',H u≠some (.frz o' u'):=λo' u' z=>by rw[fuH]at z;cases z
 have fdH:H d=none:=fd
 have nfd:∀o' u',H d≠some (.frz o' u'):=λo' u' z=>by rw[fdH]at z;cases z
 refine⟨_,rfl,u,_,rfl,.inl eD.dc,λkp ud=>?_⟩
 have k7:Keep [] H6 (upd H6 kp (.dK (hs.map λe=>((Sum.inr e.1:Key),V.int e.2)))):=Keep.new ud
 have oF:(upd H6 kp (.dK (hs.map λe=>((Sum.inr e.1:Key),V.int e.2)))) kp=some (.dK (hs.map λe=>((Sum.inr e.1:Key),V.int e.2))):=zac
 have nku:kp≠u:=Qu (zab eD.dc ud)
 have nkp:kp≠p:=Qu (zab dM.1 ud)
 generalize upd H6 kp (.dK (hs.map λe=>((Sum.inr e.1:Key),V.int e.2)))=H7 at k7 oF
 refine⟨(by show 4≤sizeLine;decide),λnp gF=>?_⟩
 have k8:Keep [] H7 (upd H7 np (.lst [.bl true,.bl true,.bl false,.bl false])):=Keep.new gF
 have oj:(upd H7 np (.lst [.bl true,.bl true,.bl false,.bl false])) np=some (.lst [.bl true,.bl true,.bl false,.bl false]):=zac
 have nnp:np≠p:=Qu (zab (dM.keep k7 (by simp)).1 gF)
 have nnu:np≠u:=Qu (zab (k7 _ _ eD.dc (by simp)) gF)
 generalize upd H7 np (.lst [.bl true,.bl true,.bl false,.bl false])=H8 at k8 oj
 refine⟨(by show 4≤sizeLine;decide),λnh tV=>?_⟩
 have k9:Keep [] H8 (upd H8 nh (.lst [.bl true,.bl false,.bl true,.bl false])):=Keep.new tV
 have ke:(upd H8 nh (.lst [.bl true,.bl false,.bl true,.bl false])) nh=some (.lst [.bl true,.bl false,.bl true,.bl false]):=zac
 have sr:=k7.trans k8
 have nhp:nh≠p:=Qu (zab (dM.keep sr (by simp)).1 tV)
 have nhu:nh≠u:=Qu (zab (sr _ _ eD.dc (by simp)) tV)
 generalize upd H8 nh (.lst [.bl true,.bl false,.bl true,.bl false])=H9 at k9 ke
 have mo:=sr.trans k9
 have oE:=k9 _ _ (k8 _ _ oF (by simp)) (by simp)
 have tU:=k9 _ _ oj (by simp)
 have jI:HAt H9 u hs:=eD.keep mo (by simp)
 have dL:Pot H9 p b6 m6:=dM.keep mo (by simp)
 have tj:=mo _ _ nM (by simp)
 have nsu:so≠u:=zax nM eD.dc (by intro z;cases z)
 have qg:=wt6.keep mo (by simp) (by simp) λ_ _=>by simp
 have R9:RAt H9 d es:=D6.rn.toRAt.keep mo (by simp) λ_ _=>by simp
 have ndu:d≠u:=zab D5.rn.dc fu
 have ndp:d≠p:=zax R9.dc dL.1 (by intro z;cases z)
 have W9:∀{H':Hp},Keep [p,u] H9 H'→WAt H' C x dx d2 ts:=λkk=>qg.keep kk (by simp;exact⟨zax qg.ob dL.1 (by intro z;cases z),zab wt.ob fu⟩) (by simp;exact⟨zax qg.ta.dc dL.1 (by intro z;cases z),zab wt.ta.dc fu⟩) λe he=>by simp;exact⟨zax (qg.ta.ro e he) dL.1 (by intro z;cases z),zab (wt.ta.ro e he) fu⟩
 refine⟨2,rfl,by decide,by decide,zdb (lo:=0) (λi σ H'=>Aj3 (Ex4 λx9 eR lZ jk=>σ=[some (.ref a),some (.ref d),some (.ref p),some (.ref x),some (.ref u),some (.ref so),some (.ref kp),some (.ref np),some (.ref nh),x9,eR,lZ,jk]) (Keep [p] H9 H') (Ex2 λb' m'=>Pot H' p b' m'))
  ⟨⟨_,_,_,_,rfl⟩,Keep.refl,_,_,dL⟩ ?_ (λ σ H' hh=>kq _)⟩
 rintro i σ cQ hi ⟨⟨y9,rN,y11,qf,rfl⟩,dB,gO,sf,dN⟩
 have R10:RAt cQ d es:=R9.keep dB (by simpa using ndp) λe he=>by simpa using zbt dL (R9.ro e he)
 have gY:HAt cQ u hs:=jI.keep dB (by simpa using nup)
 have hes40:es.length≤40:=D1.few
 refine⟨_,rfl,d,_,rfl,R10.dc,λo=>⟨λj m ys τ H1=>Aj6 (m=es.length-j) (j≤es.length) (Ex1 λzs:List Str=>Aj2 (ys=zs.map V.str) (zs.length≤j)) (Ex1 λx0=>τ=[x0,some (.ref u)]) (H1 d=some (.frz o (.dK (es.map λe=>((Sum.inr e.1:Key),V.ref e.2.2))))) (Keep [d] cQ H1),
  ⟨es.length,by simp,Zg _,⟨[],rfl,Qg _⟩,⟨none,rfl⟩,zac,Keep.wr Qc⟩,?_⟩⟩
 rintro j m1 ys τ lh ⟨rfl,hj,⟨zs,rfl,cT⟩,⟨x0,rfl⟩,hz,mt⟩
 by_cases ai:j<es.length
 ·refine .inr ⟨⟨hz,by rw [Qa];exact ai⟩,by rw [Qa];omega,?_⟩
  rintro y H' ⟨rfl,pr,e1,rfl⟩
  have g1:pr=((Sum.inr es[j].1:Key),V.ref es[j].2.2):=by
   rw[Qq,Qd ai]at e1
   exact(Qk e1).symm
  subst g1
  have sR:HAt H' u hs:=gY.keep mt (by simpa using Qu ndu)
  have gg:=DGet.k (k:=Sum.inr es[j].1) sR.dc
  refine⟨_,rfl,_,rfl,u,_,rfl,gg,_,rfl,?_⟩
  cases valV (hs.map λe=>((Sum.inr e.1:Key),V.int e.2)) (Sum.inr es[j].1) with
  |none=>exact zdj rfl ⟨_,rfl,_,zar1 ‹_›,rfl,ai,⟨zs++[es[j].1],by rw[Qn];rfl,by rw[Qt];exact Kv cT⟩,⟨_,rfl⟩,hz,mt⟩
  |some v=>exact zcq rfl ⟨_,zar1 ‹_›,rfl,ai,⟨zs,rfl,Nat.le_succ_of_le cT⟩,⟨_,rfl⟩,hz,mt⟩
 have uf:j=es.length:=by exact zar3 ‹_› ‹_›
 subst uf
 refine .inl ⟨⟨hz,by rw[Qa];exact Qg _⟩,λl1 bJ=>?_⟩
 have ndl:d≠l1:=zab hz bJ
 refine⟨d,o,_,(by rw[zad ndl];exact hz),nfd,?_⟩
 have jv:Keep [] cQ (upd (upd lh l1 (.lst (zs.map V.str))) d (.dK (es.map λe=>((Sum.inr e.1:Key),V.ref e.2.2)))):=λc u ec _=>by
  by_cases ar:c=d
  ·subst ar
   rw[zac,←R10.dc];exact ec
  ·have jg:=mt c u ec (by simpa using ar)
   rw[zad ar,zad (zab jg bJ)];exact jg
 have oC:(upd (upd lh l1 (.lst (zs.map V.str))) d (.dK (es.map λe=>((Sum.inr e.1:Key),V.ref e.2.2)))) l1=some (.lst (zs.map V.str)):=by rw[zad (Qu ndl)];exact zac
 generalize upd (upd lh l1 (.lst (zs.map V.str))) d (.dK (es.map λe=>((Sum.inr e.1:Key),V.ref e.2.2)))=gQ at jv oC
 have tN:=dN.keep jv (by simp)
 have nlp:l1≠p:=Qu (zab (mt _ _ dN.1 (by simpa using Qu ndp)) bJ)
 refine⟨_,rfl,p,gO,sf,8,rfl,tN,by decide,by decide,λj2 vC se iJ hj20 hj21 oh mj=>?_⟩
 have lw:Keep [p] cQ iJ:=(jv.sub (by simp)).trans (zba mj)
 have oB:=mj _ _ oC nlp
 refine⟨_,_,rfl,rfl,_,rfl,_,rfl,by decide,λy=>⟨(by show 2≤sizeLine;decide),λl2 ak=>?_⟩⟩
 have rX:l1≠l2:=zab oB ak
 refine⟨l1,l2,_,_,rfl,rfl,by rw[zad rX];exact oB,zac,by rw[Qa];show zs.length+2≤sizeLine;omega,λl3 aP=>?_⟩
 have el:zs.map V.str++[V.str "q",V.str y]=(zs++[("q" : Str),y]).map V.str:=by rw[Qn];rfl
 rw[el]
 generalize zs++[("q" : Str),y]=qs
 have ms:Keep [p] cQ (upd (upd iJ l2 (.lst [.str "q",.str y])) l3 (.lst (qs.map V.str))):=lw.trans ((Keep.new ak).trans (Keep.new aP))
 have og:Pot (upd (upd iJ l2 (.lst [.str "q",.str y])) l3 (.lst (qs.map V.str))) p vC se:=oh.keep (xs:=[]) ((Keep.new ak).trans (Keep.new aP)) (by simp)
 have kl:(upd (upd iJ l2 (.lst [.str "q",.str y])) l3 (.lst (qs.map V.str))) l3=some (.lst (qs.map V.str)):=zac
 have nl3p:l3≠p:=Qu (zab (oh.keep (xs:=[]) (Keep.new ak) (by simp)).1 aP)
 generalize upd (upd iJ l2 (.lst [.str "q",.str y])) l3 (.lst (qs.map V.str))=H14 at ms og kl
 have ma:∀{H':Hp},Keep [p] H14 H'→Keep [p] H9 H':=λkk=>dB.trans (ms.trans kk)
 refine⟨l3,rfl,⟨_,SqL.of kl⟩,zbv (xs:=qs.map V.str) (λj σ H'=>Aj3 (Ex3 λeR lZ jk=>σ=[some (.ref a),some (.ref d),some (.ref p),some (.ref x),some (.ref u),some (.ref so),some (.ref kp),some (.ref np),some (.ref nh),some (.int (0+(i:Int))),eR,lZ,jk]) (Keep [p] H14 H') (Ex2 λb' m'=>Pot H' p b' m'))
  ⟨⟨_,_,_,rfl⟩,Keep.refl,_,_,og⟩ (λj σ H' _ hh=>SqL.of (hh.2 _ _ kl (by simpa using nl3p))) ?_ ?_⟩
 ·rintro j v σ dZ hv ⟨⟨rN,y11,qf,rfl⟩,mr,qa,mi,i7⟩
  obtain⟨s,-,rfl⟩:∃s,s∈qs∧V.str s=v:=Qh.mp (Yq hv)
  have dA:=ma mr
  have fG:=dA _ _ tj (by simpa using nsp)
  refine⟨_,rfl,_,rfl,(by show 1≤sizeLine;decide),λl4 aR=>?_⟩
  have u3:(cR.map V.int).length=cR.length:=Qa ..
  refine⟨so,l4,_,_,rfl,rfl,by rw[zad (zab fG aR)];exact fG,zac,by show(cR.map V.int).length+1≤sizeLine;omega,λl5 cz=>?_⟩
  have el:cR.map V.int++[V.int (-1)]=(cR++[-1]).map V.int:=by rw[Qn];rfl
  rw[el]
  have iN:Keep [] dZ (upd (upd dZ l4 (.lst [.int (-1)])) l5 (.lst ((cR++[-1]).map V.int))):=(Keep.new aR).trans (Keep.new cz)
  have oy:(upd (upd dZ l4 (.lst [.int (-1)])) l5 (.lst ((cR++[-1]).map V.int))) l5=some (.lst ((cR++[-1]).map V.int)):=zac
  have nl5p:l5≠p:=Qu (zab (i7.keep (xs:=[]) (Keep.new aR) (by simp)).1 cz)
  generalize upd (upd dZ l4 (.lst [.int (-1)])) l5 (.lst ((cR++[-1]).map V.int))=lX at iN oy
  have fT:=i7.keep iN (by simp)
  have nN:=iN _ _ fG (by simp)
  refine⟨_,rfl,_,rfl,so,_,rfl,.inl (SqL.of nN),_,_,rfl,rfl,p,qa,mi,_,rfl,fT,by show(0:Int)<((cR.map V.int).length:Int)+1;omega,by show((cR.map V.int).length:Int)+1<_;omega,λj3 lW lr ji oK oJ i6 eY=>?_⟩
  have lv:Keep [p] dZ ji:=(iN.sub (by simp)).trans (zba eY)
  have ub:=eY _ _ oy nl5p
  obtain⟨jn,rfl⟩:=Zt oK
  have oI:jn<(cR++[-1]).length:=by
   rw[Qt];show jn<cR.length+1
   have:(jn:Int)<((cR.map V.int).length:Int)+1:=oJ
   omega
  refine⟨l5,_,_,.int (cR++[-1])[jn],rfl,rfl,SqL.of ub,zap (by rw[Qq,Qd oI];rfl),?_⟩
  generalize(cR++[-1])[jn]=ot
  have dz:Keep [p] H9 ji:=dA.trans lv
  have nr:HAt ji u hs:=jI.keep dz (by simpa using nup)
  have gg:=DGet.k (k:=Sum.inr s) nr.dc
  refine⟨_,rfl,_,rfl,u,_,rfl,gg,_,rfl,?_⟩
  by_cases hU:s∈hs.map (·.1)
  ·obtain ⟨e,he,rfl⟩:=Qh.mp hU
   rw[valH_in eD.nd he]
   exact iteF (iteF ⟨⟨_,_,_,rfl⟩,mr.trans lv,_,_,i6⟩)
  ·rw [zg6 hU]
   refine iteT ⟨_,rfl,_,rfl,_,rfl,_,rfl,_,rfl,_,x,dx,d2,u,ts,hs,s,ot,k.cp,true,false,rfl,W9 (dz.sub (by simp)),⟨.inl nr.dc,eD.nd⟩,.inl ⟨hU,rfl⟩,kd1,λl6 w8 cE fl6 gU=>?_⟩
   have dy:Keep [p] H9 w8:=dz.trans (gU.sub (by simp))
   exact⟨_,rfl,l6,np,[true,true,false,false],rfl,rfl,SqL.of cE,SqL.of (dy _ _ tU (by simpa using nnp)),_,rfl,iteF ⟨⟨_,_,_,rfl⟩,(mr.trans lv).trans (gU.sub (by simp)),_,_,i6.keep gU (by simp)⟩⟩
 ·rintro σ dZ ⟨⟨rN,y11,qf,rfl⟩,mr,qa,mi,i7⟩
  have dA:=ma mr
  have sQ:HAt dZ u hs:=jI.keep dA (by simpa using nup)
  refine⟨_,rfl,u,_,rfl,sQ.dc,λo=>zfe (λj σ H'=>Aj4 (Ex3 λeR lZ jk=>σ=[some (.ref a),some (.ref d),some (.ref p),some (.ref x),some (.ref u),some (.ref so),some (.ref kp),some (.ref np),some (.ref nh),some (.int (0+(i:Int))),eR,lZ,jk]) (H' u=some (.frz o (.dK (hs.map λe=>((Sum.inr e.1:Key),V.int e.2))))) (Keep [p,u] dZ H') (Ex2 λb' m'=>Pot H' p b' m'))
   ⟨⟨_,_,_,rfl⟩,zac,Keep.wr (by simp),_,_,i7.keep (xs:=[u]) (Keep.wr (by simp)) (by simpa using Qu nup)⟩ (λj σ H' _ hh=>hh.2) ?_ ?_⟩
  ·rintro j pr σ lX fR ⟨⟨z10,z11,z12,rfl⟩,jz,iN,rE,ql,fT⟩
   have hj:j<hs.length:=by
    have:=(Za.mp fR).1
    rwa[Qa]at this
   have g1:pr=((Sum.inr hs[j].1:Key),V.int hs[j].2):=by
    rw[Qq,Qd hj]at fR
    exact(Qk fR).symm
   subst g1
   have jO:hs[j]∈hs:=Zb hj
   generalize hs[j]=sh at jO
   obtain⟨s,h⟩:=sh
   have ap:s∈ts.map (·.1):=ie.mem_iff.mpr (iu _ jO)
   refine⟨_,rfl,_,rfl,p,rE,ql,9,rfl,fT,by decide,by decide,λj3 lW lr ji oK oJ i6 eY=>⟨_,_,rfl,rfl,?_⟩⟩
   have my:=eY _ _ jz nup
   have lv:Keep [p,u] dZ ji:=iN.trans ((zba eY).sub (by simp))
   have dz:Keep [p,u] H9 ji:=(dA.sub (by simp)).trans lv
   have ku:HF ji u hs:=⟨.inr ⟨o,my⟩,eD.nd⟩
   have gg:=ku.get (Sum.inr s)
   rw[valH_in eD.nd jO]at gg
   refine⟨_,rfl,_,rfl,_,rfl,_,rfl,_,rfl,_,rfl,u,_,rfl,gg,_,x,dx,d2,u,ts,hs,s,h,k.ch,false,true,rfl,W9 dz,ku,.inr ⟨h,jO,ap,.inl rfl,rfl⟩,kd2,λl6 w8 cE fl6 gU=>?_⟩
   have dy:Keep [p,u] H9 w8:=dz.trans (gU.sub (by simp))
   have mx:=gU _ _ my (by simp)
   refine⟨_,rfl,l6,nh,[true,false,true,false],rfl,rfl,SqL.of cE,SqL.of (dy _ _ ke (by simp;exact⟨nhp,nhu⟩)),_,rfl,iteF ⟨_,rfl,_,rfl,u,kp,_,rfl,rfl,.inr ⟨o,mx⟩,.inl (dy _ _ oE (by simp;exact⟨nkp,nku⟩)),eD.kn,hue_flat hs,_,rfl,iteF ?_⟩⟩
   refine⟨_,rfl,_,rfl,_,rfl,_,rfl,_,rfl,_,x,dx,d2,u,ts,hs,s,_,k.ch,false,true,rfl,W9 dy,ku.keep gU,.inr ⟨h,jO,ap,.inr (by omega),rfl⟩,kd2,λl7 H19 qG fl7 qo=>?_⟩
   have ml:Keep [p,u] H9 H19:=dy.trans (qo.sub (by simp))
   have mw:=qo _ _ mx (by simp)
   exact⟨_,rfl,l7,nh,[true,false,true,false],rfl,rfl,SqL.of qG,SqL.of (ml _ _ ke (by simp;exact⟨nhp,nhu⟩)),_,rfl,iteF ⟨_,rfl,_,rfl,u,kp,_,rfl,rfl,.inr ⟨o,mw⟩,.inl (ml _ _ oE (by simp;exact⟨nkp,nku⟩)),eD.kn,hue_flat hs,_,rfl,iteF ⟨⟨_,_,_,rfl⟩,mw,lv.trans ((gU.trans qo).sub (by simp)),_,_,i6.keep (gU.trans qo) (by simp)⟩⟩⟩
  ·rintro σ lX ⟨⟨z10,z11,z12,rfl⟩,jz,iN,rE,ql,fT⟩
   refine⟨u,o,_,jz,nfu,?_⟩
   refine⟨⟨_,_,_,_,rfl⟩,λc w' ec hc=>?_,_,_,fT.keep (xs:=[u]) (Keep.wr (by simp)) (by simpa using Qu nup)⟩
   by_cases v2:c=u
   ·subst v2
    rw[zac,←jI.dc];exact ec
   ·rw [zad v2]
    exact iN c w' (dA c w' ec hc) (by simp at hc ⊢;exact⟨hc,v2⟩)
end
end K21
end
section
namespace L2
open PySem
section
variable{K:Na}{x qual p1 p2 p3 p4 p5:Str}{st:Stmt}{f:Nc}{fd:Np}(F:Fun K x qual st f fd)
include F
theorem Fun.b1(h:∀(kV doc pm:Value) (an:Option Addr) (cdv ct a1:Value),bindArgs (PySem.W.fnOf x qual (zck st) (zbs st) (zag st) .none kV doc pm an cdv ct) ⟨[a1],[]⟩=pure [(p1,a1)]):Binds K fd [p1] [] :=
 F.binds λkV doc pm an cdv ct us hl=>by
  obtain _ | ⟨a1,_ | ⟨z,t⟩⟩:=us
  ·cases hl
  ·exact h kV doc pm an cdv ct a1
  ·cases hl
theorem Fun.b2(h:∀(kV doc pm:Value) (an:Option Addr) (cdv ct a1 a2:Value),bindArgs (PySem.W.fnOf x qual (zck st) (zbs st) (zag st) .none kV doc pm an cdv ct) ⟨[a1,a2],[]⟩=pure [(p1,a1),(p2,a2)]):Binds K fd [p1,p2] [] :=
 F.binds λkV doc pm an cdv ct us hl=>by
  obtain _ | ⟨a1,_ | ⟨a2,_ | ⟨z,t⟩⟩⟩:=us
  ·cases hl
  ·cases hl
  ·exact h kV doc pm an cdv ct a1 a2
  ·cases hl
theorem Fun.b3(h:∀(kV doc pm:Value) (an:Option Addr) (cdv ct a1 a2 a3:Value),bindArgs (PySem.W.fnOf x qual (zck st) (zbs st) (zag st) .none kV doc pm an cdv ct) ⟨[a1,a2,a3],[]⟩=pure [(p1,a1),(p2,a2),(p3,a3)]):Binds K fd [p1,p2,p3] [] :=
 F.binds λkV doc pm an cdv ct us hl=>by
  obtain _ | ⟨a1,_ | ⟨a2,_ | ⟨a3,_ | ⟨z,t⟩⟩⟩⟩:=us
  ·cases hl
  ·cases hl
  ·cases hl
  ·exact h kV doc pm an cdv ct a1 a2 a3
  ·cases hl
theorem Fun.b4(h:∀(kV doc pm:Value) (an:Option Addr) (cdv ct a1 a2 a3 a4:Value),bindArgs (PySem.W.fnOf x qual (zck st) (zbs st) (zag st) .none kV doc pm an cdv ct) ⟨[a1,a2,a3,a4],[]⟩=pure [(p1,a1),(p2,a2),(p3,a3),(p4,a4)]):Binds K fd [p1,p2,p3,p4] [] :=
 F.binds λkV doc pm an cdv ct us hl=>by
  obtain _ | ⟨a1,_ | ⟨a2,_ | ⟨a3,_ | ⟨a4,_ | ⟨z,t⟩⟩⟩⟩⟩:=us
  ·cases hl
  ·cases hl
  ·cases hl
  ·cases hl
  ·exact h kV doc pm an cdv ct a1 a2 a3 a4
  ·cases hl
theorem Fun.b5(h:∀(kV doc pm:Value) (an:Option Addr) (cdv ct a1 a2 a3 a4 a5:Value),bindArgs (PySem.W.fnOf x qual (zck st) (zbs st) (zag st) .none kV doc pm an cdv ct) ⟨[a1,a2,a3,a4,a5],[]⟩=pure [(p1,a1),(p2,a2),(p3,a3),(p4,a4),(p5,a5)]):Binds K fd [p1,p2,p3,p4,p5] [] :=
 F.binds λkV doc pm an cdv ct us hl=>by
  obtain _ | ⟨a1,_ | ⟨a2,_ | ⟨a3,_ | ⟨a4,_ | ⟨a5,_ | ⟨z,t⟩⟩⟩⟩⟩⟩:=us
  ·cases hl
  ·cases hl
  ·cases hl
  ·cases hl
  ·cases hl
  ·exact h kV doc pm an cdv ct a1 a2 a3 a4 a5
  ·cases hl
end
end L2
namespace K21
open PySem L2 Wb PyProof.Rows
theorem all_mk{l:PySem.W.OpenLaw}{w:Nk}{K:Na}{h:Nl}{mg:Nf}{fa C fL f0 f1 f2 f3 f4 f5 f6 f7 f8 f9 f10 f11 f12 f13 f14 f15 f16 f17 f18 f19 f20 f21 f22 f23 f24 f25 f26 f27 f28 f29 f30 g0 c0 c1 c2 c3 c4 c5 c6 c7 c8 c9 rD rC cX cV rB:Nc}(X:K.In h)(G:h.Ns mainGlobals mg)(cF:mg "law" = some (.ref fa))(af0:PySem.W.nsIn K mainGlobals "steps_behind" = some (some (.ref f0)))(hf0:∃fd,Fun K "steps_behind" "steps_behind" sSteps f0 fd)(af1:PySem.W.nsIn K mainGlobals "faces_of" = some (some (.ref f1)))(hf1:∃fd,Fun K "faces_of" "faces_of" zew f1 fd)(af2:PySem.W.nsIn K mainGlobals "piece_from" = some (some (.ref f2)))(j7:∃fd,Fun K "piece_from" "piece_from" sPiece f2 fd)(af3:PySem.W.nsIn K mainGlobals "pieces_of" = some (some (.ref f3)))(hf3:∃fd,Fun K "pieces_of" "pieces_of" zhe f3 fd)(af4:PySem.W.nsIn K mainGlobals "chain" = some (some (.ref f4)))(hf4:∃fd,Fun K "chain" "chain" sChain f4 fd)(af5:PySem.W.nsIn K mainGlobals "is_name" = some (some (.ref f5)))(hf5:∃fd,Fun K "is_name" "is_name" zdq f5 fd)(af6:PySem.W.nsIn K mainGlobals "refuse_no_names" = some (some (.ref f6)))(hf6:∃fd,Fun K "refuse_no_names" "refuse_no_names" zfc f6 fd)(af7:PySem.W.nsIn K mainGlobals "refuse_twice" = some (some (.ref f7)))(hf7:∃fd,Fun K "refuse_twice" "refuse_twice" zdl f7 fd)(af8:PySem.W.nsIn K mainGlobals "refuse_one_way" = some (some (.ref f8)))(hf8:∃fd,Fun K "refuse_one_way" "refuse_one_way" zhf f8 fd)(af9:PySem.W.nsIn K mainGlobals "refuse_not_flat" = some (some (.ref f9)))(hf9:∃fd,Fun K "refuse_not_flat" "refuse_not_flat" zge f9 fd)(vX:PySem.W.nsIn K mainGlobals "from_least" = some (some (.ref f10)))(uR:∃fd,Fun K "from_least" "from_least" sLeast f10 fd)(vW:PySem.W.nsIn K mainGlobals "_law_pot" = some (some (.ref f11)))(uQ:∃fd,Fun K "_law_pot" "_law_pot" sPot f11 fd)(vV:PySem.W.nsIn K mainGlobals "_law_draw" = some (some (.ref f12)))(uP:∃fd,Fun K "_law_draw" "_law_draw" zfo f12 fd)(vU:PySem.W.nsIn K mainGlobals "_law_names" = some (some (.ref f13)))(uO:∃fd,Fun K "_law_names" "_law_names" zdm f13 fd)(vT:PySem.W.nsIn K mainGlobals "_law_behind" = some (some (.ref f14)))(uN:∃fd,Fun K "_law_behind" "_law_behind" zhg f14 fd)(vS:PySem.W.nsIn K mainGlobals "_law_face" = some (some (.ref f15)))(uM:∃fd,Fun K "_law_face" "_law_face" sFace f15 fd)(vR:PySem.W.nsIn K mainGlobals "_law_put" = some (some (.ref f16)))(uL:∃fd,Fun K "_law_put" "_law_put" sPut f16 fd)(vQ:PySem.W.nsIn K mainGlobals "_law_tie" = some (some (.ref f17)))(uK:∃fd,Fun K "_law_tie" "_law_tie" sTie f17 fd)(vP:PySem.W.nsIn K mainGlobals "_law_step" = some (some (.ref f18)))(uJ:∃fd,Fun K "_law_step" "_law_step" zhc f18 fd)(vO:PySem.W.nsIn K mainGlobals "_law_more" = some (some (.ref f19)))(uI:∃fd,Fun K "_law_more" "_law_more" sMore f19 fd)(vN:PySem.W.nsIn K mainGlobals "_law_across" = some (some (.ref f20)))(uG:∃fd,Fun K "_law_across" "_law_across" zhh f20 fd)(vM:PySem.W.nsIn K mainGlobals "_law_fill" = some (some (.ref f21)))(uF:∃fd,Fun K "_law_fill" "_law_fill" sFill f21 fd)(vL:PySem.W.nsIn K mainGlobals "_law_away" = some (some (.ref f22)))(uE:∃fd,Fun K "_law_away" "_law_away" sAway f22 fd)(vK:PySem.W.nsIn K mainGlobals "_law_capped" = some (some (.ref f23)))(uD:∃fd,Fun K "_law_capped" "_law_capped" sCap f23 fd)(vJ:PySem.W.nsIn K mainGlobals "_law_long" = some (some (.ref f24)))(uC:∃fd,Fun K "_law_long" "_law_long" sLong f24 fd)(vI:PySem.W.nsIn K mainGlobals "_law_rounds" = some (some (.ref f25)))(uB:∃fd,Fun K "_law_rounds" "_law_rounds" zhd f25 fd)(vH:PySem.W.nsIn K mainGlobals "_law_rows" = some (some (.ref f26)))(uA:∃fd,Fun K "_law_rows" "_law_rows" sRows f26 fd)(vG:PySem.W.nsIn K mainGlobals "_law_hues" = some (some (.ref f27)))(uz:∃fd,Fun K "_law_hues" "_law_hues" sHues f27 fd)(vF:PySem.W.nsIn K mainGlobals "exchanged" = some (some (.ref f28)))(uy:∃fd,Fun K "exchanged" "exchanged" sExch f28 fd)(vE:PySem.W.nsIn K mainGlobals "_law_kinds" = some (some (.ref f29)))(ux:∃fd,Fun K "_law_kinds" "_law_kinds" sKinds f29 fd)(vD:PySem.W.nsIn K mainGlobals "_law_why" = some (some (.ref f30)))(uw:∃fd,Fun K "_law_why" "_law_why" sWhy f30 fd)(ag0:PySem.W.findIn K (.ref C) "__init__" = some (some (.ref g0)))(ig0:PySem.W.isFn K (.ref g0)=true)(kg0:PySem.W.keepIn K (.ref g0)=true)(hg0:∃fd,Fun K "__init__" "Web.__init__" sInit g0 fd){odfL anfL:Option Addr}{slfL:Array (Option Value)}{ocfL kVfL dcfL pmfL cdfL ctfL:Value}(afL:PySem.W.nsIn K mainGlobals "law" = some (some (.ref fL)))(lfL:K.lookup fL=some ⟨ocfL,odfL,.func (PySem.W.fnOf "law" "law" (zck sLaw) (zbs sLaw) (zag sLaw) .none kVfL dcfL pmfL anfL cdfL ctfL),slfL⟩)(cfL:PySem.W.codeIn K cdfL "law" = true)(kfL:PySem.W.keepIn K (.ref fL)=true)(aC:PySem.W.nsIn K mainGlobals "Web" = some (some (.ref C))){tkM:Tok}(aM:PySem.W.nsIn K mainGlobals "MOST_LETTERS" = some (some (.int 8 tkM)))(pg:PySem.W.plainGet K C Str.empty=true)(kI:PySem.W.hasDictIn K C=true)(po:PySem.W.plainOver K C=true)(sa:PySem.W.findIn K (.ref C) "__setattr__" = some (some (.builtin "object.__setattr__")))(mk:PySem.W.makesIn K C=true)(kc:PySem.W.keepIn K (.ref C)=true)(nR:PySem.W.findIn K (.ref C) "rounds" = some none)(e_Bridge:PySem.W.nsIn K mainGlobals "Bridge" = some (some (.ref c0)))(e_NoCorner:PySem.W.nsIn K mainGlobals "NoCorner" = some (some (.ref c1)))(e_NoName:PySem.W.nsIn K mainGlobals "NoName" = some (some (.ref c2)))(e_NoRing:PySem.W.nsIn K mainGlobals "NoRing" = some (some (.ref c3)))(e_NoText:PySem.W.nsIn K mainGlobals "NoText" = some (some (.ref c4)))(e_NoTie:PySem.W.nsIn K mainGlobals "NoTie" = some (some (.ref c5)))(e_NotFlat:PySem.W.nsIn K mainGlobals "NotFlat" = some (some (.ref c6)))(e_NotOne:PySem.W.nsIn K mainGlobals "NotOne" = some (some (.ref c7)))(e_OneWay:PySem.W.nsIn K mainGlobals "OneWay" = some (some (.ref c8)))(e_TooMany:PySem.W.nsIn K mainGlobals "TooMany" = some (some (.ref c9)))(e_Twice:PySem.W.nsIn K mainGlobals "Twice" = some (some (.ref rD)))(e_Unread:PySem.W.nsIn K mainGlobals "Unread" = some (some (.ref rC)))(e_NoPlace:PySem.W.nsIn K mainGlobals "NoPlace" = some (some (.ref cX)))(e_NoHue:PySem.W.nsIn K mainGlobals "NoHue" = some (some (.ref cV)))(e_HueError:PySem.W.nsIn K mainGlobals "HueError" = some (some (.ref rB)))(gs:PySem.W.specialIn K (.builtin "object.__class__") "__get__" = some (some (.builtin "getset_descriptor.__get__")))(tk:PySem.W.takesIn K (.builtin "object.__class__")=some true)(jk:PySem.W.excIn K cX bmVE "ValueError.__new__" = true)(p12:PySem.W.findIn K (.ref cX) "__getattribute__" = some (some (.builtin "BaseException.__getattribute__")))(cS:PySem.W.findIn K (.ref cX) "__getattr__" = some none)(j12:PySem.W.mroIn K cX (.type "BaseException")=some true)(q12:PySem.W.findIn K (.ref cX) "__class__" = some (some (.builtin "object.__class__")))(r12:PySem.W.mroIn K cX (.type "object")=some true)(s12:PySem.W.kitAny K (.ref cX) [.ref c0,.ref c1,.ref c2,.ref c3,.ref c4,.ref c5,.ref c6,.ref c7,.ref c8]=some false)(t12:PySem.W.kitAny K (.ref cX) [.ref c9,.ref rD,.ref rC]=some false)(u12:PySem.W.kitOne K (.ref cX) (.type "ValueError")=some true)(v12:PySem.W.kitOne K (.ref cX) (.ref cX)=some true)(w12:PySem.W.kitOne K (.ref cX) (.ref cV)=some false)(qf:PySem.W.exmOne K (.ref cX) (.ref rB)=some true)(x13:PySem.W.excIn K cV bmVE "ValueError.__new__" = true)(p13:PySem.W.findIn K (.ref cV) "__getattribute__" = some (some (.builtin "BaseException.__getattribute__")))(n13:PySem.W.findIn K (.ref cV) "__getattr__" = some none)(j13:PySem.W.mroIn K cV (.type "BaseException")=some true)(q13:PySem.W.findIn K (.ref cV) "__class__" = some (some (.builtin "object.__class__")))(r13:PySem.W.mroIn K cV (.type "object")=some true)(s13:PySem.W.kitAny K (.ref cV) [.ref c0,.ref c1,.ref c2,.ref c3,.ref c4,.ref c5,.ref c6,.ref c7,.ref c8]=some false)(t13:PySem.W.kitAny K (.ref cV) [.ref c9,.ref rD,.ref rC]=some false)(u13:PySem.W.kitOne K (.ref cV) (.type "ValueError")=some true)(v13:PySem.W.kitOne K (.ref cV) (.ref cX)=some false)(w13:PySem.W.kitOne K (.ref cV) (.ref cV)=some true)(y13:PySem.W.exmOne K (.ref cV) (.ref rB)=some true)(z_len:PySem.W.nsIn K mainGlobals "len" = some none)(z_sorted:PySem.W.nsIn K mainGlobals "sorted" = some none)(z_range:PySem.W.nsIn K mainGlobals "range" = some none)(z_min:PySem.W.nsIn K mainGlobals "min" = some none)(z_tuple:PySem.W.nsIn K mainGlobals "tuple" = some none)(z_list:PySem.W.nsIn K mainGlobals "list" = some none)(z_dict:PySem.W.nsIn K mainGlobals "dict" = some none)(z_set:PySem.W.nsIn K mainGlobals "set" = some none)(z_isinstance:PySem.W.nsIn K mainGlobals "isinstance" = some none)(z_str:PySem.W.nsIn K mainGlobals "str" = some none)(z_all:PySem.W.nsIn K mainGlobals "all" = some none)(z_sum:PySem.W.nsIn K mainGlobals "sum" = some none)(z_enumerate:PySem.W.nsIn K mainGlobals "enumerate" = some none)(z_zip:PySem.W.nsIn K mainGlobals "zip" = some none)(z_int:PySem.W.nsIn K mainGlobals "int" = some none)(z_reversed:PySem.W.nsIn K mainGlobals "reversed" = some none)(z_ValueError:PySem.W.nsIn K mainGlobals "ValueError" = some none) :
  ∃fd:FuncData,(∀(s:Ng) (v:Value),BindsTo s fd ⟨[v],[]⟩ [("_law_script",v)])∧∀base:Heap,K.In base→base.Ns mainGlobals mg→FnOk l.prog w K mg base CX0 6 fa fd ["_law_script"] (spLaw K):=by
 have e:=cF.symm.trans (Qy X G afL)
 cases e
 obtain⟨_,F0⟩:=hf0
 have b0:=F0.b1 (p1 := "rounds") λ_ _ _ _ _ _ _=>rfl
 have m0:=Qy X G af0
 obtain⟨_,F1⟩:=hf1
 have b1:=F1.b1 (p1 := "rounds") λ_ _ _ _ _ _ _=>rfl
 have m1:=Qy X G af1
 obtain⟨_,F2⟩:=j7
 have b2:=F2.b2 (p1 := "rounds") (p2 := "start") λ_ _ _ _ _ _ _ _=>rfl
 have m2:=Qy X G af2
 obtain⟨_,F3⟩:=hf3
 have b3:=F3.b1 (p1 := "rounds") λ_ _ _ _ _ _ _=>rfl
 have m3:=Qy X G af3
 obtain⟨_,F4⟩:=hf4
 have b4:=F4.b4 (p1 := "web") (p2 := "hues") (p3 := "start") (p4 := "other") λ_ _ _ _ _ _ _ _ _ _=>rfl
 have m4:=Qy X G af4
 obtain⟨_,F5⟩:=hf5
 have b5:=F5.b1 (p1 := "thing") λ_ _ _ _ _ _ _=>rfl
 have m5:=Qy X G af5
 obtain⟨_,F6⟩:=hf6
 have b6:=F6.b1 (p1 := "rows") λ_ _ _ _ _ _ _=>rfl
 have m6:=Qy X G af6
 obtain⟨_,F7⟩:=hf7
 have b7:=F7.b1 (p1 := "rows") λ_ _ _ _ _ _ _=>rfl
 have m7:=Qy X G af7
 obtain⟨_,F8⟩:=hf8
 have b8:=F8.b1 (p1 := "rows") λ_ _ _ _ _ _ _=>rfl
 have m8:=Qy X G af8
 obtain⟨_,F9⟩:=hf9
 have b9:=F9.b1 (p1 := "rounds") λ_ _ _ _ _ _ _=>rfl
 have m9:=Qy X G af9
 obtain⟨_,wy⟩:=uR
 have gO:=wy.b1 (p1 := "around") λ_ _ _ _ _ _ _=>rfl
 have sf:=Qy X G vX
 obtain⟨_,rL⟩:=uQ
 have b11:=rL.b2 (p1 := "_law_script") (p2 := "_law_k") λ_ _ _ _ _ _ _ _=>rfl
 have m11:=Qy X G vW
 obtain⟨_,gR⟩:=uP
 have jh:=gR.b2 (p1 := "_law_pot_here") (p2 := "_law_many") λ_ _ _ _ _ _ _ _=>rfl
 have iK:=Qy X G vV
 obtain⟨_,wx⟩:=uO
 have vC:=wx.b2 (p1 := "_law_pot_here") (p2 := "_law_many") λ_ _ _ _ _ _ _ _=>rfl
 have se:=Qy X G vU
 obtain⟨_,ww⟩:=uN
 have b14:=ww.b3 (p1 := "_law_rounds_here") (p2 := "_law_p") (p3 := "_law_q") λ_ _ _ _ _ _ _ _ _=>rfl
 have m14:=Qy X G vT
 obtain⟨_,rK⟩:=uM
 have qa:=rK.b2 (p1 := "_law_rounds_here") (p2 := "_law_step_here") λ_ _ _ _ _ _ _ _=>rfl
 have mi:=Qy X G vS
 obtain⟨_,wu⟩:=uL
 have rE:=wu.b4 (p1 := "_law_rounds_here") (p2 := "_law_one") (p3 := "_law_beside") (p4 := "_law_other") λ_ _ _ _ _ _ _ _ _ _=>rfl
 have ql:=Qy X G vR
 obtain⟨_,lY⟩:=uK
 have lW:=lY.b5 (p1 := "_law_rounds_here") (p2 := "_law_one") (p3 := "_law_beside") (p4 := "_law_other") (p5 := "_law_after") λ_ _ _ _ _ _ _ _ _ _ _=>rfl
 have lr:=Qy X G vQ
 obtain⟨_,qd⟩:=uJ
 have vB:=qd.b2 (p1 := "_law_rounds_here") (p2 := "_law_pot_here") λ_ _ _ _ _ _ _ _=>rfl
 have sd:=Qy X G vP
 obtain⟨_,wq⟩:=uI
 have b19:=wq.b3 (p1 := "_law_rounds_here") (p2 := "_law_pot_here") (p3 := "_law_name") λ_ _ _ _ _ _ _ _ _=>rfl
 have m19:=Qy X G vO
 obtain⟨_,wp⟩:=uG
 have b20:=wp.b2 (p1 := "_law_rounds_here") (p2 := "_law_pot_here") λ_ _ _ _ _ _ _ _=>rfl
 have m20:=Qy X G vN
 obtain⟨_,wo⟩:=uF
 have b21:=wo.b3 (p1 := "_law_rounds_here") (p2 := "_law_pot_here") (p3 := "_law_name") λ_ _ _ _ _ _ _ _ _=>rfl
 have m21:=Qy X G vM
 obtain⟨_,wn⟩:=uE
 have b22:=wn.b2 (p1 := "_law_rounds_here") (p2 := "_law_pot_here") λ_ _ _ _ _ _ _ _=>rfl
 have m22:=Qy X G vL
 obtain⟨_,wk⟩:=uD
 have b23:=wk.b3 (p1 := "_law_names_here") (p2 := "_law_many") (p3 := "_law_layers") λ_ _ _ _ _ _ _ _ _=>rfl
 have m23:=Qy X G vK
 obtain⟨_,wj⟩:=uC
 have b24:=wj.b1 (p1 := "_law_names_here") λ_ _ _ _ _ _ _=>rfl
 have m24:=Qy X G vJ
 obtain⟨_,wg⟩:=uB
 have b25:=wg.b1 (p1 := "_law_script") λ_ _ _ _ _ _ _=>rfl
 have m25:=Qy X G vI
 obtain⟨_,wf⟩:=uA
 have b26:=wf.b2 (p1 := "_law_rounds_here") (p2 := "_law_pot_here") λ_ _ _ _ _ _ _ _=>rfl
 have m26:=Qy X G vH
 obtain⟨_,we⟩:=uz
 have b27:=we.b2 (p1 := "_law_rounds_here") (p2 := "_law_pot_here") λ_ _ _ _ _ _ _ _=>rfl
 have m27:=Qy X G vG
 obtain⟨_,wd⟩:=uy
 have b28:=wd.b4 (p1 := "web") (p2 := "hues") (p3 := "start") (p4 := "other") λ_ _ _ _ _ _ _ _ _ _=>rfl
 have m28:=Qy X G vF
 obtain⟨_,wc⟩:=ux
 have b29:=wc.b1 (p1 := "_law_e") λ_ _ _ _ _ _ _=>rfl
 have m29:=Qy X G vE
 obtain⟨_,wb⟩:=uw
 have b30:=wb.b5 (p1 := "_law_way") (p2 := "_law_web") (p3 := "_law_hues_here") (p4 := "_law_start") (p5 := "_law_other") λ_ _ _ _ _ _ _ _ _ _ _=>rfl
 have m30:=Qy X G vD
 obtain⟨_,FG0⟩:=hg0
 have bG0:=FG0.b2 (p1 := "self") (p2 := "rows") λ_ _ _ _ _ _ _ _=>rfl
 have FL:=fun_mk (st:=sLaw) lfL cfL kfL
 have cW:Cls K C:=⟨pg,kI,po,sa⟩
 have mC:=Qy X G aC
 have mM:=Qy X G aM
 have y_len:=Zv X G z_len
 have y_sorted:=Zv X G z_sorted
 have y_range:=Zv X G z_range
 have y_min:=Zv X G z_min
 have y_tuple:=Zv X G z_tuple
 have y_list:=Zv X G z_list
 have y_dict:=Zv X G z_dict
 have y_set:=Zv X G z_set
 have y_isinstance:=Zv X G z_isinstance
 have y_str:=Zv X G z_str
 have y_all:=Zv X G z_all
 have y_sum:=Zv X G z_sum
 have y_enumerate:=Zv X G z_enumerate
 have y_zip:=Zv X G z_zip
 have y_int:=Zv X G z_int
 have y_reversed:=Zv X G z_reversed
 have y_ValueError:=Zv X G z_ValueError
 refine⟨PySem.W.fnOf "law" "law" (zck sLaw) (zbs sLaw) (zag sLaw) .none kVfL dcfL pmfL anfL cdfL ctfL,λs v=>.of_eq rfl,λbase _ _=>?_⟩
 have GTake:=ok_draw (P:=l.prog) (w:=w) (mg:=mg) (base:=base) gR
 have GPot:=ok_pot (P:=l.prog) (w:=w) (base:=base) rL y_len y_min y_list y_int
 have GNames:=ok_names (P:=l.prog) (w:=w) (base:=base) wx gR jh iK GTake y_range y_zip
 have GBehind:=ok_behind (P:=l.prog) (w:=w) (base:=base) ww y_len
 have GFace:=ok_face (P:=l.prog) (w:=w) (base:=base) rK ww b14 m14 GBehind
 have GPut:=ok_put (P:=l.prog) (w:=w) (mg:=mg) (base:=base) wu
 have GTie:=ok_tie (P:=l.prog) (w:=w) (base:=base) lY wu rE ql GPut
 have GStep:=ok_step (P:=l.prog) (w:=w) (base:=base) qd gR jh iK GTake y_len
 have GMore:=ok_more (P:=l.prog) (w:=w) (base:=base) wq gR jh iK GTake lY lW lr GTie y_len y_list
 have GAcross:=ok_across (P:=l.prog) (w:=w) (base:=base) wp gR jh iK GTake lY lW lr GTie qd vB sd GStep rK qa mi GFace y_len
 have GFill:=ok_fill (P:=l.prog) (w:=w) (base:=base) wo lY lW lr GTie qd vB sd GStep rK qa mi GFace
 have GAway:=ok_away (P:=l.prog) (w:=w) (base:=base) wn qd vB sd GStep
 have GLong:=ok_long (P:=l.prog) (w:=w) (base:=base) wj lY lW lr GTie y_len y_range
 have GCap:=ok_cap (P:=l.prog) (w:=w) (base:=base) wk y_range y_list y_reversed y_enumerate
 have GRounds:=ok_rounds (P:=l.prog) (w:=w) (base:=base) wg rL b11 m11 GPot wx vC se GNames gR jh iK GTake wj b24 m24 GLong wk b23 m23 GCap wo b21 m21 GFill wq b19 m19 GMore wn b22 m22 GAway wp b20 m20 GAcross y_len y_min y_range
 have GRows:=ok_rows (P:=l.prog) (w:=w) (base:=base) wf gR jh iK GTake y_len
 have GHues:=ok_hues (P:=l.prog) (w:=w) (base:=base) we gR jh iK GTake y_len
 have M0:KsM mg ⟨c0,c1,c2,c3,c4,c5,c6,c7,c8,c9,rD,rC,cX,cV,rB⟩:=⟨Qy X G e_Bridge,Qy X G e_NoCorner,Qy X G e_NoName,Qy X G e_NoRing,Qy X G e_NoText,Qy X G e_NoTie,Qy X G e_NotFlat,Qy X G e_NotOne,Qy X G e_OneWay,Qy X G e_TooMany,Qy X G e_Twice,Qy X G e_Unread,Qy X G e_NoPlace,Qy X G e_NoHue,Qy X G e_HueError⟩
 have GKinds:=ok_kinds (P:=l.prog) (w:=w) (base:=base) wc M0 y_isinstance y_ValueError
 have GChain:=ok_chainX (P:=l.prog) (w:=w) (base:=base) F4 cW nR ⟨jk⟩ M0.cp ⟨x13⟩ M0.ch
 have GExch:=ok_exchX (P:=l.prog) (w:=w) (base:=base) wd F4 b4 m4 GChain
 have GWhy:=ok_why (P:=l.prog) (w:=w) (base:=base) wb M0 wc b29 m29 GKinds F4 b4 m4 GChain wd b28 m28 GExch
 have GIsName:=ok_isname (P:=l.prog) (w:=w) (base:=base) F5 mM y_isinstance y_str y_len y_all
 have GNo:=ok_nonames (P:=l.prog) (w:=w) (base:=base) F6 F5 b5 m5 GIsName
 have GTw:=ok_twice (P:=l.prog) (w:=w) (base:=base) F7 y_len y_set
 have GOne:=ok_oneway (P:=l.prog) (w:=w) (base:=base) F8 y_dict
 have GLeast:=ok_least (P:=l.prog) (w:=w) (base:=base) wy y_min y_tuple
 have GSteps:=ok_steps (P:=l.prog) (w:=w) (base:=base) F0 y_enumerate
 have GFaces:=ok_faces (P:=l.prog) (w:=w) (base:=base) F1 F0 b0 m0 GSteps y_sorted
 have GPiece:=ok_piece (P:=l.prog) (w:=w) (base:=base) F2 y_sorted
 have GPieces:=ok_pieces (P:=l.prog) (w:=w) (base:=base) F3 F2 b2 m2 GPiece y_sorted
 have GFlat:=ok_flat (P:=l.prog) (w:=w) (base:=base) F9 F1 b1 m1 GFaces F3 b3 m3 GPieces y_len y_sum
 have GInit:=ok_init (P:=l.prog) (w:=w) (base:=base) FG0 cW nR F6 b6 m6 GNo F7 b7 m7 GTw F8 b8 m8 GOne wy gO sf GLeast F9 b9 m9 GFlat y_sorted
 exact ok_law FL wg b25 m25 GRounds rL b11 m11 GPot gR jh iK GTake ⟨mk,ag0,ig0,kc⟩ mC bG0 GInit wf b26 m26 GRows we b27 m27 GHues wb b30 m30 GWhy ⟨⟨p12,cS,j12,q12,gs,tk,r12⟩,s12,t12,u12,v12,w12,qf⟩ ⟨⟨p13,n13,j13,q13,gs,tk,r13⟩,s13,t13,u13,v13,w13,y13⟩ y_dict y_range y_len
def walk{l:PySem.W.OpenLaw}{q:Ni}{loose:Nh}{XP:(Str→Option Value)→Heap→Prop}{d:DefRec}{K:Params→PySem.W.Frag}(hn:l.most=some 63)(pe:d.params.defaults=[])(F:∀ (w:Nk) (mg:Nf) (fa:Nc) (h:Nl),(K w.params).In h→h.Ns mainGlobals mg→mg d.name=some (.ref fa) →
   ∃fd:FuncData,(∀(s:Ng) (u:Value),BindsTo s fd ⟨[u],[]⟩ [("_law_script",u)])∧∀base:Heap,(K w.params).In base→base.Ns mainGlobals mg→FnOk l.prog w (K w.params) mg base CX0 6 fa fd ["_law_script"] (spLaw (K w.params))) :
  PySem.W.WalkO q loose XP (λw h=>(K w.params).In h) l.row.toRowW d [] (λf vs=>PySem.call f vs) :=
 L2.walk_of (n:=63) (k:=6) (x := "_law_script") (CX:=λ_=>CX0) (sp:=λw=>spLaw (K w.params)) hn (by decide) pe ⟨rfl,by decide,by decide⟩ (λ_ _ z=>z) F (λ_ _ a ns hl _ hS=>⟨a,ns,rfl,hS,hl,λ_=>rfl⟩) λ_ _ _ _ _ z=>z
end K21
end
section
set_option Elab.async false
set_option linter.all false
open PySem PySem.W PySem.W.X PyProof.Rows
def PySem.W.Fast.tw13898997756911109450:Unit:=()
def PySem.W.Fast.tw18131585392834965513:Unit:=()
def PySem.W.Fast.tw13311274237595672509:Unit:=()
def PySem.W.Fast.tw16713767421668887816:Unit:=()
def PySem.W.Fast.tw11306806731411677019:Unit:=()
def PySem.W.Fast.tw4176391650648760472:Unit:=()
def PySem.W.Fast.tw15767834236040934295:Unit:=()
def PySem.W.Fast.tw5712611074599006804:Unit:=()
def PySem.W.Fast.tw10963413694322802798:Unit:=()
def PySem.W.Fast.tw16649215483107949261:Unit:=()
def PySem.W.Fast.tw10169077187695100719:Unit:=()
def PySem.W.Fast.tw17239467183235814683:Unit:=()
def PySem.W.Fast.tw8028908735623505097:Unit:=()
def PySem.W.Fast.tw10227711471493786973:Unit:=()
def PySem.W.Fast.tw17132052398533411867:Unit:=()
def PySem.W.Fast.tw13112991548813496324:Unit:=()
def PySem.W.Fast.tw1463167298421457981:Unit:=()
def PySem.W.Fast.tw1166574077887291799:Unit:=()
def PySem.W.Fast.tw13069512755396539892:Unit:=()
def PySem.W.Fast.tw11378792499359303091:Unit:=()
def PySem.W.Fast.tw4623887560842053571:Unit:=()
def PySem.W.Fast.tw3372953826579275251:Unit:=()
def PySem.W.Fast.tw5779828826752700797:Unit:=()
def PySem.W.Fast.tw12159992222286865322:Unit:=()
set_option maxRecDepth 100000 in
set_option maxHeartbeats 0 in
theorem PySem.Challenge.cw_fivehues_k34_no_chains_holds : PySem.Challenge.rw_fivehues_k34_no_chains.Holds := by
 w_on;o_law;z_head;(case hw=>w_witness2)
 k_fill
 intro w s0 s1 mg mb G y fa o pm cd doc dV kV ho hd hcd hD hmg hg args vals as L hpre hlay hrd hwl hlo
 z_open y L KX ZH ZN ZT
 refine K21.walk (l:=PySem.Challenge.rw_fivehues_k34_no_chains) rfl rfl ?F w s0 s1 mg mb G KX fa o pm cd doc dV kV ho hd hcd hD hmg hg args vals as hpre hlay hrd hwl hlo
 case F =>
  clear KX ZH ZN ZT L y G hmg hg hpre hlay hrd hwl hlo ho hd hcd hD
  intro w mg fa h KX G hmg
  refine' K21.all_mk KX G hmg ?_ ?_ ?_ ?_ ?_ ?_ ?_ ?_ ?_ ?_ ?_ ?_ ?_ ?_ ?_ ?_ ?_ ?_ ?_ ?_ ?_ ?_ ?_ ?_ ?_ ?_ ?_ ?_ ?_ ?_ ?_ ?_ ?_ ?_ ?_ ?_ ?_ ?_ ?_ ?_ ?_ ?_ ?_ ?_ ?_ ?_ ?_ ?_ ?_ ?_ ?_ ?_ ?_ ?_ ?_ ?_ ?_ ?_ ?_ ?_ ?_ ?_ ?_ ?_ ?_ ?_ ?_ ?_ ?_ ?_ ?aC ?_ ?_ ?_ ?_ ?_ ?_ ?_ ?_ ?_ ?_ ?_ ?_ ?_ ?_ ?_ ?_ ?_ ?_ ?_ ?_ ?_ ?_ ?_ ?_ ?_ ?_ ?_ ?_ ?_ ?_ ?_ ?_ ?_ ?_ ?_ ?_ ?_ ?_ ?_ ?_ ?_ ?_ ?_ ?_ ?_ ?_ ?_ ?_ ?_ ?_ ?_ ?_ ?_ ?_ ?_ ?_ ?_ ?_ ?_ ?_ ?_ ?_ ?_ ?_ ?_ ?_
  (case aC=>k_is)
  all_goals(try first|k_is|kit_is|kts_exm|k_exc|exact⟨_,L2.fun_mk (by k_is) (by k_is) (by k_is)⟩)
end
