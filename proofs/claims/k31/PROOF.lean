import PyProof.Rows.All
import KE.KDictOf
import KE.KDictSum
import KE.KEqDict
import KE.KSortTup
import Lean
import OpenK.AllK
import PyProof.EqAt
import PyProof.EqKinds
import PyProof.TupleCall
import Wide.All
import Wide.FinOn
import PySem.Challenge.RW_fivehues_k31_chains
set_option Elab.async false
set_option linter.all false
set_option maxRecDepth 100000
set_option maxHeartbeats 4000000
abbrev Qa:=@List.length_map
abbrev Qb:=@List.mem_singleton
abbrev Qc:=@List.mem_cons_self
abbrev Qd:=@List.getElem?_eq_getElem
abbrev Qe:=@List.mem_cons
abbrev Qf:=@List.mem_append
abbrev Qg:=@List.mem_cons_of_mem
abbrev Qh:=@List.mem_map
abbrev Qi:=@Nat.le_refl
abbrev Qj:=@PySem.Heap.get?_push_of_some
abbrev Qk:=@Option.some.inj
abbrev Ql:=@List.map_cons
abbrev Qm:=@List.take_succ_eq_append_getElem
abbrev Qn:=@List.mem_append_left
abbrev Qo:=@List.mem_append_right
abbrev Qp:=@List.map_append
abbrev Qq:=@List.length_append
abbrev Qr:=@List.nodup_cons
abbrev Qs:=@List.getElem?_map
abbrev Qt:=@PySem.Heap.lt_size
abbrev Qu:=@List.append_assoc
abbrev Qv:=@List.take_of_length_le
abbrev Qw:=@List.getElem?_eq_some_iff
abbrev Qx:=@List.length_cons
abbrev Qy:=@List.size_toArray
abbrev Qz:=@List.getElem_mem
abbrev Za:=@List.nodup_append
abbrev Zb:=@Ne.symm
abbrev Zc:=@Nat.ne_of_lt
abbrev Zd:=@PySem.Heap.get?_push_size
abbrev Ze:=@List.mem_filter
abbrev Zf:=@Nat.zero_le
abbrev Zg:=@Bool.false_ne_true
abbrev Zh:=@List.nodup_nil
abbrev Zi:=@List.map_map
abbrev Zj:=@List.length_take
abbrev Zk:=@PySem.F.plainAttrs_list
abbrev Zl:=@List.sum_cons
abbrev Zm:=@List.getElem_map
abbrev Zn:=@Nat.le_trans
abbrev Zo:=@PySem.PassesOwn.never
abbrev Zp:=@Nat.lt_of_lt_of_le
abbrev Zq:=@PySem.W.mg_of
abbrev Zr:=@List.getElem_of_mem
abbrev Zs:=@List.getD_eq_getElem?_getD
abbrev Zt:=@List.append_nil
abbrev Zu:=@List.mem_flatten
abbrev Zv:=@PySem.boot_len
abbrev Zw:=@List.filter_cons_of_pos
abbrev Zx:=@List.filter_cons_of_neg
abbrev Zy:=@Int.eq_ofNat_of_zero_le
abbrev Zz:=@PySem.W.mg_none_of
abbrev Ya:=@List.Perm.append_left
abbrev Yb:=@Array.toList_append
abbrev Yc:=@Nat.ne_of_gt
abbrev Yd:=@List.length_range
abbrev Yf:=@Array.perm_iff_toList_perm
abbrev Yh:=@Nat.le_add_right
abbrev Yi:=@List.getElem_inj
abbrev Yj:=@List.mem_of_getElem?
abbrev Yl:=@List.length_pos_of_mem
abbrev Ym:=@PySem.F.type_list_append
abbrev Yn:=@PySem.F.slot_list_append
abbrev Yo:=@List.length_erase_of_mem
abbrev Yp:=@List.append_of_mem
abbrev Yq:=@PyProof.Rows.callWith_type1
abbrev Yr:=@PySem.Paired.length
abbrev Ys:=@List.Nodup.sublist
abbrev Yu:=@Nat.lt_succ_self
abbrev Yv:=@Nat.lt_irrefl
abbrev Yw:=@Array.length_toList
abbrev Yx:=@List.perm_append_comm
abbrev Yy:=@List.flatten_cons
abbrev Yz:=@List.any_eq_true
abbrev Wa:=@List.take_append_drop
abbrev Wc:=@PyProof.Rows.boot_sorted
abbrev Wd:=@List.not_mem_nil
abbrev We:=@List.find?_cons_of_pos
abbrev Wf:=@List.find?_cons_of_neg
abbrev Wg:=@PySem.Around.under_plainId
abbrev Wh:=@PySem.mem_of_lookup
abbrev Wi:=@List.map_congr_left
abbrev Wj:=@List.flatten_append
abbrev Wk:=@List.length_nil
abbrev Wl:=@Bool.eq_iff_iff
abbrev Wm:=@PySem.F.called_set
abbrev Wn:=@Nat.lt_trans
abbrev Wo:=@Sum.inr.inj
abbrev Wp:=@List.pairwise_singleton
abbrev Wq:=@List.pairwise_map
abbrev Wr:=@List.getElem_take
abbrev Ws:=@List.length_pos_iff
abbrev Wt:=@PySem.Heap.size_push
abbrev Wu:=@PyProof.Rows.boot_list
abbrev Wv:=@Array.getD_eq_getD_getElem?
abbrev Ww:=@List.lookup_cons
abbrev Wx:=@PySem.F.slot_dict_keyiterator_next
abbrev Wy:=@List.lt_irrefl
abbrev Wz:=@List.getElem?_append_right
abbrev Ua:=@List.filter_append
abbrev Ub:=@PySem.F.slot_dict_get
abbrev Uc:=@List.mem_of_mem_erase
abbrev Ud:=@Array.getElem?_toList
abbrev Ue:=@PySem.Heap.get?_update_other
abbrev Uf:=@Nat.le_succ
abbrev Ug:=@Nat.le_of_lt
abbrev Uh:=@List.map_take
abbrev Ui:=@List.getElem_range
abbrev Uj:=@Int.emod_lt_of_pos
abbrev Uk:=@Nat.lt_succ_of_lt
abbrev Ul:=@List.take_sublist
abbrev Um:=@Int.toNat_natCast
abbrev Uo:=@PySem.Calls.spliced_cons
abbrev Uq:=@Prod.mk.inj
abbrev Ur:=@List.mem_range
abbrev Us:=@List.mem_of_mem_take
abbrev Ut:=@PyProof.Rows.KeyOrd.kle_trans
abbrev Uu:=@List.cons_append
abbrev Uv:=@List.all_eq_true
abbrev Uw:=@List.filter_sublist
abbrev Ux:=@Prod.ext
abbrev Uy:=@PySem.F.slot_tuple_iterator_next
abbrev Uz:=@List.find?_cons
abbrev Ja:=@List.filter_nil
abbrev Jb:=@Int.emod_nonneg
abbrev Jc:=@List.pairwise_cons
abbrev Jd:=@List.ne_nil_of_mem
abbrev Je:=@Bool.false_eq_true
abbrev Jf:=@PySem.F.entry_dict_get
abbrev Jg:=@Nat.lt_of_succ_lt
abbrev Jh:=@List.reverse_perm
abbrev Ji:=@List.map_nil
abbrev Jj:=@Array.toList_push
abbrev Jk:=@List.length_replicate
abbrev Jl:=@List.length_filter_le
abbrev Jm:=@List.perm_middle
abbrev Jn:=@List.length_drop
abbrev Jo:=@Array.toList_inj
abbrev Jp:=@List.map_drop
abbrev Jq:=@List.perm_cons_erase
abbrev Jr:=@List.getElem_toArray
abbrev Js:=@PySem.Calls.spliced_nil
abbrev Jt:=@PySem.Calls.callWith_builtin
abbrev Ju:=@Array.toList_reverse
abbrev Jv:=@List.nil_append
abbrev Jw:=@List.foldl_cons
abbrev Jx:=@PyProof.Rows.KeyOrd.kle_refl
abbrev Jy:=@List.perm_iff_count
abbrev Jz:=@PySem.Heap.get?_update_self
abbrev Ka:=@PySem.F.slot_enumerate_next
abbrev Kb:=@PyProof.Rows.KeyOrd.kle_of_klt
abbrev Kc:=@List.pairwise_iff_getElem
abbrev Kd:=@List.extract_eq_take_drop
abbrev Ke:=@List.drop_eq_getElem_cons
abbrev Kf:=@Decidable.byContradiction
abbrev Kg:=@Array.getElem?_eq_getElem
abbrev Kh:=@List.reverse_cons
abbrev Ki:=@List.count_append
abbrev Kj:=@PySem.Heap.SameBut.update
abbrev Kk:=@Bool.not_eq_true'
abbrev Kl:=@List.any_cons
abbrev Km:=@List.Pairwise.imp_of_mem
abbrev Kn:=@PySem.W.KasT.kasWp_bind
abbrev Ko:=@PySem.SeqAt.EqAt.str_str
abbrev Kp:=@PySem.F.type_list_index
abbrev Kq:=@PySem.F.slot_list_index
abbrev Kr:=@PySem.Obj.data_mapFields
abbrev Ks:=@Nat.succ_ne_self
abbrev Kt:=@List.cons_ne_nil
abbrev Ku:=@Bool.and_eq_true
abbrev Kv:=@Array.toList_map
abbrev Kw:=@List.idxOf_cons
abbrev Kx:=@List.filter_map
abbrev Ky:=@List.count_cons
abbrev Kz:=@Int.natCast_add
abbrev Xa:=@Bool.or_eq_true
abbrev Xb:=@PySem.W.methodCall_KW
abbrev Xc:=@PyProof.Rows.boot_min
abbrev Xd:=@List.singleton_append
abbrev Xe:=@List.length_singleton
abbrev Xf:=@List.getElem?_eq_none
abbrev Xg:=@PySem.F.slot_list_getattribute
abbrev Na:=PySem.Value→PySem.Shared→Prop
abbrev Nb:=PySem.W.Frag
abbrev Nc:=PySem.Addr
abbrev Nd:=List (PySem.Addr×PySem.Obj)
abbrev Nf:=List PySem.Str
abbrev Ng:=PySem.Str→Option PySem.Value
abbrev Nh:=PySem.Shared
abbrev Ni:=List PySem.Value
abbrev Nj:=PySem.Program
abbrev Nk:=List PySem.Addr
abbrev Nl:=PySem.World
abbrev Nm:=PySem.Heap
abbrev Nn:=PySem.Around
abbrev No:=PySem.FuncData
abbrev Np:=List PySem.Expr
abbrev Nq:=List (Option Nat)
abbrev Nr:=List (PySem.Str×PySem.Str)
abbrev Nt:=PySem.Result→PySem.Shared→Prop
abbrev Nu:=PySem.Str→PySem.Str
section
set_option Elab.async false
inductive Ex1{T0:Sort _}(P:T0→Prop):Prop
 |mk (x0:T0) (h:P x0):Ex1 P
inductive Ex2{T0:Sort _}{T1:Sort _}(P:T0→T1→Prop):Prop
 |mk (x0:T0) (x1:T1) (h:P x0 x1):Ex2 P
inductive Ex3{T0:Sort _}{T1:Sort _}{T2:Sort _}(P:T0→T1→T2→Prop):Prop
 |mk (x0:T0) (x1:T1) (x2:T2) (h:P x0 x1 x2):Ex3 P
inductive Ex4{T0:Sort _}{T1:Sort _}{T2:Sort _}{T3:Sort _}(P:T0→T1→T2→T3→Prop):Prop
 |mk (x0:T0) (x1:T1) (x2:T2) (x3:T3) (h:P x0 x1 x2 x3):Ex4 P
inductive Ex5{T0:Sort _}{T1:Sort _}{T2:Sort _}{T3:Sort _}{T4:Sort _}(P:T0→T1→T2→T3→T4→Prop):Prop
 |mk (x0:T0) (x1:T1) (x2:T2) (x3:T3) (x4:T4) (h:P x0 x1 x2 x3 x4):Ex5 P
inductive Ex6{T0:Sort _}{T1:Sort _}{T2:Sort _}{T3:Sort _}{T4:Sort _}{T5:Sort _}(P:T0→T1→T2→T3→T4→T5→Prop):Prop
 |mk (x0:T0) (x1:T1) (x2:T2) (x3:T3) (x4:T4) (x5:T5) (h:P x0 x1 x2 x3 x4 x5):Ex6 P
structure Aj2(p0 p1:Prop):Prop where
 h0:p0
 h1:p1
structure Aj3(p0 p1 p2:Prop):Prop where
 h0:p0
 h1:p1
 h2:p2
structure Aj4(p0 p1 p2 p3:Prop):Prop where
 h0:p0
 h1:p1
 h2:p2
 h3:p3
structure Aj5(p0 p1 p2 p3 p4:Prop):Prop where
 h0:p0
 h1:p1
 h2:p2
 h3:p3
 h4:p4
structure Aj6(p0 p1 p2 p3 p4 p5:Prop):Prop where
 h0:p0
 h1:p1
 h2:p2
 h3:p3
 h4:p4
 h5:p5
structure Aj7(p0 p1 p2 p3 p4 p5 p6:Prop):Prop where
 h0:p0
 h1:p1
 h2:p2
 h3:p3
 h4:p4
 h5:p5
 h6:p6
structure Aj8(p0 p1 p2 p3 p4 p5 p6 p7:Prop):Prop where
 h0:p0
 h1:p1
 h2:p2
 h3:p3
 h4:p4
 h5:p5
 h6:p6
 h7:p7
structure Aj9(p0 p1 p2 p3 p4 p5 p6 p7 p8:Prop):Prop where
 h0:p0
 h1:p1
 h2:p2
 h3:p3
 h4:p4
 h5:p5
 h6:p6
 h7:p7
 h8:p8
def zar1{a b:Nat}(h:a<b):b-(a+1)<b-a:=Nat.sub_lt_sub_left h (Yu a)
def zar3{a b:Nat}(h:a≤b)(k:¬a<b):a=b:=Nat.le_antisymm h (Nat.le_of_not_lt k)
def zar4{a b:Nat}(h:a≤b):a+1≤b+1:=Nat.succ_le_succ h
def zar6{a b c:Nat}(e:a=b)(h:c<b):c<a:=e▸h
def zar7{a b c:Nat}(e:a=b)(h:c<a):c<b:=e▸h
def zar8{a b:Nat}(h:(a:Int)<(b:Int)):a<b:=Int.ofNat_lt.mp h
def zar9{a b:Nat}(h:a<b):(a:Int)<(b:Int):=Int.ofNat_lt.mpr h
def zar10{a b:Nat}(h:a<b)(k:b≤a):False:=Yv _ (Zp h k)
def zdw{a b c:Nat}(h:a≤b)(e:a=c):c≤b:=e▸h
def zar16{a b:Nat}(h:a≤b):a≤b+1:=Nat.le_succ_of_le h
end
section
set_option Elab.async false
set_option linter.all false
set_option maxRecDepth 100000
namespace L2
open PySem PySem.Spec PyProof.Rows
abbrev Key:=Sum Int Str
def keyIs:Key→Value→Bool
 |.inl k,v=>Value.isInt k v
 |.inr x,v=>Value.isStrOf x v
def keyH(w:Nl):Key→Int
 |.inl k=>hashInt k
 |.inr x=>hashStr w x
theorem zbj:∀{k:Key} {v:Value},keyIs k v=true→(∃i t,k=Sum.inl i∧v=Value.int i t)∨(∃x t,k=Sum.inr x∧v=Value.str x t)
 |.inl i,v,h=>by
  obtain⟨t,e⟩:=Value.isInt_shape (k:=i) (v:=v) h
  exact .inl ⟨i,t,rfl,e⟩
 |.inr x,v,h=>by
  obtain⟨t,e⟩:=Value.isStrOf_shape (x:=x) (v:=v) h
  exact .inr ⟨x,t,rfl,e⟩
def keyIs_int(i:Int)(t:Tok):keyIs (.inl i) (.int i t)=true:=by simp[keyIs,Value.isInt]
def keyIs_str(x:Str)(t:Tok):keyIs (.inr x) (.str x t)=true:=by simp[keyIs,Value.isStrOf]
def key_ll(a b:Int):decide ((Sum.inl a:Key)=Sum.inl b)=(a==b):=by
 by_cases e:a=b
 ·subst e;simp
 ·have h:¬ (Sum.inl a:Key)=Sum.inl b:=fun q=>e (Sum.inl.inj q)
  rw[decide_eq_false h]
  exact(beq_eq_false_iff_ne.mpr e).symm
def key_rr(a b:Str):decide ((Sum.inr a:Key)=Sum.inr b)=decide (a=b):=by
 by_cases e:a=b
 ·subst e;simp
 ·have h:¬ (Sum.inr a:Key)=Sum.inr b:=fun q=>e (Wo q)
  rw[decide_eq_false h,decide_eq_false e]
def key_lr(a:Int)(b:Str):decide ((Sum.inl a:Key)=Sum.inr b)=false:=decide_eq_false (λq=>nomatch q)
def key_rl(a:Str)(b:Int):decide ((Sum.inr a:Key)=Sum.inl b)=false:=decide_eq_false (λq=>nomatch q)
def zat(prog:Nj)(w:Nl):PySem.KeyKind prog w Key where
 is:=keyIs
 hash:=keyH w
 inj:=λv a b ha hb=>by
  rcases zbj ha with⟨i,t,rfl,rfl⟩ | ⟨x,t,rfl,rfl⟩
  ·rcases zbj hb with ⟨j,u,rfl,e⟩ | ⟨y,u,rfl,e⟩
   ·injection e with e1 _;rw[e1]
   ·exact nomatch e
  ·rcases zbj hb with ⟨j,u,rfl,e⟩ | ⟨y,u,rfl,e⟩
   ·exact nomatch e
   ·injection e with e1 _;rw[e1]
 byValue:=λk v h=>by
  rcases zbj h with⟨i,t,rfl,rfl⟩ | ⟨x,t,rfl,rfl⟩<;>rfl
 pyHash:=λhv h=>by
  rcases zbj hv with⟨i,t,rfl,rfl⟩ | ⟨x,t,rfl,rfl⟩
  ·exact wpAny_pyHash_int h
  ·exact wpAny_pyHash_str h
 eqBool:=λhu hv h=>by
  rcases zbj hu with⟨i,t,rfl,rfl⟩ | ⟨x,t,rfl,rfl⟩
  ·rcases zbj hv with ⟨j,u,rfl,rfl⟩ | ⟨y,u,rfl,rfl⟩
   ·rw[key_ll]at h;exact wpAny_eqBool_int h
   ·rw[key_lr]at h;exact SeqAt.EqAt.int_str i t y u _ _ _ _ h
  ·rcases zbj hv with ⟨j,u,rfl,rfl⟩ | ⟨y,u,rfl,rfl⟩
   ·rw[key_rl]at h;exact SeqAt.EqAt.str_int x t j u _ _ _ _ h
   ·rw[key_rr]at h;exact wpAny_eqBool_str h
 «strs»:=λk x t v h=>by
  rcases zbj h with⟨i,u,rfl,e⟩ | ⟨y,u,rfl,e⟩
  ·exact nomatch e
  ·injection e with e1 _
   subst e1
   cases v<;>rfl
def mixKind_int(prog:Nj)(w:Nl)(i:Int)(t:Tok):(zat prog w).is (.inl i) (.int i t)=true:=keyIs_int i t
def zf6(prog:Nj)(w:Nl)(x:Str)(t:Tok):(zat prog w).is (.inr x) (.str x t)=true:=keyIs_str x t
end L2
namespace L2
open PySem PySem.Spec PyProof.Rows
inductive V where
 |non | bl (b:Bool) | int (i:Int) | str (x:Str) | byt (b:Array UInt8) | flt (b:UInt64) | ref (a:Nc) | ty (n:String)
 deriving DecidableEq
def RelV:V→Value→Prop
 |.non,u=>u=Value.none
 |.bl b,u=>u=Value.bool b
 |.int i,u=>∃t,u=Value.int i t
 |.str x,u=>∃t,u=Value.str x t
 |.byt b,u=>∃t,u=Value.bytes b t
 |.flt b,u=>∃t,u=Value.float b t
 |.ref a,u=>u=Value.ref a
 |.ty n,u=>u=Value.type n
abbrev Vals:List V→List Value→Prop:=Paired RelV
def Vals.length{xs:List V}{us:Ni}(r:Vals xs us):xs.length=us.length:=Yr r
theorem Vals.get:∀{xs:List V} {us:Ni} {i:Nat} {x:V},Vals xs us→xs[i]?=some x→∃u,us[i]?=some u∧RelV x u
 |_,_,_,_,.nil,e=>by simp at e
 |_,_,0,_,.cons r _,e=>by simp at e;subst e;exact⟨_,rfl,r⟩
 |_,_,i+1,x,.cons _ t,e=>by
  obtain⟨u,h1,h2⟩:=Vals.get (i:=i) (x:=x) t (by simpa using e)
  exact⟨u,by simpa using h1,h2⟩
theorem Vals.set{x:V}{u:Value}(r:RelV x u):∀{xs:List V} {us:Ni} (i:Nat),Vals xs us→Vals (xs.set i x) (us.set i u)
 |_,_,_,.nil=>.nil
 |_,_,0,.cons _ t=>.cons r t
 |_,_,i+1,.cons q t=>.cons q (Vals.set r i t)
theorem Vals.append:∀{xs ys:List V} {us ws:Ni},Vals xs us→Vals ys ws→Vals (xs++ys) (us++ws)
 |_,_,_,_,.nil,s=>s
 |_,_,_,_,.cons r t,s=>.cons r (Vals.append t s)
theorem Vals.take:∀{xs:List V} {us:Ni} (n:Nat),Vals xs us→Vals (xs.take n) (us.take n)
 |_,_,0,_=>.nil
 |_,_,_+1,.nil=>.nil
 |_,_,n+1,.cons r t=>.cons r (Vals.take n t)
theorem Vals.drop:∀{xs:List V} {us:Ni} (n:Nat),Vals xs us→Vals (xs.drop n) (us.drop n)
 |_,_,0,r=>r
 |_,_,_+1,.nil=>.nil
 |_,_,n+1,.cons _ t=>Vals.drop n t
def RelO:Option V→Option Value→Prop
 |some v,some u=>RelV v u
 |none,none=>True
 |_,_=>False
def KV{κ:Type}:List (κ×V)→List (κ×Value)→Prop:=Paired λ(p:κ×V) (q:κ×Value)=>p.1=q.1∧RelV p.2 q.2
def kV:Key→V
 |.inl i=>.int i
 |.inr x=>.str x
inductive HO where
 /-- a list -/
 |lst (xs:List V)
 /-- a tuple (never changes) -/
 |tup (xs:List V)
 /-- a dict whose keys are ints and texts;one whose keys are tuples of ints and texts (the empty one is both) -/
 |dK (kvs:List (Key×V)) | dT (kvs:List (List Key×V))
 /-- a set of ints: a8 members,a8 size -/
 |set (S:Int→Bool) (n:Nat)
 /-- an instance of the class at C,a8 dict at dx,a8 attributes -/
 |ins (C dx:Nc) (fs:List (Str×V))
 /-- the dict of the instance at x -/
 |own (x:Nc)
 /-- the dict of an exception -/
 |xd (fs:List (Str×V))
 /-- a bound method,f of x -/
 |met (f x:Nc)
 /-- a range object lo,lo+1,.. below hi -/
 |rng (lo hi:Int)
 /-- a thing that is known to the object (the script;a dict while a loop walks it): read,never written while it is so -/
 |frz (o:Obj) (u:HO)
 /-- a code object's table -/
 |tbl (ps:Array Value)
 /-- any other thing,by what is true of a8 one object (a def of one's own: SetO a S n:=HO.ext λh=>..) -/
 |ext (φ:Heap→Prop)
abbrev Hp:=Addr→Option HO
def upd(H:Hp)(a:Nc)(o:HO):Hp:=λb=>if b=a then some o else H b
def zac{H:Hp}{a:Nc}{o:HO}:upd H a o a=some o:=by unfold upd;rw[if_pos rfl]
def zad{H:Hp}{a b:Nc}{o:HO}(h:b≠a):upd H a o b=H b:=by unfold upd;rw[if_neg h]
def upd_upd{H:Hp}{a:Nc}{o u:HO}:upd (upd H a o) a u=upd H a u:=by
 funext b;unfold upd;split<;>rfl
def za5{H:Hp}{a b:Nc}{o u:HO}(h:H a=some o)(h':H b=some u)(d:o≠u):a≠b:=by
 intro e;subst e;rw[h]at h';exact d (Qk h')
def zaa{H:Hp}{a b:Nc}{o:HO}(h:H a=some o)(h':H b=none):a≠b:=by
 intro e;subst e;rw[h]at h';cases h'
section
variable(P:Nj)(w:Nl)
def zbq(H:Hp)(h:Nm)(a:Nc):HO→Prop
 |.lst xs=>xs.length≤sizeLine∧∃(a8:Ni) (n:Nat),Vals xs a8∧h.get? a=some {cls:=.type "list",data:=.seq a8.toArray n}
 |.tup xs=>xs.length≤sizeLine∧∃a8:List Value,Vals xs a8∧IsTup h a a8.toArray
 |.dK kvs=>kvs.length≤sizeLine∧(a==sysModules)=false∧∃vs,KV kvs vs∧h.DictOf (zat P w) a vs
 | .dT kvs=>kvs.length≤sizeLine∧(a == sysModules)=false∧∃ xs:List (List Key×Addr×Value),
   Paired (λ(p:List Key×V) (q:List Key×Addr×Value)=>p.1=q.1∧H q.2.1=some (.tup (p.1.map kV))∧RelV p.2 q.2.2) kvs xs ∧
   ∃o es ep,h.get? a=some o∧o.ExactDict∧o.data=.dict es ep∧es.toList=xs.map (entryOfKey (tupleKind (zat P w)))∧(xs.map (·.1)).Nodup
 |.set S n=>h.SetOf (intKind P w) a S n
 | .ins C dx fs=>H dx=some (.own a)∧fs.length≤1000∧dx≠a∧h.get? a=some (PySem.W.instObj C dx) ∧
   ∃mA,h.Ns1 dx mA∧(∀f,RelO (fs.lookup f) (mA f))∧PySem.Within mA (fs.map (·.1))
 |.own _=>∃o,h.get? a=some o
 |.xd fs=>∃mA,h.Ns1 a mA∧∀f,RelO (fs.lookup f) (mA f)
 |.rng lo hi=>∃t u v,h.get? a=some {cls:=.type "range",data:=.fields #[.int lo t,.int hi u,.int 1 v]}
 |.frz o u=>h.get? a=some o∧zbq H h a u
 |.tbl ps=>h.get? a=some {cls:=.none,data:=.fields ps}
 |.met f x=>h.get? a=some (PySem.W.methodObj (.ref f) (.ref x))
 |.ext φ=>φ h∧(∃o,h.get? a=some o)∧∀h1 h2:Heap,φ h1→(∀o,h1.get? a=some o→h2.get? a=some o)→φ h2
def HOk(H:Hp)(h:Nm):Prop:=∀a o,H a=some o→zbq P w H h a o
end
section
variable{P:Nj}{w:Nl}{H H':Hp}{h h':Nm}{a:Nc}{o:HO}
def zbq.lt(x:zbq P w H h a o):a<h.objs.size:=by
 cases o with
 |lst xs=>obtain⟨_,_,_,_,e⟩:=x;exact Qt e
 |tup xs=>obtain⟨_,_,_,p⟩:=x;exact p.lt
 |dK kvs=>obtain⟨_,_,_,_,o,_,_,e,_⟩:=x;exact Qt e
 |dT kvs=>obtain⟨_,_,_,_,o,_,_,e,_⟩:=x;exact Qt e
 |set S n=>obtain⟨o,_,_,_,e,_⟩:=x;exact Qt e
 |ins C dx fs=>obtain⟨_,_,_,e,_⟩:=x;exact Qt e
 |own y=>obtain⟨_,e⟩:=x;exact Qt e
 |xd fs=>obtain⟨_,⟨_,_,_,e,_⟩,_⟩:=x;exact Qt e
 |rng lo hi=>obtain⟨_,_,_,e⟩:=x;exact Qt e
 |frz ob u=>obtain⟨e,_⟩:=x;exact Qt e
 |tbl ps=>exact Qt (show h.get? a=some _ from x)
 |met f y=>exact Qt (show h.get? a=some _ from x)
 |ext φ=>obtain⟨_,⟨_,e⟩,_⟩:=x;exact Qt e
theorem Paired.mapP{α β:Type}{F G:α→β→Prop}:∀{l₁:List α} {l₂:List β},Paired F l₁ l₂→(∀a b,F a b→G a b)→Paired G l₁ l₂
 |_,_,.nil,_=>.nil
 |_,_,.cons r t,f=>.cons (f _ _ r) (Paired.mapP t f)
def Paired.imp'{α β:Type}{F G:α→β→Prop}(f:∀a b,F a b→G a b){l₁:List α}{l₂:List β}(r:Paired F l₁ l₂):Paired G l₁ l₂:=Paired.mapP r f
def zbq.stay(x:zbq P w H h a o)(k:∀b u,(b=a∨H b=some (.own a))→h.get? b=some u→h'.get? b=some u)(ho:∀b,H b=some (.own a)→H' b=some (.own a))(ht:∀b xs,H b=some (.tup xs)→H' b=some (.tup xs)):zbq P w H' h' a o:=by
 induction o with
 |lst xs=>obtain⟨z,a8,n,r,e⟩:=x;exact⟨z,a8,n,r,k _ _ (.inl rfl) e⟩
 |tup xs=>obtain⟨z,a8,r,ob,e,c⟩:=x;exact⟨z,a8,r,ob,k _ _ (.inl rfl) e,c⟩
 |dK kvs=>obtain⟨z,y,vs,r,ob,es,ep,e,c⟩:=x;exact⟨z,y,vs,r,ob,es,ep,k _ _ (.inl rfl) e,c⟩
 |dT kvs =>
  obtain⟨z,y,xs,r,ob,es,ep,e,c⟩:=x
  exact⟨z,y,xs,Paired.mapP r λp q z=>⟨z.1,ht _ _ z.2.1,z.2.2⟩,ob,es,ep,k _ _ (.inl rfl) e,c⟩
 |set S n=>obtain⟨ob,es,ep,t,e,c⟩:=x;exact⟨ob,es,ep,t,k _ _ (.inl rfl) e,c⟩
 |ins C dx fs =>
  obtain⟨d,z,ne,e,mA,⟨od,es,ep,e2,c⟩,r⟩:=x
  exact⟨ho _ d,z,ne,k _ _ (.inl rfl) e,mA,⟨od,es,ep,k _ _ (.inr d) e2,c⟩,r⟩
 |own y=>obtain⟨ob,e⟩:=x;exact⟨ob,k _ _ (.inl rfl) e⟩
 |xd fs=>obtain⟨mA,⟨od,es,ep,e,c⟩,r⟩:=x;exact⟨mA,⟨od,es,ep,k _ _ (.inl rfl) e,c⟩,r⟩
 |rng lo hi=>obtain⟨t,u,v,e⟩:=x;exact⟨t,u,v,k _ _ (.inl rfl) e⟩
 |frz ob u ih=>obtain⟨e,q⟩:=x;exact⟨k _ _ (.inl rfl) e,ih q⟩
 |tbl ps =>
  have e:h.get? a=some {cls:=.none,data:=.fields ps}:=x
  show h'.get? a=some {cls:=.none,data:=.fields ps}
  exact k a _ (.inl rfl) e
 |met f y =>
  have e:h.get? a=some (PySem.W.methodObj (.ref f) (.ref y)):=x
  show h'.get? a=some (PySem.W.methodObj (.ref f) (.ref y))
  exact k a _ (.inl rfl) e
 |ext φ=>obtain⟨p,⟨o,e⟩,st⟩:=x;exact⟨st _ _ p λo q=>k _ _ (.inl rfl) q,⟨o,k _ _ (.inl rfl) e⟩,st⟩
def HOk.lt(x:HOk P w H h)(e:H a=some o):a<h.objs.size:=(x a o e).lt
def HOk.fresh(x:HOk P w H h)(e:h.objs.size≤a):H a=none:=by
 cases q:H a with
 |none=>rfl
 |some u=>exact absurd (Zp (x.lt q) e) (Yv _)
def HOk.kept(x:HOk P w H h)(k:∀b u,h.get? b=some u→h'.get? b=some u):HOk P w H h':=λa o e =>
 (x a o e).stay (λb u _ q=>k b u q) (λ_ q=>q) λ_ _ q=>q
def HOk.laid(x:HOk P w H h)(k:∀b u,h.get? b=some u→h'.get? b=some u)(hp:h.objs.size≤a)(new:zbq P w (upd H a o) h' a o):HOk P w (upd H a o) h':=λb u e=>by
 have hn:=x.fresh hp
 by_cases hb:b=a
 ·subst hb;rw[zac]at e;cases e;exact new
 ·rw [zad hb] at e
  exact(x b u e).stay (λc v _ q=>k c v q) (λc q=>by rw[zad (zaa q hn)];exact q) λc xs q=>by rw[zad (zaa q hn)];exact q
end
def Rd(H:Hp)(a:Nc)(u:HO):Prop:=H a=some u∨∃o,H a=some (.frz o u)
def Rd.ok{P:Nj}{w:Nl}{H:Hp}{h:Nm}{a:Nc}{u:HO}(r:Rd H a u)(x:HOk P w H h):zbq P w H h a u:=by
 rcases r with r | ⟨o,r⟩
 ·exact x a u r
 ·obtain ⟨_,q⟩:=x a _ r
  exact q
def Mut:Option HO→Prop
 |some (.lst _)=>True
 |some (.dK _)=>True
 |some (.dT _)=>True
 |some (.set _ _)=>True
 |some (.ins _ _ _)=>True
 |some (.ext _)=>True
 |_=>False
section
variable{P:Nj}{w:Nl}{H:Hp}{h h':Nm}{x e:Nc}{o':HO}
def HOk.write(ok:HOk P w H h)(mu:Mut (H x))(he:e=x∨H e=some (.own x))(k:∀ b u,b≠e→h.get? b=some u→h'.get? b=some u)(eQ:∃ u,h'.get? e=some u)(new:zbq P w (upd H x o') h' x o'):HOk P w (upd H x o') h':=λb u q=>by
 have nown:∀c y,H c=some (.own y)→c≠x:=λc y r z=>by subst z;rw[r]at mu;exact mu
 have ntup:∀c xs,H c=some (.tup xs)→c≠x:=λc xs r z=>by subst z;rw[r]at mu;exact mu
 by_cases hb:b=x
 ·subst hb;rw[zac]at q;cases q;exact new
 ·rw [zad hb] at q
  by_cases gK:b=e
  ·have q':H b=some (.own x):=by
    rcases he with z | z
    ·exact absurd (gK.trans z) hb
    ·rw[gK];exact z
   rw[q]at q';cases q'
   obtain⟨v,hv⟩:=eQ
   exact⟨v,by rw[gK];exact hv⟩
  ·refine (ok b u q).stay (fun c v hc r=>k c v ?_ r) (fun c r=>by rw [zad (nown c b r)];exact r) fun c xs r=>by rw [zad (ntup c xs r)];exact r
   rcases hc with rfl | hc
   ·exact gK
   ·rintro rfl
    rcases he with z | z
    ·exact nown c b hc z
    ·rw[hc]at z;cases z;exact hb rfl
end
structure Un(fs ex:Nk)(H H':Hp)(h h':Nm):Prop where
 keep:∀b o,h.get? b=some o→H b=none→b∉fs→b∉ex→h'.get? b=some o
 slot:∀b o,h.get? b=some o→H b=none→b∈fs→b∉ex→∃sl,h'.get? b=some {o with slots:=sl}
 free:∀b o,h.get? b=some o→H b=none→b∉ex→H' b=none
 there:∀b o,h.get? b=some o→b∉ex→∃o',h'.get? b=some o'
 tups:∀b xs,H b=some (.tup xs)→H' b=some (.tup xs)
 frzs:∀b o u,H b=some (.frz o u)→H' b=some (.frz o u)
 tbls:∀b ps,H b=some (.tbl ps)→∃more,H' b=some (.tbl (ps++more))
section
variable{fs fs' ex ex':Nk}{H H1 H2:Hp}{h h1 h2 h':Nm}{a x e:Nc}{o:HO}
def Un.any(u:Un fs ex H H1 h h1){b:Nc}{ob:Obj}(q:h.get? b=some ob)(n:H b=none)(hx:b∉ex):∃sl,h1.get? b=some {ob with slots:=sl}:=by
 by_cases hb:b∈fs
 ·exact u.slot b ob q n hb hx
 ·exact⟨ob.slots,u.keep b ob q n hb hx⟩
def Un.kept(k:∀b u,h.get? b=some u→h'.get? b=some u):Un fs ex H H h h' :=
 ⟨λb ob q _ _ _=>k b ob q,λb ob q _ _ _=>⟨ob.slots,k b ob q⟩,λ_ _ _ n _=>n,λb ob q _=>⟨ob,k b ob q⟩,λ_ _ q=>q,λ_ _ _ q=>q,λ_ ps q=>⟨#[],by rw[q];simp⟩⟩
def Un.refl:Un fs ex H H h h:=Un.kept λ_ _ q=>q
theorem Un.laid(k:∀b u,h.get? b=some u→h'.get? b=some u)(hp:h.objs.size≤a)(hn:H a=none):Un fs ex H (upd H a o) h h' where
 keep:=λb u q _ _ _=>k b u q
 slot:=λb u q _ _ _=>⟨u.slots,k b u q⟩
 free:=λb u q n _=>by rw[zad (Zc (Zp (Qt q) hp))];exact n
 there:=λb u q _=>⟨u,k b u q⟩
 tups:=λb xs q=>by rw[zad (zaa q hn)];exact q
 frzs:=λb u xs q=>by rw[zad (zaa q hn)];exact q
 tbls:=λb ps q=>⟨#[],by rw[zad (zaa q hn),q];simp⟩
def Un.write(mu:Mut (H x))(he:e=x∨H e=some (.own x))(k:∀b u,b≠e→h.get? b=some u→h'.get? b=some u)(eQ:∃u,h'.get? e=some u):Un fs ex H (upd H x o) h h':=by
 have hx:∀b,H b=none→b≠x:=λb n z=>by subst z;rw[n]at mu;exact mu
 have hb:∀b,H b=none→b≠e:=λb n z=>by
  subst z
  rcases he with r | r
  ·exact hx b n r
  ·rw[n]at r;cases r
 have hm:∀b u,H b=some u→¬Mut (some u)→b≠x:=λb u q nm z=>by subst z;rw[q]at mu;exact nm mu
 refine⟨λb u q n _ _=>k b u (hb b n) q,λb u q n _ _=>⟨u.slots,k b u (hb b n) q⟩,λb u q n _=>by rw[zad (hx b n)];exact n,λb u q _=>?_,
  λb xs q=>by rw[zad (hm b _ q λz=>z)];exact q,λb u xs q=>by rw[zad (hm b _ q λz=>z)];exact q,λb ps q=>⟨#[],by rw[zad (hm b _ q λz=>z),q];simp⟩⟩
 by_cases gK:b=e
 ·subst gK;exact eQ
 ·exact⟨u,k b u gK q⟩
end
def trk(h:Nm)(H:Hp):List Addr:=(List.range h.objs.size).filter λa=>(H a).isSome
def hidT(h:Nm)(H:Hp):Heap:=PySem.W.hideAll h (trk h H)
def hidT_size(h:Nm)(H:Hp):(hidT h H).objs.size=h.objs.size:=PySem.W.hideAll_size _ _
def hidT_get{h:Nm}{H:Hp}{b:Nc}{o:Obj}(e:h.get? b=some o)(n:H b=none):(hidT h H).get? b=some o :=
 PySem.W.hideAll_get _ e λhm=>by
  have q:(H b).isSome=true:=(Ze.mp hm).2
  rw[n]at q;simp at q
def of_hidT{h:Nm}{H:Hp}{b:Nc}{o:Obj}(e:(hidT h H).get? b=some o):h.get? b=some o∧H b=none:=by
 have e':h.get? b=some o:=PySem.W.of_hideAll (trk h H) e
 refine⟨e',?_⟩
 cases q:H b with
 |none=>rfl
 |some x =>
  have hm:b∈trk h H:=Ze.mpr ⟨Ur.mpr (Qt e'),by simp[q]⟩
  have z:(hidT h H).get? b=none:=PySem.W.hideAll_none (trk h H) hm
  rw[z]at e;cases e
end L2
namespace L2
open PySem PySem.Spec PyProof.Rows
structure Mod(K:Nb)(mg:Ng)(base:Nm):Prop where
 kin:K.In base
 glob:base.Ns mainGlobals mg
 blt:∃mb,base.Ns builtinsNs mb∧∀x:Str,x ≠ "__name__" → mb x=bootBuiltins x
 nolimit:base.NoLimit
structure Cx where
 prog:Program
 w:World
 K:PySem.W.Frag
 mg:Str→Option Value
 base:Heap
 A:Around
 N:List Str
 s₀:Shared
 H₀:Hp
 env:Env
 outer:List Env
 stack:List Env
 ex:List Addr
 fn:Str→Bool
 calm:Bool
 pn:List (Addr×Obj)
 xe:Value→Shared→Prop
def frs(l:List Env):List Addr:=l.filterMap (·.frame)
abbrev Cx.fs(X:Cx):List Addr:=frs X.outer
def Vis(sc:Scope)(x:Str):Prop:=sc.names.lookup x=some .local∨sc.names.lookup x=some .cell∨sc.names.lookup x=some .free
def Loc(sc:Scope)(x:Str):Prop:=sc.names.lookup x=some .local∨sc.names.lookup x=some .cell
def Look(env:Env)(h:Nm)(m:Ng)(x:Str)(u:Value):Prop :=
 (env.kindOf x=some .local∧m x=some u)∨((env.kindOf x=some .cell∨env.kindOf x=some .free)∧∃c,env.cells.lookup x=some c∧h.IsCell c (some u))
structure Cx.Ok(X:Cx):Prop where
 mod:Mod X.K X.mg X.base
 kind:X.env.scope.kind=.function
 glob:X.env.globals=mainGlobals
 blt:X.env.builtins=builtinsNs
 above:X.s₀.heap.objs.size≤X.env.locals
 inj:∀x y c,X.env.cells.lookup x=some c→X.env.cells.lookup y=some c→x=y
 has:∀x,(X.env.kindOf x=some .cell∨X.env.kindOf x=some .free)→∃c,X.env.cells.lookup x=some c
 cab:∀x c,X.fn x=true→X.env.cells.lookup x=some c→X.s₀.heap.objs.size≤c
 hd:X.calm=true→X.A.handled=none
 frames:X.A.frames=some X.stack
 stk:X.stack=X.outer∨(X.stack=X.env::X.outer∧X.env.frame=some X.env.locals)
 exf:∀b∈X.ex,b≠X.env.locals∧∀x c,X.env.cells.lookup x=some c→c≠b
 bs:∀b o,X.base.get? b=some o→X.s₀.heap.get? b=some o∧X.H₀ b=none
 bsz:X.base.objs.size≤X.s₀.heap.objs.size
 noex:∀b o,X.base.get? b=some o→b∉X.ex
 exfs:∀b∈X.ex,b∉X.fs
 funs:X.s₀.heap.FunFrames X.base X.outer
 frf:∀b∈X.fs,X.H₀ b=none
structure Inv(X:Cx)(a7:Nd)(σ:List (Option V))(H:Hp)(s:Nh):Prop where
 ok:X.Ok
 os:s.os=X.s₀.os
 bare:AllBare s.gens
 base:Un X.fs X.ex X.H₀ H X.s₀.heap s.heap
 loc:∃m,s.heap.Ns X.env.locals m∧∀(i:Nat) (x:Str) (v:V),X.N[i]?=some x→σ[i]?=some (some v)→Vis X.env.scope x→∃u,RelV v u∧Look X.env s.heap m x u
 cell:∀x c,X.env.cells.lookup x=some c→∃v,s.heap.IsCell c v
 free:H X.env.locals=none
 freeC:∀x c,X.env.cells.lookup x=some c→H c=none
 pin:∀p∈X.pn++a7,s.heap.get? p.1=some p.2∧H p.1=none∧p.1≠X.env.locals∧p.1∉X.fs∧∀v,p.2.data≠.cell v
 hok:HOk X.prog X.w H s.heap
 len:σ.length=X.N.length
section
variable{X:Cx}{a7:Nd}{σ:List (Option V)}{H H':Hp}{s:Nh}{h':Nm}
def Cx.Ok.nofr(ok:X.Ok){b:Nc}{o:Obj}(e:X.base.get? b=some o):b∉X.fs:=λhb=>by
 have:=(ok.funs.mem hb).1
 rw[e]at this;cases this
def Inv.bs(I:Inv X a7 σ H s):∀b o,X.base.get? b=some o→s.heap.get? b=some o∧H b=none:=λb o e =>
 ⟨I.base.keep b o (I.ok.bs b o e).1 (I.ok.bs b o e).2 (I.ok.nofr e) (I.ok.noex b o e),I.base.free b o (I.ok.bs b o e).1 (I.ok.bs b o e).2 (I.ok.noex b o e)⟩
def Inv.bk(I:Inv X a7 σ H s):∀b o,X.base.get? b=some o→s.heap.get? b=some o:=λb o e=>(I.bs b o e).1
def Inv.mod(I:Inv X a7 σ H s):Mod X.K X.mg X.base:=I.ok.mod
def Inv.kIn(I:Inv X a7 σ H s):X.K.In s.heap:=I.ok.mod.kin.keeps I.bk
def Inv.lt(I:Inv X a7 σ H s):X.env.locals<s.heap.objs.size:=let⟨_,hn,_⟩:=I.loc;hn.lt
def Inv.sz(I:Inv X a7 σ H s):X.s₀.heap.objs.size≤s.heap.objs.size:=Zn I.ok.above (Ug I.lt)
def Inv.nofs(I:Inv X a7 σ H s){a:Nc}(h:s.heap.objs.size≤a):a∉X.fs:=λhb=>by
 obtain⟨_,o,ho,_⟩:=I.ok.funs.mem hb
 exact absurd (Zp (Qt ho) (Zn I.sz h)) (Yv _)
def Inv.cne(I:Inv X a7 σ H s):∀x c,X.env.cells.lookup x=some c→c≠X.env.locals:=λx c e z=>by
 obtain⟨v,o,ho,hd⟩:=I.cell x c e
 obtain⟨m,⟨o',es,ep,dl,iu,_⟩,_⟩:=I.loc
 rw[z,dl]at ho;cases ho;rw[iu]at hd;cases hd
def Inv.funs(I:Inv X a7 σ H s):s.heap.FunFrames X.base X.outer:=by
 have all:∀(l:List Env),(∀b∈frs l,b∈X.fs)→X.s₀.heap.FunFrames X.base l→s.heap.FunFrames X.base l:=by
  intro l
  induction l with
  |nil=>intro _ _;trivial
  |cons env r ih =>
   intro hs hl
   obtain⟨hk,⟨L,o,hf,hn,ho,hd⟩,hr⟩:=hl
   have hL:L∈X.fs:=hs L (by unfold frs;rw[List.filterMap_cons,hf];exact List.mem_cons_self)
   obtain⟨sl,e⟩:=I.base.slot L o ho (I.ok.frf L hL) hL λz=>I.ok.exfs L z hL
   exact⟨hk,⟨L,_,hf,hn,e,hd⟩,ih (λb hb=>hs b (by unfold frs;rw[List.filterMap_cons,hf];exact List.mem_cons_of_mem _ hb)) hr⟩
 exact all X.outer (λ_ hb=>hb) I.ok.funs
def Inv.stack(I:Inv X a7 σ H s):s.heap.FunFrames X.base X.stack:=by
 rcases I.ok.stk with e | ⟨e,hf⟩
 ·rw[e];exact I.funs
 ·rw [e]
  obtain⟨m,hn,_⟩:=I.loc
  refine .cons (by rw[I.ok.kind];decide) hf hn ?_ I.funs
  exact Heap.get?_none_of_le (Zn I.ok.bsz I.ok.above)
def Inv.stkSub(I:Inv X a7 σ H s):∀b∈frs X.stack,b∈X.env.locals::X.fs:=λb hb=>by
 rcases I.ok.stk with e | ⟨e,hf⟩
 ·rw[e]at hb;exact Qg _ hb
 ·rw [e] at hb
  unfold frs at hb
  rw[List.filterMap_cons,hf]at hb
  exact hb
def Inv.stkFree(I:Inv X a7 σ H s):∀b∈frs X.stack,H b=none:=λb hb=>by
 rcases Qe.mp (I.stkSub b hb) with e | hb
 ·rw[e];exact I.free
 ·obtain ⟨_,o,ho,_⟩:=I.ok.funs.mem hb
  exact I.base.free b o ho (I.ok.frf b hb) λz=>I.ok.exfs b z hb
def Inv.step{g':Array GenState}{t':Nat}{d':Drawn}{ch:Nk}(I:Inv X a7 σ H s)(gJ:∀b∈ch,(b∈X.ex∨X.s₀.heap.objs.size≤b)∧b≠X.env.locals∧(∀x c,X.env.cells.lookup x=some c→c≠b)∧∀p∈X.pn++a7,p.1≠b)(keep:∀b o,b≠X.env.locals→b∉X.fs→b∉ch→s.heap.get? b=some o→H b=none→h'.get? b=some o)(slot:∀b o,b≠X.env.locals→b∈X.fs→b∉ch→s.heap.get? b=some o→H b=none→∃sl,h'.get? b=some {o with slots:=sl})(free:∀b o,b∉ch→s.heap.get? b=some o→H b=none→H' b=none)(there:∀b o,b∉ch→s.heap.get? b=some o→∃o',h'.get? b=some o')(tups:∀b xs,H b=some (.tup xs)→H' b=some (.tup xs))(frzs:∀b o u,H b=some (.frz o u)→H' b=some (.frz o u))(tbls:∀b ps,H b=some (.tbl ps)→∃more,H' b=some (.tbl (ps++more)))(ns:∀m,s.heap.Ns X.env.locals m→h'.Ns X.env.locals m)(hok:HOk X.prog X.w H' h')(hg:AllBare g') :
  Inv X a7 σ H' {s with heap:=h',gens:=g',drawn:=d',toks:=t'}:=by
 have neL:∀b o,X.s₀.heap.get? b=some o→b≠X.env.locals:=λb o e=>Zc (Zp (Qt e) I.ok.above)
 have neC:∀b o,X.s₀.heap.get? b=some o→b∉X.ex→b∉ch:=λb o e hx hb=>by
  rcases(gJ b hb).1 with z | z
  ·exact hx z
  ·exact absurd (Zp (Qt e) z) (Yv _)
 have cellK:∀x c,X.env.cells.lookup x=some c→∀v,s.heap.IsCell c v→h'.IsCell c v:=λx c e v ⟨o,ho,hd⟩=>by
  have nch:c∉ch:=λz=>(gJ c z).2.2.1 x c e rfl
  by_cases hc:c∈X.fs
  ·obtain ⟨sl,q⟩:=slot c o (I.cne x c e) hc nch ho (I.freeC x c e)
   exact⟨_,q,hd⟩
  ·exact⟨o,keep c o (I.cne x c e) hc nch ho (I.freeC x c e),hd⟩
 refine⟨I.ok,I.os,hg,⟨λb o e n hb hx=>?_,λb o e n hb hx=>?_,λb o e n hx=>?_,λb o e hx=>?_,λb xs e=>tups b xs (I.base.tups b xs e),λb o xs e=>frzs b o xs (I.base.frzs b o xs e),λb ps e=>?_⟩,?_,λx c e=>?_,?_,λx c e=>?_,λp hp=>?_,hok,I.len⟩
 ·exact keep b o (neL b o e) hb (neC b o e hx) (I.base.keep b o e n hb hx) (I.base.free b o e n hx)
 ·obtain ⟨sl,e1⟩:=I.base.slot b o e n hb hx
  obtain⟨sl',e2⟩:=slot b _ (neL b o e) hb (neC b o e hx) e1 (I.base.free b o e n hx)
  exact⟨sl',e2⟩
 ·obtain ⟨o',e1⟩:=I.base.there b o e hx
  exact free b o' (neC b o e hx) e1 (I.base.free b o e n hx)
 ·obtain ⟨o',e1⟩:=I.base.there b o e hx
  exact there b o' (neC b o e hx) e1
 ·obtain ⟨m1,e1⟩:=I.base.tbls b ps e
  obtain⟨m2,e2⟩:=tbls b _ e1
  exact⟨m1++m2,by rw[e2,Array.append_assoc]⟩
 ·obtain ⟨m,hn,hl⟩:=I.loc
  refine⟨m,ns m hn,λi x v e1 e2 e3=>?_⟩
  obtain⟨u,r,l⟩:=hl i x v e1 e2 e3
  refine⟨u,r,?_⟩
  rcases l with l | ⟨k,c,e,z⟩
  ·exact .inl l
  ·exact .inr ⟨k,c,e,cellK x c e _ z⟩
 ·obtain ⟨v,z⟩:=I.cell x c e
  exact⟨v,cellK x c e v z⟩
 ·obtain ⟨m,⟨o,_,_,ho,_⟩,_⟩:=I.loc
  exact free _ o (λz=>(gJ _ z).2.1 rfl) ho I.free
 ·obtain ⟨v,o,ho,hd⟩:=I.cell x c e
  exact free c o (λz=>(gJ c z).2.2.1 x c e rfl) ho (I.freeC x c e)
 ·obtain ⟨e,n,ne,nf,d⟩:=I.pin p hp
  have nch:p.1∉ch:=λz=>(gJ p.1 z).2.2.2 p hp rfl
  exact⟨keep p.1 p.2 ne nf nch e n,free p.1 p.2 nch e n,ne,nf,d⟩
def Inv.un{t':Nat}(I:Inv X a7 σ H s)(u:Un X.fs [] H H' s.heap h')(hok:HOk X.prog X.w H' h'):Inv X a7 σ H' {s with heap:=h',toks:=t'}:=by
 obtain⟨m,⟨o,es,ep,ho,r⟩,_⟩:=id I.loc
 obtain⟨sl,hL⟩:=u.any ho I.free (by simp)
 exact I.step (g':=s.gens) (d':=s.drawn) (ch:=[]) (λ_ z=>nomatch z) (λb o _ hb _ e n=>u.keep b o e n hb (by simp)) (λb o _ hb _ e n=>u.slot b o e n hb (by simp)) (λb o _ e n=>u.free b o e n (by simp)) (λb o _ e=>u.there b o e (by simp)) u.tups u.frzs u.tbls (λm' hm=>by
  obtain⟨o',ao,ep',dl,r'⟩:=hm
  rw[ho]at dl;cases dl
  exact⟨_,ao,ep',hL,r'⟩) hok I.bare
def Inv.call{g':Array GenState}{t':Nat}{d':Drawn}{ch:Nk}(I:Inv X a7 σ H s)(u:Un (frs X.stack) ch H H' s.heap h')(hok:HOk X.prog X.w H' h')(hg:AllBare g')(gJ:∀b∈ch,(b∈X.ex∨X.s₀.heap.objs.size≤b)∧b≠X.env.locals∧(∀x c,X.env.cells.lookup x=some c→c≠b)∧∀p∈X.pn++a7,p.1≠b) :
  Inv X a7 σ H' {s with heap:=h',gens:=g',drawn:=d',toks:=t'}:=by
 obtain⟨m,⟨o,es,ep,ho,r⟩,_⟩:=id I.loc
 obtain⟨sl,hL⟩:=u.any ho I.free λz=>(gJ _ z).2.1 rfl
 exact I.step (ch:=ch) gJ (λb o hL hb hc e n=>u.keep b o e n (λz=>(Qe.mp (I.stkSub b z)).elim hL hb) hc) (λb o _ _ hc e n=>u.any e n hc) (λb o hc e n=>u.free b o e n hc) (λb o hc e=>u.there b o e hc) u.tups u.frzs u.tbls (λm' hm=>by
  obtain⟨o',ao,ep',dl,r'⟩:=hm
  rw[ho]at dl;cases dl
  exact⟨_,ao,ep',hL,r'⟩) hok hg
def Inv.turned{t':Nat}{it:Nc}(I:Inv X a7 σ H s)(k:∀b o,b≠it→s.heap.get? b=some o→h'.get? b=some o)(hn:H it=none)(hL:it≠X.env.locals)(h1:it∈X.ex∨X.s₀.heap.objs.size≤it)(h2:∀x c,X.env.cells.lookup x=some c→c≠it)(h3:∀p∈X.pn++a7,p.1≠it):Inv X a7 σ H {s with heap:=h',toks:=t'}:=by
 have nit:∀b u,H b=some u→b≠it:=λb u e z=>by rw[z,hn]at e;cases e
 refine I.step (g':=s.gens) (d':=s.drawn) (ch:=[it]) (λb hb=>?_) (λb o _ _ hc e _=>k b o (λz=>hc (by simp[z])) e) (λb o _ _ hc e _=>⟨o.slots,k b o (λz=>hc (by simp[z])) e⟩) (λ_ _ _ _ n=>n)
  (λb o hc e=>⟨o,k b o (λz=>hc (by simp[z])) e⟩) (λ_ _ e=>e) (λ_ _ _ e=>e) (λb ps e=>⟨#[],by rw[e];simp⟩) (λm hm=>?_) (λb u e=>?_) I.bare
 ·have e:b=it:=by simpa using hb
  subst e
  exact⟨h1,hL,h2,h3⟩
 ·obtain ⟨o,es,ep,ho,r⟩:=hm
  exact⟨o,es,ep,k _ o (Zb hL) ho,r⟩
 ·refine (I.hok b u e).stay (fun c v hc q=>k c v ?_ q) (fun _ q=>q) fun _ _ q=>q
  rcases hc with z | z
  ·rw[z];exact nit b u e
  ·exact nit c _ z
def Inv.tok(I:Inv X a7 σ H s)(t:Nat):Inv X a7 σ H {s with toks:=t}:=I.un (h':=s.heap) (t':=t) Un.refl I.hok
def Inv.kept{t':Nat}(I:Inv X a7 σ H s)(k:∀b u,s.heap.get? b=some u→h'.get? b=some u):Inv X a7 σ H {s with heap:=h',toks:=t'}:=I.un (Un.kept k) (I.hok.kept k)
def Inv.laid{a:Nc}{o:HO}{t':Nat}(I:Inv X a7 σ H s)(k:∀b u,s.heap.get? b=some u→h'.get? b=some u)(hp:s.heap.objs.size≤a)(new:zbq X.prog X.w (upd H a o) h' a o) :
  Inv X a7 σ (upd H a o) {s with heap:=h',toks:=t'}:=I.un (Un.laid k hp (I.hok.fresh hp)) (I.hok.laid k hp new)
def Inv.write{x e:Nc}{o:HO}{t':Nat}(I:Inv X a7 σ H s)(mu:Mut (H x))(he:e=x∨H e=some (.own x))(k:∀b u,b≠e→s.heap.get? b=some u→h'.get? b=some u)(eQ:∃u,h'.get? e=some u)(new:zbq X.prog X.w (upd H x o) h' x o):Inv X a7 σ (upd H x o) {s with heap:=h',toks:=t'}:=I.un (Un.write mu he k eQ) (I.hok.write mu he k eQ new)
def Inv.pins_of{pins':Nd}(I:Inv X a7 σ H s)(h:∀p∈pins',s.heap.get? p.1=some p.2∧H p.1=none∧p.1≠X.env.locals∧p.1∉X.fs∧∀v,p.2.data≠.cell v):Inv X pins' σ H s :=
 ⟨I.ok,I.os,I.bare,I.base,I.loc,I.cell,I.free,I.freeC,λp hp=>(Qf.mp hp).elim (λz=>I.pin p (Qn _ z)) (h p),I.hok,I.len⟩
def nodup_ix{N:Nf}(hN:N.Nodup){i j:Nat}{x:Str}(a:N[i]?=some x)(b:N[j]?=some x):i=j:=by
 obtain⟨h1,e1⟩:=Qw.mp a
 obtain⟨h2,e2⟩:=Qw.mp b
 exact(Yi hN).mp (e1.trans e2.symm)
def zft{M:Model}{A:Nn}{E:Na}{i:Nat}{x:Str}{v:V}{u:Value}{Q:Unit→Shared→Prop}(I:Inv X a7 σ H s)(hN:X.N.Nodup)(hi:X.N[i]?=some x)(hx:Loc X.env.scope x)(r:RelV v u)(h:∀s',Inv X a7 (σ.set i (some v)) H s'→(∃a,Heap.SameBut a s.heap s'.heap∧(a=X.env.locals∨X.env.cells.lookup x=some a))→Q () s')(hf:X.fn x=true∨X.env.scope.names.lookup x=some .local:=by first | exact .inl rfl | exact .inr rfl | assumption):wpAny M A (storeName X.env x u) Q E s:=by
 obtain⟨m,hn,hl⟩:=id I.loc
 have tI:(X.env.scope.kind==.class||(X.env.scope.kind==.module&&X.env.locals != X.env.globals))=false:=by rw[I.ok.kind];rfl
 have hiσ:i<σ.length:=by rw[I.len];exact(Qw.mp hi).1
 have cne:=I.cne
 have tracked:∀{a:Nc} {h':Nm},(∃o,s.heap.get? a=some o∧H a=none)→Heap.SameBut a s.heap h'→HOk X.prog X.w H h':=λ{a h'} ha hs b ob e=>by
  obtain⟨_,_,bn⟩:=ha
  refine(I.hok b ob e).stay (λc w' hc q=>(hs.2 c ?_).trans q) (λ_ q=>q) λ_ _ q=>q
  rintro rfl
  rcases hc with rfl | hc
  ·rw[bn]at e;cases e
  ·rw[bn]at hc;cases hc
 rcases hx with hk | hk
 ·refine wpAny_storeName_local hk hn (fun h' hn' hs=>?_) tI
  obtain⟨oL,_,_,hoL,_⟩:=id hn
  refine h _ ⟨I.ok,I.os,I.bare,⟨λb o e n hb hx=>?_,λb o e n hb hx=>?_,I.base.free,λb o e hx=>?_,I.base.tups,I.base.frzs,I.base.tbls⟩,⟨_,hn',λj y v' e1 e2 e3=>?_⟩,λy c e=>?_,I.free,I.freeC,λp hp=>?_,tracked ⟨oL,hoL,I.free⟩ hs,by simpa using I.len⟩ ⟨_,hs,.inl rfl⟩
  ·exact(hs.2 b (Zc (Zp (Qt e) I.ok.above))).trans (I.base.keep b o e n hb hx)
  ·obtain ⟨sl,e1⟩:=I.base.slot b o e n hb hx
   exact⟨sl,(hs.2 b (Zc (Zp (Qt e) I.ok.above))).trans e1⟩
  ·obtain ⟨o',e1⟩:=I.base.there b o e hx
   exact⟨o',(hs.2 b (Zc (Zp (Qt e) I.ok.above))).trans e1⟩
  ·by_cases hj:j=i
   ·subst hj
    rw[hi]at e1;cases e1
    rw[List.getElem?_set_self hiσ]at e2
    cases e2
    exact⟨u,r,.inl ⟨hk,by simp⟩⟩
   ·rw [List.getElem?_set_ne (Zb hj)] at e2
    obtain⟨u',r',q⟩:=hl j y v' e1 e2 e3
    refine⟨u',r',?_⟩
    rcases q with⟨k,e⟩ | ⟨k,c,e,z⟩
    ·refine .inl ⟨k,?_⟩
     have:y≠x:=λe=>hj (nodup_ix hN e1 (e▸hi))
     simp[this,e]
    ·exact .inr ⟨k,c,e,z.sameBut hs (cne y c e)⟩
  ·obtain ⟨w',z⟩:=I.cell y c e
   exact⟨w',z.sameBut hs (cne y c e)⟩
  ·obtain ⟨e,n,ne,nf,d⟩:=I.pin p hp
   exact⟨(hs.2 p.1 ne).trans e,n,ne,nf,d⟩
 ·have ki:X.fn x=true:=by
   rcases hf with z | z
   ·exact z
   ·rw[z]at hk;cases hk
  obtain⟨c,hc⟩:=I.ok.has x (.inl hk)
  obtain⟨w',z⟩:=I.cell x c hc
  refine wpAny_storeName_cell I.ok.kind hk hc z (λh' bV hs=>?_)
  obtain⟨oc,hoc,rT⟩:=id z
  refine h {s with heap:=h'} ⟨I.ok,I.os,I.bare,⟨λb o e n hb hx=>?_,λb o e n hb hx=>?_,I.base.free,λb o e hx=>?_,I.base.tups,I.base.frzs,I.base.tbls⟩,⟨m,hn.sameBut hs (Zb (cne x c hc)),λj y v' e1 e2 e3=>?_⟩,λy c' e=>?_,I.free,I.freeC,λp hp=>?_,tracked ⟨oc,hoc,I.freeC x c hc⟩ hs,by simpa using I.len⟩ ⟨c,hs,.inr hc⟩
  ·exact(hs.2 b (Zc (Zp (Qt e) (I.ok.cab x c ki hc)))).trans (I.base.keep b o e n hb hx)
  ·obtain ⟨sl,e1⟩:=I.base.slot b o e n hb hx
   exact⟨sl,(hs.2 b (Zc (Zp (Qt e) (I.ok.cab x c ki hc)))).trans e1⟩
  ·obtain ⟨o',e1⟩:=I.base.there b o e hx
   exact⟨o',(hs.2 b (Zc (Zp (Qt e) (I.ok.cab x c ki hc)))).trans e1⟩
  ·by_cases hj:j=i
   ·subst hj
    rw[hi]at e1;cases e1
    rw[List.getElem?_set_self hiσ]at e2
    cases e2
    exact⟨u,r,.inr ⟨.inl hk,c,hc,bV⟩⟩
   ·rw [List.getElem?_set_ne (Zb hj)] at e2
    obtain⟨u',r',q⟩:=hl j y v' e1 e2 e3
    refine⟨u',r',?_⟩
    rcases q with q | ⟨k,c',e,z'⟩
    ·exact .inl q
    ·refine .inr ⟨k,c',e,z'.sameBut hs ?_⟩
     rintro rfl
     exact hj (nodup_ix hN e1 (I.ok.inj _ _ _ e hc▸hi))
  ·by_cases dY:c'=c
   ·subst dY;exact⟨_,bV⟩
   ·obtain ⟨w2,z2⟩:=I.cell y c' e
    exact⟨w2,z2.sameBut hs dY⟩
  ·obtain ⟨e,n,ne,nf,d⟩:=I.pin p hp
   refine⟨(hs.2 p.1 ?_).trans e,n,ne,nf,d⟩
   intro q
   rw[q,hoc]at e
   have q':oc=p.2:=Qk e
   exact d w' (by rw[←q'];exact rT)
def zfj{M:Model}{A:Nn}{E:Na}{i:Nat}{x:Str}{v:V}{u:Value}{Q:Unit→Shared→Prop}(I:Inv X a7 σ H s)(hN:X.N.Nodup)(hi:X.N[i]?=some x)(hx:Loc X.env.scope x)(r:RelV v u)(h:∀s',Inv X a7 (σ.set i (some v)) H s'→Q () s')(hf:X.fn x=true∨X.env.scope.names.lookup x=some .local:=by first | exact .inl rfl | exact .inr rfl | assumption):wpAny M A (storeName X.env x u) Q E s :=
 zft I hN hi hx r (λs' I' _=>h s' I') hf
def Inv.call'{s':Nh}{ch:Nk}(I:Inv X a7 σ H s)(ho:s'.os=s.os)(u:Un (frs X.stack) ch H H' s.heap s'.heap)(hok:HOk X.prog X.w H' s'.heap)(hg:AllBare s'.gens)(gJ:∀b∈ch,(b∈X.ex∨X.s₀.heap.objs.size≤b)∧b≠X.env.locals∧(∀x c,X.env.cells.lookup x=some c→c≠b)∧∀p∈X.pn++a7,p.1≠b):Inv X a7 σ H' s':=by
 obtain⟨h',g',d',t',o'⟩:=s'
 have e:o'=s.os:=ho
 subst e
 exact I.call (g':=g') (t':=t') (d':=d') u hok hg gJ
end
abbrev XK:=Value→Option Addr→Hp→Prop
abbrev St:=List (Option V)
abbrev VK:=V→Hp→Prop
abbrev TE:=St→Hp→VK→Prop
abbrev TT:=St→Hp→(Bool→Hp→Prop)→Prop
abbrev TA:=St→Hp→(List V→Hp→Prop)→Prop
structure Ends where
 nx:St→Hp→Prop
 rt:VK
 bk:St→Hp→Prop:=λ_ _=>False
 ct:St→Hp→Prop:=λ_ _=>False
abbrev TS:=Ends→St→Hp→Prop
inductive EP(X:Cx)(a7:Nd)(σ:St)(Q:VK)(u:Value)(s':Nh):Prop
 |mk (v:V) (H':Hp) (i:Inv X a7 σ H' s') (r:RelV v u) (q:Q v H'):EP X a7 σ Q u s'
inductive TP(X:Cx)(a7:Nd)(σ:St)(Q:Bool→Hp→Prop)(b:Bool)(s':Nh):Prop
 |mk (H':Hp) (i:Inv X a7 σ H' s') (q:Q b H'):TP X a7 σ Q b s'
inductive AP(X:Cx)(a7:Nd)(σ:St)(Q:List V→Hp→Prop)(us:Ni)(s':Nh):Prop
 |mk (vs:List V) (H':Hp) (i:Inv X a7 σ H' s') (r:Vals vs us) (q:Q vs H'):AP X a7 σ Q us s'
def SP(X:Cx)(a7:Nd)(D:Ends)(f:Flow)(s':Nh):Prop :=
 match f with
 |.next=>Ex2 λ σ' H'=>Aj2 (Inv X a7 σ' H' s') (D.nx σ' H')
 |.brk=>Ex2 λ σ' H'=>Aj2 (Inv X a7 σ' H' s') (D.bk σ' H')
 |.cont=>Ex2 λ σ' H'=>Aj2 (Inv X a7 σ' H' s') (D.ct σ' H')
 |.ret u=>Ex3 λv σ' H'=>Aj3 (Inv X a7 σ' H' s') (RelV v u) (D.rt v H')
def PE(X:Cx)(e:Expr)(t:TE):Prop :=
 ∀(a7:Nd) (s:Nh) (σ:St) (H:Hp) (Q:VK),Inv X a7 σ H s→t σ H Q→wpAny (model X.prog X.w) X.A (eval e X.env) (EP X a7 σ Q) X.xe s
def PT(X:Cx)(e:Expr)(t:TT):Prop :=
 ∀(a7:Nd) (s:Nh) (σ:St) (H:Hp) (Q:Bool→Hp→Prop),Inv X a7 σ H s→t σ H Q→wpAny (model X.prog X.w) X.A (isTrue e X.env (eval e X.env)) (TP X a7 σ Q) X.xe s
def PW(X:Cx)(e:Expr)(t:TT):Prop :=
 ∀(whole:Sem Value) (a7:Nd) (s:Nh) (σ:St) (H:Hp) (Q:Bool→Hp→Prop),Inv X a7 σ H s→t σ H Q→wpAny (model X.prog X.w) X.A (isTrue e X.env whole) (TP X a7 σ Q) X.xe s
def PW.pt{X:Cx}{e:Expr}{t:TT}(h:PW X e t):PT X e t:=h _
def PA(X:Cx)(es:Np)(t:TA):Prop :=
 ∀(pos:Pos) (a7:Nd) (s:Nh) (σ:St) (H:Hp) (Q:List V→Hp→Prop),Inv X a7 σ H s→t σ H Q→wpAny (model X.prog X.w) X.A (spliced (backTo pos (starEach es X.env))) (AP X a7 σ Q) X.xe s
def PS(X:Cx)(st:Stmt)(t:TS):Prop :=
 ∀(a7:Nd) (s:Nh) (σ:St) (H:Hp) (D:Ends),Inv X a7 σ H s→t D σ H→wpAny (model X.prog X.w) X.A (exec st X.env) (SP X a7 D) X.xe s
def PSs(X:Cx)(st:List Stmt)(t:TS):Prop :=
 ∀(a7:Nd) (s:Nh) (σ:St) (H:Hp) (D:Ends),Inv X a7 σ H s→t D σ H→wpAny (model X.prog X.w) X.A (execs st X.env) (SP X a7 D) X.xe s
def thn{α:Type}{t:Sem α}{Q Q':α→Shared→Prop}{M:Model}{A:Nn}{E:Na}{s:Nh}(h:wpAny M A t Q E s)(hQ:∀a s,Q a s→Q' a s):wpAny M A t Q' E s:=wpAny_mono h hQ λ_ _ x=>x
end L2
namespace L2
open PySem PySem.Spec PyProof.Rows
section
variable{X:Cx}
def bin{a b:Expr}{ta tb:TE}(ha:PE X a ta)(hb:PE X b tb){a7:Nd}{s:Nh}{σ:St}{H:Hp}{R:V→V→Hp→Prop}(I:Inv X a7 σ H s)(h:ta σ H λx H1=>tb σ H1 λy H2=>R x y H2){α:Type}{Q:α→Shared→Prop}{f:Value→Value→Sem α}(hf:∀v u s2 x y H2,Inv X a7 σ H2 s2→RelV x v→RelV y u→R x y H2→wpAny (model X.prog X.w) X.A (f v u) Q X.xe s2) :
  wpAny (model X.prog X.w) X.A (eval a X.env) (λv s₁=>wpAny (model X.prog X.w) X.A (eval b X.env) (λu s₂=>wpAny (model X.prog X.w) X.A (f v u) Q X.xe s₂) X.xe s₁) X.xe s:=by
 refine thn (ha a7 s σ H _ I h) λv s1 ⟨x,H1,I1,r1,q1⟩=>?_
 refine thn (hb a7 s1 σ H1 _ I1 q1) λu s2 ⟨y,H2,I2,r2,q2⟩=>?_
 exact hf v u s2 x y H2 I2 r1 r2 q2
inductive RVar(o:Option (Option V))(H:Hp)(Q:VK):Prop
 |mk (v:V) (e:o=some (some v)) (q:Q v H):RVar o H Q
def tVar(i:Nat):TE:=λ σ H Q=>RVar σ[i]? H Q
def tC(v:V):TE:=λ_ H Q=>Q v H
def pe_var{i:Nat}{x:Str}{pos:Pos}(hN:X.N[i]?=some x)(hv:Vis X.env.scope x)(hd:(x==("__debug__" : Str))=false:=by decide)(aB:(x==("__classdict__" : Str))=false:=by decide):PE X (.Name x pos) (tVar i):=by
 intro a7 s σ H Q I h
 obtain⟨v,e,h⟩:=h
 obtain⟨m,hn,hl⟩:=I.loc
 obtain⟨u,r,l⟩:=hl i x v hN e hv
 have fin:EP X a7 σ Q u s:=⟨v,H,I,r,h⟩
 rcases l with⟨hk,hm⟩ | ⟨hk,c,hc,ja⟩
 ·exact wpAny_Name (wpAny_loadName_local I.ok.kind hk hn hm fin) hd
 ·rcases hk with hk | hk
  ·exact wpAny_Name (wpAny_loadName_cell I.ok.kind hk hc ja fin) hd
  ·exact wpAny_Name (wpAny_loadName_free I.ok.kind hk hc ja fin aB) hd
def zai{i j pos}:PE X (.Constant (.int i) j pos) (tC (.int i)):=λ_ _ _ H _ I h=>wpAny_Constant_int ⟨.int i,H,I.tok _,⟨_,rfl⟩,h⟩
def pe_bl{b j pos}:PE X (.Constant (.bool b) j pos) (tC (.bl b)):=λ_ _ _ H _ I h=>Constant_bool ⟨.bl b,H,I,rfl,h⟩
def zg8{j pos}:PE X (.Constant .none j pos) (tC .non):=λ_ _ _ H _ I h=>Constant_none ⟨.non,H,I,rfl,h⟩
def pe_str{x j pos}:PE X (.Constant (.str x) j pos) (tC (.str x)):=λ_ _ _ H _ I h=>Calls.Constant_str ⟨.str x,H,I.tok _,⟨_,rfl⟩,h⟩
def Gl(X:Cx)(x:Str):Prop:=X.env.kindOf x=some .globalImplicit
def ld_glob{E:Na}{a7:Nd}{s:Nh}{σ:St}{H:Hp}{x:Str}{u:Value}{pos:Pos}{Q:Na}(I:Inv X a7 σ H s)(hg:Gl X x)(hm:X.mg x=some u)(h:Q u s)(hd:(x==("__debug__" : Str))=false:=by decide):wpAny (model X.prog X.w) X.A (eval (.Name x pos) X.env) Q E s :=
 Calls.Name_function_global I.ok.kind hg (Calls.loadGlobal_global (by rw[I.ok.glob];exact I.mod.glob.keeps I.bk) hm h) hd
def zdt{E:Na}{a7:Nd}{s:Nh}{σ:St}{H:Hp}{x:Str}{u:Value}{pos:Pos}{Q:Na}(I:Inv X a7 σ H s)(hg:Gl X x)(hm:X.mg x=none)(hv:bootBuiltins x=some u)(h:Q u s)(hn:x ≠ "__name__" := by decide)(hd:(x==("__debug__" : Str))=false:=by decide):wpAny (model X.prog X.w) X.A (eval (.Name x pos) X.env) Q E s:=by
 obtain⟨mb,h1,h2⟩:=I.mod.blt
 exact Calls.Name_function_global I.ok.kind hg (Calls.loadGlobal_builtin (by rw[I.ok.glob];exact I.mod.glob.keeps I.bk) hm (by rw[I.ok.blt];exact h1.keeps I.bk) ((h2 x hn).trans hv) h) hd
def pe_glob{x:Str}{v:V}{u:Value}{pos:Pos}(hg:Gl X x)(hm:X.mg x=some u)(r:RelV v u)(hd:(x==("__debug__" : Str))=false:=by decide):PE X (.Name x pos) (tC v) :=
 λ_ _ _ H _ I h=>ld_glob I hg hm ⟨v,H,I,r,h⟩ hd
variable{a b:Expr}{ta tb:TE}{pos:Pos}
def PC(X:Cx)(op:CmpOp)(a b:Expr)(t:TE):Prop :=
 ∀(a7:Nd) (s:Nh) (σ:St) (H:Hp) (Q:VK),Inv X a7 σ H s→t σ H Q →
  wpAny (model X.prog X.w) X.A (eval a X.env) (λv s₁=>wpAny (model X.prog X.w) X.A (eval b X.env) (λu s₂=>wpAny (model X.prog X.w) X.A (compareOp op v u) (EP X a7 σ Q) X.xe s₂) X.xe s₁) X.xe s
def nobehind(b:Expr){op:CmpOp}(h:op≠.In)(h2:op≠.NotIn):behindInMarks op b=false:=by
 have e1:(op==CmpOp.In)=false:=by cases op<;>first | rfl | exact absurd rfl h
 have e2:(op==CmpOp.NotIn)=false:=by cases op<;>first | rfl | exact absurd rfl h2
 cases b<;>simp[behindInMarks,e1,e2]
def tNotN(ta:TE):TE:=λ σ H Q=>ta σ H λx H1=>Q (.bl (!decide (x=.non))) H1
def RelV.none_iff{x:V}{v:Value}(r:RelV x v):(v==Value.none)=decide (x=.non):=by
 cases x with
 |non=>cases r;rfl
 |bl _=>cases r;rfl
 |int _=>obtain⟨t,rfl⟩:=r;rfl
 |str _=>obtain⟨t,rfl⟩:=r;rfl
 |byt _=>obtain⟨t,rfl⟩:=r;rfl
 |flt _=>obtain⟨t,rfl⟩:=r;rfl
 |ref _=>cases r;rfl
 |ty _=>cases r;rfl
def zh5{j bz}(ha:PE X a ta):PC X .IsNot a (.Constant .none j bz) (tNotN ta):=by
 intro a7 s σ H Q I h
 refine thn (ha a7 s σ H _ I h) λv s1 ⟨x,H1,I1,r1,q1⟩=>?_
 exact Constant_none (isnot_none_gen ⟨.bl _,H1,I1,by rw[r1.none_iff];rfl,q1⟩)
inductive RB(x:V)(H:Hp)(Q:Bool→Hp→Prop):Prop
 |mk (c:Bool) (e:x=.bl c) (q:Q c H):RB x H Q
def tB(t:TE):TT:=λ σ H Q=>t σ H λx H1=>RB x H1 Q
def zc5{op:CmpOp}{t:TE}(h:PC X op a b t)(h1:behindInMarks op b=false:=by first | exact nobehind _ (by decide) (by decide) | rfl):PT X (.Compare a [op] [b] pos) (tB t):=by
 intro a7 s σ H Q I hw
 refine wpAny_isTrue_Compare1 (thn (h a7 s σ H _ I hw) λv s1 h1=>thn h1 λu s2 h2=>thn h2 λc s3 ⟨x,H1,I1,r1,q1⟩=>?_) h1
 obtain⟨d,rfl,q⟩:=q1
 cases r1
 exact wpAny_truthy_bool ⟨H1,I1,q⟩
def pt_val{e:Expr}{t:TE}(h:PE X e t)(he:∀whole,isTrue e X.env whole=(do let v ←whole;standAt e.pos;holding [v] (truthy v)):=by intro _;rfl):PT X e (tB t):=by
 intro a7 s σ H Q I hw
 refine isTrue_plain (thn (h a7 s σ H _ I hw) λv s1 ⟨x,H1,I1,r1,q1⟩=>?_) (he _)
 obtain⟨d,rfl,q⟩:=q1
 cases r1
 exact wpAny_truthy_bool ⟨H1,I1,q⟩
variable{tA oK:TT}{rest:Np}
def tAnd(t u:TT):TT:=λ σ H Q=>t σ H λc H1=>if c=true then u σ H1 Q else Q false H1
def tOr(t u:TT):TT:=λ σ H Q=>t σ H λc H1=>if c=true then Q true H1 else u σ H1 Q
def tNot(t:TT):TT:=λ σ H Q=>t σ H λc H1=>Q (!c) H1
def zev(ha:PT X a tA):PW X (.BoolOp .And [a] pos) tA:=by
 intro wh a7 s σ H Q I h
 refine isTrue_and (thn (ha a7 s σ H Q I h) λc s1 e=>?_)
 cases c with
 |true=>exact isTrue_and_nil e
 |false=>exact e
def pw_or1(ha:PT X a tA):PW X (.BoolOp .Or [a] pos) tA:=by
 intro wh a7 s σ H Q I h
 refine isTrue_or (thn (ha a7 s σ H Q I h) λc s1 e=>?_)
 cases c with
 |false=>exact isTrue_or_nil e
 |true=>exact e
def zg6(ha:PT X a tA)(hb:PW X (.BoolOp .And (b::rest) pos) oK):PW X (.BoolOp .And (a::b::rest) pos) (tAnd tA oK):=by
 intro wh a7 s σ H Q I h
 refine isTrue_and (thn (ha a7 s σ H _ I h) λc s1 ⟨H1,I1,q1⟩=>?_)
 cases c with
 |true=>exact hb wh a7 s1 σ H1 Q I1 q1
 |false=>exact⟨H1,I1,q1⟩
def pw_or(ha:PT X a tA)(hb:PW X (.BoolOp .Or (b::rest) pos) oK):PW X (.BoolOp .Or (a::b::rest) pos) (tOr tA oK):=by
 intro wh a7 s σ H Q I h
 refine isTrue_or (thn (ha a7 s σ H _ I h) λc s1 ⟨H1,I1,q1⟩=>?_)
 cases c with
 |true=>exact⟨H1,I1,q1⟩
 |false=>exact hb wh a7 s1 σ H1 Q I1 q1
def pt_not(ha:PT X a tA):PT X (.UnaryOp .Not a pos) (tNot tA):=by
 intro a7 s σ H Q I h
 exact isTrue_not (wpAny_mono (ha a7 s σ H (λc H1=>Q (!c) H1) I h) (λc s2 z=>by obtain⟨a,b,d⟩:=z;exact⟨a,b,d⟩) λ_ _ e=>e)
def tAndV(ta tb:TE):TE:=λ σ H Q=>ta σ H λx H1=>RB x H1 λc H1=>if c=true then tb σ H1 Q else Q (.bl false) H1
def pe_one{op}{t:TE}(h:PE X a t):PE X (.BoolOp op [a] pos) t:=λa7 s σ H Q I hw=>BoolOp_one (h a7 s σ H Q I hw)
def pe_and(ha:PE X a ta)(hb:PE X (.BoolOp .And (b::rest) pos) tb):PE X (.BoolOp .And (a::b::rest) pos) (tAndV ta tb):=by
 intro a7 s σ H Q I h
 refine BoolOp_and (thn (ha a7 s σ H _ I h) λv s1 ⟨x,H1,I1,r1,q1⟩=>?_)
 obtain⟨c,rfl,q1⟩:=q1
 cases r1
 refine wpAny_truthy_bool ?_
 cases c with
 |true=>exact hb a7 s1 σ H1 Q I1 q1
 |false=>exact⟨.bl false,H1,I1,rfl,q1⟩
def tIf(t:TT)(ta tb:TE):TE:=λ σ H Q=>t σ H λc H1=>if c=true then ta σ H1 Q else tb σ H1 Q
def pe_ifExp{c:Expr}(hc:PT X c tA)(ha:PE X a ta)(hb:PE X b tb):PE X (.IfExp c a b pos) (tIf tA ta tb):=by
 intro a7 s σ H Q I h
 refine wpAny_IfExp (thn (hc a7 s σ H _ I h) λd s1 ⟨H1,I1,q1⟩=>?_)
 cases d with
 |true=>exact ha a7 s1 σ H1 Q I1 q1
 |false=>exact hb a7 s1 σ H1 Q I1 q1
end
end L2
namespace L2
open PySem PySem.Spec PyProof.Rows
def SqL(K:Nb)(H:Hp)(a:Nc)(xs:List V):Prop :=
 Rd H a (.lst xs) ∨
  ∃(o:Obj) (a8:Array Value) (n:Nat),K.lookup a=some o∧o.cls=.type "list" ∧ o.dict=none∧o.data=.seq a8 n∧a8.size≤sizeLine∧Vals xs a8.toList
def SqT(K:Nb)(H:Hp)(a:Nc)(xs:List V):Prop :=
 Rd H a (.tup xs) ∨
  ∃(o:Obj) (a8:Array Value) (n:Nat),K.lookup a=some o∧o.cls=.type "tuple" ∧ o.data=.seq a8 n∧a8.size≤sizeLine∧Vals xs a8.toList
def absV:Value→Option V
 |.none=>some .non
 |.bool b=>some (.bl b)
 |.int i _=>some (.int i)
 |.str x _=>some (.str x)
 |.bytes b _=>some (.byt b)
 |.float b _=>some (.flt b)
 |.ref a=>some (.ref a)
 |.type n=>some (.ty n)
 |_=>none
def RelV.abs{x:V}{u:Value}(r:RelV x u):absV u=some x:=by
 cases x with
 |non=>cases r;rfl
 |bl _=>cases r;rfl
 |int _=>obtain⟨t,rfl⟩:=r;rfl
 |str _=>obtain⟨t,rfl⟩:=r;rfl
 |byt _=>obtain⟨t,rfl⟩:=r;rfl
 |flt _=>obtain⟨t,rfl⟩:=r;rfl
 |ref _=>cases r;rfl
 |ty _=>cases r;rfl
def RelV.inj{x y:V}{u:Value}(r:RelV x u)(q:RelV y u):x=y:=Qk (r.abs.symm.trans q.abs)
theorem Vals.inj:∀{xs ys:List V} {us:Ni},Vals xs us→Vals ys us→xs=ys
 |_,_,_,.nil,.nil=>rfl
 |_,_,_,.cons r t,.cons r' t'=>by rw[r.inj r',Vals.inj t t']
section
variable{X:Cx}{a7:Nd}{σ:St}{H:Hp}{s:Nh}{a:Nc}{xs ys:List V}
def SqL.of{K:Nb}(h:H a=some (.lst xs)):SqL K H a xs:=.inl (.inl h)
def SqT.of{K:Nb}(h:H a=some (.tup xs)):SqT K H a xs:=.inl (.inl h)
def Inv.list(I:Inv X a7 σ H s)(h:SqL X.K H a xs):∃a8:List Value,Vals xs a8∧PlainL s.heap a a8.toArray∧xs.length≤sizeLine:=by
 rcases h with h | ⟨o,a8,n,hk,hc,hd,hs,hz,r⟩
 ·obtain ⟨z,a8,n,r,e⟩:=h.ok I.hok
  exact⟨a8,r,⟨_,n,e,rfl,rfl,rfl⟩,z⟩
 ·refine ⟨a8.toList,r,⟨o,n,I.kIn a o hk,hc,hd,by simpa using hs⟩,?_⟩
  have e:=r.length
  simp only[Yw]at e
  lia
def Inv.tuple(I:Inv X a7 σ H s)(h:SqT X.K H a xs):∃a8:List Value,Vals xs a8∧IsTup s.heap a a8.toArray∧xs.length≤sizeLine:=by
 rcases h with h | ⟨o,a8,n,hk,hc,hs,hz,r⟩
 ·obtain ⟨z,a8,r,p⟩:=h.ok I.hok
  exact⟨a8,r,p,z⟩
 ·refine ⟨a8.toList,r,⟨o,I.kIn a o hk,hc,n,by simpa using hs⟩,?_⟩
  have e:=r.length
  simp only[Yw]at e
  lia
def Inv.list_inj(I:Inv X a7 σ H s)(h:SqL X.K H a xs)(h':SqL X.K H a ys):xs=ys:=by
 obtain⟨a8,r,⟨o,n,e,_,_,d⟩,_⟩:=I.list h
 obtain⟨its',r',⟨o',n',e',_,_,d'⟩,_⟩:=I.list h'
 rw[e]at e';cases e'
 rw[d]at d'
 injection d' with d1 _
 have:a8=its':=by simpa using congrArg Array.toList d1
 subst this
 exact r.inj r'
def Inv.tuple_inj(I:Inv X a7 σ H s)(h:SqT X.K H a xs)(h':SqT X.K H a ys):xs=ys:=by
 obtain⟨a8,r,⟨o,e,_,n,d⟩,_⟩:=I.tuple h
 obtain⟨its',r',⟨o',e',_,n',d'⟩,_⟩:=I.tuple h'
 rw[e]at e';cases e'
 rw[d]at d'
 injection d' with d1 _
 have:a8=its':=by simpa using congrArg Array.toList d1
 subst this
 exact r.inj r'
end
abbrev Cx.wish(X:Cx)(E:Na):Cx:={X with xe:=E}
abbrev Cx.nox(X:Cx):Cx:=X.wish λ_ _=>False
def Cx.Ok.wish{X:Cx}(ok:X.Ok)(E:Na):(X.wish E).Ok :=
 ⟨ok.mod,ok.kind,ok.glob,ok.blt,ok.above,ok.inj,ok.has,ok.cab,ok.hd,ok.frames,ok.stk,ok.exf,ok.bs,ok.bsz,ok.noex,ok.exfs,ok.funs,ok.frf⟩
def Cx.Ok.unwish{X:Cx}{E:Na}(ok:(X.wish E).Ok):X.Ok :=
 ⟨ok.mod,ok.kind,ok.glob,ok.blt,ok.above,ok.inj,ok.has,ok.cab,ok.hd,ok.frames,ok.stk,ok.exf,ok.bs,ok.bsz,ok.noex,ok.exfs,ok.funs,ok.frf⟩
section
variable{X:Cx}{a7:Nd}{σ:St}{H:Hp}{s:Nh}{E:Na}
def Inv.wish(I:Inv X a7 σ H s)(E:Na):Inv (X.wish E) a7 σ H s:=⟨I.ok.wish E,I.os,I.bare,I.base,I.loc,I.cell,I.free,I.freeC,I.pin,I.hok,I.len⟩
def Inv.unwish(I:Inv (X.wish E) a7 σ H s):Inv X a7 σ H s:=⟨I.ok.unwish,I.os,I.bare,I.base,I.loc,I.cell,I.free,I.freeC,I.pin,I.hok,I.len⟩
def SP.unwish{D:Ends}{f:Flow}{s':Nh}(h:SP (X.wish E) a7 D f s'):SP X a7 D f s':=by
 cases f with
 |next=>obtain⟨σ',H',I,q⟩:=h;exact⟨σ',H',I.unwish,q⟩
 |brk=>obtain⟨σ',H',I,q⟩:=h;exact⟨σ',H',I.unwish,q⟩
 |cont=>obtain⟨σ',H',I,q⟩:=h;exact⟨σ',H',I.unwish,q⟩
 |ret u=>obtain⟨v,σ',H',I,r,q⟩:=h;exact⟨v,σ',H',I.unwish,r,q⟩
def PSs.nox{st:List Stmt}{t:TS}(h:PSs X.nox st t):PSs X st t:=λa7 s σ H D I hw =>
 wpAny_mono (h a7 s σ H D (I.wish _) hw) (λ_ _ q=>q.unwish) λ_ _ z=>False.elim z
end
section
variable{X:Cx}{st:Stmt}{rest:List Stmt}{t u:TS}{e:Expr}{te:TE}{pos:Pos}
def tNext:TS:=λD σ H=>D.nx σ H
def tSeq(t u:TS):TS:=λD σ H=>t {D with nx:=u D} σ H
def zay:PSs X [] tNext:=λ_ _ σ H _ I h=>wpAny_execs_nil ⟨σ,H,I,h⟩
def zae(h1:PS X st t)(h2:PSs X rest u):PSs X (st::rest) (tSeq t u):=by
 intro a7 s σ H D I h
 refine wpAny_execs_cons (thn (h1 a7 s σ H {D with nx:=u D} I h) λf s1 q=>?_)
 cases f with
 |next =>
  obtain⟨σ',H',I',q⟩:=q
  exact h2 a7 s1 σ' H' D I' q
 |ret v=>exact q
 |brk=>exact q
 |cont=>exact q
def zah(h1:PS X st t):PSs X [st] t:=by
 intro a7 s σ H D I h
 refine wpAny_execs_cons (thn (h1 a7 s σ H D I h) λf s1 q=>?_)
 cases f with
 |next=>exact wpAny_execs_nil q
 |ret v=>exact q
 |brk=>exact q
 |cont=>exact q
def Inv.quiet{a7:Nd}{σ:St}{H:Hp}{s:Nh}(I:Inv X a7 σ H s):interactive X.env=false:=by simp[interactive,I.ok.kind]
def tDrop(te:TE):TS:=λD σ H=>te σ H λ_ H1=>D.nx σ H1
def za3(he:PE X e te)(hs:swapsWith e none pos.line X.env=pure false:=by rfl):PS X (.Expr e pos) (tDrop te):=by
 intro a7 s σ H D I h
 exact wpAny_Expr_any (thn (he a7 s σ H _ I h) λv s1 ⟨x,H1,I1,r1,q1⟩=>⟨σ,H1,I1,q1⟩) I.quiet hs
def tRet(te:TE):TS:=λD σ H=>te σ H D.rt
def zbm(he:PE X e te):PS X (.Return (some e) pos) (tRet te):=by
 intro a7 s σ H D I h
 exact wpAny_Return_some (thn (he a7 s σ H _ I h) λv s1 ⟨x,H1,I1,r1,q1⟩=>⟨x,σ,H1,I1,r1,q1⟩)
def tIfS(c:TT)(t u:TS):TS:=λD σ H=>c σ H λb H1=>if b=true then t D σ H1 else u D σ H1
def zbs{c:Expr}{a b:List Stmt}{tc:TT}(hc:PT X c tc)(ha:PSs X a t)(hb:PSs X b u):PS X (.If c a b pos) (tIfS tc t u):=by
 intro a7 s σ H D I h
 refine wpAny_If (thn (hc a7 s σ H _ I h) λd s1 ⟨H1,I1,q1⟩=>?_)
 cases d with
 |true=>exact ha a7 s1 σ H1 D I1 q1
 |false=>exact hb a7 s1 σ H1 D I1 q1
end
abbrev TG:=V→St→Hp→(St→Hp→Prop)→Prop
abbrev TGs:=List V→St→Hp→(St→Hp→Prop)→Prop
def PG(X:Cx)(target:Expr)(t:TG):Prop :=
 ∀(a7:Nd) (s:Nh) (σ:St) (H:Hp) (v:V) (u:Value) (Q:St→Hp→Prop),Inv X a7 σ H s→RelV v u→t v σ H Q →
  wpAny (model X.prog X.w) X.A (assign target X.env u) (λ_ s'=>Ex2 λ σ' H'=>Aj2 (Inv X a7 σ' H' s') (Q σ' H')) X.xe s
def PGs(X:Cx)(ts:Np)(t:TGs):Prop :=
 ∀(a7:Nd) (s:Nh) (σ:St) (H:Hp) (vs:List V) (us:Ni) (Q:St→Hp→Prop),Inv X a7 σ H s→Vals vs us→t vs σ H Q →
  wpAny (model X.prog X.w) X.A (assignInOrder ((assignEach ts X.env).map (·.2)) us) (λ_ s'=>Ex2 λ σ' H'=>Aj2 (Inv X a7 σ' H' s') (Q σ' H')) X.xe s
abbrev TSet:=V→V→V→Hp→(Hp→Prop)→Prop
def PSet(X:Cx)(t:TSet):Prop :=
 ∀(a7:Nd) (s:Nh) (σ:St) (H:Hp) (o i v:V) (ov iv u:Value) (Q:Hp→Prop),Inv X a7 σ H s→RelV o ov→RelV i iv→RelV v u→t o i v H Q →
  wpAny (model X.prog X.w) X.A (setItem ov iv u) (λ_ s'=>∃H',Inv X a7 σ H' s'∧Q H') X.xe s
section
variable{X:Cx}{pos:Pos}
def gName(i:Nat):TG:=λv σ H Q=>Q (σ.set i (some v)) H
def zal{i:Nat}{x:Str}(hN:X.N.Nodup)(hi:X.N[i]?=some x)(hx:Loc X.env.scope x)(hf:X.fn x=true∨X.env.scope.names.lookup x=some .local:=by first | exact .inl rfl | exact .inr rfl | assumption):PG X (.Name x pos) (gName i):=by
 intro a7 s σ H v u Q I r h
 exact wpAny_assign_Name (zfj I hN hi hx r (λs' I'=>⟨_,H,I',h⟩) hf)
def gNil:TGs:=λvs σ H Q=>vs=[]∧Q σ H
inductive RGC(vs:List V)(R:V→List V→Prop):Prop
 |mk (v:V) (r:List V) (e:vs=v::r) (q:R v r):RGC vs R
def gCons(t:TG)(u:TGs):TGs:=λvs σ H Q=>RGC vs λv r=>t v σ H λ σ' H'=>u r σ' H' Q
def zck:PGs X [] gNil:=by
 intro a7 s σ H vs us Q I r h
 obtain⟨e,h⟩:=h
 subst e
 cases r
 exact assignInOrder_nil ⟨σ,H,I,h⟩
def za6{e:Expr}{es:Np}{t:TG}{u:TGs}(h1:PG X e t)(h2:PGs X es u)(hs:(assignEach (e::es) X.env).map (·.2)=assign e X.env::(assignEach es X.env).map (·.2):=by rfl):PGs X (e::es) (gCons t u):=by
 intro a7 s σ H vs us Q I r h
 obtain⟨v,vr,e1,h⟩:=h
 subst e1
 cases r with
 |cons r rr =>
  rw[hs]
  refine assignInOrder_cons (thn (h1 a7 s σ H _ _ _ I r h) λ_ s1 ⟨σ1,H1,I1,q1⟩=>?_)
  exact h2 a7 s1 σ1 H1 _ _ Q I1 rr q1
inductive RGT(K:Nb)(n:Nat)(v:V)(H:Hp)(R:List V→Prop):Prop
 |mk (a:Nc) (xs:List V) (e:v=.ref a) (s:SqT K H a xs) (l:xs.length=n) (q:R xs):RGT K n v H R
def gTup(K:Nb)(n:Nat)(t:TGs):TG:=λv σ H Q=>RGT K n v H λxs=>t xs σ H Q
def ze6{es:Np}{k:Nat}{t:TGs}{n:Nat}(hc:X.calm=true)(h:PGs X es t)(hn:(assignEach es X.env).length=n:=by rfl)(aq:(assignEach es X.env).findIdx? (·.1)=none:=by rfl):PG X (.Tuple es k pos) (gTup X.K n t):=by
 intro a7 s σ H v u Q I r hw
 obtain⟨a,xs,e1,hq,hl,hw⟩:=hw
 subst e1
 cases r
 obtain⟨a8,rv,ht,hz⟩:=I.tuple hq
 refine assign_Tuple_tuple (I.ok.hd hc) ht (by simp[hn,←hl,rv.length]) aq λh' hx=>?_
 have I1:Inv X a7 σ H {s with heap:=h'}:=I.kept (t':=s.toks) λb o e=>hx b o (Zc (Qt e)) e
 exact h a7 _ σ H xs _ Q I1 (by simpa using rv) hw
def gSub(to ti:TE)(t:TSet):TG:=λv σ H Q=>to σ H λo H1=>ti σ H1 λi H2=>t o i v H2 λH3=>Q σ H3
def pg_sub{o i:Expr}{to ti:TE}{t:TSet}(ho:PE X o to)(hi:PE X i ti)(hs:PSet X t)(ha:∀ v,assign (.Subscript o i pos) X.env v=(do
   let ov ←holding [v] (eval o X.env)
   let iv ←holding [v,ov] (eval i X.env)
   standAt pos
   holding [v,ov,iv] (setItem ov iv v)
   release [v,ov,iv] []):=by intro _;rfl):PG X (.Subscript o i pos) (gSub to ti t):=by
 intro a7 s σ H v u Q I r h
 rw[ha]
 refine wpAny_bind (wpAny_holding (thn (ho a7 s σ H _ I h) λov s1 ⟨x,H1,I1,r1,q1⟩=>?_))
 refine wpAny_bind (wpAny_holding (thn (hi a7 s1 σ H1 _ I1 q1) λiv s2 ⟨y,H2,I2,r2,q2⟩=>?_))
 refine wpAny_bind (wpAny_standAt (wpAny_bind (wpAny_holding (thn (hs a7 s2 σ H2 x y v ov iv u _ I2 r1 r2 r q2) λ_ s3 ⟨H3,I3,q3⟩=>?_))))
 exact wpAny_release ⟨σ,H3,I3,q3⟩
def tAsg(te:TE)(g:TG):TS:=λD σ H=>te σ H λx H1=>g x σ H1 D.nx
def ps_asg{tg e:Expr}{te:TE}{g:TG}(he:PE X e te)(hg:PG X tg g)(hs:swapsWithSole [tg] e pos.line X.env=pure false:=by rfl)(hw:swappedStores [tg] e X.env=pure none:=by rfl)(h1:(assignEach [tg] X.env).map (·.2)=[assign tg X.env]:=by rfl):PS X (.Assign [tg] e pos) (tAsg te g):=by
 intro a7 s σ H D I h
 refine wpAny_Assign_stores (thn (he a7 s σ H _ I h) λv s1 ⟨x,H1,I1,r1,q1⟩=>?_) hs hw
 rw[h1]
 exact thn (hg a7 s1 σ H1 x v _ I1 r1 q1) λ_ s2 q=>q
def zak{i:Nat}{x:Str}{e:Expr}{te:TE}{bz:Pos}(hN:X.N.Nodup)(hi:X.N[i]?=some x)(hx:Loc X.env.scope x)(he:PE X e te)(hs:swapsWith e (some (.Name x bz)) pos.line X.env=pure false:=by rfl)(hf:X.fn x=true∨X.env.scope.names.lookup x=some .local:=by first | exact .inl rfl | exact .inr rfl | assumption) :
  PS X (.Assign [.Name x bz] e pos) (tAsg te (gName i)):=by
 intro a7 s σ H D I h
 refine wpAny_Assign_Name (thn (he a7 s σ H _ I h) λv s1 ⟨y,H1,I1,r1,q1⟩=>?_) hs
 exact zfj I1 hN hi hx r1 (λs2 I2=>⟨_,H1,I2,q1⟩) hf
def tPar(i j:Nat)(ta:TA):TS:=λD σ H=>ta σ H λvs H1=>∃v w,vs=[v,w]∧D.nx ((σ.set i (some v)).set j (some w)) H1
def ps_par{i j:Nat}{x y:Str}{a b:Expr}{ta:TA}{px py pt:Pos}{kt k2 pt2}(hc:X.calm=true)(hN:X.N.Nodup)(hi:X.N[i]?=some x)(hj:X.N[j]?=some y)(bf:i≠j)(hx:X.env.scope.names.lookup x=some .local)(hy:X.env.scope.names.lookup y=some .local)(ha:PA X [a,b] ta)(hw:swappedStores [.Tuple [.Name x px,.Name y py] kt pt] (.Tuple [a,b] k2 pt2) X.env=pure (some [x,y]))(hs:swapsWithSole [.Tuple [.Name x px,.Name y py] kt pt] (.Tuple [a,b] k2 pt2) pos.line X.env=pure false:=by rfl) :
  PS X (.Assign [.Tuple [.Name x px,.Name y py] kt pt] (.Tuple [a,b] k2 pt2) pos) (tPar i j ta):=by
 intro a7 s σ H D I h
 rw[exec_Assign_arm]
 refine wpAny_bind (wpAny_standAt ?_)
 rw[hs]
 refine wpAny_bind (wpAny_pure ?_)
 rw[if_neg (by decide)]
 refine wpAny_bind (Tuple_ (thn (ha _ a7 s σ H _ I h) λus s1 ⟨vs,H1,I1,r1,q1⟩=>?_))
 obtain⟨v,w,e1,q1⟩:=q1
 subst e1
 obtain⟨u1,u2,rfl,rv,cC⟩:∃u1 u2,us=[u1,u2]∧RelV v u1∧RelV w u2:=by
  cases r1 with
  | cons p q =>
   cases q with
   |cons p' q' =>
    cases q'
    exact⟨_,_,rfl,p,p'⟩
 refine wpAny_newObj_type ?_ (by show 2≤sizeLine;decide)
 have I2:Inv X a7 σ H1 {s1 with heap:=s1.heap.push {cls:=.type "tuple",data:=.seq [u1,u2].toArray}}:=I1.kept (t':=s1.toks) λb o e=>Qj _ e
 rw[hw]
 refine wpAny_bind (wpAny_pure ?_)
 show wpAny (model X.prog X.w) X.A (do rule "assign.swapped-stores";let items ←unpackItems (.ref s1.heap.objs.size) 2 none;assignInOrder [λv=>bindName X.env y v,λv=>bindName X.env x v] items.reverse;pure Flow.next) _ _ _
 refine wpAny_bind (wpAny_rule (wpAny_bind (unpackItems_tuple (items:=#[u1,u2]) (I.ok.hd hc) (IsTup.new s1.heap _) λh' ci=>?_)))
 have I3:=I2.kept (h':=h') (t':=s1.toks) λb o e=>ci b o (Zc (Qt e)) e
 show wpAny _ _ (assignInOrder [λv=>bindName X.env y v,λv=>bindName X.env x v] [u2,u1] >>= λ_=>pure Flow.next) _ _ _
 refine wpAny_bind (assignInOrder_cons (wpAny_bindName (zfj I3 hN hj (.inl hy) cC (λs2 I4=>?_) (.inr hy))))
 refine assignInOrder_cons (wpAny_bindName (zfj I4 hN hi (.inl hx) rv (λs3 I5=>assignInOrder_nil (wpAny_pure ?_)) (.inr hx)))
 rw[List.set_comm _ _ (Zb bf)]at I5
 exact⟨_,H1,I5,q1⟩
end
section
variable{X:Cx}{pos:Pos}
def tWhile(c:TT)(tb:TS):TS:=λD σ H=>∃W:Nat→St→Hp→Prop,(∃m,W m σ H)∧∀m σ H,W m σ H →
 c σ H λb H1=>if b=true then ∃N:St→Hp→Prop,(∀σ' H',N σ' H'→∃m',m'<m∧W m' σ' H')∧tb {D with nx:=N,ct:=N,bk:=D.nx} σ H1 else D.nx σ H1
def zeg{c:Expr}{body:List Stmt}{tc:TT}{tb:TS}(hp:PassesOwn (model X.prog X.w) X.A X.env X.xe)(hc:PT X c tc)(hb:PSs X body tb):PS X (.While c body [] pos) (tWhile tc tb):=by
 intro a7 s σ H D I h
 obtain⟨W,⟨m0,w0⟩,turn⟩:=h
 refine wpAny_While (codeAny_whileLoop (λn s'=>∃σ' H',Inv X a7 σ' H' s'∧W n σ' H') ?_ m0 ⟨σ,H,I,w0⟩)
 rintro n s1 ⟨σ1,H1,I1,w1⟩
 refine wpAny_passesOwn hp (thn (hc a7 s1 σ1 H1 _ I1 (turn n σ1 H1 w1)) λb s2 ⟨H2,I2,q2⟩=>?_)
 cases b with
 | true =>
  obtain⟨N,hN,q2⟩:=q2
  rw[if_pos rfl]
  refine wpAny_passesOwn hp (thn (hb a7 s2 σ1 H2 _ I2 q2) λf s3 q3=>?_)
  cases f with
  |next =>
   obtain⟨σ3,H3,I3,n3⟩:=q3
   obtain⟨m',hm,w3⟩:=hN σ3 H3 n3
   exact⟨m',hm,σ3,H3,I3,w3⟩
  |cont =>
   obtain⟨σ3,H3,I3,n3⟩:=q3
   obtain⟨m',hm,w3⟩:=hN σ3 H3 n3
   exact⟨m',hm,σ3,H3,I3,w3⟩
  |brk=>exact q3
  |ret v=>exact q3
 |false =>
  rw[if_neg Zg]
  exact wpAny_execs_nil ⟨σ1,H2,I2,q2⟩
end
structure It where
 go:Nat→Hp→Prop
 yld:Nat→Hp→V→Hp→Prop
 stop:Nat→Hp→Prop
def FpOk(X:Cx)(a7:Nd)(H:Hp)(b:Nc):Prop :=
 H b=none∧b≠X.env.locals∧b∉X.fs∧(b∈X.ex∨X.s₀.heap.objs.size≤b)∧(∀x c,X.env.cells.lookup x=some c→c≠b)∧∀p∈X.pn++a7,p.1≠b
def Inv.fpOk{X:Cx}{a7:Nd}{σ:St}{H H':Hp}{s:Nh}{b:Nc}(I:Inv X a7 σ H s)(hb:s.heap.objs.size≤b)(hn:H' b=none):FpOk X a7 H' b:=by
 refine⟨hn,Yc (Zp I.lt hb),I.nofs hb,.inr (Zn I.sz hb),λx c e z=>?_,λp hp z=>?_⟩
 ·obtain ⟨v,q⟩:=I.cell x c e
  exact absurd (Zp q.lt (by rw[z];exact hb)) (Yv _)
 ·exact absurd (Zp (Qt (I.pin p hp).1) (by rw[z];exact hb)) (Yv _)
structure Turn(P:Nj)(w:Nl)(K:Nb)(tg:Expr)(J:It)(fp:Nk)(it:Nc)(tn:Nat→Heap→Prop):Prop where
 mem:it∈fp
 obj:∀i h,tn i h→∀b∈fp,∃o,h.get? b=some o∧∀v,o.data≠.cell v
 keep:∀i h h',tn i h→(∀b∈fp,∀o,h.get? b=some o→h'.get? b=some o)→tn i h'
 item:∀(X:Cx),X.prog=P→X.w=w→X.K=K→X.calm=true→∀(i:Nat) (a7:Nd) (s:Nh) (σ:St) (H:Hp) (E:Na),Inv X a7 σ H s→(∀b∈fp,FpOk X a7 H b)→tn i s.heap→J.go i H →
  wpAny (model P w) X.A (pyNext (.ref it)) (λr s1=>∃u,r=some u ∧
   wpAny (model P w) X.A (letOwnedTupleGo tg (.ref it) u) (λ_ s2=>∃x H',Inv X a7 σ H' s2∧RelV x u∧J.yld i H x H'∧tn (i+1) s2.heap∧∀b∈fp,H' b=none) E s1) E s
 done:∀(X:Cx),X.prog=P→X.w=w→X.K=K→X.calm=true→∀(i:Nat) (a7:Nd) (s:Nh) (σ:St) (H:Hp) (E:Na),Inv X a7 σ H s→(∀b∈fp,FpOk X a7 H b)→tn i s.heap→J.stop i H →
  wpAny (model P w) X.A (pyNext (.ref it)) (λr s1=>r=none∧Inv X a7 σ H s1) E s
 self:∀(A:Nn) (i:Nat) (s:Nh) (Q:Na) (E:Na),tn i s.heap→Q (.ref it) s→wpAny (model P w) A (pyIter (.ref it)) Q E s
abbrev TI:=St→Hp→(It→Hp→Prop)→Prop
inductive PIE(X:Cx)(a7:Nd)(σ:St)(tg:Expr)(R:It→Hp→Prop)(itv:Value)(s2:Nh):Prop
 |mk (it:Nc) (fp:Nk) (tn:Nat→Heap→Prop) (J:It) (H':Hp) (h0:itv=.ref it) (h1:Inv X a7 σ H' s2) (h2:Turn X.prog X.w X.K tg J fp it tn) (h3:tn 0 s2.heap) (h4:(∀b∈fp,FpOk X a7 H' b)) (h5:R J H'):PIE X a7 σ tg R itv s2
def PI(X:Cx)(tg iter:Expr)(wi:TI):Prop :=
 ∀(a7:Nd) (s:Nh) (σ:St) (H:Hp) (R:It→Hp→Prop),Inv X a7 σ H s→wi σ H R →
  wpAny (model X.prog X.w) X.A (eval iter X.env) (λv s1=>wpAny (model X.prog X.w) X.A (pyIter v) (PIE X a7 σ tg R) X.xe s1) X.xe s
def go_of{M:Model}{A:Nn}{E:Na}{s:Nh}{tg:Expr}{it:Nc}{u:Value}{o:Obj}{n:String}{vs:Array Value}{Q:Unit→Shared→Prop}(ho:s.heap.get? it=some o)(hc:o.cls=.type n)(hd:o.data=.fields vs)(hn:["enumerate", "zip", "dict_itemiterator", "dict_reverseitemiterator", "odict_iterator", "itertools.zip_longest", "itertools.pairwise"].contains n=false)(hQ:Q () s):wpAny M A (letOwnedTupleGo tg (.ref it) u) Q E s:=by
 unfold letOwnedTupleGo
 cases tg <;> first
  |exact wpAny_pure hQ
  | (cases u <;> first
    |exact wpAny_pure hQ
    | (refine wpAny_bind (wpAny_load ho ?_)
       rw[hc,hd]
       show wpAny M A (if(["enumerate", "zip", "dict_itemiterator", "dict_reverseitemiterator", "odict_iterator", "itertools.zip_longest", "itertools.pairwise"].contains n&&vs[0]?==some (rawInt _))=true then _ else _) Q E s
       rw[if_neg (by intro h;rw[hn,Bool.false_and]at h;cases h)]
       exact wpAny_pure hQ))
def Itl(K:Nb)(a:Nc):It :=
 ⟨λi H=>∃xs x,SqL K H a xs∧xs[i]?=some x,λi H x H'=>H'=H∧∀xs,SqL K H a xs→xs[i]?=some x,λi H=>∃xs,SqL K H a xs∧xs.length≤i⟩
def Itt(K:Nb)(a:Nc):It :=
 ⟨λi H=>∃xs x,SqT K H a xs∧xs[i]?=some x,λi H x H'=>H'=H∧∀xs,SqT K H a xs→xs[i]?=some x,λi H=>∃xs,SqT K H a xs∧xs.length≤i⟩
def Itr(lo:Int)(n:Nat):It:=⟨λi _=>i<n,λi H x H'=>H'=H∧x=.int (lo+i),λi _=>n≤i⟩
theorem turn_list{P:Nj}{w:Nl}{K:Nb}{tg:Expr}(a it:Nc):Turn P w K tg (Itl K a) [it] it (λi h=>h.IsListIter it a i) where
 mem:=by simp
 obj:=λi h st b hb=>by
  have e:b=it:=by simpa using hb
  subst e
  obtain⟨o,e,c,d⟩:=st
  exact⟨o,e,λv z=>by rw[d]at z;cases z⟩
 keep:=λi h h' st k=>st.at λo e=>k it (by simp) o e
 item:=by
  intro X hP hw hK hc i a7 s σ H E I hf st hg
  subst hP hw hK
  obtain⟨xs,x,hq,hx⟩:=hg
  obtain⟨a8,rv,p,hz⟩:=I.list hq
  obtain⟨u,hu,ru⟩:=rv.get hx
  obtain⟨f0,f1,f2,f3,f4,f5⟩:=hf it (by simp)
  refine wpAny_pyNext_list_item st p.isList (x:=u) (by simpa using hu) λh' ae sb=>?_
  have I1:Inv X a7 σ H {s with heap:=h'}:=I.turned (t':=s.toks) (λb o hb e=>(sb.2 b hb).trans e) f0 f1 f3 f4 f5
  obtain⟨o,e,c,d⟩:=id ae
  exact⟨u,rfl,go_of (s:={s with heap:=h'}) e c d (by decide) ⟨x,H,I1,ru,⟨rfl,λys hy=>by rw[I.list_inj hy hq];exact hx⟩,ae,λb hb=>(hf b hb).1⟩⟩
 done:=by
  intro X hP hw hK hc i a7 s σ H E I hf st hg
  subst hP hw hK
  obtain⟨xs,hq,hx⟩:=hg
  obtain⟨a8,rv,p,hz⟩:=I.list hq
  obtain⟨f0,f1,f2,f3,f4,f5⟩:=hf it (by simp)
  have hl:=rv.length
  exact wpAny_pyNext_list_end (I.ok.hd hc) st p.isList (by simp;exact zdw ‹_› ‹_›) λh' eb=>⟨rfl,I.turned (t':=s.toks) (λb o hb e=>eb b o hb e) f0 f1 f3 f4 f5⟩
 self:=λ_ _ _ _ _ st h=>wpAny_pyIter_listiter st h
theorem turn_tuple{P:Nj}{w:Nl}{K:Nb}{tg:Expr}(a it:Nc):Turn P w K tg (Itt K a) [it] it (λi h=>h.IsTupleIter it a i) where
 mem:=by simp
 obj:=λi h st b hb=>by
  have e:b=it:=by simpa using hb
  subst e
  obtain⟨o,e,c,d⟩:=st
  exact⟨o,e,λv z=>by rw[d]at z;cases z⟩
 keep:=λi h h' st k=>st.at λo e=>k it (by simp) o e
 item:=by
  intro X hP hw hK hc i a7 s σ H E I hf st hg
  subst hP hw hK
  obtain⟨xs,x,hq,hx⟩:=hg
  obtain⟨a8,rv,p,hz⟩:=I.tuple hq
  obtain⟨u,hu,ru⟩:=rv.get hx
  obtain⟨f0,f1,f2,f3,f4,f5⟩:=hf it (by simp)
  refine wpAny_pyNext_tuple_item st (show s.heap.IsTuple a a8.toArray from p) (x:=u) (by simpa using hu) λh' ae sb=>?_
  have I1:Inv X a7 σ H {s with heap:=h'}:=I.turned (t':=s.toks) (λb o hb e=>(sb.2 b hb).trans e) f0 f1 f3 f4 f5
  obtain⟨o,e,c,d⟩:=id ae
  exact⟨u,rfl,go_of (s:={s with heap:=h'}) e c d (by decide) ⟨x,H,I1,ru,⟨rfl,λys hy=>by rw[I.tuple_inj hy hq];exact hx⟩,ae,λb hb=>(hf b hb).1⟩⟩
 done:=by
  intro X hP hw hK hc i a7 s σ H E I hf st hg
  subst hP hw hK
  obtain⟨xs,hq,hx⟩:=hg
  obtain⟨a8,rv,p,hz⟩:=I.tuple hq
  obtain⟨f0,f1,f2,f3,f4,f5⟩:=hf it (by simp)
  have hl:=rv.length
  exact wpAny_pyNext_tuple_end (I.ok.hd hc) st (show s.heap.IsTuple a a8.toArray from p) (by simp;exact zdw ‹_› ‹_›) λh' eb=>⟨rfl,I.turned (t':=s.toks) (λb o hb e=>eb b o hb e) f0 f1 f3 f4 f5⟩
 self:=λ_ _ _ _ _ st h=>wpAny_pyIter_tupleiter st h
theorem turn_range{P:Nj}{w:Nl}{K:Nb}{tg:Expr}(it:Nc)(lo:Int)(n:Nat):Turn P w K tg (Itr lo n) [it] it (λi h=>IsRangeIter h it (lo+(i:Nat)*1) ((n:Int)-(i:Nat)) 1) where
 mem:=by simp
 obj:=λi h st b hb=>by
  have e:b=it:=by simpa using hb
  subst e
  exact⟨_,st,λv z=>by
   have z':Data.fields _=Data.cell v:=z
   cases z'⟩
 keep:=λi h h' st k=>k it (by simp) _ st
 item:=by
  intro X hP hw hK hc i a7 s σ H E I hf st hg
  subst hP hw hK
  obtain⟨f0,f1,f2,f3,f4,f5⟩:=hf it (by simp)
  have W:=Walks.range (prog:=X.prog) (w:=X.w) (I.ok.hd hc) it lo 1 n
  refine W.item i s _ _ hg st λv h' tk hv ae kk=>?_
  obtain⟨t,rfl⟩:=hv
  have I1:Inv X a7 σ H {s with heap:=h',toks:=tk}:=I.turned (λb o hb e=>kk b o (by simpa using hb) e) f0 f1 f3 f4 f5
  refine⟨_,rfl,go_of (s:={s with heap:=h',toks:=tk}) (n := "range_iterator") ae rfl rfl (by decide) ⟨.int (lo+i),H,I1,⟨t,?_⟩,⟨rfl,rfl⟩,ae,λb hb=>(hf b hb).1⟩⟩
  rw[Int.mul_one]
 done:=by
  intro X hP hw hK hc i a7 s σ H E I hf st hg
  subst hP hw hK
  obtain⟨f0,f1,f2,f3,f4,f5⟩:=hf it (by simp)
  exact wpAny_pyNext_range_end (I.ok.hd hc) st (by have:n≤i:=hg;lia) λh' eb=>⟨rfl,I.turned (t':=s.toks) (λb o hb e=>eb b o hb e) f0 f1 f3 f4 f5⟩
 self:=λ_ _ _ _ _ st h=>wpAny_pyIter_rangeiter st h
end L2
namespace L2
open PySem PySem.Spec PyProof.Rows
section
variable{X:Cx}{tg:Expr}
inductive RI1(x:V)(S R:Addr→Prop):Prop
 |mk (a:Nc) (e:x=.ref a) (s:S a) (q:R a):RI1 x S R
def iList(K:Nb)(tl:TE):TI:=λ σ H R=>tl σ H λx H1=>RI1 x (λa=>∃xs,SqL K H1 a xs) λa=>R (Itl K a) H1
def iTup(K:Nb)(tl:TE):TI:=λ σ H R=>tl σ H λx H1=>RI1 x (λa=>∃xs,SqT K H1 a xs) λa=>R (Itt K a) H1
def za9{l:Expr}{tl:TE}(hl:PE X l tl):PI X tg l (iList X.K tl):=by
 intro a7 s σ H R I h
 refine thn (hl a7 s σ H _ I h) λv s1 ⟨x,H1,I1,r1,q1⟩=>?_
 obtain⟨a,e,⟨xs,hq⟩,q⟩:=q1
 subst e
 cases r1
 obtain⟨a8,rv,p,hz⟩:=I1.list hq
 refine wpAny_pyIter_list p.isList ?_
 refine⟨s1.heap.objs.size,[s1.heap.objs.size],_,_,H1,rfl,I1.kept (t':=s1.toks) λb o e=>Qj _ e,turn_list a _,⟨_,Zd _ rfl,rfl,rfl⟩,λb hb=>?_,q⟩
 have e:b=s1.heap.objs.size:=by simpa using hb
 subst e
 exact I1.fpOk (Qi _) (I1.hok.fresh (Qi _))
def pi_tup{l:Expr}{tl:TE}(hl:PE X l tl):PI X tg l (iTup X.K tl):=by
 intro a7 s σ H R I h
 refine thn (hl a7 s σ H _ I h) λv s1 ⟨x,H1,I1,r1,q1⟩=>?_
 obtain⟨a,e,⟨xs,hq⟩,q⟩:=q1
 subst e
 cases r1
 obtain⟨a8,rv,p,hz⟩:=I1.tuple hq
 refine wpAny_pyIter_tuple (show s1.heap.IsTuple a a8.toArray from p) ?_
 refine⟨s1.heap.objs.size,[s1.heap.objs.size],_,_,H1,rfl,I1.kept (t':=s1.toks) λb o e=>Qj _ e,turn_tuple a _,⟨_,Zd _ rfl,rfl,rfl⟩,λb hb=>?_,q⟩
 have e:b=s1.heap.objs.size:=by simpa using hb
 subst e
 exact I1.fpOk (Qi _) (I1.hok.fresh (Qi _))
def range_it{a7:Nd}{σ:St}{H:Hp}{s:Nh}{R:It→Hp→Prop}{E:Na}{lo hi:Int}{t u v:Tok}{tk:Nat}(I:Inv X a7 σ H s)(h1:-(2 ^ 62)≤lo)(h2:lo<2 ^ 62)(h3:-(2 ^ 62)≤hi)(h4:hi<2 ^ 62)(q:R (Itr lo (hi-lo).toNat) H):wpAny (model X.prog X.w) X.A (pyIter (.ref s.heap.objs.size)) (PIE X a7 σ tg R) E {s with heap:=s.heap.push {cls:=.type "range",data:=.fields #[.int lo t,.int hi u,.int 1 v]},toks:=tk}:=by
 refine wpAny_pyIter_range (IsRange.new ..) (small_one h1 h2 h3 h4) ?_
 have I1:Inv X a7 σ H {s with heap:=s.heap.push {cls:=.type "range",data:=.fields #[.int lo t,.int hi u,.int 1 v]},toks:=tk}:=I.kept λb o e=>Qj _ e
 refine⟨(s.heap.push {cls:=.type "range",data:=.fields #[.int lo t,.int hi u,.int 1 v]}).objs.size,[(s.heap.push {cls:=.type "range",data:=.fields #[.int lo t,.int hi u,.int 1 v]}).objs.size],_,_,H,rfl,
  I1.kept (t':=tk) λb o e=>Qj _ e,turn_range _ lo (hi-lo).toNat,?_,λb hb=>?_,q⟩
 ·have e1:lo+((0:Nat):Int)*1=lo:=by simp
  have e2:(((hi-lo).toNat:Nat):Int)-((0:Nat):Int)=Builtin.Range.rangeSize lo hi 1:=by rw[rangeSize_one];split<;>lia
  show IsRangeIter _ _ (lo+((0:Nat):Int)*1) ((((hi-lo).toNat:Nat):Int)-((0:Nat):Int)) 1
  rw[e1,e2]
  exact Zd _ rfl
 ·have e:b=(s.heap.push { cls:=.type "range",data:=.fields #[.int lo t,.int hi u,.int 1 v] }).objs.size:=by simpa using hb
  subst e
  exact I1.fpOk (Qi _) (I1.hok.fresh (Qi _))
inductive RR1(vs:List V)(R:Int→Prop):Prop
 |mk (j:Int) (e:vs=[.int j]) (l:-(2 ^ 62)≤j) (u:j<2 ^ 62) (q:R j):RR1 vs R
def iRng1(ta:TA):TI:=λ σ H R=>ta σ H λvs H1=>RR1 vs λj=>R (Itr 0 j.toNat) H1
def iRng2(ta:TA):TI:=λ σ H R=>ta σ H λvs H1=>∃i j:Int,vs=[.int i,.int j]∧(-(2 ^ 62)≤i∧i<2 ^ 62∧-(2 ^ 62)≤j∧j<2 ^ 62)∧R (Itr i (j-i).toNat) H1
def zfz{a:Expr}{ta:TA}{p pos:Pos}(hg:Gl X "range")(hm:X.mg "range" = none)(ha:PA X [a] ta)(hs:starEach [a] X.env=[(false,eval a X.env)]:=by rfl):PI X tg (.Call (.Name "range" p) [a] [] pos) (iRng1 ta):=by
 intro a7 s σ H R I h
 refine Call_ (zdt I hg hm boot_range (Yq (thn (ha pos a7 s σ H _ I h) λus s1 ⟨vs,H1,I1,r1,q1⟩=>?_) hs rfl))
 obtain⟨j,e,q1,q2,q⟩:=q1
 subst e
 cases r1 with
 |cons r rr =>
  cases rr
  obtain⟨t,rfl⟩:=r
  exact call_range_1 (range_it I1 (by lia) (by lia) q1 q2 (by simpa using q))
def pi_range2{a b:Expr}{ta:TA}{p pos:Pos}(hg:Gl X "range")(hm:X.mg "range" = none)(ha:PA X [a,b] ta)(hs:starEach [a,b] X.env=[(false,eval a X.env),(false,eval b X.env)]:=by rfl)(dP:starEach [b] X.env=[(false,eval b X.env)]:=by rfl) :
  PI X tg (.Call (.Name "range" p) [a,b] [] pos) (iRng2 ta):=by
 intro a7 s σ H R I h
 refine Call_ (zdt I hg hm boot_range (Yq (thn (ha pos a7 s σ H _ I h) λus s1 ⟨vs,H1,I1,r1,q1⟩=>?_) (by rw[hs,dP]) (by rw[dP];rfl)))
 obtain⟨i,j,e,⟨q1,q2,q3,q4⟩,q⟩:=q1
 subst e
 cases r1 with
 | cons r rr =>
  cases rr with
  |cons r' rr =>
   cases rr
   obtain⟨t,rfl⟩:=r
   obtain⟨t',rfl⟩:=r'
   exact call_range_2 (range_it I1 q1 q2 q3 q4 q)
def tFor(wi:TI)(g:TG)(tb:TS):TS:=λD σ H=>wi σ H λJ H1=>∃W:Nat→Nat→St→Hp→Prop,(∃m,W 0 m σ H1)∧∀i m σ H,W i m σ H →
 (J.stop i H∧D.nx σ H)∨(J.go i H∧∃N:St→Hp→Prop,(∀σ' H',N σ' H'→∃m',m'<m∧W (i+1) m' σ' H')∧∀x H',J.yld i H x H'→g x σ H' λ σ2 H2=>tb {D with nx:=N,ct:=N,bk:=D.nx} σ2 H2)
def zcq(fp:Nk)(h:Nm):List (Addr×Obj):=fp.filterMap λb=>(h.get? b).map λo=>(b,o)
def zb0{fp:Nk}{h:Nm}{b:Nc}{o:Obj}(hb:b∈fp)(e:h.get? b=some o):(b,o)∈zcq fp h:=List.mem_filterMap.mpr ⟨b,hb,by rw[e];rfl⟩
def zf4{fp:Nk}{h:Nm}{p:Addr×Obj}(hp:p∈zcq fp h):p.1∈fp∧h.get? p.1=some p.2:=by
 obtain⟨b,hb,e⟩:=List.mem_filterMap.mp hp
 cases q:h.get? b with
 |none=>rw[q]at e;cases e
 |some o =>
  rw[q]at e
  have e':(b,o)=p:=Qk e
  subst e'
  exact⟨hb,q⟩
def Inv.pinned{a7:Nd}{σ:St}{H:Hp}{s:Nh}{fp:Nk}(I:Inv X a7 σ H s)(hf:∀b∈fp,FpOk X a7 H b)(ho:∀b∈fp,∃o,s.heap.get? b=some o∧∀v,o.data≠.cell v):Inv X (a7++zcq fp s.heap) σ H s :=
 I.pins_of λp hp=>(Qf.mp hp).elim (λz=>I.pin p (Qo _ z)) λz=>by
  obtain⟨hb,e⟩:=zf4 z
  obtain⟨f0,f1,f2,_⟩:=hf p.1 hb
  obtain⟨o,e',d⟩:=ho p.1 hb
  rw[e]at e';cases e'
  exact⟨e,f0,f1,f2,d⟩
def Inv.unpinned{a7 pl:Nd}{σ:St}{H:Hp}{s:Nh}(I:Inv X (a7++pl) σ H s):Inv X a7 σ H s:=I.pins_of λp hp=>I.pin p (Qo _ (Qn _ hp))
def zbn{iter:Expr}{body:List Stmt}{wi:TI}{g:TG}{tb:TS}{pos:Pos}(hp:PassesOwn (model X.prog X.w) X.A X.env X.xe)(hc:X.calm=true)(hi:PI X tg iter wi)(hg:PG X tg g)(hb:PSs X body tb)(hs:∀x,foldedSetIterable iter X.env x=pure x:=by intro _;rfl):PS X (.For tg iter body [] pos) (tFor wi g tb):=by
 intro a7 s σ H D I h
 refine wpAny_For (thn (hi a7 s σ H _ I h) λv s1 h1=>thn h1 λitv s2 h2=>?_) hs
 obtain⟨it,fp,tn,J,H2,e,I2,T,bZ,f2,W,⟨m0,w0⟩,turn⟩:=h2
 subst e
 have stat:∀{H':Hp},(∀b∈fp,H' b=none)→∀b∈fp,FpOk X a7 H' b:=λhn b hb=>⟨hn b hb,(f2 b hb).2⟩
 refine codeAny_forLoop_any (λn s'=>Ex3 λi σ' H'=>Aj4 (Inv X a7 σ' H' s') (tn i s'.heap) (∀b∈fp,H' b=none) (W i n σ' H')) ?_ m0 ⟨0,σ,H2,I2,bZ,λb hb=>(f2 b hb).1,w0⟩
 rintro n s3 ⟨i,σ3,H3,I3,ax,tW,w3⟩
 rcases turn i n σ3 H3 w3 with⟨stop,qn⟩ | ⟨go,N,hN,step⟩
 ·refine wpAny_passesOwn hp (thn (T.done X rfl rfl rfl hc i a7 s3 σ3 H3 X.xe I3 (stat tW) ax stop) fun r s4 ⟨hr,I4⟩=>?_)
  subst hr
  exact wpAny_execs_nil ⟨σ3,H3,I4,qn⟩
 ·refine wpAny_passesOwn hp (thn (T.item X rfl rfl rfl hc i a7 s3 σ3 H3 X.xe I3 (stat tW) ax go) fun r s4 ⟨u,hr,h4⟩=>?_)
  subst hr
  refine wpAny_passesOwn hp (thn h4 λ_ s5 ⟨x,H5,I5,r5,y5,lF,fr5⟩=>?_)
  have kQ:=I5.pinned (stat fr5) (T.obj _ _ lF)
  refine wpAny_passesOwn hp (thn (hg _ s5 σ3 H5 x u _ kQ r5 (step x H5 y5)) λ_ s6 ⟨σ6,H6,I6,q6⟩=>?_)
  refine wpAny_passesOwn hp (thn (hb _ s6 σ6 H6 _ I6 q6) λf s7 q7=>?_)
  have again:∀{σ7:St} {H7:Hp},Inv X (a7++zcq fp s5.heap) σ7 H7 s7→N σ7 H7→∃m,m<n∧Ex3 λi σ' H'=>Aj4 (Inv X a7 σ' H' s7) (tn i s7.heap) (∀b∈fp,H' b=none) (W i m σ' H'):=λ{σ7 H7} I7 n7=>by
   obtain⟨m',hm,w7⟩:=hN σ7 H7 n7
   refine⟨m',hm,i+1,σ7,H7,I7.unpinned,T.keep _ _ _ lF λb hb o e=>(I7.pin (b,o) (Qo _ (Qo _ (zb0 hb e)))).1,λb hb=>?_,w7⟩
   obtain⟨o,e,d⟩:=T.obj _ _ lF b hb
   exact(I7.pin (b,o) (Qo _ (Qo _ (zb0 hb e)))).2.1
  cases f with
  |next=>obtain⟨σ7,H7,I7,n7⟩:=q7;exact again I7 n7
  |cont=>obtain⟨σ7,H7,I7,n7⟩:=q7;exact again I7 n7
  |brk=>obtain⟨σ7,H7,I7,q7⟩:=q7;exact⟨σ7,H7,I7.unpinned,q7⟩
  |ret v=>obtain⟨x7,σ7,H7,I7,r7,q7⟩:=q7;exact⟨x7,σ7,H7,I7.unpinned,r7,q7⟩
end
def zbt{K:Nb}{a:Nc}{xs:List V}{g:TG}{tb:TS}{D:Ends}{σ:St}{H:Hp}(Pv:Nat→St→Hp→Prop)(h0:Pv 0 σ H)(hl:∀i σ H,i≤xs.length→Pv i σ H→SqL K H a xs)(hs:∀i x σ H,xs[i]?=some x→Pv i σ H→g x σ H λ σ2 H2=>tb {D with nx:=Pv (i+1),ct:=Pv (i+1),bk:=D.nx} σ2 H2)(hd:∀σ H,Pv xs.length σ H→D.nx σ H) :
  ∃W:Nat→Nat→St→Hp→Prop,(∃m,W 0 m σ H)∧∀i m σ H,W i m σ H →
   ((Itl K a).stop i H∧D.nx σ H)∨((Itl K a).go i H∧∃N:St→Hp→Prop,(∀σ' H',N σ' H'→∃m',m'<m∧W (i+1) m' σ' H')∧∀x H',(Itl K a).yld i H x H'→g x σ H' λ σ2 H2=>tb {D with nx:=N,ct:=N,bk:=D.nx} σ2 H2):=by
 refine⟨λi m σ H=>m=xs.length-i∧i≤xs.length∧Pv i σ H,⟨xs.length,by simp,Zf _,h0⟩,?_⟩
 rintro i m σ H ⟨rfl,hi,p⟩
 have q:=hl i σ H hi p
 by_cases ag:i<xs.length
 ·refine .inr ⟨⟨xs,xs[i],q,by simp [ag]⟩,Pv (i+1),fun σ' H' p'=>⟨xs.length - (i+1),by exact zar1 ‹_›,rfl,ag,p'⟩,fun x H' y=>?_⟩
  obtain⟨e,y⟩:=y
  subst e
  exact hs i x σ _ (y xs q) p
 ·have e:i=xs.length:=by exact zar3 ‹_› ‹_›
  subst e
  exact .inl ⟨⟨xs,q,Qi _⟩,hd σ H p⟩
def for_tup{K:Nb}{a:Nc}{xs:List V}{g:TG}{tb:TS}{D:Ends}{σ:St}{H:Hp}(Pv:Nat→St→Hp→Prop)(h0:Pv 0 σ H)(hl:∀i σ H,i≤xs.length→Pv i σ H→SqT K H a xs)(hs:∀i x σ H,xs[i]?=some x→Pv i σ H→g x σ H λ σ2 H2=>tb {D with nx:=Pv (i+1),ct:=Pv (i+1),bk:=D.nx} σ2 H2)(hd:∀σ H,Pv xs.length σ H→D.nx σ H) :
  ∃W:Nat→Nat→St→Hp→Prop,(∃m,W 0 m σ H)∧∀i m σ H,W i m σ H →
   ((Itt K a).stop i H∧D.nx σ H)∨((Itt K a).go i H∧∃N:St→Hp→Prop,(∀σ' H',N σ' H'→∃m',m'<m∧W (i+1) m' σ' H')∧∀x H',(Itt K a).yld i H x H'→g x σ H' λ σ2 H2=>tb {D with nx:=N,ct:=N,bk:=D.nx} σ2 H2):=by
 refine⟨λi m σ H=>m=xs.length-i∧i≤xs.length∧Pv i σ H,⟨xs.length,by simp,Zf _,h0⟩,?_⟩
 rintro i m σ H ⟨rfl,hi,p⟩
 have q:=hl i σ H hi p
 by_cases ag:i<xs.length
 ·refine .inr ⟨⟨xs,xs[i],q,by simp [ag]⟩,Pv (i+1),fun σ' H' p'=>⟨xs.length - (i+1),by exact zar1 ‹_›,rfl,ag,p'⟩,fun x H' y=>?_⟩
  obtain⟨e,y⟩:=y
  subst e
  exact hs i x σ _ (y xs q) p
 ·have e:i=xs.length:=by exact zar3 ‹_› ‹_›
  subst e
  exact .inl ⟨⟨xs,q,Qi _⟩,hd σ H p⟩
def zel{lo:Int}{n:Nat}{g:TG}{tb:TS}{D:Ends}{σ:St}{H:Hp}(Pv:Nat→St→Hp→Prop)(h0:Pv 0 σ H)(hs:∀i σ H,i<n→Pv i σ H→g (.int (lo+i)) σ H λ σ2 H2=>tb {D with nx:=Pv (i+1),ct:=Pv (i+1),bk:=D.nx} σ2 H2)(hd:∀σ H,Pv n σ H→D.nx σ H) :
  ∃W:Nat→Nat→St→Hp→Prop,(∃m,W 0 m σ H)∧∀i m σ H,W i m σ H →
   ((Itr lo n).stop i H∧D.nx σ H)∨((Itr lo n).go i H∧∃N:St→Hp→Prop,(∀σ' H',N σ' H'→∃m',m'<m∧W (i+1) m' σ' H')∧∀x H',(Itr lo n).yld i H x H'→g x σ H' λ σ2 H2=>tb {D with nx:=N,ct:=N,bk:=D.nx} σ2 H2):=by
 refine⟨λi m σ H=>m=n-i∧i≤n∧Pv i σ H,⟨n,by simp,Zf _,h0⟩,?_⟩
 rintro i m σ H ⟨rfl,hi,p⟩
 by_cases ag:i<n
 ·refine .inr ⟨ag,Pv (i+1),fun σ' H' p'=>⟨n - (i+1),by exact zar1 ‹_›,rfl,ag,p'⟩,fun x H' y=>?_⟩
  obtain⟨e,y⟩:=y
  subst e y
  exact hs i σ _ ag p
 ·have e:i=n:=by exact zar3 ‹_› ‹_›
  subst e
  exact .inl ⟨Qi _,hd σ H p⟩
end L2
namespace L2
open PySem PySem.Spec PyProof.Rows
abbrev R2:=V→V→Hp→VK→Prop
def OpR(X:Cx)(f:Value→Value→Sem Value)(r:R2):Prop :=
 ∀(a7:Nd) (s:Nh) (σ:St) (H:Hp) (x y:V) (v u:Value) (Q:VK),Inv X a7 σ H s→RelV x v→RelV y u→r x y H Q →
  wpAny (model X.prog X.w) X.A (f v u) (EP X a7 σ Q) X.xe s
def UnR(X:Cx)(f:Value→Sem Value)(r:V→Hp→VK→Prop):Prop :=
 ∀(a7:Nd) (s:Nh) (σ:St) (H:Hp) (x:V) (v:Value) (Q:VK),Inv X a7 σ H s→RelV x v→r x H Q →
  wpAny (model X.prog X.w) X.A (f v) (EP X a7 σ Q) X.xe s
def zch(X:Cx)(f:Value)(r:List V→Hp→VK→Prop):Prop :=
 ∀(a7:Nd) (s:Nh) (σ:St) (H:Hp) (xs:List V) (us:Ni) (Q:VK),Inv X a7 σ H s→Vals xs us→r xs H Q →
  wpAny (model X.prog X.w) X.A (call f us) (EP X a7 σ Q) X.xe s
def TruR(X:Cx)(r:V→Hp→(Bool→Hp→Prop)→Prop):Prop :=
 ∀(a7:Nd) (s:Nh) (σ:St) (H:Hp) (x:V) (v:Value) (Q:Bool→Hp→Prop),Inv X a7 σ H s→RelV x v→r x H Q →
  wpAny (model X.prog X.w) X.A (truthy v) (TP X a7 σ Q) X.xe s
def tOp(r:R2)(ta tb:TE):TE:=λ σ H Q=>ta σ H λx H1=>tb σ H1 λy H2=>r x y H2 Q
def tUn(r:V→Hp→VK→Prop)(ta:TE):TE:=λ σ H Q=>ta σ H λx H1=>r x H1 Q
inductive RrI(C:Int→Int→Prop)(g:Int→Int→V)(x:V)(y:V)(H:Hp)(Q:VK):Prop
 |mk (i:_) (j:_) (h0:x=.int i) (h1:y=.int j) (h2:C i j) (h3:Q (g i j) H):RrI C g x y H Q
def rI(C:Int→Int→Prop)(g:Int→Int→V):R2:=λx y H Q=>RrI C g x y H Q
inductive RrI0(g:Int→Int→V)(x:V)(y:V)(H:Hp)(Q:VK):Prop
 |mk (i:_) (j:_) (h0:x=.int i) (h1:y=.int j) (h2:Q (g i j) H):RrI0 g x y H Q
def rI0(g:Int→Int→V):R2:=λx y H Q=>RrI0 g x y H Q
def rU(g:Int→V):V→Hp→VK→Prop:=λx H Q=>∃i,x=.int i∧Q (g i) H
section
variable{X:Cx}{a b c:Expr}{ta tb tc:TE}{pos:Pos}
def binT(ha:PE X a ta)(hb:PE X b tb){a7:Nd}{s:Nh}{σ:St}{H:Hp}{R:V→V→Hp→Prop}(I:Inv X a7 σ H s)(h:ta σ H λx H1=>tb σ H1 λy H2=>R x y H2){Q:Na}{f:Value→Value→Sem Value}(hf:∀v u s2 x y H2,Inv X a7 σ H2 s2→RelV x v→RelV y u→R x y H2→wpAny (model X.prog X.w) X.A (f v u) Q X.xe s2) :
  wpAny (model X.prog X.w) X.A (eval a X.env) (λv s₁=>wpAny (model X.prog X.w) X.A (eval b X.env) (λu s₂=>wpAny (model X.prog X.w) X.A (f v u) Q X.xe s₂) X.xe s₁) X.xe s:=by
 refine thn (ha a7 s σ H _ I h) λv s1 ⟨x,H1,I1,r1,q1⟩=>?_
 refine thn (hb a7 s1 σ H1 _ I1 q1) λu s2 ⟨y,H2,I2,r2,q2⟩=>?_
 exact hf v u s2 x y H2 I2 r1 r2 q2
def zaw{op:Operator}{r:R2}(ho:OpR X (binaryOp op) r)(ha:PE X a ta)(hb:PE X b tb):PE X (.BinOp a op b pos) (tOp r ta tb):=by
 intro a7 s σ H Q I h
 exact wpAny_BinOp (binT ha hb I h λv u s2 x y H2 I2 rx ry q=>ho a7 s2 σ H2 x y v u Q I2 rx ry q)
def pe_un{op:UnaryOp}{r:V→Hp→VK→Prop}(ho:UnR X (unaryOp op) r)(ha:PE X a ta):PE X (.UnaryOp op a pos) (tUn r ta):=by
 intro a7 s σ H Q I h
 exact UnaryOp_ (thn (ha a7 s σ H _ I h) λv s1 ⟨x,H1,I1,r1,q1⟩=>ho a7 s1 σ H1 x v Q I1 r1 q1)
def opI{f:Value→Value→Sem Value}{C:Int→Int→Prop}{g:Int→Int→Int}(rule:∀(i j:Int) (t u:Tok) (s:Nh) (Q:Na) (E:Na),C i j→Q (.int (g i j) s.toks) {s with toks:=s.toks+1}→wpAny (model X.prog X.w) X.A (f (.int i t) (.int j u)) Q E s) :
  OpR X f (rI C λi j=>.int (g i j)):=by
 intro a7 s σ H x y v u Q I rx ry h
 obtain⟨i,j,rfl,rfl,hc,q⟩:=h
 obtain⟨t,rfl⟩:=rx
 obtain⟨t',rfl⟩:=ry
 exact rule i j t t' s _ _ hc ⟨.int (g i j),H,I.tok _,⟨_,rfl⟩,q⟩
def opI0{f:Value→Value→Sem Value}{g:Int→Int→Int}(rule:∀(i j:Int) (t u:Tok) (s:Nh) (Q:Na) (E:Na),Q (.int (g i j) s.toks) {s with toks:=s.toks+1}→wpAny (model X.prog X.w) X.A (f (.int i t) (.int j u)) Q E s) :
  OpR X f (rI0 λi j=>.int (g i j)):=by
 intro a7 s σ H x y v u Q I rx ry h
 obtain⟨i,j,rfl,rfl,q⟩:=h
 obtain⟨t,rfl⟩:=rx
 obtain⟨t',rfl⟩:=ry
 exact rule i j t t' s _ _ ⟨.int (g i j),H,I.tok _,⟨_,rfl⟩,q⟩
def opB0{f:Value→Value→Sem Value}{g:Int→Int→Bool}(rule:∀(i j:Int) (t u:Tok) (s:Nh) (Q:Na) (E:Na),Q (.bool (g i j)) s→wpAny (model X.prog X.w) X.A (f (.int i t) (.int j u)) Q E s) :
  OpR X f (rI0 λi j=>.bl (g i j)):=by
 intro a7 s σ H x y v u Q I rx ry h
 obtain⟨i,j,rfl,rfl,q⟩:=h
 obtain⟨t,rfl⟩:=rx
 obtain⟨t',rfl⟩:=ry
 exact rule i j t t' s _ _ ⟨.bl (g i j),H,I,rfl,q⟩
def CDiv(i j:Int):Prop:=0<j∧j<1073741824
def CPow(i j:Int):Prop:=0≤j∧j≤1000000∧i.natAbs<2 ^ 64
def CMul(i j:Int):Prop:=(-(2 ^ 64)<i∧i<2 ^ 64)∨(-(2 ^ 64)<j∧j<2 ^ 64)
def CMul.ok{i j:Int}(h:CMul i j):IntMulOk i j:=by
 rcases h with⟨h1,h2⟩ | ⟨h1,h2⟩
 ·exact .of_left (intBits_le_64 h1 h2)
 ·exact .of_right (intBits_le_64 h1 h2)
def zbv:OpR X (binaryOp .Add) (rI0 λi j=>.int (i+j)):=opI0 λ_ _ _ _ _ _ _ q=>add_int q
def ze8:OpR X (binaryOp .Sub) (rI0 λi j=>.int (i-j)):=opI0 λ_ _ _ _ _ _ _ q=>sub_int q
def zf3:OpR X (binaryOp .Mult) (rI CMul λi j=>.int (i*j)):=opI λ_ _ _ _ _ _ _ hc q=>mul_int q hc.ok
def zh7:OpR X (binaryOp .FloorDiv) (rI CDiv λi j=>.int (i/j)):=opI λi j _ _ _ _ _ hc q=>by
 have h1:(0:Int)<j:=hc.1
 have h2:j<1073741824:=hc.2
 exact floordiv_int (by lia) (by rw[Int.fdiv_eq_ediv_of_nonneg i (by lia)];exact q) (.inl (PyProof.noPylong_small (by lia)))
def ze9:OpR X (binaryOp .Mod) (rI (λ_ j=>0<j) λi j=>.int (i%j)):=opI λi j _ _ _ _ _ hc q=>by
 have h1:(0:Int)<j:=hc
 exact mod_int' (by lia) (by rw[Int.fmod_eq_emod_of_nonneg i (by lia)];exact q)
def op_pow:OpR X (binaryOp .Pow) (rI CPow λi j=>.int (i ^ j.toNat)):=opI λ_ _ _ _ _ _ _ hc q=>pow_int_small hc.1 hc.2.1 hc.2.2 q
def unI{f:Value→Sem Value}{g:Int→Int}(rule:∀(i:Int) (t:Tok) (s:Nh) (Q:Na) (E:Na),Q (.int (g i) s.toks) {s with toks:=s.toks+1}→wpAny (model X.prog X.w) X.A (f (.int i t)) Q E s) :
  UnR X f (rU λi=>.int (g i)):=by
 intro a7 s σ H x v Q I rx h
 obtain⟨i,rfl,q⟩:=h
 obtain⟨t,rfl⟩:=rx
 exact rule i t s _ _ ⟨.int (g i),H,I.tok _,⟨_,rfl⟩,q⟩
def un_neg:UnR X (unaryOp .USub) (rU λi=>.int (-i)):=unI λ_ _ _ _ _ q=>neg_int q
end
def scal:V→V→Bool
 |.non,.non=>true | .non,.int _=>true | .int _,.non=>true | .non,.bl _=>true | .bl _,.non=>true | .non,.str _=>true | .str _,.non=>true
 |.int _,.int _=>true | .bl _,.bl _=>true | .str _,.str _=>true | .byt _,.byt _=>true
 |.int _,.str _=>true | .str _,.int _=>true | .bl _,.str _=>true | .str _,.bl _=>true
 |_,_=>false
def rEq:R2:=λx y H Q=>scal x y=true∧Q (.bl (decide (x=y))) H
def rNe:R2:=λx y H Q=>scal x y=true∧Q (.bl (!decide (x=y))) H
def dec_int{i j:Int}:decide (V.int i=V.int j)=(i==j):=by
 rw[Wl]
 simp
def dec_bl{i j:Bool}:decide (V.bl i=V.bl j)=(i==j):=by
 rw[Wl]
 simp
def dec_str{i j:Str}:decide (V.str i=V.str j)=(i==j):=by
 rw[Wl]
 simp
def dec_byt{i j:Array UInt8}:decide (V.byt i=V.byt j)=(i.toList==j.toList):=by
 rw[Wl]
 cases i
 cases j
 simp
section
variable{X:Cx}{a b c:Expr}{ta tb tc:TE}{pos:Pos}
def zbe{a7:Nd}{σ:St}{H:Hp}{s:Nh}{Q:VK}{k k':Bool}(I:Inv X a7 σ H s)(q:Q (.bl k) H)(e:k=k'):EP X a7 σ Q (.bool k') s:=by
 subst e
 exact⟨.bl k,H,I,rfl,q⟩
def op_eq:OpR X (compareOp .Eq) rEq:=by
 intro a7 s σ H x y v u Q I rx ry h
 obtain⟨hs,q⟩:=h
 cases x with
 |non =>
  cases rx
  cases y with
  |non=>cases ry;exact PySem.EqNone.eq_none_none (zbe I q (by simp))
  |bl j=>cases ry;exact PySem.EqNone.eq_none_bool (zbe I q (by simp))
  |int j=>obtain⟨t',rfl⟩:=ry;exact PySem.EqNone.eq_none_int (zbe I q (by simp))
  |str j=>obtain⟨t',rfl⟩:=ry;exact PySem.EqNone.eq_none_str (zbe I q (by simp))
  |_=>exact absurd (show false=true from hs) Zg
 |bl i =>
  cases rx
  cases y with
  |non=>cases ry;exact PySem.EqNone.eq_bool_none (zbe I q (by simp))
  |bl j=>cases ry;exact eq_bool (zbe I q dec_bl)
  |str j=>obtain⟨t',rfl⟩:=ry;exact PySem.EqMixed.eq_bool_str (zbe I q (by simp))
  |_=>exact absurd (show false=true from hs) Zg
 |int i =>
  obtain⟨t,rfl⟩:=rx
  cases y with
  |non=>cases ry;exact PySem.EqNone.eq_int_none (zbe I q (by simp))
  |int j=>obtain⟨t',rfl⟩:=ry;exact eq_int (zbe I q dec_int)
  |str j=>obtain⟨t',rfl⟩:=ry;exact PySem.EqMixed.eq_int_str (zbe I q (by simp))
  |_=>exact absurd (show false=true from hs) Zg
 |str i =>
  obtain⟨t,rfl⟩:=rx
  cases y with
  |non=>cases ry;exact PySem.EqNone.eq_str_none (zbe I q (by simp))
  |bl j=>cases ry;exact PySem.EqMixed.eq_str_bool (zbe I q (by simp))
  |int j=>obtain⟨t',rfl⟩:=ry;exact PySem.EqMixed.eq_str_int (zbe I q (by simp))
  |str j=>obtain⟨t',rfl⟩:=ry;exact eq_str (zbe I q dec_str)
  |_=>exact absurd (show false=true from hs) Zg
 |byt i =>
  obtain⟨t,rfl⟩:=rx
  cases y with
  |byt j=>obtain⟨t',rfl⟩:=ry;exact PySem.W.eq_bytes (zbe I q dec_byt)
  |_=>exact absurd (show false=true from hs) Zg
 |_=>cases y<;>exact absurd (show false=true from hs) Zg
def op_ne:OpR X (compareOp .NotEq) rNe:=by
 intro a7 s σ H x y v u Q I rx ry h
 obtain⟨hs,q⟩:=h
 cases x with
 |non =>
  cases rx
  cases y with
  |non=>cases ry;exact PySem.EqNone.ne_none_none (zbe I q (by simp))
  |bl j=>cases ry;exact PySem.EqNone.ne_none_bool (zbe I q (by simp))
  |int j=>obtain⟨t',rfl⟩:=ry;exact PySem.EqNone.ne_none_int (zbe I q (by simp))
  |str j=>obtain⟨t',rfl⟩:=ry;exact PySem.EqNone.ne_none_str (zbe I q (by simp))
  |_=>exact absurd (show false=true from hs) Zg
 |bl i =>
  cases rx
  cases y with
  |non=>cases ry;exact PySem.EqNone.ne_bool_none (zbe I q (by simp))
  |bl j=>cases ry;exact ne_bool (zbe I q (congrArg not dec_bl))
  |str j=>obtain⟨t',rfl⟩:=ry;exact PySem.EqMixed.ne_bool_str (zbe I q (by simp))
  |_=>exact absurd (show false=true from hs) Zg
 |int i =>
  obtain⟨t,rfl⟩:=rx
  cases y with
  |non=>cases ry;exact PySem.EqNone.ne_int_none (zbe I q (by simp))
  |int j=>obtain⟨t',rfl⟩:=ry;exact ne_int (zbe I q (congrArg not dec_int))
  |str j=>obtain⟨t',rfl⟩:=ry;exact PySem.EqMixed.ne_int_str (zbe I q (by simp))
  |_=>exact absurd (show false=true from hs) Zg
 |str i =>
  obtain⟨t,rfl⟩:=rx
  cases y with
  |non=>cases ry;exact PySem.EqNone.ne_str_none (zbe I q (by simp))
  |bl j=>cases ry;exact PySem.EqMixed.ne_str_bool (zbe I q (by simp))
  |int j=>obtain⟨t',rfl⟩:=ry;exact PySem.EqMixed.ne_str_int (zbe I q (by simp))
  |str j=>obtain⟨t',rfl⟩:=ry;exact ne_str (zbe I q (congrArg not dec_str))
  |_=>exact absurd (show false=true from hs) Zg
 |byt i =>
  obtain⟨t,rfl⟩:=rx
  cases y with
  |byt j=>obtain⟨t',rfl⟩:=ry;exact PySem.W.ne_bytes (zbe I q (congrArg not dec_byt))
  |_=>exact absurd (show false=true from hs) Zg
 |_=>cases y<;>exact absurd (show false=true from hs) Zg
def op_lt:OpR X (compareOp .Lt) (rI0 λi j=>.bl (decide (i<j))):=opB0 λ_ _ _ _ _ _ _ q=>lt_int q
def op_le:OpR X (compareOp .LtE) (rI0 λi j=>.bl (decide (i≤j))):=opB0 λ_ _ _ _ _ _ _ q=>le_int q
def op_gt:OpR X (compareOp .Gt) (rI0 λi j=>.bl (decide (j<i))):=opB0 λ_ _ _ _ _ _ _ q=>gt_int q
def op_ge:OpR X (compareOp .GtE) (rI0 λi j=>.bl (decide (j≤i))):=opB0 λ_ _ _ _ _ _ _ q=>ge_int q
def zbd(b:Expr){op:CmpOp}(h:op≠.In:=by decide)(h2:op≠.NotIn:=by decide):behindInMarks op b=false:=by
 have e1:(op==CmpOp.In)=false:=by cases op<;>first | rfl | exact absurd rfl h
 have e2:(op==CmpOp.NotIn)=false:=by cases op<;>first | rfl | exact absurd rfl h2
 cases b<;>simp[behindInMarks,e1,e2]
def pe_cmpR{op:CmpOp}{r:R2}(ho:OpR X (compareOp op) r)(ha:PE X a ta)(hb:PE X b tb)(hm:behindInMarks op b=false):PE X (.Compare a [op] [b] pos) (tOp r ta tb):=by
 intro a7 s σ H Q I h
 exact wpAny_Compare1 (binT ha hb I h λv u s2 x y H2 I2 rx ry q=>ho a7 s2 σ H2 x y v u Q I2 rx ry q) hm
def tTest(t:TE):TT:=λ σ H Q=>t σ H λx H'=>RB x H' Q
def zar{op:CmpOp}{r:R2}(ho:OpR X (compareOp op) r)(ha:PE X a ta)(hb:PE X b tb)(hm:behindInMarks op b=false):PT X (.Compare a [op] [b] pos) (tTest (tOp r ta tb)):=by
 intro a7 s σ H Q I h
 refine wpAny_isTrue_Compare1 (thn (ha a7 s σ H _ I h) λv s1 ⟨x,H1,I1,r1,q1⟩=>thn (hb a7 s1 σ H1 _ I1 q1) λu s2 ⟨y,H2,I2,r2,q2⟩ =>
  thn (ho a7 s2 σ H2 x y v u _ I2 r1 r2 q2) λc s3 ⟨z,H3,I3,r3,k,e,q3⟩=>?_) hm
 subst e
 cases r3
 exact wpAny_truthy_bool ⟨H3,I3,q3⟩
def tChain(r r':R2)(ta tb tc:TE):TE:=λ σ H Q=>ta σ H λx H1=>tb σ H1 λy H2=>r x y H2 λz H3=>RB z H3 λk H3 =>
 (if k=true then tc σ H3 λw' H4=>r' y w' H4 Q else Q (.bl false) H3)
def pe_chain{op qo:CmpOp}{r r':R2}(ho:OpR X (compareOp op) r)(dl:OpR X (compareOp qo) r')(ha:PE X a ta)(hb:PE X b tb)(hc:PE X c tc)(hm:lastMarks [op,qo] [b,c]=false:=by with_unfolding_all rfl):PE X (.Compare a [op,qo] [b,c] pos) (tChain r r' ta tb tc):=by
 intro a7 s σ H Q I h
 refine Compare_chain (thn (ha a7 s σ H _ I h) λv s1 ⟨x,H1,I1,r1,q1⟩=>chain_link (thn (hb a7 s1 σ H1 _ I1 q1) λu s2 ⟨y,H2,I2,r2,q2⟩ =>
  thn (ho a7 s2 σ H2 x y v u _ I2 r1 r2 q2) λd s3 ⟨z,H3,I3,r3,k,e,q3⟩=>?_)) hm
 subst e
 cases r3
 refine wpAny_truthy_bool ?_
 cases k with
 |false=>exact ite_ff ⟨.bl false,H3,I3,rfl,q3⟩
 |true=>exact ite_tt (chain_last (thn (hc a7 s3 σ H3 _ I3 q3) λw' s4 ⟨z',H4,I4,r4,q4⟩=>dl a7 s4 σ H4 y z' u w' Q I4 r2 r4 q4))
def TruV(K:Nb)(x:V)(H:Hp)(k:Bool):Prop :=
 match x with
 |.non=>k=false
 |.bl b=>k=b
 |.int i=>k=(i != 0)
 |.str y=>y.length≤sizeLine∧k=((y.length:Int) != 0)
 |.byt y=>y.size≤sizeLine∧k=((y.size:Int) != 0)
 |.ref p=>(∃xs,SqL K H p xs∧k=!xs.isEmpty)∨(∃xs,SqT K H p xs∧k=!xs.isEmpty)∨∃kvs,H p=some (.dK kvs)∧k=!kvs.isEmpty
 |_=>False
def isEmpty_kv{κ:Type}{kvs:List (κ×V)}{vs:List (κ×Value)}(r:KV kvs vs):(!vs.isEmpty)=!kvs.isEmpty:=by
 cases r<;>rfl
def zhb{xs:List V}{a8:Ni}(r:Vals xs a8):(!a8.toArray.isEmpty)=!xs.isEmpty:=by
 cases r<;>simp
def zej:(sizeLine:Nat)<2 ^ 63:=by rw[sizeLine_eq];decide
inductive RTr(K:Nb)(x:V)(H:Hp)(Q:Bool→Hp→Prop):Prop
 |mk (k:Bool) (t:TruV K x H k) (q:Q k H):RTr K x H Q
def tru_ok:TruR X (λx H Q=>RTr X.K x H Q):=by
 intro a7 s σ H x v Q I rx h
 obtain⟨k,e,q⟩:=h
 have hl:=zej
 have hs:sizeLine=16777216:=sizeLine_eq
 cases x with
 |non =>
  cases rx
  have e':k=false:=e
  subst e'
  exact truthy_none ⟨H,I,q⟩
 |bl b =>
  cases rx
  have e':k=b:=e
  subst e'
  exact wpAny_truthy_bool ⟨H,I,q⟩
 |int i =>
  obtain⟨t,rfl⟩:=rx
  have e':k=(i != 0):=e
  subst e'
  exact PySem.P.truthy_int ⟨H,I,q⟩
 |str y =>
  obtain⟨t,rfl⟩:=rx
  obtain⟨hy,e'⟩:y.length≤sizeLine∧k=((y.length:Int) != 0):=e
  subst e'
  exact PySem.P.truthy_str (by lia) ⟨H,I.tok _,q⟩
 |byt y =>
  obtain⟨t,rfl⟩:=rx
  obtain⟨hy,e'⟩:y.size≤sizeLine∧k=((y.size:Int) != 0):=e
  subst e'
  exact PySem.W.truthy_bytes (by lia) ⟨H,I.tok _,q⟩
 | ref p =>
  cases rx
  have e':(∃xs,SqL X.K H p xs∧k=!xs.isEmpty)∨(∃xs,SqT X.K H p xs∧k=!xs.isEmpty)∨∃kvs,H p=some (.dK kvs)∧k=!kvs.isEmpty:=e
  rcases e' with⟨xs,hx,e'⟩ | ⟨xs,hx,e'⟩ | ⟨kvs,hx,e'⟩
  ·subst e'
   obtain⟨a8,r,pl,hz⟩:=I.list hx
   have af:=r.length
   exact wpAny_truthy_list pl.isList (by simp only[Qy];lia) ⟨H,I.tok _,by rw[zhb r];exact q⟩
  ·subst e'
   obtain⟨a8,r,pl,hz⟩:=I.tuple hx
   have af:=r.length
   exact truthy_tuple pl (by simp only[Qy];lia) ⟨H,I.tok _,by rw[zhb r];exact q⟩
  ·subst e'
   obtain⟨hz,hS,vs,r,m⟩:kvs.length≤sizeLine∧(p==sysModules)=false∧∃vs,KV kvs vs∧s.heap.DictOf (zat X.prog X.w) p vs:=I.hok p _ hx
   have af:kvs.length=vs.length:=Yr r
   exact wpAny_truthy_dict hS m (by lia) ⟨H,I.tok _,by rw[isEmpty_kv r];exact q⟩
 |_=>exact(show False from e).elim
def zef(ha:PE X a ta)(he:∀whole,isTrue a X.env whole=(do let v ←whole;standAt a.pos;holding [v] (truthy v))) :
  PT X a (λ σ H Q=>ta σ H λx H'=>RTr X.K x H' Q):=by
 intro a7 s σ H Q I h
 exact isTrue_plain (thn (ha a7 s σ H _ I h) λv s1 ⟨x,H1,I1,r1,q1⟩=>tru_ok a7 s1 σ H1 x v Q I1 r1 q1) (he _)
def zha:OpR X (binaryOp .Add) (λx y H Q=>Ex2 λi j=>Aj4 (x=.str i) (y=.str j) (i.length+j.length≤sizeLine) (Q (.str (i++j)) H)):=by
 intro a7 s σ H x y v u Q I rx ry h
 obtain⟨i,j,rfl,rfl,hz,q⟩:=h
 obtain⟨t,rfl⟩:=rx
 obtain⟨t',rfl⟩:=ry
 exact add_str (λt' tk=>⟨.str (i++j),H,I.tok _,⟨_,rfl⟩,q⟩) hz
def vals1{x:V}{us:Ni}(r:Vals [x] us):∃u,us=[u]∧RelV x u:=by
 cases r with
 |cons r1 r2=>cases r2;exact⟨_,rfl,r1⟩
def vals2{x y:V}{us:Ni}(r:Vals [x,y] us):∃u w',us=[u,w']∧RelV x u∧RelV y w':=by
 cases r with
 |cons r1 r2 =>
  cases r2 with
  |cons r3 r4=>cases r4;exact⟨_,_,rfl,r1,r3⟩
def call_min2(hc:X.calm=true):zch X (.builtin "min") (λxs H Q=>Ex2 λi j=>Aj2 (xs=[.int i,.int j]) (Q (.int (if j<i then j else i)) H)):=by
 intro a7 s σ H xs us Q I r h
 obtain⟨i,j,rfl,q⟩:=h
 obtain⟨u,w',rfl,⟨t,rfl⟩,⟨t',rfl⟩⟩:=vals2 r
 refine min_two_ints (I.ok.hd hc) λh' tk k=>⟨_,H,I.kept k,?_,q⟩
 by_cases hj:j<i
 ·rw[if_pos hj,if_pos hj];exact⟨_,rfl⟩
 ·rw[if_neg hj,if_neg hj];exact⟨_,rfl⟩
def call_int1:zch X (.type "int") (λxs H Q=>(∃i,xs=[.int i]∧Q (.int i) H)∨∃k,xs=[.bl k]∧Q (.int (if k then 1 else 0)) H):=by
 intro a7 s σ H xs us Q I r h
 rcases h with⟨i,rfl,q⟩ | ⟨k,rfl,q⟩
 ·obtain ⟨u,rfl,t,rfl⟩:=vals1 r
  exact call_int_int ⟨.int i,H,I,⟨_,rfl⟩,q⟩
 ·obtain ⟨u,rfl,r1⟩:=vals1 r
  cases r1
  exact call_int_bool ⟨.int (if k then 1 else 0),H,I.tok _,⟨_,rfl⟩,q⟩
end
end L2
namespace L2
open PySem PySem.Spec PyProof.Rows
structure ObjM(h:Nm)(x dx C:Nc)(mA:Ng):Prop where
 obj:h.get? x=some (PySem.W.instObj C dx)
 ns:h.Ns1 dx mA
 ne:dx≠x
def lookIn_ns{h:Nm}{dx:Nc}{mA:Ng}(n:h.Ns1 dx mA):∃od,h.get? dx=some od∧∀name,PySem.W.lookIn name od=some (mA name):=by
 obtain⟨o,es,ep,ho,hd,hk,_,hm⟩:=n
 refine⟨o,ho,λname=>?_⟩
 have e:=hm name
 unfold nsFind findBy at e
 rw[←Array.find?_toList]at e
 unfold PySem.W.lookIn
 rw[hd]
 dsimp only
 split
 ·rename_i y q
  rw[q]at e
  exact congrArg some e
 ·rename_i q
  rw[q]at e
  have a:es.toList.any (·.refKey)=false:=by
   rw[List.any_eq_false]
   intro y hy
   obtain⟨z,t,jW⟩:=hk y (Array.mem_toList_iff.mp hy)
   simp[DictEntry.refKey,jW]
  have a':¬es.toList.any (·.refKey)=true:=by rw[a];exact Zg
  rw[if_neg a']
  exact congrArg some e
def ObjM.look{h:Nm}{x dx C:Nc}{mA:Ng}(I:ObjM h x dx C mA):∃od,PySem.W.InstAt h x (PySem.W.instObj C dx) C (some od)∧∀name,PySem.W.lookIn name od=some (mA name) :=
 let⟨od,ho,hl⟩:=lookIn_ns I.ns
 ⟨od,⟨I.obj,rfl,rfl,ho⟩,hl⟩
section
variable{prog:Nj}{w:Nl}{A:Nn}{E:Na}{s:Nh}{K:Nb}{x dx C f:Nc}{mA:Ng}{name:Str}{v:Value}
def get_map{expr:Bool}{Q:Na}(X:K.In s.heap)(I:ObjM s.heap x dx C mA)(hg:PySem.W.plainGet K C name=true)(hh:PySem.W.hasDictIn K C=true)(ha:PySem.W.findIn K (.ref C) name=some none)(hv:mA name=some v)(fG:PySem.W.handedIn v=true)(h:Q v {s with toks:=s.toks+1}) :
  wpAny (model prog w) A (getAttr (.ref x) name expr) Q E s:=by
 obtain⟨od,J,hl⟩:=I.look
 exact PySem.W.get_value X J (PySem.W.plainGet_of hg).1 (PySem.W.findObj_own hh ha rfl (by rw[hl,hv])) fG h
def get_meth{pl:Sem Bool}{Q:Value×List Value→Shared→Prop}(X:K.In s.heap)(I:ObjM s.heap x dx C mA)(hg:PySem.W.plainGet K C name=true)(hf:PySem.W.findIn K (.ref C) name=some (some (.ref f)))(ht:PySem.W.isFn K (.ref f)=true)(hv:mA name=none)(h:Q (.ref f,[.ref x]) s) :
  wpAny (model prog w) A (getMethod (.ref x) name pl) Q E s:=by
 obtain⟨od,J,hl⟩:=I.look
 exact PySem.W.method_fn X J (PySem.W.plainGet_of hg).1 (PySem.W.plainGet_of hg).2 hf (beq_iff_eq.mp ht) (by show(PySem.W.lookIn name od).map (·.isSome)=some false;rw[hl,hv];rfl) h
def set_map{ns:Nf}{Q:Unit→Shared→Prop}(X:K.In s.heap)(I:ObjM s.heap x dx C mA)(hs:PySem.W.findIn K (.ref C) "__setattr__" = some (some (.builtin "object.__setattr__")))(hp:PySem.W.plainOver K C=true)(ht:PySem.W.takerIn K C name=some none)(hh:PySem.W.hasDictIn K C=true)(hw:PySem.Within mA ns)(hsz:ns.length≤sizeLine)(h:∀h',ObjM h' x dx C (λy=>if y=name then some v else mA y)→Heap.SameBut dx s.heap h'→Q () {s with heap:=h',toks:=s.toks+2}) :
  wpAny (model prog w) A (setAttr (.ref x) name v) Q E s:=by
 obtain⟨od,J,hl⟩:=I.look
 refine PySem.W.set_plain X J hs (PySem.W.osa_open (s:={s with toks:=s.toks+1}) (r:=none) X J hp ht λb=>?_)
 obtain⟨cd,hc,iu⟩:=PySem.W.any_some hh
 have hx:s.heap.get? x=some ⟨.ref C,some dx,.plain,#[]⟩:=I.obj
 refine wpAny_bind (wpAny_pure (wpAny_bind (wpAny_bind (wpAny_loadPart hx (wpAny_bind (PySem.W.Looks.here (s:={s with toks:=s.toks+1}) (PySem.W.looks_clsIn X hc) ?_))))))
 rw[iu]
 refine wpAny_pure (a:=some dx) (wpAny_bind (wpAny_pure (wpAny_bind ?_)))
 refine wpAny_nsSet1 (s:={s with toks:=s.toks+1}) I.ns λh' bm dP=>?_
 obtain⟨oD,esD,epD,hoD,hdD,hcD⟩:=bm.count (PySem.Within.cons name v hw)
 refine wpAny_bind (wpAny_lookBehind hoD (by rw[hdD];exact pastItsLine_dict (Zn hcD (by rw[Qx];exact zar4 ‹_›))) ?_)
 exact wpAny_pure (h _ ⟨(dP.2 _ (Zb I.ne)).trans I.obj,bm,I.ne⟩ dP)
def make_map{R:Nt}{vs:Ni}{kw:List (Str×Value)}(X:K.In s.heap)(hm:PySem.W.makesIn K C=true)(hi:PySem.W.findIn K (.ref C) "__init__" = some (some (.ref f)))(hf:PySem.W.typeIn K (.ref f)=some (.type "function"))(h:codeAny (model prog w) (A.under (.builtin "type.__call__" ⟨.ref C::vs,kw⟩)) (.call (.ref f) ⟨.ref (s.heap.objs.size+1)::vs,kw⟩) (PySem.W.InitBack (s.heap.objs.size+1) R)
   {s with heap:=(s.heap.push PySem.W.emptyDict).push (PySem.W.instObj C s.heap.objs.size)}) :
  codeAny (model prog w) A (.call (.ref C) ⟨vs,kw⟩) R s:=by
 obtain⟨hh,g,d,t,os⟩:=s
 exact PySem.W.make_core (PySem.W.makes_of X hm) (PySem.W.looks_findIn X hi) (λself=>PySem.W.bind_fn X self hf) (.inl rfl) h
end
def putF(f:Str)(v:V):List (Str×V)→List (Str×V)
 |[]=>[(f,v)]
 |(g,x)::r=>if g=f then(g,v)::r else(g,x)::putF f v r
theorem zf8(f g:Str)(v:V):∀fs:List (Str×V),(putF f v fs).lookup g=if g=f then some v else fs.lookup g
 | []=>by
  show List.lookup g [(f,v)]=_
  by_cases h:g=f
  ·have hb:(g == f)=true:=beq_iff_eq.mpr h
   simp only[List.lookup,hb,if_pos h]
  ·have hb:(g == f)=false:=beq_eq_false_iff_ne.mpr h
   simp only[List.lookup,hb,if_neg h]
 | (k,x)::r=>by
  have ih:=zf8 f g v r
  rw[show putF f v ((k,x)::r)=(if k=f then(k,v)::r else(k,x)::putF f v r) from rfl]
  by_cases hk:k=f
  ·rw [if_pos hk]
   by_cases h:g=k
   ·have hb:(g == k)=true:=beq_iff_eq.mpr h
    simp only[List.lookup,hb,if_pos (h.trans hk)]
   ·have hb:(g == k)=false:=beq_eq_false_iff_ne.mpr h
    simp only[List.lookup,hb,if_neg (λe:g=f=>h (e.trans hk.symm))]
  ·rw [if_neg hk]
   by_cases h:g=k
   ·have hb:(g == k)=true:=beq_iff_eq.mpr h
    simp only[List.lookup,hb,if_neg (λe:g=f=>hk (h.symm.trans e))]
   ·have hb:(g == k)=false:=beq_eq_false_iff_ne.mpr h
    simp only[List.lookup,hb]
    exact ih
theorem zgd(f:Str)(v:V):∀fs:List (Str×V),f∈(putF f v fs).map (·.1)∧∀g,g∈fs.map (·.1)→g∈(putF f v fs).map (·.1)
 |[]=>⟨by simp[putF],λg h=>by simp at h⟩
 | (k,x)::r=>by
  obtain⟨i1,i2⟩:=zgd f v r
  rw[show putF f v ((k,x)::r)=(if k=f then(k,v)::r else(k,x)::putF f v r) from rfl]
  by_cases hk:k=f
  ·rw [if_pos hk]
   subst hk
   exact⟨by simp,λg h=>by simpa using h⟩
  ·rw [if_neg hk]
   refine⟨?_,λg h=>?_⟩
   ·rw [Ql]
    exact Qg _ i1
   ·rw [Ql] at h ⊢
    rcases Qe.mp h with e | e
    ·exact Qe.mpr (.inl e)
    ·exact Qg _ (i2 g e)
theorem zga(f:Str)(v:V):∀fs:List (Str×V),(putF f v fs).length≤fs.length+1
 |[]=>by simp[putF]
 |(k,x)::r=>by
  have ih:=zga f v r
  rw[show putF f v ((k,x)::r)=(if k=f then(k,v)::r else(k,x)::putF f v r) from rfl]
  by_cases hk:k=f
  ·rw[if_pos hk,Qx,Qx];exact Yh _ _
  ·rw[if_neg hk,Qx,Qx];exact zar4 ‹_›
def RelO.some_of{v:V}{o:Option Value}(r:RelO (some v) o):∃u,o=some u∧RelV v u:=by
 cases o with
 |none=>exact(show False from r).elim
 |some u=>exact⟨u,rfl,r⟩
def RelO.none_of{o:Option Value}(r:RelO none o):o=none:=by
 cases o with
 |none=>rfl
 |some u=>exact(show False from r).elim
def handed_of{v:V}{u:Value}(r:RelV v u):PySem.W.handedIn u=true:=by
 cases v with
 |non=>cases(show u=Value.none from r);rfl
 |bl b=>cases(show u=Value.bool b from r);rfl
 |int i=>obtain⟨t,e⟩:=(show ∃t,u=Value.int i t from r);cases e;rfl
 |str x=>obtain⟨t,e⟩:=(show ∃t,u=Value.str x t from r);cases e;rfl
 |byt b=>obtain⟨t,e⟩:=(show ∃t,u=Value.bytes b t from r);cases e;rfl
 |flt b=>obtain⟨t,e⟩:=(show ∃t,u=Value.float b t from r);cases e;rfl
 |ref a=>cases(show u=Value.ref a from r);rfl
 |ty n=>cases(show u=Value.type n from r);rfl
section
variable{P:Nj}{w:Nl}{H H':Hp}{h h':Nm}{a C dx:Nc}{fs fs':List (Str×V)}
def ins_get(hok:HOk P w H h)(e:H a=some (.ins C dx fs)):∃mA,ObjM h a dx C mA∧(∀f,RelO (fs.lookup f) (mA f))∧PySem.Within mA (fs.map (·.1))∧fs.length≤1000∧H dx=some (.own a):=by
 obtain⟨d,z,ne,ob,mA,n,r,q⟩:=(show zbq P w H h a (.ins C dx fs) from hok a _ e)
 exact⟨mA,⟨ob,n,ne⟩,r,q,z,d⟩
end
structure Cls(K:Nb)(C:Nc):Prop where
 pg:PySem.W.plainGet K C Str.empty=true
 hd:PySem.W.hasDictIn K C=true
 po:PySem.W.plainOver K C=true
 sa:PySem.W.findIn K (.ref C) "__setattr__" = some (some (.builtin "object.__setattr__"))
def Cls.get{K:Nb}{C:Nc}(c:Cls K C)(f:Str):PySem.W.plainGet K C f=true:=c.pg
def zdv(K:Nb)(C:Nc)(f:Str):Prop:=PySem.W.findIn K (.ref C) f=some none
def zdv.taker{K:Nb}{C:Nc}{f:Str}(n:zdv K C f):PySem.W.takerIn K C f=some none:=by
 unfold PySem.W.takerIn
 rw[show PySem.W.findIn K (.ref C) f=some none from n]
 rfl
structure Meth(K:Nb)(C:Nc)(m:Str)(f:Nc):Prop where
 at_:PySem.W.findIn K (.ref C) m=some (some (.ref f))
 fn:PySem.W.isFn K (.ref f)=true
 kp:PySem.W.keepIn K (.ref f)=true
section
variable{X:Cx}{a7:Nd}{σ:St}{H:Hp}{s:Nh}{a C dx:Nc}{fs:List (Str×V)}{f:Str}{v:V}{A:Nn}{E:Na}
def getattr_ok{b:Bool}{Q:Na}(I:Inv X a7 σ H s)(e:H a=some (.ins C dx fs))(c:Cls X.K C)(n:zdv X.K C f)(l:fs.lookup f=some v)(h:∀u s',Inv X a7 σ H s'→RelV v u→Q u s'):wpAny (model X.prog X.w) A (getAttr (.ref a) f b) Q E s:=by
 obtain⟨mA,O,r,_,_,_⟩:=ins_get I.hok e
 obtain⟨u,hu,ru⟩:=RelO.some_of (v:=v) (o:=mA f) (by rw[←l];exact r f)
 exact get_map I.kIn O (c.get f) c.hd n hu (handed_of ru) (h u _ (I.tok _) ru)
def ze0{m:Str}{g:Nc}{pl:Sem Bool}{Q:Value×List Value→Shared→Prop}(I:Inv X a7 σ H s)(e:H a=some (.ins C dx fs))(c:Cls X.K C)(k:Meth X.K C m g)(l:fs.lookup m=none)(h:Q (.ref g,[.ref a]) s):wpAny (model X.prog X.w) A (getMethod (.ref a) m pl) Q E s:=by
 obtain⟨mA,O,r,_,_,_⟩:=ins_get I.hok e
 have hn:mA m=none:=RelO.none_of (by rw[←l];exact r m)
 exact get_meth I.kIn O (c.get m) k.at_ k.fn hn h
def setattr_ok{y:V}{u:Value}{Q:Unit→Shared→Prop}(I:Inv X a7 σ H s)(e:H a=some (.ins C dx fs))(c:Cls X.K C)(n:zdv X.K C f)(hl:fs.length<1000)(ry:RelV y u)(h:∀s',Inv X a7 σ (upd H a (.ins C dx (putF f y fs))) s'→Q () s'):wpAny (model X.prog X.w) A (setAttr (.ref a) f u) Q E s:=by
 obtain⟨mA,O,r,wi,_,ho⟩:=ins_get I.hok e
 have hz:(fs.map (·.1)).length≤sizeLine:=by rw[Qa,sizeLine_eq];lia
 refine set_map I.kIn O c.sa c.po n.taker c.hd wi hz λh' O' sb=>h _ ?_
 have hd:∃o,h'.get? dx=some o:=let⟨o,_,_,e',_⟩:=O'.ns;⟨o,e'⟩
 refine I.write (x:=a) (e:=dx) (by rw[e];exact True.intro) (.inr ho) (λb q hb z=>(sb.2 b hb).trans z) hd ?_
 refine⟨by rw[zad O.ne];exact ho,?_,O.ne,O'.obj,_,O'.ns,λg=>?_,λg hg=>?_⟩
 ·have:=zga f y fs;exact Zn ‹_› ‹_›
 ·show RelO ((putF f y fs).lookup g) (if g=f then some u else mA g)
  rw[zf8]
  by_cases q:g=f
  ·rw[if_pos q,if_pos q];exact ry
  ·rw[if_neg q,if_neg q];exact r g
 ·by_cases q:g=f
  ·rw[q];exact(zgd f y fs).1
  ·refine (zgd f y fs).2 g (wi g fun z=>hg ?_)
   show(if g=f then some u else mA g)=none
   rw[if_neg q];exact z
def Inv.made(I:Inv X a7 σ H s):Inv X a7 σ (upd (upd H s.heap.objs.size (.own (s.heap.objs.size+1))) (s.heap.objs.size+1) (.ins C s.heap.objs.size []))
  {s with heap:=(s.heap.push PySem.W.emptyDict).push (PySem.W.instObj C s.heap.objs.size)}:=by
 have e1:(s.heap.push PySem.W.emptyDict).get? s.heap.objs.size=some PySem.W.emptyDict:=Zd s.heap rfl
 have e2:((s.heap.push PySem.W.emptyDict).push (PySem.W.instObj C s.heap.objs.size)).get? (s.heap.objs.size+1)=some (PySem.W.instObj C s.heap.objs.size):=by
  have:=Zd (s.heap.push PySem.W.emptyDict) (o:=PySem.W.instObj C s.heap.objs.size) rfl
  rwa[Wt]at this
 have e3:(s.heap.push PySem.W.emptyDict).Ns s.heap.objs.size (λ_=>none):=⟨PySem.W.emptyDict,#[],_,e1,rfl,(λe he=>absurd he (by simp)),λ_=>rfl⟩
 have I1:=I.laid (a:=s.heap.objs.size) (o:=.own (s.heap.objs.size+1)) (h':=s.heap.push PySem.W.emptyDict) (t':=s.toks) (λb u q=>Qj _ q) (Qi _) ⟨_,e1⟩
 refine I1.laid (a:=s.heap.objs.size+1) (o:=.ins C s.heap.objs.size []) (t':=s.toks) (λb u q=>Qj _ q) (Nat.le_of_eq (Wt _ _)) ?_
 have ne:s.heap.objs.size≠s.heap.objs.size+1:=Zc (Yu _)
 refine⟨by rw[zad ne,zac],Zf _,ne,e2,λ_=>none,(Heap.Ns1.of_empty e3).at λo q=>Qj _ q,λ_=>True.intro,λy hy=>absurd rfl hy⟩
def attr_of{prog:Nj}{w:Nl}{env:Env}{e:Expr}{f:Str}{pos:Pos}{s:Nh}{Q:Na}(hb:attributeBase e f env (eval e env)=eval e env)(h:wpAny (model prog w) A (eval e env) (λo s₁=>wpAny (model prog w) A (getAttr o f true) Q E s₁) E s):wpAny (model prog w) A (eval (.Attribute e f pos) env) Q E s :=
 Attribute_any_ h (by rw[arm_eval_Attribute,hb])
end
inductive RFld(K:Nb)(f:Str)(x:V)(H:Hp)(Q:VK):Prop
 |mk (a C dx:Nc) (fs:List (Str×V)) (v:V) (e:x=.ref a) (h:H a=some (.ins C dx fs)) (c:Cls K C) (n:zdv K C f) (l:fs.lookup f=some v) (q:Q v H):RFld K f x H Q
def tFld(K:Nb)(ta:TE)(f:Str):TE:=λ σ H Q=>ta σ H λx H1=>RFld K f x H1 Q
inductive RFs(K:Nb)(f:Str)(x y:V)(H:Hp)(N:Hp→Prop):Prop
 |mk (a C dx:Nc) (fs:List (Str×V)) (e:x=.ref a) (h:H a=some (.ins C dx fs)) (c:Cls K C) (n:zdv K C f) (l:fs.length<1000) (q:N (upd H a (.ins C dx (putF f y fs)))):RFs K f x y H N
def sFld(K:Nb)(ta tv:TE)(f:Str):TS:=λD σ H=>tv σ H λy H1=>ta σ H1 λx H2=>RFs K f x y H2 (D.nx σ)
section
variable{X:Cx}{o e value:Expr}{f:Str}{pos bz tpos:Pos}{ta tv:TE}
def pe_fld(he:PE X e ta)(hb:attributeBase e f X.env (eval e X.env)=eval e X.env):PE X (.Attribute e f pos) (tFld X.K ta f):=by
 intro a7 s σ H Q I h
 refine attr_of hb (thn (he a7 s σ H _ I h) λu s1 ⟨x,H1,I1,rx,a,C,dx,fs,v,ex,ea,c,n,l,q⟩=>?_)
 subst ex
 obtain rfl:u=Value.ref a:=rx
 exact getattr_ok I1 ea c n l λu' s2 I2 ru=>⟨v,H1,I2,ru,q⟩
def ps_fld(ha:PE X o ta)(hv:PE X value tv)(hs:swapsWith value (some (.Attribute o f bz)) pos.line X.env=pure false):PS X (.Assign [.Attribute o f bz] value pos) (sFld X.K ta tv f):=by
 intro a7 s σ H D I h
 refine plainObj_wpAny_Assign_Attribute (thn (hv a7 s σ H _ I h) λu s1 ⟨y,H1,I1,ry,q⟩=>thn (ha a7 s1 σ H1 _ I1 q) λov s2 ⟨x,H2,I2,rx,a,C,dx,fs,ex,ea,c,n,l,q2⟩=>?_) hs
 subst ex
 obtain rfl:ov=Value.ref a:=rx
 exact setattr_ok I2 ea c n l ry λs3 I3=>⟨σ,_,I3,q2⟩
def methcall_of{pl:Sem Bool}{m:Str}{apos:Pos}{args:Np}{a7:Nd}{s:Nh}{σ:St}{H:Hp}{Q:Na}{te:TE}(he:PE X e te)(I:Inv X a7 σ H s)(h:te σ H fun x H1=>∃ a C dx fs g,x=.ref a∧H1 a=some (.ins C dx fs)∧Cls X.K C∧Meth X.K C m g∧fs.lookup m=none ∧
   ∀s1,Inv X a7 σ H1 s1→wpAny (model X.prog X.w) X.A (callWith pos (.ref g) [.ref a] (backTo pos (starEach args X.env)) (backToKw pos (keywordEach [] X.env))) Q X.xe s1)(ht:eval (.Call (.Attribute e m apos) args [] pos) X.env=(do
   let ov ←eval e X.env
   standAt apos.atName
   let(f,first) ←holding [ov] (getMethod ov m pl)
   callWith pos f first (backTo pos (starEach args X.env)) (backToKw pos (keywordEach [] X.env)))) :
  wpAny (model X.prog X.w) X.A (eval (.Call (.Attribute e m apos) args [] pos) X.env) Q X.xe s:=by
 refine Xb (pl:=pl) (thn (he a7 s σ H _ I h) λu s1 ⟨x,H1,I1,rx,a,C,dx,fs,g,ex,ea,c,k,l,q⟩=>?_) ht
 subst ex
 obtain rfl:u=Value.ref a:=rx
 exact ze0 I1 ea c k l (q s1 I1)
end
section
variable{X:Cx}{a7:Nd}{σ:St}{H:Hp}{s:Nh}{A:Nn}{E:Na}{Q:Na}{c:Value}{b:Bool}
end
end L2
namespace L2
open PySem PySem.Spec PyProof.Rows
structure Room(k:Nat)(A:Nn):Prop where
 hd:A.handled=none
 dp:A.depth+3*k+5<recursionLimit
 un:A.units+16*k+200<cLine
def Room.mono{j k:Nat}{A:Nn}(r:Room k A)(h:j≤k):Room j A:=⟨r.hd,by have:=r.dp;lia,by have:=r.un;lia⟩
def Room.deeper{k:Nat}{A:Nn}(r:Room (k+1) A)(env:Env):Room k (A.deeper env) :=
 ⟨r.hd,by have:=r.dp;show A.depth+1+3*k+5<_;lia,by have:=r.un;show A.units+3+16*k+200<_;lia⟩
def make_depth{A:Nn}{C:Nc}{us:Ni}{kw:List (Str×Value)}:(A.under (.builtin "type.__call__" ⟨.ref C::us,kw⟩)).depth=A.depth+1:=by
 first | rfl | simp[Around.under,Code.weight,Code.isCreation,Code.isGuard,Code.isCaller,Code.frames,Code.isFrame,guardIds]
def make_units{A:Nn}{C:Nc}{us:Ni}{kw:List (Str×Value)}:(A.under (.builtin "type.__call__" ⟨.ref C::us,kw⟩)).units=A.units+1:=by
 first | rfl | simp[Around.under,Code.cUnits,Code.frames,Code.isFrame]
def Room.make{k:Nat}{A:Nn}(r:Room (k+1) A)(C:Nc)(us:Ni)(kw:List (Str×Value)):Room k (A.under (.builtin "type.__call__" ⟨.ref C::us,kw⟩)) :=
 ⟨r.hd,by have:=r.dp;rw[make_depth];lia,by have:=r.un;rw[make_units];lia⟩
def Room.depth{k:Nat}{A:Nn}(r:Room k A):A.depth<recursionLimit:=by have:=r.dp;lia
def Room.units{k:Nat}{A:Nn}(r:Room k A):A.units+64<cLine:=by have:=r.un;lia
def tNil:TA:=λ_ H Q=>Q [] H
def tCons(ta:TE)(tr:TA):TA:=λ σ H Q=>ta σ H λx H1=>tr σ H1 λxs H2=>Q (x::xs) H2
section
variable{X:Cx}{e:Expr}{es:Np}{te:TE}{t:TA}{pos:Pos}
def zaf:PA X [] tNil:=λ_ _ _ _ H Q I h=>Js ⟨[],H,I,.nil,h⟩
def zab(ha:PE X e te)(hr:PA X es t)(hs:starEach (e::es) X.env=(false,eval e X.env)::starEach es X.env:=by rfl):PA X (e::es) (tCons te t):=by
 intro pos a7 s σ H Q I h
 rw[hs]
 show wpAny _ _ (spliced ((false,eval e X.env)::backTo pos (starEach es X.env))) _ _ s
 refine Uo (thn (ha a7 s σ H _ I h) λu s1 ⟨x,H1,I1,r1,q1⟩=>?_)
 exact thn (hr pos a7 s1 σ H1 _ I1 q1) λus s2 ⟨xs,H2,I2,r2,q2⟩=>⟨x::xs,H2,I2,.cons r1 r2,q2⟩
def tTup(t:TA):TE:=λ σ H Q=>t σ H λxs H1=>xs.length≤sizeLine∧∀p,H1 p=none→Q (.ref p) (upd H1 p (.tup xs))
def tLst(t:TA):TE:=λ σ H Q=>t σ H λxs H1=>xs.length≤sizeLine∧∀p,H1 p=none→Q (.ref p) (upd H1 p (.lst xs))
def ze7{x1}(h:PA X es t):PE X (.Tuple es x1 pos) (tTup t):=by
 intro a7 s σ H Q I hq
 refine wpAny_Tuple_spliced (thn (h pos a7 s σ H _ I hq) λus s1 ⟨xs,H1,I1,r,z,q⟩=>⟨by rw[←r.length];exact z,?_⟩)
 have hf:H1 s1.heap.objs.size=none:=I1.hok.fresh (Qi _)
 refine⟨.ref s1.heap.objs.size,upd H1 s1.heap.objs.size (.tup xs),I1.laid (t':=s1.toks) (λb u e=>Qj _ e) (Qi _) ?_,rfl,q _ hf⟩
 exact⟨z,us,r,⟨_,Zd _ rfl,rfl,_,rfl⟩⟩
def zbc(h:PA X es t):PE X (.List es pos) (tLst t):=by
 intro a7 s σ H Q I hq
 refine wpAny_List_spliced (thn (h pos a7 s σ H _ I hq) λus s1 ⟨xs,H1,I1,r,z,q⟩=>⟨by rw[←r.length];exact z,?_⟩)
 have hf:H1 s1.heap.objs.size=none:=I1.hok.fresh (Qi _)
 refine⟨.ref s1.heap.objs.size,upd H1 s1.heap.objs.size (.lst xs),I1.laid (t':=s1.toks) (λb u e=>Qj _ e) (Qi _) ?_,rfl,q _ hf⟩
 exact⟨z,us,0,r,Zd _ rfl⟩
end
abbrev Sp:=List V→Hp→VK→XK→Prop
abbrev CXT:=List Env→Hp→Shared→XK→Value→Shared→Prop
structure Env0(P:Nj)(w:Nl)(K:Nb)(mg:Ng)(base:Nm)(A:Nn)(outer:List Env)(s:Nh)(H:Hp):Prop where
 frames:A.frames=some outer
 mod:Mod K mg base
 bs:∀b o,base.get? b=some o→s.heap.get? b=some o∧H b=none
 bsz:base.objs.size≤s.heap.objs.size
 funs:s.heap.FunFrames base outer
 frf:∀b∈frs outer,H b=none
 hok:HOk P w H s.heap
 bare:AllBare s.gens
inductive CE(outer:List Env)(P:Nj)(w:Nl)(H:Hp)(s:Nh)(Q:VK)(u:Value)(s':Nh):Prop
 |mk (v:_) (H':_) (h0:s'.os=s.os) (h1:AllBare s'.gens) (h2:Un (frs outer) [] H H' s.heap s'.heap) (h3:HOk P w H' s'.heap) (h4:RelV v u) (h5:Q v H'):CE outer P w H s Q u s'
def CR(CX:CXT)(outer:List Env)(P:Nj)(w:Nl)(H:Hp)(s:Nh)(Q:VK)(E:XK)(r:Result)(s':Nh):Prop :=
 match r with
 |.ok (.ret u)=>CE outer P w H s Q u s'
 |.ok _=>False
 |.error e=>CX outer H s E e s'
structure FnOk(P:Nj)(w:Nl)(K:Nb)(mg:Ng)(base:Nm)(CX:CXT)(k:Nat)(f:Nc)(fd:No)(ps:Nf)(sp:Sp):Prop where
 len:∀vs H Q E,sp vs H Q E→vs.length=ps.length
 run:∀(A:Nn) (outer:List Env) (s:Nh) (H:Hp) (args:Args) (us:Ni) (vs:List V) (Q:VK) (E:XK),Room k A→Env0 P w K mg base A outer s H→BindsTo s fd args (ps.zip us)→Vals vs us→sp vs H Q E →
  codeAny (model P w) A (.call (.ref f) args) (CR CX outer P w H s Q E) s
def Env0.make{P:Nj}{w:Nl}{K:Nb}{mg:Ng}{base:Nm}{A:Nn}{outer:List Env}{s:Nh}{H:Hp}(e:Env0 P w K mg base A outer s H)(C:Nc)(us:Ni)(kw:List (Str×Value)) :
  Env0 P w K mg base (A.under (.builtin "type.__call__" ⟨.ref C::us,kw⟩)) outer s H:=⟨by first | exact e.frames | (simpa[Around.under,Code.envs,Code.isFrame,pushEnvs] using e.frames),e.mod,e.bs,e.bsz,e.funs,e.frf,e.hok,e.bare⟩
section
variable{X:Cx}{a7:Nd}{σ:St}{H:Hp}{s s':Nh}
def Inv.env0(I:Inv X a7 σ H s):Env0 X.prog X.w X.K X.mg X.base X.A X.stack s H :=
 ⟨I.ok.frames,I.ok.mod,I.bs,Zn I.ok.bsz I.sz,I.stack,I.stkFree,I.hok,I.bare⟩
def Inv.after{Q:VK}{u:Value}(I:Inv X a7 σ H s)(h:CE X.stack X.prog X.w H s Q u s'):EP X a7 σ Q u s':=by
 obtain⟨v,H',os,bare,un,hok,r,q⟩:=h
 obtain⟨hh,g,d,t,qm⟩:=s'
 obtain rfl:qm=s.os:=os
 exact⟨v,H',I.call (h':=hh) (g':=g) (d':=d) (t':=t) (ch:=[]) un hok bare (λb z=>absurd z (by simp)),r,q⟩
end
def tCall(sp:Sp)(dvs:List V)(E:XK)(t:TA):TE:=λ σ H Q=>t σ H λvs H1=>sp (vs++dvs) H1 Q E
inductive RMe(C:Nc)(m:Str)(x:V)(H:Hp)(R:Prop):Prop
 |mk (a dx:Nc) (fs:List (Str×V)) (e:x=.ref a) (h:H a=some (.ins C dx fs)) (l:fs.lookup m=none) (q:R):RMe C m x H R
def tMeth(C:Nc)(m:Str)(sp:Sp)(dvs:List V)(E:XK)(ta:TE)(t:TA):TE:=λ σ H Q=>ta σ H λx H1=>RMe C m x H1 <|
 t σ H1 λvs H2=>sp (x::(vs++dvs)) H2 Q E
def tMake(C:Nc)(sp:Sp)(dvs:List V)(E:XK)(t:TA):TE:=λ σ H Q=>t σ H λvs H1=>∀x dx,H1 x=none→H1 dx=none→dx≠x →
 sp (.ref x::(vs++dvs)) (upd (upd H1 dx (.own x)) x (.ins C dx [])) (λv H2=>v=.non∧Q (.ref x) H2) E
def Binds(K:Nb)(fd:No)(ps:Nf)(ds:Ni):Prop :=
 ∀(s:Nh) (us:Ni),K.In s.heap→(us++ds).length=ps.length→BindsTo s fd ⟨us,[]⟩ (ps.zip (us++ds))
def Binds.all{K:Nb}{fd:No}{ps:Nf}(h:∀us:List Value,us.length=ps.length→bindArgs fd ⟨us,[]⟩=pure (ps.zip us)):Binds K fd ps []:=λs us _ hl=>by
 rw[Zt]at hl ⊢
 exact .of_eq (h us hl)
def zgq(CX:CXT)(X:Cx)(E:XK):Prop:=∀(a7:Nd) (σ:St) (H:Hp) (s:Nh) (e:Value) (s':Nh),Inv X a7 σ H s→CX X.stack H s E e s'→X.xe e s'
section
variable{X:Cx}{CX:CXT}{k:Nat}{f C:Nc}{fd:No}{ps:Nf}{sp:Sp}{dvs:List V}{ds:Ni}{E:XK}{x m:Str}{p pos apos:Pos}{e o:Expr}{es:Np}{ta:TE}{t:TA}
def run_fn{a7:Nd}{σ:St}{H:Hp}{s:Nh}{Q:VK}{us:Ni}{vs:List V}(F:FnOk X.prog X.w X.K X.mg X.base CX k f fd ps sp)(hr:Room k X.A)(hb:Binds X.K fd ps ds)(hd:Vals dvs ds)(hx:zgq CX X E)(I:Inv X a7 σ H s)(r:Vals vs us)(h:sp (vs++dvs) H Q E):wpAny (model X.prog X.w) X.A (call (.ref f) us) (EP X a7 σ Q) X.xe s:=by
 have r2:Vals (vs++dvs) (us++ds):=r.append hd
 have hl:(us++ds).length=ps.length:=by rw[←r2.length];exact F.len _ _ _ _ h
 refine wpAny_call (codeAny_mono (F.run X.A X.stack s H ⟨us,[]⟩ (us++ds) (vs++dvs) Q E hr I.env0 (hb s us I.kIn hl) r2 h) λr s' hq=>?_)
 cases r with
 |error e=>exact hx a7 σ H s e s' I hq
 |ok fl =>
  cases fl with
  |ret u=>exact I.after hq
  |next=>exact False.elim hq
  |brk=>exact False.elim hq
  |cont=>exact False.elim hq
def zaj(F:FnOk X.prog X.w X.K X.mg X.base CX k f fd ps sp)(hr:Room k X.A)(hg:Gl X x)(hm:X.mg x=some (.ref f))(hk:PySem.W.keepIn X.K (.ref f)=true)(hb:Binds X.K fd ps ds)(hd:Vals dvs ds)(hx:zgq CX X E)(ha:PA X (e::es) t)(iq:(x==("__debug__" : Str))=false:=by decide)(he:starEach (e::es) X.env=(false,eval e X.env)::starEach es X.env:=by rfl)(c9:(backTo pos (starEach es X.env)).any (·.1)=false:=by rfl) :
  PE X (.Call (.Name x p) (e::es) [] pos) (tCall sp dvs E t):=by
 intro a7 s σ H Q I h
 refine wpAny_Call_Name_kw (ld_glob I hg hm ?_ iq)
 refine PySem.W.callWith_K (h₀:=X.base) I.ok.mod.kin hk (thn (ha pos a7 s σ H _ I h) λus s1 ⟨vs,H1,I1,r,q⟩=>⟨I1.kIn,?_⟩) he c9
 exact run_fn F hr hb hd hx I1 r q
def pe_meth{pl:Sem Bool}(he:PE X o ta)(c:Cls X.K C)(hm:Meth X.K C m f)(F:FnOk X.prog X.w X.K X.mg X.base CX k f fd ps sp)(hr:Room k X.A)(hb:Binds X.K fd ps ds)(hd:Vals dvs ds)(hx:zgq CX X E)(ha:PA X (e::es) t)(aq:starEach (e::es) X.env=(false,eval e X.env)::starEach es X.env:=by rfl)(c9:(backTo pos (starEach es X.env)).any (·.1)=false:=by rfl)(ht:eval (.Call (.Attribute o m apos) (e::es) [] pos) X.env=(do
   let ov ←eval o X.env
   standAt apos.atName
   let(f,first) ←holding [ov] (getMethod ov m pl)
   callWith pos f first (backTo pos (starEach (e::es) X.env)) (backToKw pos (keywordEach [] X.env))):=by rfl) :
  PE X (.Call (.Attribute o m apos) (e::es) [] pos) (tMeth C m sp dvs E ta t):=by
 intro a7 s σ H Q I h
 refine Xb (pl:=pl) (thn (he a7 s σ H _ I h) λu s1 ⟨x,H1,I1,rx,a,dx,fs,ex,ea,l,q⟩=>?_) ht
 subst ex
 obtain rfl:u=Value.ref a:=rx
 refine ze0 I1 ea c hm l ?_
 refine PySem.W.callWith_K (first:=[.ref a]) (h₀:=X.base) I.ok.mod.kin hm.kp (thn (ha pos a7 s1 σ H1 _ I1 q) λus s2 ⟨vs,H2,I2,r,q2⟩=>⟨I2.kIn,?_⟩) aq c9
 exact run_fn (us:=.ref a::us) (vs:=.ref a::vs) F hr hb hd hx I2 (.cons rfl r) q2
def pe_meth0{pl:Sem Bool}(he:PE X o ta)(c:Cls X.K C)(hm:Meth X.K C m f)(F:FnOk X.prog X.w X.K X.mg X.base CX k f fd ps sp)(hr:Room k X.A)(hb:Binds X.K fd ps ds)(hd:Vals dvs ds)(hx:zgq CX X E)(ht:eval (.Call (.Attribute o m apos) [] [] pos) X.env=(do
   let ov ←eval o X.env
   standAt apos.atName
   let(f,first) ←holding [ov] (getMethod ov m pl)
   callWith pos f first (backTo pos (starEach [] X.env)) (backToKw pos (keywordEach [] X.env))):=by rfl) :
  PE X (.Call (.Attribute o m apos) [] [] pos) (tMeth C m sp dvs E ta tNil):=by
 intro a7 s σ H Q I h
 refine Xb (pl:=pl) (thn (he a7 s σ H _ I h) λu s1 ⟨x,H1,I1,rx,a,dx,fs,ex,ea,l,q⟩=>?_) ht
 subst ex
 obtain rfl:u=Value.ref a:=rx
 refine ze0 I1 ea c hm l ?_
 exact PySem.W.callWith_K0 (first:=[.ref a]) I1.kIn hm.kp (run_fn (us:=[.ref a]) (vs:=[.ref a]) F hr hb hd hx I1 (.cons rfl .nil) q)
structure Mk(K:Nb)(C f:Nc):Prop where
 makes:PySem.W.makesIn K C=true
 init:PySem.W.findIn K (.ref C) "__init__" = some (some (.ref f))
 fn:PySem.W.isFn K (.ref f)=true
 kp:PySem.W.keepIn K (.ref C)=true
def run_make{a7:Nd}{σ:St}{H:Hp}{s:Nh}{Q:VK}{us:Ni}{vs:List V}(M:Mk X.K C f)(F:FnOk X.prog X.w X.K X.mg X.base CX k f fd ps sp)(hr:Room (k+1) X.A)(hb:Binds X.K fd ps ds)(hd:Vals dvs ds)(hx:zgq CX X E)(I:Inv X a7 σ H s)(r:Vals vs us)(h:∀x dx,H x=none→H dx=none→dx≠x→sp (.ref x::(vs++dvs)) (upd (upd H dx (.own x)) x (.ins C dx [])) (λv H2=>v=.non∧Q (.ref x) H2) E) :
  wpAny (model X.prog X.w) X.A (call (.ref C) us) (EP X a7 σ Q) X.xe s:=by
 have hq:=h (s.heap.objs.size+1) s.heap.objs.size (I.hok.fresh (Uf _)) (I.hok.fresh (Qi _)) (Zc (Yu _))
 have I2:=Inv.made (C:=C) I
 have r2:Vals (V.ref (s.heap.objs.size+1)::(vs++dvs)) (Value.ref (s.heap.objs.size+1)::(us++ds)):=.cons rfl (r.append hd)
 have hl:(Value.ref (s.heap.objs.size+1)::us++ds).length=ps.length:=by
  have e:=r2.length
  rw[F.len _ _ _ _ hq]at e
  exact e.symm
 refine wpAny_call (make_map (f:=f) I.kIn M.makes M.init (beq_iff_eq.mp M.fn) (codeAny_mono (F.run _ X.stack _ _ ⟨Value.ref (s.heap.objs.size+1)::us,[]⟩ (Value.ref (s.heap.objs.size+1)::(us++ds)) _ _ E (hr.make C us [])
  (I2.env0.make C us []) (hb _ (Value.ref (s.heap.objs.size+1)::us) I2.kIn hl) r2 hq) λr s' i4=>?_))
 cases r with
 |error e=>exact hx a7 σ _ _ e s' I2 i4
 | ok fl =>
  cases fl with
  |ret u =>
   obtain⟨v,H',I3,rv,ev,q3⟩:=I2.after i4
   subst ev
   exact⟨rv,⟨V.ref (s.heap.objs.size+1),H',I3,rfl,q3⟩⟩
  |next=>exact False.elim i4
  |brk=>exact False.elim i4
  |cont=>exact False.elim i4
def pe_make(M:Mk X.K C f)(F:FnOk X.prog X.w X.K X.mg X.base CX k f fd ps sp)(hr:Room (k+1) X.A)(hg:Gl X x)(hm:X.mg x=some (.ref C))(hb:Binds X.K fd ps ds)(hd:Vals dvs ds)(hx:zgq CX X E)(ha:PA X (e::es) t)(iq:(x==("__debug__" : Str))=false:=by decide)(he:starEach (e::es) X.env=(false,eval e X.env)::starEach es X.env:=by rfl)(c9:(backTo pos (starEach es X.env)).any (·.1)=false:=by rfl) :
  PE X (.Call (.Name x p) (e::es) [] pos) (tMake C sp dvs E t):=by
 intro a7 s σ H Q I h
 refine wpAny_Call_Name_kw (ld_glob I hg hm ?_ iq)
 refine PySem.W.callWith_K (h₀:=X.base) I.ok.mod.kin M.kp (thn (ha pos a7 s σ H _ I h) λus s1 ⟨vs,H1,I1,r,q⟩=>⟨I1.kIn,?_⟩) he c9
 exact run_make M F hr hb hd hx I1 r q
end
section
variable{X:Cx}{CX:CXT}{k:Nat}{f C:Nc}{fd:No}{ps ks:Nf}{sp:Sp}{E:XK}{x m:Str}{p pos apos kpos:Pos}{e o:Expr}{es:Np}{kws:List Keyword}{te ta:TE}{t tk:TA}{nm:Option Str}
variable{g:List Value→List Value→List Value}{gV:List V→List V→List V}
end
structure zau(N P:Nf)(sc:Scope):Prop where
 kind:sc.kind=.function
 co:sc.isCoroutine=false
 gen:sc.isGenerator=false
 nd:N.Nodup
 pre:N.take P.length=P
 par:∀x∈P,sc.names.lookup x=some .local∨sc.names.lookup x=some .cell
 nofree:∀y∈sc.names,y.2≠.free
theorem bindL_out{kindOf:Str→Option NameKind}{x:Str}:∀{binds:List (Str×Value)} {m:Ng},(∀v,(x,v)∉binds)→bindL kindOf binds m x=m x
 |[],_,_=>rfl
 | (n,v)::r,m,h=>by
  unfold bindL
  rw[bindL_out λw hw=>h w (Qg _ hw)]
  split
  ·have:x≠n:=by rintro rfl;exact h v Qc
   simp[this]
  ·rfl
theorem bindC_out{kindOf:Str→Option NameKind}{x:Str}:∀{binds:List (Str×Value)} {m:Ng},(∀v,(x,v)∉binds)→bindC kindOf binds m x=m x
 |[],_,_=>rfl
 | (n,v)::r,m,h=>by
  unfold bindC
  rw[bindC_out λw hw=>h w (Qg _ hw)]
  split
  ·rfl
  ·have:x≠n:=by rintro rfl;exact h v Qc
   simp[this]
theorem bindL_get{kindOf:Str→Option NameKind}{x:Str}{v:Value}:∀{P:Nf} {vs:Ni} {i:Nat} {m:Ng},P.Nodup→P[i]?=some x→vs[i]?=some v→kindOf x=some .local →
  bindL kindOf (P.zip vs) m x=some v
 |[],_,_,_,_,h,_,_=>by simp at h
 |_::_,[],_,_,_,_,h,_=>by simp at h
 |p::P,w::vs,0,m,nd,h1,h2,hk=>by
  simp at h1 h2;subst h1;subst h2
  show bindL kindOf ((p,w)::P.zip vs) m p=_
  unfold bindL
  rw[bindL_out λv hv=>(Qr.mp nd).1 (List.of_mem_zip hv).1,if_pos hk]
  simp
 |p::P,w::vs,i+1,m,nd,h1,h2,hk=>by
  show bindL kindOf ((p,w)::P.zip vs) m x=_
  unfold bindL
  exact bindL_get (i:=i) (Qr.mp nd).2 (by simpa using h1) (by simpa using h2) hk
theorem bindC_get{kindOf:Str→Option NameKind}{x:Str}{v:Value}:∀{P:Nf} {vs:Ni} {i:Nat} {m:Ng},P.Nodup→P[i]?=some x→vs[i]?=some v→kindOf x≠some .local →
  bindC kindOf (P.zip vs) m x=some v
 |[],_,_,_,_,h,_,_=>by simp at h
 |_::_,[],_,_,_,_,h,_=>by simp at h
 |p::P,w::vs,0,m,nd,h1,h2,hk=>by
  simp at h1 h2;subst h1;subst h2
  show bindC kindOf ((p,w)::P.zip vs) m p=_
  unfold bindC
  rw[bindC_out λv hv=>(Qr.mp nd).1 (List.of_mem_zip hv).1,if_neg hk]
  simp
 |p::P,w::vs,i+1,m,nd,h1,h2,hk=>by
  show bindC kindOf ((p,w)::P.zip vs) m x=_
  unfold bindC
  exact bindC_get (i:=i) (Qr.mp nd).2 (by simpa using h1) (by simpa using h2) hk
def start(N:Nf)(vs:List V):St:=vs.map some++List.replicate (N.length-vs.length) none
def cxOf(CX:CXT)(P:Nj)(w:Nl)(K:Nb)(mg:Ng)(base:Nm)(N:Nf)(qual:Str)(scope:Scope)(f:Nc)(cd:Value)(A:Nn)(outer:List Env)(s:Nh)(H:Hp)(E:XK):Cx where
 prog:=P
 w:=w
 K:=K
 mg:=mg
 base:=base
 A:=A.deeper (envOfC qual scope s.heap.objs.size f cd)
 N:=N
 s₀:=s
 H₀:=H
 env:=envOfC qual scope s.heap.objs.size f cd
 outer:=outer
 stack:=envOfC qual scope s.heap.objs.size f cd::outer
 ex:=[]
 calm:=true
 fn:=λ_=>true
 pn:=[]
 xe:=λe s'=>wpAny (model P w) (A.deeper (envOfC qual scope s.heap.objs.size f cd)) (leaving (envOfC qual scope s.heap.objs.size f cd) e) (λ_ lH=>CX outer H s E e lH) (λe' lH=>CX outer H s E e' lH) s'
def cell_has{sc:Scope}{n:Nat}{x:Str}(h:sc.names.lookup x=some .cell):∃c,(cellsFrom n sc.names []).lookup x=some c:=by
 have q:=PySem.W.cellsFrom_some sc.names n [] (.inl h)
 exact Option.isSome_iff_exists.mp q
def inv_start{CX:CXT}{P:Nj}{w:Nl}{K:Nb}{mg:Ng}{base:Nm}{N ps:Nf}{qual:Str}{scope:Scope}{f:Nc}{cd:Value}{A:Nn}{outer:List Env}{s s1:Nh}{H:Hp}{E:XK}{us:Ni}{vs:List V}(S:zau N ps scope)(hd:A.handled=none)(e0:Env0 P w K mg base A outer s H)(hl:vs.length=ps.length)(r:Vals vs us)(x:InCallC s s.heap.objs.size (bindL (envOfC qual scope s.heap.objs.size f cd).kindOf (ps.zip us) λ_=>none) (cellsFrom (s.heap.objs.size+1) scope.names []) (bindC (envOfC qual scope s.heap.objs.size f cd).kindOf (ps.zip us) λ_=>none) s1) :
  Inv (cxOf CX P w K mg base N qual scope f cd A outer s H E) [] (start N vs) H s1:=by
 have c9:ps.length≤N.length:=by have:=congrArg List.length S.pre;rw[Zj]at this;lia
 obtain⟨h1,tk,rfl,hk⟩:=x.done
 have noA:∀b:Addr,b∉(cxOf CX P w K mg base N qual scope f cd A outer s H E).ex:=λb z=>absurd (show b∈([]:List Addr) from z) (by simp)
 refine⟨⟨e0.mod,S.kind,rfl,rfl,Qi _,λy z c h1 h2=>?_,λy hy=>?_,λy c _ h=>?_,λ_=>hd,Around.frames_deeper e0.frames,.inr ⟨rfl,rfl⟩,λb z=>absurd z (noA b),e0.bs,e0.bsz,λb _ _=>noA b,λb z=>absurd z (noA b),e0.funs,e0.frf⟩,
  rfl,e0.bare,Un.kept hk,⟨_,x.toInCall.ns,λi y v h1 h2 h3=>?_⟩,λy c h=>⟨_,x.cell y c h⟩,e0.hok.fresh (Qi _),λy c h=>?_,λp hp=>absurd (show p∈([]:List (Addr×Obj)) from hp) (by simp),e0.hok.kept hk,?_⟩
 ·exact name_of_addr x.apart (Wh h1) (Wh h2)
 ·have hy:scope.names.lookup y=some .cell∨scope.names.lookup y=some .free:=hy
  rcases hy with hy | hy
  ·exact cell_has hy
  ·exact absurd rfl (S.nofree _ (Wh hy))
 ·exact Ug (x.above y c (Wh h))
 ·have hi:i < vs.length:=by
   unfold start at h2
   by_cases hi:i<vs.length
   ·exact hi
   ·rw [Wz (by simpa using hi)] at h2
    rw[List.getElem?_replicate]at h2
    split at h2<;>cases h2
  have ha:vs[i]?=some v:=by
   unfold start at h2
   rw[List.getElem?_append_left (by simpa using hi),Qs]at h2
   cases e:vs[i]? with
   |none=>rw[e]at h2;cases h2
   |some a=>rw[e]at h2;cases h2;rfl
  obtain⟨u,hu,rv⟩:=r.get ha
  have hp:ps[i]?=some y:=by
   rw[←S.pre,List.getElem?_take_of_lt (by exact zar7 ‹_› ‹_›)];exact h1
  have ndP:ps.Nodup:=by rw[←S.pre];exact S.nd.sublist (Ul _ _)
  refine⟨u,rv,?_⟩
  rcases S.par y (Yj hp) with k | k
  ·exact .inl ⟨k,bindL_get ndP hp hu k⟩
  ·obtain ⟨c,e⟩:=cell_has (n:=s.heap.objs.size+1) k
   refine .inr ⟨.inl k,c,e,?_⟩
   have q:=x.cell y c e
   rw[bindC_get ndP hp hu (by show scope.names.lookup y≠_;rw[k];decide)]at q
   exact q
 ·exact e0.hok.fresh (Ug (x.above y c (Wh h)))
 ·unfold start
  show _=N.length
  rw[Qq,Qa,Jk]
  lia
def fn_of{CX:CXT}{P:Nj}{w:Nl}{K:Nb}{mg:Ng}{base:Nm}{k:Nat}{f:Nc}{name qual:Str}{params:Arguments}{body:List Stmt}{scope:Scope}{dV kV doc pm cdv ct oc:Value}{an od:Option Addr}{osl:Array (Option Value)}{N ps:Nf}{sp:Sp}(lk:K.lookup f=some ⟨oc,od,.func (PySem.W.fnOf name qual params body scope dV kV doc pm an cdv ct),osl⟩)(aB:PySem.W.codeIn K cdv qual=true)(S:zau N ps scope)(len:∀vs H Q E,sp vs H Q E→vs.length=ps.length)(gm:∀ (A:Nn) (outer:List Env) (s:Nh) (H:Hp) (vs:List V) (Q:VK) (E:XK),Room k (A.deeper (envOfC qual scope s.heap.objs.size f cdv))→sp vs H Q E →
   ∃t,PSs (cxOf CX P w K mg base N qual scope f cdv A outer s H E) body t∧t {nx:=λ_ H'=>Q .non H',rt:=Q} (start N vs) H) :
  FnOk P w K mg base CX (k+1) f (PySem.W.fnOf name qual params body scope dV kV doc pm an cdv ct) ps sp:=by
 refine⟨len,λA outer s H args us vs Q E hr e0 hb r c8=>?_⟩
 have hl:=len _ _ _ _ c8
 have KX:K.In s.heap:=e0.mod.kin.keeps λb o e=>(e0.bs b o e).1
 have lim:s.heap.NoLimit:=e0.mod.nolimit.keeps λb o e=>(e0.bs b o e).1
 have dI:∀y∈ps.zip us,scope.names.lookup y.1=some .local∨(scope.names.lookup y.1=some .cell∧((cellsFrom (s.heap.objs.size+1) scope.names []).lookup y.1).isSome=true):=λ⟨n,v⟩ hy=>by
  rcases S.par n (List.of_mem_zip hy).1 with q | q
  ·exact .inl q
  ·exact .inr ⟨q,PySem.W.cellsFrom_some _ _ _ (.inl q)⟩
 refine codeAny_call_function hr.depth (KX _ _ lk) rfl S.co S.gen rfl (PySem.W.codeRec_of KX aB) (hb _ _ _ _ ?_)
 refine wpAny_newFunctionEnv_cells S.kind dI λenv he s1 x=>?_
 subst he
 refine⟨lim.keeps x.toInCall.keep,codeAny_func ?_⟩
 obtain⟨t,ht,hq⟩:=gm A outer s H vs Q E (hr.deeper _) c8
 have I:Inv (cxOf CX P w K mg base N qual scope f cdv A outer s H E) [] (start N vs) H s1:=inv_start S hr.hd e0 hl r x
 refine wpAny_mono (ht [] s1 (start N vs) H _ I hq) (λfl s' hs=>?_) λe s' hs=>hs
 have fin:∀{σ':St} {H':Hp} {v:V} {u:Value},Inv (cxOf CX P w K mg base N qual scope f cdv A outer s H E) [] σ' H' s'→RelV v u→Q v H'→CE outer P w H s Q u s' :=
  λ{σ' H' v u} J rv q=>⟨v,H',J.os,J.bare,J.base,J.hok,rv,q⟩
 cases fl with
 |ret u =>
  obtain⟨v,σ',H',J,rv,q⟩:=hs
  exact fin J rv q
 |next =>
  obtain⟨σ',H',J,q⟩:=hs
  exact fin (v:=V.non) (u:=Value.none) J rfl q
 |brk =>
  obtain⟨_,_,_,q⟩:=hs
  exact False.elim q
 |cont =>
  obtain⟨_,_,_,q⟩:=hs
  exact False.elim q
end L2
namespace L2
open PySem PySem.Spec PyProof.Rows
section
variable{X:Cx}{x:Str}{p pos:Pos}{e:Expr}{es:Np}{t:TA}{id T:String}{r:List V→Hp→VK→Prop}
def tCB(r:List V→Hp→VK→Prop)(t:TA):TE:=λ σ H Q=>t σ H λvs H1=>r vs H1 Q
def zam(hc:zch X (.builtin id) r)(hg:Gl X x)(hm:X.mg x=none)(hv:bootBuiltins x=some (.builtin id))(ha:PA X (e::es) t)(hn:x ≠ "__name__" := by decide)(iq:(x==("__debug__" : Str))=false:=by decide)(he:starEach (e::es) X.env=(false,eval e X.env)::starEach es X.env:=by rfl)(c9:(backTo pos (starEach es X.env)).any (·.1)=false:=by rfl):PE X (.Call (.Name x p) (e::es) [] pos) (tCB r t):=by
 intro a7 s σ H Q I h
 refine wpAny_Call_Name_kw (zdt I hg hm hv ?_ hn iq)
 exact PyProof.Rows.callWith_builtin1 (thn (ha pos a7 s σ H _ I h) λus s1 ⟨vs,H1,I1,r1,q1⟩=>hc a7 s1 σ H1 vs us Q I1 r1 q1) he c9
def zbo(hc:zch X (.type T) r)(hg:Gl X x)(hm:X.mg x=none)(hv:bootBuiltins x=some (.type T))(ha:PA X (e::es) t)(hn:x ≠ "__name__" := by decide)(iq:(x==("__debug__" : Str))=false:=by decide)(he:starEach (e::es) X.env=(false,eval e X.env)::starEach es X.env:=by rfl)(c9:(backTo pos (starEach es X.env)).any (·.1)=false:=by rfl):PE X (.Call (.Name x p) (e::es) [] pos) (tCB r t):=by
 intro a7 s σ H Q I h
 refine wpAny_Call_Name_kw (zdt I hg hm hv ?_ hn iq)
 exact Yq (thn (ha pos a7 s σ H _ I h) λus s1 ⟨vs,H1,I1,r1,q1⟩=>hc a7 s1 σ H1 vs us Q I1 r1 q1) he c9
end
end L2
namespace L2
open PySem PySem.Spec PyProof.Rows
section
variable{κ:Type}[DecidableEq κ]
def valV(kvs:List (κ×V))(k:κ):Option V:=(kvs.find? λkv=>decide (kv.1=k)).map (·.2)
def putK(kvs:List (κ×V))(k:κ)(v:V):List (κ×V) :=
 if(kvs.any λkv=>decide (kv.1=k))=true then kvs.map (λkv=>if kv.1=k then(kv.1,v) else kv) else kvs++[(k,v)]
def zcb{p:κ×V}{r:List (κ×V)}{k:κ}(e:p.1=k):valV (p::r) k=some p.2:=by simp[valV,Uz,e]
def zbl{p:κ×V}{r:List (κ×V)}{k:κ}(e:¬p.1=k):valV (p::r) k=valV r k:=by simp[valV,Uz,e]
theorem zhk(k:κ):∀kvs:List (κ×V),(kvs.any λkv=>decide (kv.1=k))=(valV kvs k).isSome
 |[]=>rfl
 |p::r=>by
  rw[Kl]
  by_cases e:p.1=k
  ·simp only[zcb e,decide_eq_true e,Bool.true_or,Option.isSome_some]
  ·rw[zbl e,decide_eq_false e,Bool.false_or];exact zhk k r
def zd5(kvs:List (κ×V))(k:κ)(v:V):(putK kvs k v).length≤kvs.length+1:=by
 unfold putK
 split
 ·rw[Qa];exact Yh _ _
 ·rw[Qq,Qx,Wk];exact Qi _
def zee{kvs:List (κ×V)}{k:κ}(v:V)(h:valV kvs k=none):putK kvs k v=kvs++[(k,v)]:=by
 unfold putK
 rw[zhk,h]
 exact if_neg (by decide)
def RelO.isSome_eq{o:Option V}{u:Option Value}(r:RelO o u):o.isSome=u.isSome:=by
 cases o with
 |none=>cases u with
  |none=>rfl
  |some _=>exact(show False from r).elim
 |some _=>cases u with
  |none=>exact(show False from r).elim
  |some _=>rfl
def RelO.getD{o:Option V}{u:Option Value}{d:V}{d':Value}(r:RelO o u)(rd:RelV d d'):RelV (o.getD d) (u.getD d'):=by
 cases o with
 |none=>cases u with
  |none=>exact rd
  |some _=>exact(show False from r).elim
 |some _=>cases u with
  |none=>exact(show False from r).elim
  |some _=>exact r
def KV.val{kvs:List (κ×V)}{vs:List (κ×Value)}(r:KV kvs vs)(k:κ):RelO (valV kvs k) (valueAt vs k):=by
 unfold KV at r
 induction r with
 |nil=>exact True.intro
 | @cons p q ps qs h t ih =>
  obtain⟨h1,h2⟩:=h
  by_cases e:p.1=k
  ·have e':q.1=k:=h1.symm.trans e
   have b:valueAt (q::qs) k=some q.2:=by simp[valueAt,Uz,e']
   rw[zcb e,b];exact h2
  ·have e':¬ q.1=k:=fun z=>e (h1.trans z)
   have b:valueAt (q::qs) k=valueAt qs k:=by simp[valueAt,Uz,e']
   rw[zbl e,b];exact ih
def KV.any{kvs:List (κ×V)}{vs:List (κ×Value)}(r:KV kvs vs)(k:κ):(kvs.any λkv=>decide (kv.1=k))=vs.any λkv=>decide (kv.1=k):=by
 unfold KV at r
 induction r with
 |nil=>rfl
 |cons h t ih=>rw[Kl,Kl,ih,h.1]
def KV.repl{kvs:List (κ×V)}{vs:List (κ×Value)}(r:KV kvs vs)(k:κ){y:V}{u:Value}(ry:RelV y u) :
  KV (kvs.map λkv=>if kv.1=k then(kv.1,y) else kv) (vs.map λkv=>if kv.1=k then(kv.1,u) else kv):=by
 unfold KV at r ⊢
 induction r with
 |nil=>exact .nil
 |@cons p q ps qs h t ih =>
  rw[Ql,Ql]
  refine .cons ?_ ih
  obtain⟨h1,h2⟩:=h
  by_cases e:p.1=k
  ·rw[if_pos e,if_pos (h1.symm.trans e)];exact⟨h1,ry⟩
  ·rw[if_neg e,if_neg (λz=>e (h1.trans z))];exact⟨h1,h2⟩
def KV.put{kvs:List (κ×V)}{vs:List (κ×Value)}(r:KV kvs vs)(k:κ){y:V}{u:Value}(ry:RelV y u):KV (putK kvs k y) (stored vs k u):=by
 unfold putK stored
 rw[r.any k]
 by_cases e:(vs.any λkv=>decide (kv.1=k))=true
 ·rw[if_pos e,if_pos e];exact r.repl k ry
 ·rw[if_neg e,if_neg e];exact Paired.snoc r ⟨rfl,ry⟩
def KV.length{kvs:List (κ×V)}{vs:List (κ×Value)}(r:KV kvs vs):kvs.length=vs.length:=Yr r
end
def kV_is{P:Nj}{w:Nl}{k:Key}{u:Value}(r:RelV (kV k) u):(zat P w).is k u=true:=by
 cases k with
 |inl i=>obtain⟨t,e⟩:=(show ∃t,u=Value.int i t from r);subst e;exact mixKind_int P w i t
 |inr x=>obtain⟨t,e⟩:=(show ∃t,u=Value.str x t from r);subst e;exact zf6 P w x t
theorem items_are{P:Nj}{w:Nl}:∀{ks:List Key} {us:Ni},Vals (ks.map kV) us→ItemsAre (zat P w) ks us
 |[],_,r=>by rw[Ji]at r;cases r;exact .nil
 |k::ks,_,r=>by
  rw[Ql]at r
  cases r with
  |cons h t=>exact .cons (kV_is h) (items_are t)
abbrev KT(H:Hp):List (List Key×V)→List (List Key×Addr×Value)→Prop:=Paired λp q=>p.1=q.1∧H q.2.1=some (.tup (p.1.map kV))∧RelV p.2 q.2.2
def KT.val{H:Hp}{kvs:List (List Key×V)}{xs:List (List Key×Addr×Value)}(r:KT H kvs xs)(k:List Key):RelO (valV kvs k) ((atKey xs k).map (·.2)):=by
 induction r with
 |nil=>exact True.intro
 | @cons p q ps qs h t ih =>
  obtain⟨h1,_,h2⟩:=h
  by_cases e:p.1=k
  ·have e':q.1=k:=h1.symm.trans e
   have b:atKey (q::qs) k=some q.2:=by simp[atKey,Uz,e']
   rw[zcb e,b];exact h2
  ·have e':¬ q.1=k:=fun z=>e (h1.trans z)
   have b:atKey (q::qs) k=atKey qs k:=by simp[atKey,Uz,e']
   rw[zbl e,b];exact ih
def KT.repl{H:Hp}{kvs:List (List Key×V)}{xs:List (List Key×Addr×Value)}(r:KT H kvs xs)(k:List Key){y:V}{u:Value}(ry:RelV y u) :
  KT H (kvs.map λkv=>if kv.1=k then(kv.1,y) else kv) (xs.map (putAt k u)):=by
 induction r with
 |nil=>exact .nil
 |@cons p q ps qs h t ih =>
  rw[Ql,Ql]
  refine .cons ?_ ih
  obtain⟨h1,h2,h3⟩:=h
  unfold putAt
  by_cases e:p.1=k
  ·rw[if_pos e,if_pos (h1.symm.trans e)];exact⟨h1,h2,ry⟩
  ·rw[if_neg e,if_neg (λz=>e (h1.trans z))];exact⟨h1,h2,h3⟩
def KT.put{H:Hp}{kvs:List (List Key×V)}{xs:List (List Key×Addr×Value)}(r:KT H kvs xs)(k:List Key){b:Nc}{y:V}{u:Value}(hb:H b=some (.tup (k.map kV)))(ry:RelV y u) :
  KT H (putK kvs k y) (storedH xs k b u):=by
 have e:(kvs.any λkv=>decide (kv.1=k))=(atKey xs k).isSome:=by
  rw[zhk,(r.val k).isSome_eq,Option.isSome_map]
 unfold putK storedH
 rw[e]
 by_cases q:(atKey xs k).isSome=true
 ·rw[if_pos q,if_pos q];exact r.repl k ry
 ·rw[if_neg q,if_neg q];exact Paired.snoc r ⟨rfl,hb,ry⟩
def KT.keeps{H H':Hp}{kvs:List (List Key×V)}{xs:List (List Key×Addr×Value)}(r:KT H kvs xs)(ht:∀b ys,H b=some (.tup ys)→H' b=some (.tup ys)):KT H' kvs xs :=
 Paired.mapP r λ_ _ z=>⟨z.1,ht _ _ z.2.1,z.2.2⟩
section
variable{P:Nj}{w:Nl}{H:Hp}{h:Nm}{a:Nc}
def rd_of{u:HO}(ok:HOk P w H h)(e:Rd H a u):zbq P w H h a u:=e.ok ok
def zig{kvs:List (Key×V)}(ok:HOk P w H h)(e:Rd H a (.dK kvs)):kvs.length≤sizeLine∧(a==sysModules)=false∧∃vs,KV kvs vs∧h.DictOf (zat P w) a vs :=
 show zbq P w H h a (.dK kvs) from rd_of ok e
def dk_of{kvs:List (Key×V)}(ok:HOk P w H h)(e:H a=some (.dK kvs)):kvs.length≤sizeLine∧(a==sysModules)=false∧∃vs,KV kvs vs∧h.DictOf (zat P w) a vs:=zig ok (.inl e)
def zge{ks:List Key}(ok:HOk P w H h)(e:H a=some (.tup (ks.map kV))):(tupleKind (zat P w)).is h ks a:=by
 obtain⟨_,a8,r,o,h1,h2,n,h3⟩:=(show zbq P w H h a (.tup (ks.map kV)) from ok a _ e)
 exact⟨o,a8.toArray,n,h1,h2,h3,by simpa using items_are r⟩
def dt_rd{kvs:List (List Key×V)}(ok:HOk P w H h)(e:Rd H a (.dT kvs)):kvs.length≤sizeLine∧(a == sysModules)=false ∧
  ∃xs,KT H kvs xs∧h.DictOfH (tupleKind (zat P w)) a xs:=by
 obtain⟨z,y,xs,r,o,es,ep,h1,h2,h3,h4,h5⟩:=(show zbq P w H h a (.dT kvs) from rd_of ok e)
 refine⟨z,y,xs,r,o,es,ep,h1,h2,h3,h4,λx hx=>?_,h5⟩
 have all:∀{l:List (List Key×V)} {m:List (List Key×Addr×Value)},KT H l m→∀x∈m,(tupleKind (zat P w)).is h x.1 x.2.1:=by
  intro l m q
  induction q with
  |nil=>intro x hx;exact nomatch hx
  | @cons p q ps qs hq t ih =>
   intro x hx
   rcases Qe.mp hx with e | hx
   ·subst e
    exact zge ok (by rw[←hq.1];exact hq.2.1)
   ·exact ih x hx
 exact all r x hx
def dt_of{kvs:List (List Key×V)}(ok:HOk P w H h)(e:H a=some (.dT kvs)):kvs.length≤sizeLine∧(a==sysModules)=false ∧
  ∃xs,KT H kvs xs∧h.DictOfH (tupleKind (zat P w)) a xs:=dt_rd ok (.inl e)
end
def DGet(H:Hp)(a:Nc)(y:V)(r:Option V):Prop :=
 (∃kvs k,Rd H a (.dK kvs)∧y=kV k∧r=valV kvs k)∨∃kvs k b,Rd H a (.dT kvs)∧y=.ref b∧H b=some (.tup (k.map kV))∧r=valV kvs k
def DPut(H:Hp)(a:Nc)(y v:V)(H':Hp):Prop :=
 (∃kvs k,H a=some (.dK kvs)∧y=kV k∧kvs.length<sizeLine∧H'=upd H a (.dK (putK kvs k v))) ∨
 ∃kvs k b,H a=some (.dT kvs)∧y=.ref b∧H b=some (.tup (k.map kV))∧kvs.length<sizeLine∧H'=upd H a (.dT (putK kvs k v))
def DGet.k{H:Hp}{a:Nc}{kvs:List (Key×V)}{k:Key}(e:H a=some (.dK kvs)):DGet H a (kV k) (valV kvs k):=.inl ⟨kvs,k,.inl e,rfl,rfl⟩
def DGet.t{H:Hp}{a b:Nc}{kvs:List (List Key×V)}{k:List Key}(e:H a=some (.dT kvs))(eb:H b=some (.tup (k.map kV))):DGet H a (.ref b) (valV kvs k):=.inr ⟨kvs,k,b,.inl e,rfl,eb,rfl⟩
def DPut.k{H:Hp}{a:Nc}{kvs:List (Key×V)}{k:Key}{v:V}(e:H a=some (.dK kvs))(hl:kvs.length<sizeLine):DPut H a (kV k) v (upd H a (.dK (putK kvs k v))):=.inl ⟨kvs,k,e,rfl,hl,rfl⟩
def DPut.t{H:Hp}{a b:Nc}{kvs:List (List Key×V)}{k:List Key}{v:V}(e:H a=some (.dT kvs))(eb:H b=some (.tup (k.map kV)))(hl:kvs.length<sizeLine) :
  DPut H a (.ref b) v (upd H a (.dT (putK kvs k v))):=.inr ⟨kvs,k,b,e,rfl,eb,hl,rfl⟩
section
variable{X:Cx}{a7:Nd}{σ:St}{H:Hp}{s:Nh}{a:Nc}{y v:V}{u r:Value}{o:Option V}{A:Nn}{E:Na}
def Inv.big(I:Inv X a7 σ H s):sysModules<s.heap.objs.size:=by
 have h:mainGlobals<s.heap.objs.size:=(I.mod.glob.keeps I.bk).lt
 exact Wn (by decide) h
def d_getItem{Q:Na}(hu:A.units+1<cLine)(I:Inv X a7 σ H s)(g:DGet H a y (some v))(ry:RelV y u)(h:∀w' s',Inv X a7 σ H s'→RelV v w'→Q w' s') :
  wpAny (model X.prog X.w) A (getItem (.ref a) u) Q E s:=by
 rcases g with⟨kvs,k,e,ey,l⟩ | ⟨kvs,k,b,e,ey,eb,l⟩
 ·subst ey
  obtain⟨z,hd,vs,rel,dd⟩:=zig I.hok e
  obtain⟨w',hw,cC⟩:=RelO.some_of (v:=v) (o:=valueAt vs k) (by rw[l];exact rel.val k)
  exact wpAny_getItem_of (kV_is ry) dd.mapOf hw (h w' _ (I.tok _) cC)
 ·subst ey
  cases(show u=Value.ref b from ry)
  obtain⟨z,hd,xs,rel,dd⟩:=dt_rd I.hok e
  obtain⟨w',hw,cC⟩:=RelO.some_of (v:=v) (o:=(atKey xs k).map (·.2)) (by rw[l];exact rel.val k)
  obtain⟨p,hp,av⟩:=Option.map_eq_some_iff.mp hw
  refine wpAny_getItem_heap (tupleKind_room_in1 hu) (zge I.hok eb) dd hp ?_
  rw[av]
  exact h w' _ (I.tok _) cC
def d_in{Q:Na}(hu:A.units+1<cLine)(I:Inv X a7 σ H s)(g:DGet H a y o)(ry:RelV y u)(h:∀s',Inv X a7 σ H s'→Q (.bool o.isSome) s') :
  wpAny (model X.prog X.w) A (compareOp .In u (.ref a)) Q E s:=by
 rcases g with⟨kvs,k,e,ey,l⟩ | ⟨kvs,k,b,e,ey,eb,l⟩
 ·subst ey
  obtain⟨z,hd,vs,rel,dd⟩:=zig I.hok e
  refine wpAny_in_of (kV_is ry) hd dd.mapOf ?_
  rw[←(rel.val k).isSome_eq,←l]
  exact h _ (I.tok _)
 ·subst ey
  cases(show u=Value.ref b from ry)
  obtain⟨z,hd,xs,rel,dd⟩:=dt_rd I.hok e
  refine wpAny_in_heap (tupleKind_room_in1 hu) (zge I.hok eb) hd dd ?_
  have q:=(rel.val k).isSome_eq
  rw[Option.isSome_map]at q
  rw[←q,←l]
  exact h _ (I.tok _)
def d_notIn{Q:Na}(hu:A.units+1<cLine)(I:Inv X a7 σ H s)(g:DGet H a y o)(ry:RelV y u)(h:∀s',Inv X a7 σ H s'→Q (.bool (!o.isSome)) s') :
  wpAny (model X.prog X.w) A (compareOp .NotIn u (.ref a)) Q E s:=by
 rcases g with⟨kvs,k,e,ey,l⟩ | ⟨kvs,k,b,e,ey,eb,l⟩
 ·subst ey
  obtain⟨z,hd,vs,rel,dd⟩:=zig I.hok e
  refine wpAny_notIn_of (kV_is ry) hd dd.mapOf ?_
  rw[←(rel.val k).isSome_eq,←l]
  exact h _ (I.tok _)
 ·subst ey
  cases(show u=Value.ref b from ry)
  obtain⟨z,hd,xs,rel,dd⟩:=dt_rd I.hok e
  refine wpAny_notIn_heap (tupleKind_room_in1 hu) (zge I.hok eb) hd dd ?_
  have q:=(rel.val k).isSome_eq
  rw[Option.isSome_map]at q
  rw[←q,←l]
  exact h _ (I.tok _)
def d_write{h':Nm}{t':Nat}{ob:HO}(I:Inv X a7 σ H s)(mu:Mut (H a))(hs:Heap.SameBut a s.heap h')(he:∃q,h'.get? a=some q)(new:zbq X.prog X.w (upd H a ob) h' a ob) :
  Inv X a7 σ (upd H a ob) {s with heap:=h',toks:=t'} :=
 I.write (x:=a) (e:=a) mu (.inl rfl) (λb q hb z=>(hs.2 b hb).trans z) he new
def dk_new{P:Nj}{w:Nl}{H':Hp}{h':Nm}{kvs:List (Key×V)}{vs:List (Key×Value)}(z:kvs.length≤sizeLine)(hd:(a==sysModules)=false)(rel:KV kvs vs)(dd:h'.DictOf (zat P w) a vs) :
  zbq P w H' h' a (.dK kvs):=⟨z,hd,vs,rel,dd⟩
def d_setItem{H':Hp}{Q:Unit→Shared→Prop}(hu:A.units+1<cLine)(I:Inv X a7 σ H s)(g:DPut H a y v H')(ry:RelV y u)(rv:RelV v r)(h:∀s',Inv X a7 σ H' s'→Q () s') :
  wpAny (model X.prog X.w) A (setItem (.ref a) u r) Q E s:=by
 rcases g with⟨kvs,k,e,ey,l,eH⟩ | ⟨kvs,k,b,e,ey,eb,l,eH⟩
 ·subst ey eH
  obtain⟨z,hd,vs,rel,dd⟩:=dk_of I.hok e
  have hz:vs.length≤sizeLine:=by rw[←rel.length];exact z
  have hl:(putK kvs k v).length≤sizeLine:=by have:=zd5 kvs k v;exact Zn ‹_› ‹_›
  refine wpAny_setItem_pairs (hsz:=hz) (kV_is ry) dd λh' kK hs=>h _ ?_
  have he:∃q,h'.get? a=some q:=let⟨q,_,_,hq,_⟩:=kK;⟨q,hq⟩
  exact d_write I (by rw[e];exact True.intro) hs he (dk_new hl hd (rel.put k rv) kK)
 ·subst ey eH
  cases(show u=Value.ref b from ry)
  obtain⟨z,hd,xs,rel,dd⟩:=dt_of I.hok e
  have hz:xs.length≤sizeLine:=by rw[←Yr rel];exact z
  have hl:(putK kvs k v).length≤sizeLine:=by have:=zd5 kvs k v;exact Zn ‹_› ‹_›
  refine wpAny_setItem_heap (hsz:=hz) (tupleKind_room_in1 hu) (zge I.hok eb) dd λh' kK hs=>h _ ?_
  obtain⟨q,es,ep,hq,h2,h3,h4,_,h5⟩:=kK
  refine d_write I (by rw[e];exact True.intro) hs ⟨q,hq⟩ ⟨hl,hd,_,(rel.put k eb rv).keeps λc ys ec=>?_,q,es,ep,hq,h2,h3,h4,h5⟩
  rw[zad (za5 ec e (λz=>nomatch z))]
  exact ec
end
section
variable{X:Cx}{a7:Nd}{σ:St}{H:Hp}{s:Nh}{a:Nc}{kvs:List (Key×V)}{k:Key}{u:Value}{A:Nn}{E:Na}
def d_len{Q:Na}(I:Inv X a7 σ H s)(e:Rd H a (.dK kvs))(h:∀t s',Inv X a7 σ H s'→Q (.int kvs.length t) s'):wpAny (model X.prog X.w) A (call (.builtin "len") [.ref a]) Q E s:=by
 obtain⟨z,hd,vs,rel,dd⟩:=zig I.hok e
 refine call_len_dict hd dd (by rw[←rel.length];rw[sizeLine_eq]at z;lia) ?_
 rw[←rel.length]
 exact h _ _ (I.tok _)
end
def NoSl(i:Expr):Prop:=∀ov iv,subscripted i false ov iv=operate [ov,iv] (getItem ov iv)
def subD_of{prog:Nj}{w:Nl}{A:Nn}{E:Na}{s:Nh}{env:Env}{value slice:Expr}{pos:Pos}{T id:String}{Q:Na}(hl:typeLookup (.type T) "__getitem__" = pure (some (.builtin id)))(hs:NoSl slice)(h:wpAny (model prog w) A (eval value env) (λo s₁=>wpAny (model prog w) A (eval slice env) (λi s₂=>s₂.TypeIs o T∧wpAny (model prog w) A (getItem o i) Q E s₂) E s₁) E s) :
  wpAny (model prog w) A (eval (.Subscript value slice pos) env) Q E s:=by
 refine Subscript_ (wpAny_mono h (λo s₁ h₁=>wpAny_mono h₁ (λi s₂ h₂=>?_) λ_ _ x=>x) λ_ _ x=>x)
 obtain⟨hT,h₂⟩:=h₂
 unfold subscriptTail
 refine wpAny_bind ?_
 rw[getitemInPython_of_ne hT.not_modules]
 refine wpAny_bind (wpAny_specialOf hT hl ?_)
 have fin:wpAny (model prog w) A (subscripted slice false o i) (λr s₃=>wpAny (model prog w) A (letTemporaryGo value o r >>= λ_=>pure r) Q E s₃) E s₂:=by
  rw[hs o i]
  exact wpAny_operating (wpAny_mono h₂ (λr s₃ h₃=>wpAny_bind (wpAny_letTemporaryGo (wpAny_pure h₃))) λ_ _ x=>x)
 first
  |exact wpAny_pure (wpAny_bind fin)
  |exact wpAny_bind (wpAny_pure (wpAny_bind fin))
  |exact wpAny_bind fin
def dict_typeIs{X:Cx}{a7:Nd}{σ:St}{H:Hp}{s:Nh}{a:Nc}{y:V}{o:Option V}(I:Inv X a7 σ H s)(g:DGet H a y o):s.TypeIs (.ref a) "dict" := by
 rcases g with⟨kvs,k,e,_,_⟩ | ⟨kvs,k,b,e,_,_,_⟩
 ·obtain ⟨_,_,vs,_,dd⟩:=zig I.hok e
  exact dd.typeIs
 ·obtain ⟨_,_,xs,_,dd⟩:=dt_rd I.hok e
  exact dd.typeIs
inductive RDG(x y:V)(H:Hp)(Q:VK):Prop
 |mk (a:Nc) (v:V) (e:x=.ref a) (g:DGet H a y (some v)) (q:Q v H):RDG x y H Q
inductive RDI(x y:V)(H:Hp)(R:Option V→Prop):Prop
 |mk (a:Nc) (o:Option V) (e:x=.ref a) (g:DGet H a y o) (q:R o):RDI x y H R
inductive RDP(x y v:V)(H:Hp)(N:Hp→Prop):Prop
 |mk (a:Nc) (H4:Hp) (e:x=.ref a) (p:DPut H a y v H4) (q:N H4):RDP x y v H N
def tDGet(td ty:TE):TE:=λ σ H Q=>td σ H λx H1=>ty σ H1 λy H2=>RDG x y H2 Q
def tDIn(ty td:TE):TE:=λ σ H Q=>ty σ H λy H1=>td σ H1 λx H2=>RDI x y H2 λo=>Q (.bl o.isSome) H2
def tDNotIn(ty td:TE):TE:=λ σ H Q=>ty σ H λy H1=>td σ H1 λx H2=>RDI x y H2 λo=>Q (.bl (!o.isSome)) H2
def sDPut(td ty tv:TE):TS:=λD σ H=>tv σ H λv H1=>td σ H1 λx H2=>ty σ H2 λy H3=>RDP x y v H3 (D.nx σ)
section
variable{X:Cx}{o i e value:Expr}{pos bz tpos:Pos}{td ty tv:TE}
def zaz(hu:X.A.units+1<cLine)(ho:PE X o td)(hi:PE X i ty)(hs:NoSl i):PE X (.Subscript o i pos) (tDGet td ty):=by
 intro a7 s σ H Q I h
 refine subD_of PySem.F.slot_dict_getitem.lookup hs (thn (ho a7 s σ H _ I h) λu s1 ⟨x,H1,I1,rx,q1⟩=>thn (hi a7 s1 σ H1 _ I1 q1) λiv s2 ⟨y,H2,I2,ry,a,v,ex,g,q2⟩=>?_)
 subst ex
 obtain rfl:u=Value.ref a:=rx
 exact⟨dict_typeIs I2 g,d_getItem hu I2 g ry λw' s3 I3 cC=>⟨v,H2,I3,cC,q2⟩⟩
def pc_din(hu:X.A.units+1<cLine)(hi:PE X i ty)(ho:PE X o td):PC X .In i o (tDIn ty td):=by
 intro a7 s σ H Q I h
 refine thn (hi a7 s σ H _ I h) λiv s1 ⟨y,H1,I1,ry,q1⟩=>thn (ho a7 s1 σ H1 _ I1 q1) λu s2 ⟨x,H2,I2,rx,a,ov,ex,g,q2⟩=>?_
 subst ex
 obtain rfl:u=Value.ref a:=rx
 exact d_in hu I2 g ry λs3 I3=>⟨.bl ov.isSome,H2,I3,rfl,q2⟩
def zcl(hu:X.A.units+1<cLine)(hi:PE X i ty)(ho:PE X o td):PC X .NotIn i o (tDNotIn ty td):=by
 intro a7 s σ H Q I h
 refine thn (hi a7 s σ H _ I h) λiv s1 ⟨y,H1,I1,ry,q1⟩=>thn (ho a7 s1 σ H1 _ I1 q1) λu s2 ⟨x,H2,I2,rx,a,ov,ex,g,q2⟩=>?_
 subst ex
 obtain rfl:u=Value.ref a:=rx
 exact d_notIn hu I2 g ry λs3 I3=>⟨.bl (!ov.isSome),H2,I3,rfl,q2⟩
def zcu(hu:X.A.units+1<cLine)(ho:PE X o td)(hi:PE X i ty)(hv:PE X value tv)(hs:swapsWith value (some (.Subscript o i bz)) pos.line X.env=pure false) :
  PS X (.Assign [.Subscript o i bz] value pos) (sDPut td ty tv):=by
 intro a7 s σ H D I h
 refine wpAny_Assign_Subscript (thn (hv a7 s σ H _ I h) λr s1 ⟨v,H1,I1,rv,q1⟩=>thn (ho a7 s1 σ H1 _ I1 q1) λu s2 ⟨x,H2,I2,rx,q2⟩=>thn (hi a7 s2 σ H2 _ I2 q2) λiv s3 ⟨y,H3,I3,ry,a,H4,ex,g,q3⟩=>?_) hs
 subst ex
 obtain rfl:u=Value.ref a:=rx
 exact d_setItem hu I3 g ry rv λs4 I4=>⟨σ,H4,I4,q3⟩
end
def dk_empty{P:Nj}{w:Nl}{H:Hp}(h:Nm)(hb:sysModules<h.objs.size):zbq P w H (h.push {cls:=.type "dict",data:=.dict #[]}) h.objs.size (.dK []) :=
 ⟨Zf _,beq_eq_false_iff_ne.mpr (Zb (Zc hb)),[],.nil,Heap.DictOf.new h⟩
def dt_empty{P:Nj}{w:Nl}{H:Hp}(h:Nm)(hb:sysModules<h.objs.size):zbq P w H (h.push {cls:=.type "dict",data:=.dict #[]}) h.objs.size (.dT []) :=
 ⟨Zf _,beq_eq_false_iff_ne.mpr (Zb (Zc hb)),[],.nil,_,#[],0,Zd _ rfl,⟨rfl,rfl,rfl⟩,rfl,rfl,Zh⟩
def tDNewK:TE:=λ_ H Q=>∀p,H p=none→Q (.ref p) (upd H p (.dK []))
def tDNewT:TE:=λ_ H Q=>∀p,H p=none→Q (.ref p) (upd H p (.dT []))
section
variable{X:Cx}{pos:Pos}
def pe_dnewK:PE X (.Dict [] [] pos) tDNewK:=λa7 s σ H Q I h =>
 wpAny_Dict_empty ⟨.ref s.heap.objs.size,_,I.laid (a:=s.heap.objs.size) (o:=.dK []) (t':=s.toks) (λ_ _ q=>Qj _ q) (Qi _) (dk_empty s.heap I.big),rfl,h _ (I.hok.fresh (Qi _))⟩
def pe_dnewT:PE X (.Dict [] [] pos) tDNewT:=λa7 s σ H Q I h =>
 wpAny_Dict_empty ⟨.ref s.heap.objs.size,_,I.laid (a:=s.heap.objs.size) (o:=.dT []) (t':=s.toks) (λ_ _ q=>Qj _ q) (Qi _) (dt_empty s.heap I.big),rfl,h _ (I.hok.fresh (Qi _))⟩
end
def tPairs:List (TE×TE)→St→Hp→(List (V×V)→Hp→Prop)→Prop
 |[],_,H,Q=>Q [] H
 |(tk,tv)::r,σ,H,Q=>tk σ H λx H1=>tv σ H1 λy H2=>tPairs r σ H2 λps H3=>Q ((x,y)::ps) H3
abbrev VV:List (V×V)→List (Value×Value)→Prop:=Paired λp q=>RelV p.1 q.1∧RelV p.2 q.2
def PPs(X:Cx)(pos:Pos)(keys:List (Option Expr))(values:Np)(trs:List (TE×TE)):Prop :=
 ∀(a7:Nd) (s:Nh) (σ:St) (H:Hp) (Q:List (V×V)→Hp→Prop),Inv X a7 σ H s→tPairs trs σ H Q →
  wpAny (model X.prog X.w) X.A (evalPairs (pairTrees keys values X.env pos)) (λvs s'=>∃ps H',Inv X a7 σ H' s'∧VV ps vs∧Q ps H') X.xe s
def zfy{X:Cx}{pos:Pos}:PPs X pos [] [] []:=λa7 s σ H Q I h=>pairTrees_nil_walk ⟨[],H,I,.nil,h⟩
def zdk{X:Cx}{pos:Pos}{k v:Expr}{ks:List (Option Expr)}{vs:Np}{tk tv:TE}{trs:List (TE×TE)}(hk:PE X k tk)(hv:PE X v tv)(hr:PPs X pos ks vs trs) :
  PPs X pos (some k::ks) (v::vs) ((tk,tv)::trs):=λa7 s σ H Q I h =>
 pairTrees_cons_walk (thn (hk a7 s σ H _ I h) λu s1 ⟨x,H1,I1,rx,q1⟩=>thn (hv a7 s1 σ H1 _ I1 q1) λw2 s2 ⟨y,H2,I2,ry,q2⟩ =>
  thn (hr a7 s2 σ H2 _ I2 q2) λws s3 ⟨ps,H3,I3,rel,q3⟩=>⟨(x,y)::ps,H3,I3,.cons ⟨rx,ry⟩ rel,q3⟩)
def zcm(kvs more:List (Key×V)):List (Key×V):=more.foldl (λai kv=>putK ai kv.1 kv.2) kvs
def KV.merge:∀{more:List (Key×V)} {rs:List (Key×Value)} {kvs:List (Key×V)} {vs:List (Key×Value)},KV more rs→KV kvs vs→KV (zcm kvs more) (merged vs rs):=by
 intro more rs kvs vs r
 unfold KV at r
 induction r generalizing kvs vs with
 |nil=>intro q;exact q
 | @cons p q ps qs h t ih =>
  intro r0
  have e:KV (putK kvs p.1 p.2) (stored vs q.1 q.2):=by
   have:=r0.put p.1 h.2
   rw[←h.1];exact this
  exact ih e
theorem zek:∀(more kvs:List (Key×V)),(zcm kvs more).length≤kvs.length+more.length
 |[],kvs=>by show kvs.length≤kvs.length+0;exact Qi _
 |p::r,kvs=>by
  have h1:=zek r (putK kvs p.1 p.2)
  have h2:=zd5 kvs p.1 p.2
  show(zcm (putK kvs p.1 p.2) r).length≤_
  rw[Qx];lia
theorem zhf{P:Nj}{w:Nl}:∀{kvs:List (Key×V)} {ws:List (Value×Value)},VV (kvs.map λkv=>(kV kv.1,kv.2)) ws→∃rs,Carries (zat P w) ws rs∧KV kvs rs
 |[],_,r=>by rw[Ji]at r;cases r;exact⟨[],True.intro,.nil⟩
 | p::kvs,_,r=>by
  rw[Ql]at r
  cases r with
  |@cons a b as bs h t =>
   obtain⟨rs,c,q⟩:=zhf (P:=P) (w:=w) t
   obtain⟨b1,b2⟩:=b
   exact⟨(p.1,b2)::rs,⟨kV_is h.1,rfl,c⟩,.cons ⟨rfl,h.2⟩ q⟩
def tDisp(trs:List (TE×TE)):TE:=λ σ H Q=>∀p,H p=none→tPairs trs σ (upd H p (.dK [])) λps H2=>H2 p=some (.dK [])∧∃kvs:List (Key×V),ps=kvs.map (λkv=>(kV kv.1,kv.2))∧kvs.length≤15∧Q (.ref p) (upd H2 p (.dK (zcm [] kvs)))
def zf0{X:Cx}{pos:Pos}{keys:List (Option Expr)}{values:Np}{trs:List (TE×TE)}(h:PPs X pos keys values trs)(cU:keys.all (·.isSome)=true)(hl:keys.length=values.length)(h0:keys≠[])(h15:keys.length≤15):PE X (.Dict keys values pos) (tDisp trs):=by
 intro a7 s σ H Q I q
 have hn:=I.hok.fresh (Qi s.heap.objs.size)
 have I1:=I.laid (a:=s.heap.objs.size) (o:=.dK []) (h':=s.heap.push {cls:=.type "dict",data:=.dict #[]}) (t':=s.toks) (λ_ _ q=>Qj _ q) (Qi _) (dk_empty s.heap I.big)
 refine wpAny_Dict_walk (knd:=zat X.prog X.w) cU hl h0 h15 (thn (h a7 _ σ _ _ I1 (q _ hn)) λws s2 ⟨ps,H2,I2,rel,e,kvs,ep,lk,q2⟩=>?_)
 subst ep
 obtain⟨rs,c,rk⟩:=zhf (P:=X.prog) (w:=X.w) rel
 obtain⟨z,hd,vs0,r0,dd⟩:=dk_of I2.hok e
 cases r0
 refine⟨rs,c,dd,λh' kK hs=>⟨.ref s.heap.objs.size,_,?_,rfl,q2⟩⟩
 have hz:(zcm [] kvs).length≤sizeLine:=by
  have h1:=zek kvs []
  rw[Wk]at h1
  rw[sizeLine_eq];lia
 have he:∃q,h'.get? s.heap.objs.size=some q:=let⟨q,_,_,hq,_⟩:=kK;⟨q,hq⟩
 exact d_write I2 (by rw[e];exact True.intro) hs he (dk_new hz hd (rk.merge .nil) kK)
structure M1(X:Cx)(o:Expr)(m:Str)(apos:Pos)(e:Expr)(cpos:Pos):Prop where
 base:attributeBase o m X.env (eval o X.env)=eval o X.env
 few:((backTo cpos (starEach [e] X.env)).all (λx=>!x.1)&&(backToKw cpos (keywordEach [] X.env)).all (λx=>x.1.isSome)
  && decide (([e]:List Expr).length+([]:List Keyword).length+(if([]:List Keyword).isEmpty then 0 else 1)<30))=true
 line:(apos.endLine==cpos.line)=true
 trees:backTo cpos (starEach [e] X.env)=[(false,eval e X.env)]
structure M2(X:Cx)(o:Expr)(m:Str)(apos:Pos)(e f:Expr)(cpos:Pos):Prop where
 base:attributeBase o m X.env (eval o X.env)=eval o X.env
 few:((backTo cpos (starEach [e,f] X.env)).all (λx=>!x.1)&&(backToKw cpos (keywordEach [] X.env)).all (λx=>x.1.isSome)
  && decide (([e,f]:List Expr).length+([]:List Keyword).length+(if([]:List Keyword).isEmpty then 0 else 1)<30))=true
 line:(apos.endLine==cpos.line)=true
 trees:backTo cpos (starEach [e,f] X.env)=[(false,eval e X.env),(false,eval f X.env)]
def IsD(H:Hp)(a:Nc):Prop:=(∃kvs,Rd H a (.dK kvs))∨∃kvs,Rd H a (.dT kvs)
def isD_at{X:Cx}{a7:Nd}{σ:St}{H:Hp}{s:Nh}{a:Nc}(I:Inv X a7 σ H s)(d:IsD H a) :
  s.TypeIs (.ref a) "dict" ∧ (∀b,Value.ref a=.ref b→∃ob,s.heap.get? b=some ob∧ob.dict=none)∧(a==sysModules)=false:=by
 rcases d with⟨kvs,e⟩ | ⟨kvs,e⟩
 ·obtain ⟨_,hd,vs,_,dd⟩:=zig I.hok e
  refine⟨dd.typeIs,λb q=>?_,hd⟩
  cases q
  obtain⟨ob,_,_,h1,h2,_⟩:=dd
  exact⟨ob,h1,h2.2.1⟩
 ·obtain ⟨_,hd,xs,_,dd⟩:=dt_rd I.hok e
  refine⟨dd.typeIs,λb q=>?_,hd⟩
  cases q
  obtain⟨ob,_,_,h1,h2,_⟩:=dd
  exact⟨ob,h1,h2.2.1⟩
section
variable{X:Cx}{a7:Nd}{σ:St}{H:Hp}{s:Nh}{a:Nc}{y d:V}{u r:Value}{o:Option V}{A:Nn}{E:Na}
def d_get1{Q:Na}(hu:A.units+1<cLine)(I:Inv X a7 σ H s)(g:DGet H a y o)(ry:RelV y u)(h:∀w' s',Inv X a7 σ H s'→RelV (o.getD .non) w'→Q w' s') :
  wpAny (model X.prog X.w) A (call (.builtin "dict.get") [.ref a,u]) Q E s:=by
 rcases g with⟨kvs,k,e,ey,l⟩ | ⟨kvs,k,b,e,ey,eb,l⟩
 ·subst ey
  obtain⟨z,hd,vs,rel,dd⟩:=zig I.hok e
  refine call_meetsIn Ub dd.typeIs Jf (PySem.F.args_dict_get_2 _ _) (meets_dict_get (zat X.prog X.w) a (kV_is ry) hd) ⟨_,dd.mapOf,h _ _ (I.tok _) ?_⟩
  rw[l]
  exact(rel.val k).getD rfl
 ·subst ey
  cases(show u=Value.ref b from ry)
  obtain⟨z,hd,xs,rel,dd⟩:=dt_rd I.hok e
  refine call_meetsIn Ub dd.typeIs Jf (PySem.F.args_dict_get_2 _ _) (meetsH_dict_get (tupleKind (zat X.prog X.w)) a b hd) ⟨tupleKind_room_in1 hu,k,xs,zge I.hok eb,dd,h _ _ (I.tok _) ?_⟩
  rw[l]
  exact(rel.val k).getD rfl
def d_get2{Q:Na}(hu:A.units+1<cLine)(I:Inv X a7 σ H s)(g:DGet H a y o)(ry:RelV y u)(rd:RelV d r)(h:∀w' s',Inv X a7 σ H s'→RelV (o.getD d) w'→Q w' s') :
  wpAny (model X.prog X.w) A (call (.builtin "dict.get") [.ref a,u,r]) Q E s:=by
 rcases g with⟨kvs,k,e,ey,l⟩ | ⟨kvs,k,b,e,ey,eb,l⟩
 ·subst ey
  obtain⟨z,hd,vs,rel,dd⟩:=zig I.hok e
  refine call_meetsIn Ub dd.typeIs Jf (PySem.F.args_dict_get_3 _ _ _) (meets_dict_get_default (zat X.prog X.w) a (kV_is ry) hd r) ⟨_,dd.mapOf,h _ _ (I.tok _) ?_⟩
  rw[l]
  exact(rel.val k).getD rd
 ·subst ey
  cases(show u=Value.ref b from ry)
  obtain⟨z,hd,xs,rel,dd⟩:=dt_rd I.hok e
  refine call_meetsIn Ub dd.typeIs Jf (PySem.F.args_dict_get_3 _ _ _) (meetsH_dict_get_default (tupleKind (zat X.prog X.w)) a b hd r) ⟨tupleKind_room_in1 hu,k,xs,zge I.hok eb,dd,h _ _ (I.tok _) ?_⟩
  rw[l]
  exact(rel.val k).getD rd
end
def tDGet1(td ty:TE):TE:=λ σ H Q=>td σ H λx H1=>∃a,x=.ref a∧IsD H1 a∧ty σ H1 λy H2=>∃o,DGet H2 a y o∧Q (o.getD .non) H2
def tDGet2(td ty tx:TE):TE:=λ σ H Q=>td σ H λx H1=>∃a,x=.ref a∧IsD H1 a∧ty σ H1 λy H2=>tx σ H2 λz H3=>∃o,DGet H3 a y o∧Q (o.getD z) H3
section
variable{X:Cx}{o e f:Expr}{apos cpos:Pos}{td ty tx:TE}
def pe_dget1(hu:X.A.units+1<cLine)(ho:PE X o td)(he:PE X e ty)(m:M1 X o "get" apos e cpos):PE X (.Call (.Attribute o "get" apos) [e] [] cpos) (tDGet1 td ty):=by
 intro a7 s σ H Q I h
 refine wpAny_Call_method m.base m.few m.line PySem.F.plainAttrs_dict Ub PySem.F.type_dict_get (thn (ho a7 s σ H _ I h) λu s1 ⟨x,H1,I1,rx,a,ex,d,q1⟩=>?_)
 subst ex
 obtain rfl:u=Value.ref a:=rx
 obtain⟨t1,t2,_⟩:=isD_at I1 d
 refine⟨t1,t2,?_⟩
 rw[m.trees]
 refine Jt rfl (Calls.evalArgs_plain (Uo (thn (he a7 s1 σ H1 _ I1 q1) λiv s2 ⟨y,H2,I2,ry,ov,g,q2⟩=>Js ?_)))
 exact d_get1 hu I2 g ry λw' s3 I3 cC=>⟨_,H2,I3,cC,q2⟩
def pe_dget2(hu:X.A.units+1<cLine)(ho:PE X o td)(he:PE X e ty)(hf:PE X f tx)(m:M2 X o "get" apos e f cpos):PE X (.Call (.Attribute o "get" apos) [e,f] [] cpos) (tDGet2 td ty tx):=by
 intro a7 s σ H Q I h
 refine wpAny_Call_method m.base m.few m.line PySem.F.plainAttrs_dict Ub PySem.F.type_dict_get (thn (ho a7 s σ H _ I h) λu s1 ⟨x,H1,I1,rx,a,ex,d,q1⟩=>?_)
 subst ex
 obtain rfl:u=Value.ref a:=rx
 obtain⟨t1,t2,_⟩:=isD_at I1 d
 refine⟨t1,t2,?_⟩
 rw[m.trees]
 refine Jt rfl (Calls.evalArgs_plain (Uo (thn (he a7 s1 σ H1 _ I1 q1) λiv s2 ⟨y,H2,I2,ry,q2⟩ =>
  Uo (thn (hf a7 s2 σ H2 _ I2 q2) λfv s3 ⟨z,H3,I3,rz,ov,g,q3⟩=>Js ?_))))
 exact d_get2 hu I3 g ry rz λw' s4 I4 cC=>⟨_,H3,I4,cC,q3⟩
end
section
variable{X:Cx}{a7:Nd}{σ:St}{H:Hp}{s:Nh}{a:Nc}{kvs:List (Key×V)}{A:Nn}{E:Na}
end
section
variable{X:Cx}{a7:Nd}{σ:St}{H:Hp}{s:Nh}{a:Nc}{y:V}{u:Value}{A:Nn}{E:Na}
end
end L2
namespace HT
open PySem PyProof.Rows
section
open PySem.SeqAt
open PySem.AutoSeq1 (wpAny_loadPart')
open PySem.MeetsSeq PySem.MeetsSeq2 PySem.MeetsSeq3
end
section
variable{prog:Nj}{w:Nl}{A:Nn}{E:Na}{s:Nh}
def sIx(n d:Nat):Option Int→Nat
 |none=>d
 |some v=>if v<0 then(v+(n:Int)).toNat else min v.toNat n
def sIx_nat(n d k:Nat):sIx n d (some (k:Int))=min k n:=by
 show(if(k:Int)<0 then((k:Int)+(n:Int)).toNat else min (k:Int).toNat n)=min k n
 rw[if_neg (by lia),Um]
end
end HT
namespace L2
open PySem PySem.Spec PyProof.Rows
abbrev TO:=St→Hp→(Option Int→Hp→Prop)→Prop
def PO(X:Cx)(e:Option Expr)(t:TO):Prop :=
 ∀(a7:Nd) (s:Nh) (σ:St) (H:Hp) (Q:Option Int→Hp→Prop),Inv X a7 σ H s→t σ H Q →
  wpAny (model X.prog X.w) X.A (evalPart e X.env) (λu s'=>∃o H',Inv X a7 σ H' s'∧IsPart u o∧Q o H') X.xe s
def tNoPart:TO:=λ_ H Q=>Q none H
inductive RPt(x:V)(R:Int→Prop):Prop
 |mk (i:Int) (e:x=.int i) (q:R i):RPt x R
def tPart(t:TE):TO:=λ σ H Q=>t σ H λx H1=>RPt x λi=>Q (some i) H1
section
variable{X:Cx}{e:Expr}{te:TE}{lo hi:Option Expr}{tl th:TO}{pos p2:Pos}
def zd1:PO X none tNoPart:=by
 intro a7 s σ H Q I h
 rw[evalPart_none]
 exact wpAny_pure ⟨none,H,I,.none,h⟩
def zcx(h:PE X e te):PO X (some e) (tPart te):=by
 intro a7 s σ H Q I hw
 rw[evalPart_some]
 refine thn (h a7 s σ H _ I hw) λu s1 ⟨x,H1,I1,r1,q1⟩=>?_
 obtain⟨i,rfl,q⟩:=q1
 obtain⟨t,rfl⟩:=r1
 exact⟨some i,H1,I1,.int i t,q⟩
def SlR(X:Cx)(r:V→Option Int→Option Int→Hp→VK→Prop):Prop :=
 ∀(a7:Nd) (s:Nh) (σ:St) (H:Hp) (x:V) (v vl vu:Value) (lo hi:Option Int) (sl:Nc) (Q:VK),Inv X a7 σ H s→RelV x v→s.heap.IsSliceOf sl vl vu .none→IsPart vl lo→IsPart vu hi→r x lo hi H Q →
  ∃T id,typeLookup (.type T) "__getitem__" = pure (some (.builtin id))∧s.TypeIs v T∧wpAny (model X.prog X.w) X.A (getItem v (.ref sl)) (EP X a7 σ Q) X.xe s
def tSl(r:V→Option Int→Option Int→Hp→VK→Prop)(te:TE)(tl th:TO):TE:=λ σ H Q=>te σ H λx H1=>tl σ H1 λl H2=>th σ H2 λu H3=>r x l u H3 Q
def zcr{r:V→Option Int→Option Int→Hp→VK→Prop}(hr:SlR X r)(he:PE X e te)(hl:PO X lo tl)(hu:PO X hi th):PE X (.Subscript e (.Slice lo hi none p2) pos) (tSl r te tl th):=by
 intro a7 s σ H Q I h
 refine Subscript_ (thn (he a7 s σ H _ I h) λv s1 ⟨x,H1,I1,r1,q1⟩=>?_)
 refine wpAny_Slice (thn (hl a7 s1 σ H1 _ I1 q1) λvl s2 ⟨l,H2,I2,pl,q2⟩=>thn (hu a7 s2 σ H2 _ I2 q2) λvu s3 ⟨u,H3,I3,pu,q3⟩=>?_)
 rw[evalPart_none]
 refine wpAny_pure ?_
 have I4:Inv X a7 σ H3 {s3 with heap:=s3.heap.push {cls:=.type "slice",data:=.fields #[vl,vu,.none]}}:=I3.kept (t':=s3.toks) λb ob q=>Qj _ q
 obtain⟨T,id,hT,ht,hg⟩:=hr a7 {s3 with heap:=s3.heap.push {cls:=.type "slice",data:=.fields #[vl,vu,.none]}} σ H3 x v vl vu l u s3.heap.objs.size Q I4 r1 (Heap.IsSliceOf.new ..) pl pu q3
 show wpAny (model X.prog X.w) X.A (subscriptTail e (.Slice lo hi none p2) v (.ref s3.heap.objs.size)) (EP X a7 σ Q) X.xe {s3 with heap:=s3.heap.push {cls:=.type "slice",data:=.fields #[vl,vu,.none]}}
 exact tail_any (ops:=[.ref s3.heap.objs.size,v]) ht hT hg (by with_unfolding_all rfl)
def cutV(xs:List V)(lo hi:Option Int):List V:=(xs.drop (HT.sIx xs.length 0 lo)).take (HT.sIx xs.length xs.length hi-HT.sIx xs.length 0 lo)
def zby(xs:List V)(lo hi:Option Int):(cutV xs lo hi).length≤xs.length:=by
 unfold cutV
 rw[Zj,Jn]
 lia
end
end L2
namespace L2
open PySem PySem.Spec PyProof.Rows
def ixN(n:Nat)(i:Int):Option Nat:=if 0≤i then(if i<n then some i.toNat else none) else if -(n:Int)≤i then some (i+n).toNat else none
def atI{α:Type}(xs:List α)(i:Int):Option α:=(ixN xs.length i).bind λj=>xs[j]?
def ixN_seq{n:Nat}{i:Int}{j:Nat}(h:ixN n i=some j):seqIndex? i n=some j∧j<n∧-(n:Int)≤i∧i<n:=by
 unfold ixN at h
 by_cases h0:0≤i
 ·rw [if_pos h0] at h
  by_cases h1:i<n
  ·rw [if_pos h1] at h
   have e:i.toNat=j:=Qk h
   exact⟨by rw[seqIndex_of h0 h1,e],by lia,by lia,h1⟩
  ·rw[if_neg h1]at h;cases h
 ·rw [if_neg h0] at h
  by_cases h1:-(n:Int)≤i
  ·rw [if_pos h1] at h
   have e:(i+n).toNat=j:=Qk h
   exact⟨by rw[seqIndex_neg (by lia) h1,e],by lia,h1,by lia⟩
  ·rw[if_neg h1]at h;cases h
def atI_get{α:Type}{xs:List α}{i:Int}{v:α}(h:atI xs i=some v):∃j,seqIndex? i xs.length=some j∧xs[j]?=some v∧j<xs.length∧-(xs.length:Int)≤i∧i<xs.length:=by
 unfold atI at h
 cases e:ixN xs.length i with
 |none=>rw[e]at h;cases h
 |some j =>
  rw[e]at h
  obtain⟨h1,h2,h3,h4⟩:=ixN_seq e
  exact⟨j,h1,h,h2,h3,h4⟩
def zaq{α:Type}{xs:List α}{j:Nat}{v:α}(h:xs[j]?=some v):atI xs (j:Int)=some v:=by
 have hj:j<xs.length:=(Qw.mp h).1
 have e:ixN xs.length (j:Int)=some j:=by
  unfold ixN
  rw[if_pos (by lia),if_pos (by exact zar9 ‹_›)];simp
 unfold atI;rw[e];exact h
def PlainIx(b:Expr):Prop:=∀o i,subscripted b false o i=operate [o,i] (getItem o i)
def IxR(X:Cx)(r:R2):Prop :=
 ∀(value slice:Expr) (a7:Nd) (s:Nh) (σ:St) (H:Hp) (x y:V) (v u:Value) (Q:VK),Inv X a7 σ H s→RelV x v→RelV y u→r x y H Q →
  subscripted slice false v u=operate [v,u] (getItem v u)→wpAny (model X.prog X.w) X.A (subscriptTail value slice v u) (EP X a7 σ Q) X.xe s
def MtR(X:Cx)(id:String)(r:V→List V→Hp→VK→Prop):Prop :=
 ∀(a7:Nd) (s:Nh) (σ:St) (H:Hp) (x:V) (xs:List V) (v:Value) (us:Ni) (Q:VK),Inv X a7 σ H s→RelV x v→Vals xs us→r x xs H Q →
  wpAny (model X.prog X.w) X.A (call (.builtin id) (v::us)) (EP X a7 σ Q) X.xe s
section
variable{X:Cx}{a b:Expr}{ta tb:TE}{pos:Pos}
def za1{r:R2}(hr:IxR X r)(ha:PE X a ta)(hb:PE X b tb)(hs:PlainIx b):PE X (.Subscript a b pos) (tOp r ta tb):=by
 intro a7 s σ H Q I h
 exact Subscript_ (binT ha hb I h λv u s2 x y H2 I2 rx ry q=>hr a b a7 s2 σ H2 x y v u Q I2 rx ry q (hs _ _))
inductive RrIxL(K:Nb)(x:V)(y:V)(H:Hp)(Q:VK):Prop
 |mk (p:_) (xs:_) (i:_) (v:_) (h0:x=.ref p) (h1:y=.int i) (h2:SqL K H p xs) (h3:atI xs i=some v) (h4:Q v H):RrIxL K x y H Q
def rIxL(K:Nb):R2:=λx y H Q=>RrIxL K x y H Q
inductive RrIxT(K:Nb)(x:V)(y:V)(H:Hp)(Q:VK):Prop
 |mk (p:_) (xs:_) (i:_) (v:_) (h0:x=.ref p) (h1:y=.int i) (h2:SqT K H p xs) (h3:atI xs i=some v) (h4:Q v H):RrIxT K x y H Q
def rIxT(K:Nb):R2:=λx y H Q=>RrIxT K x y H Q
inductive RrIxS(x:V)(y:V)(H:Hp)(Q:VK):Prop
 |mk (z:_) (i:_) (c:_) (h0:x=.str z) (h1:y=.int i) (h2:z.length≤sizeLine) (h3:atI z.cps.toList i=some c) (h4:Q (.str ⟨#[c]⟩) H):RrIxS  x y H Q
def rIxS:R2:=λx y H Q=>RrIxS  x y H Q
def zap:IxR X (rIxL X.K):=by
 intro value slice a7 s σ H x y v u Q I rx ry h hs
 obtain⟨p,xs,i,z,rfl,rfl,hq,he,q⟩:=h
 cases rx
 obtain⟨t,rfl⟩:=ry
 obtain⟨a8,r,pl,hz⟩:=I.list hq
 obtain⟨j,h1,h2,h3,h4,h5⟩:=atI_get he
 obtain⟨w,ew,cC⟩:=r.get h2
 have hl:=r.length
 have hn:=zej
 have fin:EP X a7 σ Q w s:=⟨z,H,I,cC,q⟩
 by_cases h0:0≤i
 ·have hj:i.toNat=j:=by
   rw[seqIndex_of h0 h5]at h1
   exact Qk h1
  exact item_listR pl.isList h0 (by lia) (by rw[hj];simpa using ew) fin hs
 ·have hj:(i+(a8.toArray.size:Int)).toNat=j:=by
   rw[seqIndex_neg (by lia) h4]at h1
   rw[Qy,←hl]
   exact Qk h1
  exact subscriptTail_builtinR (x:=w) pl.isList.typeIs slot_list_getitem.lookup
   (wpAny_getItem_list_neg (Q:=λr s'=>r=w∧EP X a7 σ Q r s') pl.isList (by lia) (by rw[Qy]<;>lia) (by lia) (by rw[hj];simpa using ew) ⟨rfl,fin⟩) hs
def zcf:IxR X (rIxT X.K):=by
 intro value slice a7 s σ H x y v u Q I rx ry h hs
 obtain⟨p,xs,i,z,rfl,rfl,hq,he,q⟩:=h
 cases rx
 obtain⟨t,rfl⟩:=ry
 obtain⟨a8,r,pl,hz⟩:=I.tuple hq
 obtain⟨j,h1,h2,h3,h4,h5⟩:=atI_get he
 obtain⟨w,ew,cC⟩:=r.get h2
 have hl:=r.length
 have hn:=zej
 have fin:EP X a7 σ Q w s:=⟨z,H,I,cC,q⟩
 exact subscriptTail_builtinR (x:=w) pl.typeIs slot_tuple_getitem.lookup
  (getItem_tuple (j:=j) (Q:=λr s'=>r=w∧EP X a7 σ Q r s') pl (by lia) (by lia) (by rw[Qy,←hl];exact h1) (by simpa using ew) ⟨rfl,fin⟩) hs
def ix_str:IxR X rIxS:=by
 intro value slice a7 s σ H x y v u Q I rx ry h hs
 obtain⟨z,i,c,rfl,rfl,hz,he,q⟩:=h
 obtain⟨t,rfl⟩:=rx
 obtain⟨t',rfl⟩:=ry
 obtain⟨j,h1,h2,h3,h4,h5⟩:=atI_get he
 have hl:z.cps.toList.length=z.length:=by simp[Str.length]
 rw[hl]at h1 h4 h5
 have hn:=zej
 exact tail_any (typeIs_str s z t) slot_str_getitem.lookup (getItem_str (c:=c) (by
  have e1:decide (i < -(2 ^ 63:Int))=false:=decide_eq_false (by lia)
  have e2:decide (i≥2 ^ 63)=false:=decide_eq_false (by lia)
  rw[e1,e2,Bool.or_false]) (by rw[h1];simpa using h2) ⟨.str ⟨#[c]⟩,H,I.tok _,⟨_,rfl⟩,q⟩) hs
def mapSeq_set(a8:Ni)(n j:Nat)(u:Value):Obj.mapSeq (·.setIfInBounds j u) {cls:=.type "list",data:=.seq a8.toArray n}={cls:=.type "list",data:=.seq (a8.set j u).toArray n}:=by
 simp[Obj.mapSeq]
def Inv.lst{a7:Nd}{σ:St}{H:Hp}{s:Nh}{p:Nc}{xs:List V}(I:Inv X a7 σ H s)(h:H p=some (.lst xs)) :
  ∃(a8:Ni) (n:Nat),Vals xs a8∧s.heap.get? p=some {cls:=.type "list",data:=.seq a8.toArray n}∧xs.length≤sizeLine:=by
 obtain⟨z,a8,n,r,e⟩:=I.hok p _ h
 exact⟨a8,n,r,e,z⟩
def Inv.lstUpd{a7:Nd}{σ:St}{H:Hp}{s:Nh}{p:Nc}{xs ys:List V}{a8 its':Ni}{n n':Nat}{f:Obj→Obj}(I:Inv X a7 σ H s)(h:H p=some (.lst xs))(ho:s.heap.get? p=some {cls:=.type "list",data:=.seq a8.toArray n})(hf:f {cls:=.type "list",data:=.seq a8.toArray n}={cls:=.type "list",data:=.seq its'.toArray n'})(r:Vals ys its')(hz:ys.length≤sizeLine)(t:Nat) :
  Inv X a7 σ (upd H p (.lst ys)) {s with heap:=s.heap.update p f,toks:=t}:=by
 have e:(s.heap.update p f).get? p=some {cls:=.type "list",data:=.seq its'.toArray n'}:=by
  rw[Jz f ho (by rw[hf]<;>rfl),hf]
 refine I.write (x:=p) (e:=p) (by rw[h];trivial) (.inl rfl) (λb u hb q=>(Ue _ _ (Zb hb)).trans q) ⟨_,e⟩ ?_
 exact⟨hz,its',n',r,e⟩
inductive RrSetL(o:V)(i:V)(v:V)(H:Hp)(Q:Hp→Prop):Prop
 |mk (p:_) (xs:_) (k:_) (j:_) (h0:o=.ref p) (h1:i=.int k) (h2:H p=some (.lst xs)) (h3:ixN xs.length k=some j) (h4:Q (upd H p (.lst (xs.set j v)))):RrSetL  o i v H Q
def rSetL:V→V→V→Hp→(Hp→Prop)→Prop:=λo i v H Q=>RrSetL  o i v H Q
def set_list:PSet X rSetL:=by
 intro a7 s σ H o i v ov iv u Q I ro ri rv h
 obtain⟨p,xs,k,j,rfl,rfl,hp,hj,q⟩:=h
 cases ro
 obtain⟨t,rfl⟩:=ri
 obtain⟨a8,n,r,ho,hz⟩:=I.lst hp
 obtain⟨h1,h2,h3,h4⟩:=ixN_seq hj
 have hl:=r.length
 have hn:=zej
 have I':Inv X a7 σ (upd H p (.lst (xs.set j v))) {s with heap:=s.heap.update p (Obj.mapSeq (·.setIfInBounds j u))} :=
  I.lstUpd hp ho (mapSeq_set a8 n j u) (r.set rv j) (by rw[List.length_set];exact hz) s.toks
 by_cases h0:0≤k
 ·have hk:k.toNat=j:=by
   rw[seqIndex_of h0 h4]at h1
   exact Qk h1
  exact PySem.W.ki_setAt ho h0 (by lia) (by rw[Qy,←hl];exact h4) (by rw[hk];exact⟨_,I',q⟩)
 ·have hk:(k+(a8.toArray.size:Int)).toNat=j:=by
   rw[seqIndex_neg (by lia) h3]at h1
   rw[Qy,←hl]
   exact Qk h1
  exact PySem.W.ki_setBack ho (by lia) (by rw[Qy,←hl];exact h3) (by lia) (by rw[hk];exact⟨_,I',q⟩)
def slice_bounds(lo hi:Option Int)(n:Nat):(sliceBounds lo hi none n).1=((HT.sIx n 0 lo:Nat):Int)∧(sliceBounds lo hi none n).2.1=((HT.sIx n n hi:Nat):Int)∧(sliceBounds lo hi none n).2.2=1:=by
 refine⟨?_,?_,rfl⟩
 ·cases lo with
  |none=>simp[sliceBounds,HT.sIx]
  |some i =>
   simp only[sliceBounds,HT.sIx,Option.getD_none,show(1:Int)>0 by decide,if_true]
   by_cases h:i<0
   ·simp only[h,if_true]<;>lia
   ·simp only[h,if_false]<;>lia
 ·cases hi with
  |none=>simp[sliceBounds,HT.sIx]
  |some i =>
   simp only[sliceBounds,HT.sIx,Option.getD_none,show(1:Int)>0 by decide,if_true]
   by_cases h:i<0
   ·simp only[h,if_true]<;>lia
   ·simp only[h,if_false]<;>lia
def zho(a8:Ni)(lo hi:Option Int):slicePick a8.toArray lo hi none=((a8.drop (HT.sIx a8.length 0 lo)).take (HT.sIx a8.length a8.length hi-HT.sIx a8.length 0 lo)).toArray:=by
 obtain⟨h1,h2,h3⟩:=slice_bounds lo hi a8.toArray.size
 unfold slicePick
 rw[h1,h2,h3]
 simp only[sliceRange_one,pick_run,Qy]<;>rfl
inductive RrSlL(K:Nb)(x:V)(lo:Option Int)(hi:Option Int)(H:Hp)(Q:VK):Prop
 |mk (a:_) (xs:_) (h0:x=.ref a) (h1:SqL K H a xs) (h2:∀p,H p=none→Q (.ref p) (upd H p (.lst (cutV xs lo hi)))):RrSlL K x lo hi H Q
def rSlL(K:Nb):V→Option Int→Option Int→Hp→VK→Prop:=λx lo hi H Q=>RrSlL K x lo hi H Q
def zc7:SlR X (rSlL X.K):=by
 intro a7 s σ H x v vl vu lo hi sl Q I rx hs pl pu h
 obtain⟨a,xs,rfl,hx,q⟩:=h
 cases rx
 obtain⟨a8,r,ht,hz⟩:=I.list hx
 have af:=r.length
 refine⟨"list",_,slot_list_getitem.lookup,ht.isList.typeIs,?_⟩
 refine wpAny_getItem_list_slice ht.isList hs pl pu .none (by simp) ?_ (by rw[Qy]<;>exact zdw ‹_› ‹_›)
 rw[zho,←af]
 refine⟨.ref s.heap.objs.size,_,I.laid (t':=s.toks) (o:=.lst (cutV xs lo hi)) (λb ob q=>Qj _ q) (Qi _) ?_,rfl,q _ (I.hok.fresh (Qi _))⟩
 exact⟨Zn (zby xs lo hi) hz,_,0,(r.drop (HT.sIx xs.length 0 lo)).take (HT.sIx xs.length xs.length hi-HT.sIx xs.length 0 lo),Zd _ rfl⟩
def zdp:V→Bool
 |.non=>true
 |.bl _=>true
 |.int _=>true
 |.str _=>true
 |_=>false
def eqV:V→V→Bool
 |.non,.non=>true
 |.bl a,.bl b=>a==b
 |.bl a,.int b=>(if a then 1 else 0)==b
 |.int a,.bl b=>a==(if b then 1 else 0)
 |.int a,.int b=>a==b
 |.str a,.str b=>a==b
 |_,_=>false
def eqAt_V{A:Nn}{s:Nh}{y x:V}{u v:Value}(ry:RelV y u)(rx:RelV x v)(fy:zdp y=true)(fx:zdp x=true):SeqAt.EqAt A s u v (eqV y x):=by
 cases y with
 |non =>
  cases ry
  cases x with
  |non=>cases rx;exact SeqAt.EqAt.same _
  |bl b=>cases rx;exact SeqAt.EqAt.none_bool b
  |int b=>obtain⟨t,rfl⟩:=rx;exact SeqAt.EqAt.none_int b t
  |str b=>obtain⟨t,rfl⟩:=rx;exact SeqAt.EqAt.none_str b t
  |_=>exact absurd (show false=true from fx) Zg
 |bl a =>
  cases ry
  cases x with
  |non=>cases rx;exact SeqAt.EqAt.bool_none a
  |bl b=>cases rx;exact SeqAt.EqAt.bool_bool a b
  |int b=>obtain⟨t,rfl⟩:=rx;exact SeqAt.EqAt.bool_int a b t
  |str b=>obtain⟨t,rfl⟩:=rx;exact SeqAt.EqAt.bool_str a b t
  |_=>exact absurd (show false=true from fx) Zg
 |int a =>
  obtain⟨t',rfl⟩:=ry
  cases x with
  |non=>cases rx;exact SeqAt.EqAt.int_none a t'
  |bl b=>cases rx;exact SeqAt.EqAt.int_bool a t' b
  |int b=>obtain⟨t,rfl⟩:=rx;exact SeqAt.EqAt.int_int a t' b t
  |str b=>obtain⟨t,rfl⟩:=rx;exact SeqAt.EqAt.int_str a t' b t
  |_=>exact absurd (show false=true from fx) Zg
 |str a =>
  obtain⟨t',rfl⟩:=ry
  cases x with
  |non=>cases rx;exact SeqAt.EqAt.str_none a t'
  |bl b=>cases rx;exact SeqAt.EqAt.str_bool a t' b
  |int b=>obtain⟨t,rfl⟩:=rx;exact SeqAt.EqAt.str_int a t' b t
  |str b=>obtain⟨t,rfl⟩:=rx;exact Ko a t' b t
  |_=>exact absurd (show false=true from fx) Zg
 |_=>exact absurd (show false=true from fy) Zg
def eqU(x:V)(u:Value):Bool:=match u with
 |.none=>eqV .non x
 |.bool b=>eqV (.bl b) x
 |.int i _=>eqV (.int i) x
 |.str z _=>eqV (.str z) x
 |_=>false
def eqU_of{x y:V}{u:Value}(r:RelV y u)(f:zdp y=true):eqU x u=eqV y x:=by
 cases y with
 |non=>cases r;rfl
 |bl b=>cases r;rfl
 |int i=>obtain⟨t,rfl⟩:=r;rfl
 |str z=>obtain⟨t,rfl⟩:=r;rfl
 |_=>exact absurd (show false=true from f) Zg
theorem zgn{x:V}:∀{xs:List V} {us:Ni},Vals xs us→xs.all zdp=true→us.any (eqU x)=xs.any λy=>eqV y x
 |_,_,.nil,_=>rfl
 |y::xs,u::us,.cons r t,f=>by
  rw[List.all_cons,Ku]at f
  rw[Kl,Kl,eqU_of r f.1,zgn t f.2]
theorem zdn{A:Nn}{s:Nh}{x:V}{v:Value}(rx:RelV x v)(fx:zdp x=true):∀{xs:List V} {us:Ni},Vals xs us→xs.all zdp=true→∀u∈us,SeqAt.EqAt A s u v (eqU x u)
 |_,_,.nil,_=>λu hu=>by cases hu
 |y::xs,u::us,.cons r t,f=>λu' hu=>by
  rw[List.all_cons,Ku]at f
  rcases Qe.mp hu with rfl | hu
  ·rw[eqU_of r f.1];exact eqAt_V r rx f.1 fx
  ·exact zdn rx fx t f.2 u' hu
def inV(x:V)(xs:List V):Bool:=xs.any λy=>eqV y x
inductive RrIn(K:Nb)(neg:Bool)(x:V)(y:V)(H:Hp)(Q:VK):Prop
 |mk (p:_) (xs:_) (h0:y=.ref p) (h1:(SqL K H p xs∨SqT K H p xs)) (h2:zdp x=true) (h3:xs.all zdp=true) (h4:Q (.bl (if neg then !inV x xs else inV x xs)) H):RrIn K neg x y H Q
def rIn(K:Nb)(neg:Bool):R2:=λx y H Q=>RrIn K neg x y H Q
def op_in_seq:OpR X (compareOp .In) (rIn X.K false):=by
 intro a7 s σ H x y v u Q I rx ry h
 obtain⟨p,xs,rfl,hq,fx,fs,q⟩:=h
 cases ry
 rcases hq with hq | hq
 ·obtain ⟨a8,r,pl,hz⟩:=I.list hq
  refine SeqAt.in_listAt (eqU x) pl.isList (λw hw=>zdn rx fx r fs w (by simpa using hw)) ⟨.bl _,H,I,rfl,?_⟩
  rw[show a8.toArray.any (eqU x)=a8.any (eqU x) by simp,zgn r fs]
  exact q
 ·obtain ⟨a8,r,pl,hz⟩:=I.tuple hq
  refine SeqAt.in_tupleAt (eqU x) pl (λw hw=>zdn rx fx r fs w (by simpa using hw)) ⟨.bl _,H,I,rfl,?_⟩
  rw[show a8.toArray.any (eqU x)=a8.any (eqU x) by simp,zgn r fs]
  exact q
def zce:OpR X (compareOp .NotIn) (rIn X.K true):=by
 intro a7 s σ H x y v u Q I rx ry h
 obtain⟨p,xs,rfl,hq,fx,fs,q⟩:=h
 cases ry
 rcases hq with hq | hq
 ·obtain ⟨a8,r,pl,hz⟩:=I.list hq
  refine SeqAt.notIn_listAt (eqU x) pl.isList (λw hw=>zdn rx fx r fs w (by simpa using hw)) ⟨.bl _,H,I,rfl,?_⟩
  rw[show a8.toArray.any (eqU x)=a8.any (eqU x) by simp,zgn r fs]
  exact q
 ·obtain ⟨a8,r,pl,hz⟩:=I.tuple hq
  refine SeqAt.notIn_tupleAt (eqU x) pl (λw hw=>zdn rx fx r fs w (by simpa using hw)) ⟨.bl _,H,I,rfl,?_⟩
  rw[show a8.toArray.any (eqU x)=a8.any (eqU x) by simp,zgn r fs]
  exact q
def zas:zch X (.builtin "len") (λxs H Q=>Ex2 λp ys=>Aj3 (xs=[.ref p]) ((SqL X.K H p ys)∨( SqT X.K H p ys)) (Q (.int ys.length) H)):=by
 intro a7 s σ H xs us Q I r h
 obtain⟨p,ys,rfl,hq,q⟩:=h
 obtain⟨u,rfl,rx⟩:=vals1 r
 cases rx
 have hn:=zej
 rcases hq with hq | hq
 ·obtain ⟨a8,r',pl,hz⟩:=I.list hq
  have af:=r'.length
  exact Calls.call_len_list pl.isList (by simp only[Qy]<;>lia) ⟨.int ys.length,H,I.tok _,⟨s.toks+1,by rw[Qy,af]⟩,q⟩
 ·obtain ⟨a8,r',pl,hz⟩:=I.tuple hq
  have af:=r'.length
  exact len_tuple pl (by simp only[Qy]<;>lia) ⟨.int ys.length,H,I.tok _,⟨s.toks+1,by rw[Qy,af]⟩,q⟩
def call_len_str:zch X (.builtin "len") (λxs H Q=>Ex1 λz=>Aj3 (xs=[.str z]) (z.length≤sizeLine) (Q (.int z.length) H)):=by
 intro a7 s σ H xs us Q I r h
 obtain⟨z,rfl,hz,q⟩:=h
 obtain⟨u,rfl,t,rfl⟩:=vals1 r
 have hn:=zej
 exact len_str (by lia) ⟨.int z.length,H,I.tok _,⟨_,rfl⟩,q⟩
def zdf:zch X (.type "list") (λxs H Q=>Ex2 λp ys=>Aj3 (xs=[.ref p]) ((SqL X.K H p ys)∨( SqT X.K H p ys)) (∀l,H l=none→Q (.ref l) (upd H l (.lst ys)))):=by
 intro a7 s σ H xs us Q I r h
 obtain⟨p,ys,rfl,hq,q⟩:=h
 obtain⟨u,rfl,rx⟩:=vals1 r
 cases rx
 have fin:∀(a8:Ni),Vals ys a8→ys.length≤sizeLine→∀(h':Nm) (c':Nat),(∀b o',s.heap.get? b=some o'→h'.get? b=some o') →
   h'.get? s.heap.objs.size=some {cls:=.type "list",dict:=none,data:=.seq a8.toArray c',slots:=#[]}→EP X a7 σ Q (.ref s.heap.objs.size) {s with heap:=h'}:=λa8 r' hz h' c' kp e =>
  ⟨.ref s.heap.objs.size,_,I.laid (t':=s.toks) kp (Qi _) (show zbq X.prog X.w _ h' _ (.lst ys) from⟨hz,a8,c',r',e⟩),rfl,q _ (I.hok.fresh (Qi _))⟩
 rcases hq with hq | hq
 ·obtain ⟨a8,r',pl,hz⟩:=I.list hq
  have af:=r'.length
  obtain⟨o,ho,hc,n,hd⟩:=pl.isList
  exact call_list_seq p (.inl rfl) ho hc hd (λh' c' kp e=>fin a8 r' hz h' c' kp e) (by simp only[Qy]<;>exact zdw ‹_› ‹_›)
 ·obtain ⟨a8,r',pl,hz⟩:=I.tuple hq
  have af:=r'.length
  obtain⟨o,ho,hc,n,hd⟩:=pl
  exact call_list_seq p (.inr rfl) ho hc hd (λh' c' kp e=>fin a8 r' hz h' c' kp e) (by simp only[Qy]<;>exact zdw ‹_› ‹_›)
def zim:zch X (.type "tuple") (λxs H Q=>Ex2 λp ys=>Aj2 (xs=[.ref p]) ((Aj2 (SqL X.K H p ys) (∀l,H l=none→Q (.ref l) (upd H l (.tup ys))))∨(Aj2 (SqT X.K H p ys) (Q (.ref p) H)))):=by
 intro a7 s σ H xs us Q I r h
 obtain⟨p,ys,rfl,h⟩:=h
 obtain⟨u,rfl,rx⟩:=vals1 r
 cases rx
 rcases h with⟨hq,q⟩ | ⟨hq,q⟩
 ·obtain ⟨a8,r',pl,hz⟩:=I.list hq
  have af:=r'.length
  refine call_tuple_list pl.isList (λh' kp=>?_) (by simp only[Qy]<;>exact zdw ‹_› ‹_›)
  have I1:Inv X a7 σ H {s with heap:=h'}:=I.kept (t':=s.toks) kp
  have I2:Inv X a7 σ (upd H h'.objs.size (.tup ys)) {s with heap:=h'.push {cls:=.type "tuple",data:=.seq a8.toArray}} :=
   I1.laid (t':=s.toks) (λb o e=>Qj _ e) (Qi _) (show zbq X.prog X.w _ _ _ (.tup ys) from⟨hz,a8,r',IsTup.new _ _⟩)
  exact⟨.ref h'.objs.size,_,I2,rfl,q _ (I1.hok.fresh (Qi _))⟩
 ·obtain ⟨a8,r',pl,hz⟩:=I.tuple hq
  exact call_tuple_same pl ⟨.ref p,H,I,rfl,q⟩
def tyV(K:Nb)(T:String)(x:V)(H:Hp):Prop:=match x with
 |.str _=>T = "str"
 |.int _=>T = "int"
 | .ref p=>(T = "list" ∧ ∃ xs,SqL K H p xs)∨(T = "tuple" ∧ ∃ o,K.lookup p=some o∧o.cls=.type "tuple" ∧ o.dict=none) ∨
   (T = "dict" ∧ ((∃kvs,H p=some (.dK kvs))∨∃kvs,H p=some (.dT kvs)))∨(T = "set" ∧ ∃S n,H p=some (.set S n))
 |_=>False
def tyV_is{a7:Nd}{σ:St}{H:Hp}{s:Nh}{T:String}{x:V}{v:Value}(I:Inv X a7 σ H s)(r:RelV x v)(ty:tyV X.K T x H) :
  s.TypeIs v T∧∀a,v=.ref a→∃ob,s.heap.get? a=some ob∧ob.dict=none:=by
 cases x with
 |str z =>
  obtain⟨t,rfl⟩:=r
  cases(show T = "str" from ty)
  exact⟨typeIs_str s z t,λ_ e=>nomatch e⟩
 |int i =>
  obtain⟨t,rfl⟩:=r
  cases(show T = "int" from ty)
  exact⟨typeIs_int s i t,λ_ e=>nomatch e⟩
 | ref p =>
  cases r
  rcases ty with⟨rfl,xs,hq⟩ | ⟨rfl,o,hk,hc,hd⟩ | ⟨rfl,hk⟩ | ⟨rfl,S,n,hk⟩
  ·obtain ⟨a8,_,pl,_⟩:=I.list hq
   refine⟨pl.isList.typeIs,λa e=>?_⟩
   cases e
   obtain⟨o,n,e,c,hd,_⟩:=pl
   exact⟨o,e,hd⟩
  ·refine ⟨⟨o,I.kIn p o hk,hc⟩,fun a e=>?_⟩
   cases e
   exact⟨o,I.kIn _ o hk,hd⟩
  ·have z:∃ o,s.heap.get? p=some o∧o.ExactDict:=by
    rcases hk with⟨kvs,hk⟩ | ⟨kvs,hk⟩
    ·obtain ⟨_,_,_,_,o,_,_,e,ex,_⟩:=I.hok p _ hk
     exact⟨o,e,ex⟩
    ·obtain ⟨_,_,_,_,o,_,_,e,ex,_⟩:=I.hok p _ hk
     exact⟨o,e,ex⟩
   obtain⟨o,e,ex⟩:=z
   refine⟨⟨o,e,ex.1⟩,λa e2=>?_⟩
   cases e2
   exact⟨o,e,ex.2.1⟩
  ·obtain ⟨o,_,_,_,e,ex,_⟩:=I.hok p _ hk
   refine⟨⟨o,e,ex.1⟩,λa e2=>?_⟩
   cases e2
   exact⟨o,e,ex.2.1⟩
 |_=>exact False.elim ty
def tBM0(K:Nb)(T:String)(r:V→List V→Hp→VK→Prop)(to:TE):TE:=λ σ H Q=>to σ H λx H1=>tyV K T x H1∧r x [] H1 Q
def tBM(K:Nb)(T:String)(r:V→List V→Hp→VK→Prop)(to:TE)(t:TA):TE:=λ σ H Q=>to σ H λx H1=>tyV K T x H1∧t σ H1 λxs H2=>r x xs H2 Q
variable{o e:Expr}{es:Np}{to:TE}{t:TA}{name:Str}{apos cpos:Pos}{T id:String}{r:V→List V→Hp→VK→Prop}
def pe_bm0(pa:PlainAttrs T)(slot:Slot T name id)(qU:typeOf (.builtin id)=pure (.type "method_descriptor"))(hm:MtR X id r)(ho:PE X o to)(gn:attributeBase o name X.env (eval o X.env)=eval o X.env:=by rfl)(fS:(apos.endLine==cpos.line)=true:=by rfl):PE X (.Call (.Attribute o name apos) [] [] cpos) (tBM0 X.K T r to):=by
 intro a7 s σ H Q I h
 refine wpAny_Call_method0_late gn fS (thn (ho a7 s σ H _ I h) λv s1 ⟨x,H1,I1,r1,ty,q1⟩=>?_)
 obtain⟨h1,h2⟩:=tyV_is I1 r1 ty
 exact⟨T,id,pa,slot,qU,h1,h2,Jt rfl (PySem.evalArgs_none (hm a7 s1 σ H1 x [] v [] Q I1 r1 .nil q1))⟩
def zdo(pa:PlainAttrs T)(slot:Slot T name id)(qU:typeOf (.builtin id)=pure (.type "method_descriptor"))(hm:MtR X id r)(ho:PE X o to)(ha:PA X (e::es) t)(gn:attributeBase o name X.env (eval o X.env)=eval o X.env:=by rfl)(sI:((backTo cpos (starEach (e::es) X.env)).all (fun x=>!x.1) && (backToKw cpos (keywordEach [] X.env)).all (fun x=>x.1.isSome)
   && decide ((e::es).length+([]:List Keyword).length+(if([]:List Keyword).isEmpty then 0 else 1)<30))=true:=by rfl)(fS:(apos.endLine==cpos.line)=true:=by rfl)(hs:starEach (e::es) X.env=(false,eval e X.env)::starEach es X.env:=by rfl)(jL:(backTo cpos (starEach es X.env)).any (·.1)=false:=by rfl) :
  PE X (.Call (.Attribute o name apos) (e::es) [] cpos) (tBM X.K T r to t):=by
 intro a7 s σ H Q I h
 refine wpAny_Call_method_late gn sI fS rfl (thn (ho a7 s σ H _ I h) λv s1 ⟨x,H1,I1,r1,ty,q1⟩=>?_)
 obtain⟨h1,h2⟩:=tyV_is I1 r1 ty
 refine⟨T,id,pa,slot,qU,h1,h2,?_⟩
 have hA:=ha cpos a7 s1 σ H1 _ I1 q1
 rw[hs]at hA ⊢
 refine Jt (by show(false||(backTo cpos (starEach es X.env)).any (·.1))=false;rw[jL]<;>rfl) (Calls.evalArgs_plain ?_)
 exact thn hA λus s2 ⟨vs,H2,I2,r2,q2⟩=>hm a7 s2 σ H2 x vs v us Q I2 r1 r2 q2
end
end L2
namespace L2
open PySem PySem.Spec PyProof.Rows
def MtM(X:Cx)(id:String)(r:V→List V→Hp→VK→Prop):Prop :=
 ∀(a7:Nd) (s:Nh) (σ:St) (H:Hp) (x:V) (xs:List V) (v:Value) (us:Ni) (Q:VK),Inv X a7 σ H s→RelV x v→Vals xs us→r x xs H Q →
  wpAny (model X.prog X.w) X.A (call (.builtin id) (v::us)) (EP X a7 σ Q) X.xe s
theorem Vals.one:∀{x:V} {us:Ni},Vals [x] us→∃u,us=[u]∧RelV x u
 |_,_,.cons r .nil=>⟨_,rfl,r⟩
theorem Vals.two:∀{x y:V} {us:Ni},Vals [x,y] us→∃u v,us=[u,v]∧RelV x u∧RelV y v
 |_,_,_,.cons r (.cons q .nil)=>⟨_,_,rfl,r,q⟩
theorem Vals.zero:∀{us:Ni},Vals [] us→us=[]
 |_,.nil=>rfl
def Vals.dropLast{xs:List V}{us:Ni}(h:Vals xs us):Vals xs.dropLast us.dropLast:=by
 induction h with
 |nil=>exact .nil
 |cons r t ih =>
  cases t with
  |nil=>exact .nil
  |cons q t'=>exact .cons r ih
theorem Vals.eraseIdx:∀{xs:List V} {us:Ni} (i:Nat),Vals xs us→Vals (xs.eraseIdx i) (us.eraseIdx i)
 |_,_,_,.nil=>.nil
 |_,_,0,.cons _ t=>t
 |_,_,i+1,.cons r t=>.cons r (Vals.eraseIdx i t)
def Vals.reverse{xs:List V}{us:Ni}(h:Vals xs us):Vals xs.reverse us.reverse:=by
 induction h with
 |nil=>exact .nil
 |cons r t ih=>rw[Kh,Kh];exact Vals.append ih (.cons r .nil)
def erase_last{α:Type}(l:List α):l.eraseIdx (l.length - 1)=l.dropLast:=by
 induction l with
 |nil=>rfl
 | cons a r ih =>
  cases r with
  |nil=>rfl
  | cons b r =>
   have e:(a::b::r).length-1=((b::r).length-1)+1:=by
    have h1:(a::b::r).length=r.length+2:=rfl
    have h2:(b::r).length=r.length+1:=rfl
    assumption
   rw[e,List.eraseIdx_cons_succ,ih]
   all_goals rfl
section
variable{X:Cx}{a7:Nd}{σ:St}{H:Hp}{s:Nh}{l b:Nc}{xs ys zs:List V}
def Inv.lset{a8 its':Ni}{n:Nat}{f:Array Value→Array Value}{t':Nat}(I:Inv X a7 σ H s)(hH:H l=some (.lst xs))(e:s.heap.get? l=some {cls:=.type "list",data:=.seq a8.toArray n})(hf:f a8.toArray=its'.toArray)(hv:Vals ys its')(hz:ys.length≤sizeLine) :
  Inv X a7 σ (upd H l (.lst ys)) {s with heap:=s.heap.update l (Obj.mapSeq f),toks:=t'}:=by
 have q:=PySem.IsL.update e f
 rw[hf]at q
 refine I.write (x:=l) (e:=l) (by rw[hH];exact trivial) (.inl rfl) (λb' u hb hu=>(Ue s.heap (Obj.mapSeq f) (Zb hb)).trans hu) ⟨_,q⟩ ?_
 exact⟨hz,its',_,hv,q⟩
def Inv.lnew{a8:Ni}{t':Nat}(I:Inv X a7 σ H s)(hv:Vals ys a8)(hz:ys.length≤sizeLine) :
  Inv X a7 σ (upd H s.heap.objs.size (.lst ys)) {s with heap:=s.heap.push {cls:=.type "list",data:=.seq a8.toArray},toks:=t'} :=
 I.laid (λ_ _ q=>Qj _ q) (Qi _) ⟨hz,a8,0,hv,Zd _ rfl⟩
def Inv.fresh(I:Inv X a7 σ H s):H s.heap.objs.size=none:=I.hok.fresh (Qi _)
def Inv.lstM(I:Inv X a7 σ H s)(hH:H l=some (.lst xs)):xs.length≤sizeLine∧∃(a8:Ni) (n:Nat),Vals xs a8∧xs.length=a8.length∧s.heap.get? l=some {cls:=.type "list",data:=.seq a8.toArray n}:=by
 obtain⟨z,a8,n,r,e⟩:=I.hok l _ hH
 exact⟨z,a8,n,r,r.length,e⟩
end
section
variable{X:Cx}
inductive RrAppend(x:V)(vs:List V)(H:Hp)(Q:VK):Prop
 |mk (l:_) (xs:_) (y:_) (h0:x=.ref l) (h1:vs=[y]) (h2:H l=some (.lst xs)) (h3:xs.length<sizeLine) (h4:Q .non (upd H l (.lst (xs++[y])))):RrAppend  x vs H Q
def rAppend:V→List V→Hp→VK→Prop:=λx vs H Q=>RrAppend  x vs H Q
def zb4:MtM X "list.append" rAppend:=by
 intro a7 s σ H x vs v us Q I rx rv h
 obtain⟨l,xs,y,rfl,rfl,hH,hz,q⟩:=h
 cases rx
 obtain⟨u,rfl,ru⟩:=rv.one
 obtain⟨z,a8,n,r,hl,e⟩:=I.lstM hH
 refine call_meets F.slot_list_append ⟨_,e,rfl⟩ F.entry_list_append (F.args_list_append_2 _ _) (PySem.list_append l a8.toArray n u (by rw[Qy];exact zdw ‹_› ‹_›)) ⟨e,?_⟩
 refine⟨.non,_,I.lset (its':=a8++[u]) hH e (by simp) (r.append (.cons ru .nil)) ?_,rfl,q⟩
 rw[Qq,Xe]
 assumption
inductive RrPop(x:V)(vs:List V)(H:Hp)(Q:VK):Prop
 |mk (l:_) (xs:_) (y:_) (h0:x=.ref l) (h1:vs=[]) (h2:H l=some (.lst xs)) (h3:xs[xs.length-1]?=some y) (h4:Q y (upd H l (.lst xs.dropLast))):RrPop  x vs H Q
def rPop:V→List V→Hp→VK→Prop:=λx vs H Q=>RrPop  x vs H Q
def mt_pop:MtM X "list.pop" rPop:=by
 intro a7 s σ H x vs v us Q I rx rv h
 obtain⟨l,xs,y,rfl,rfl,hH,hy,q⟩:=h
 cases rx
 have qT:=rv.zero
 subst qT
 obtain⟨z,a8,n,r,hl,e⟩:=I.lstM hH
 obtain⟨u,hu,ru⟩:=r.get hy
 have fB:a8.toArray[a8.toArray.size-1]?=some u:=by
  show a8.toArray[a8.length-1]?=some u
  rw[←Ud,←hl]
  exact hu
 refine call_meets F.slot_list_pop ⟨_,e,rfl⟩ F.entry_list_pop (F.args_list_pop_1 _) (MeetsSeq.list_pop_last l a8.toArray n u fB (by rw[Qy];exact zdw ‹_› ‹_›)) ⟨e,?_⟩
 refine⟨y,_,I.lset (its':=a8.dropLast) hH e ?_ r.dropLast ?_,ru,q⟩
 ·show a8.toArray.eraseIdxIfInBounds (a8.toArray.size - 1)=a8.dropLast.toArray
  rw[Qy,List.eraseIdxIfInBounds_toArray,erase_last]
 ·rw [List.length_dropLast]
  lia
def rReverse:V→List V→Hp→VK→Prop:=λx vs H Q=>∃l xs,x=.ref l∧vs=[]∧H l=some (.lst xs)∧Q .non (upd H l (.lst xs.reverse))
def mt_reverse:MtM X "list.reverse" rReverse:=by
 intro a7 s σ H x vs v us Q I rx rv h
 obtain⟨l,xs,rfl,rfl,hH,q⟩:=h
 cases rx
 have qT:=rv.zero
 subst qT
 obtain⟨z,a8,n,r,hl,e⟩:=I.lstM hH
 refine call_meets F.slot_list_reverse ⟨_,e,rfl⟩ F.entry_list_reverse (F.args_list_reverse_1 _) (AutoSeq1.list_reverse_list_0 l a8.toArray n (by rw[Qy];exact zdw ‹_› ‹_›)) ⟨e,?_⟩
 refine⟨.non,_,I.lset (its':=a8.reverse) hH e (by simp) r.reverse ?_,rfl,q⟩
 rw[List.length_reverse]
 assumption
inductive RrCat(x:V)(y:V)(H:Hp)(Q:VK):Prop
 |mk (l:_) (b:_) (xs:_) (zs:_) (h0:x=.ref l) (h1:y=.ref b) (h2:H l=some (.lst xs)) (h3:H b=some (.lst zs)) (h4:xs.length+zs.length≤sizeLine) (h5:∀p,H p=none→Q (.ref p) (upd H p (.lst (xs++zs)))):RrCat  x y H Q
def rCat:R2:=λx y H Q=>RrCat  x y H Q
def zds:OpR X (binaryOp .Add) rCat:=by
 intro a7 s σ H x y v u Q I rx ry h
 obtain⟨l,b,xs,zs,rfl,rfl,hH,hB,hz,q⟩:=h
 cases rx
 cases ry
 obtain⟨z,a8,n,r,hl,e⟩:=I.lstM hH
 obtain⟨z2,d8,n2,r2,aj,e2⟩:=I.lstM hB
 refine PySem.P.add_list e e2 ?_ (by rw[Qy,Qy];lia)
 have ea:a8.toArray++d8.toArray=(a8++d8).toArray:=by simp
 rw[ea]
 exact⟨.ref _,_,I.lnew (t':=s.toks) (r.append r2) (by rw[Qq];assumption),rfl,q _ I.fresh⟩
end
section
variable{prog:Nj}{w:Nl}{A:Nn}{E:Na}{s:Nh}
end
section
variable{X:Cx}
end
end L2
namespace Att
open PySem PySem.W PySem.Calls PyProof.Rows
def zgh{P:Params}{h:Nm}:∀(ns:List Int) (vs:Ni),WellAll P h vs (ns.map WData.int)→IntsAre vs ns:=by
 intro ns
 induction ns with
 |nil =>
  intro vs w
  rw[Ji]at w
  cases w
  exact .nil
 | cons n ns ih =>
  intro vs w
  rw[Ql]at w
  cases w with
  |cons a b =>
   cases a
   exact .cons _ _ (ih _ b)
def script_of{l:OpenLaw}{n:Nat}(hn:l.most=some n){P:Params}{h:Nm}{args:List WData}{ji:Ni}(i5:l.row.toRowW.claim.pre args=true)(cv:WellAll P h ji args) :
  ∃a vs ns,ji=[Value.ref a]∧args=[WData.list (ns.map WData.int)]∧h.get? a=some {cls:=.type "list",data:=.seq vs.toArray}∧IntsAre vs ns∧ns.length≤n:=by
 have rj:WShape.hasAll [] args [.list .int]=true:=(pre_splitW i5).1
 have hc:l.pre.holds [] {args:=args}=true:=(pre_splitW i5).2
 obtain⟨d,r,rfl,h1,h2⟩:=hasAllW_cons rj
 obtain rfl:=hasAllW_nil h2
 obtain⟨xs,rfl,h3⟩:=hasW_list h1
 obtain⟨ns,rfl⟩:=items_int h3
 have af:ns.length≤n:=by
  unfold OpenLaw.pre at hc
  have h4:(WTm.not (.lt (.lit (.int (n:Int))) (.len (.arg 0)))).holds [] {args:=[.list (ns.map .int)]}=true:=by
   have h4:=(holds_andW hc).1
   rw[hn]at h4
   exact h4
  have h5:=condW_of h4 (w_not (w_lt w_lit (w_len_list (w_arg rfl))))
  rw[Qa]at h5
  refine Nat.le_of_not_lt λq=>?_
  have q':(n:Int)<((ns.length:Nat):Int):=by exact zar9 ‹_›
  first
   |(rw[decide_eq_true q']at h5;exact absurd h5 (by decide))
   |(simp at h5;lia)
 cases cv with
 |cons w1 w2 =>
  cases w2
  cases w1 with
  |list ho cU=>exact⟨_,_,ns,rfl,rfl,ho,zgh ns _ cU,af⟩
def post_true(l:OpenLaw)(args:List WData):l.row.toRowW.claim.post args (.bool true) args=true :=
 postW_of (r:=l.row.toRowW) (X:=(true==true))
  (show WShape.has [] (.bool true) .bool=true by first | rfl | decide | simp[WShape.has,WShape.arms,WShape.armsAll])
  (show(WTm.eq .res (.lit (.bool true))).value [] {args:=args,res:=some (.bool true),after:=args}=some (.bool (true==true)) from w_eq_bool (w_res rfl) w_lit) rfl
def attach_call{l:OpenLaw}{n:Nat}{q:Nj}{loose:Nf}{XP:(Str→Option Value)→Heap→Prop}{YP:World→Heap→Prop}{d:DefRec}(hn:l.most=some n)(nK:d.params.defaults=[])(call:∀ (w:Nl) (s₀ s₁:Nh) (mg mb:Ng) (fa:Nc) (o:Obj) (pm cd doc:Value) (a:Nc) (vs:Ni) (ns:List Int),
   Ground q loose [] XP w s₀ mg mb s₁.heap→YP w s₁.heap →
   s₁.heap.get? fa=some o→o.data=.func (docDef d.name d.params d.body d.scope pm cd doc)→s₁.heap.CodeRec cd d.name→mg d.name=some (.ref fa) →
   s₁.heap.get? a=some {cls:=.type "list",data:=.seq vs.toArray}→IntsAre vs ns→ns.length≤n→s₁.gens=#[] →
   codeAny (model l.prog w) callerA (.call (.ref fa) ⟨[.ref a],[]⟩) (λr s'=>r=.ok (.ret (.bool true))∧OldK s₁.heap s'.heap∧s'.os=s₁.os∧AllBare s'.gens) s₁) :
  WalkO q loose XP YP l.row.toRowW d [] (λf vs=>PySem.call f vs):=by
 intro w s₀ s₁ mg mb G Y fa o pm cd doc dV kV ho hd aB hD se hg args ji as i5 hlay hrd cv lg
 obtain rfl:dV=.none:=Dflts.none hD nK
 obtain rfl:kV=.none:=Dflts.noKw hD
 obtain⟨a,vs,ns,rfl,rfl,jQ,f',af⟩:=script_of hn i5 cv
 refine enter_call (codeAny_mono (call w s₀ s₁ mg mb fa o pm cd doc a vs ns G Y ho (fd_plain hd) aB se jQ f' af hg) λr s' hq=>?_)
 obtain⟨rfl,h2,h3,h4⟩:=hq
 exact⟨.inl ⟨.bool true,.bool true,[],rfl,λ_=>rfl,.bool true,post_true l _,λ_=>⟨List.Pairwise.nil,λ_ hm=>(nomatch hm)⟩⟩,h2,h3,h4⟩
section
variable{prog:Nj}{w:Nl}{A:Nn}{E:Na}{s:Nh}{K:Frag}
end
end Att
namespace L2
open PySem PySem.Spec PyProof.Rows
theorem vals_ints:∀{vs:Ni} {ns:List Int},IntsAre vs ns→Vals (ns.map V.int) vs
 |_,_,.nil=>.nil
 |_,_,.cons n t h=>.cons ⟨t,rfl⟩ (vals_ints h)
def Only(H:Hp):Prop:=∀b,H b=none∨∃o xs,H b=some (.frz o (.lst xs))
def law_call{P:Nj}{w:Nl}{K:Nb}{mg mb:Ng}{CX:CXT}{k:Nat}{fa a:Nc}{fd:No}{x:Str}{sp:Sp}{s₁:Nh}{vs:Ni}{ns:List Int}(KX:K.In s₁.heap)(dm:s₁.heap.Ns mainGlobals mg)(hb:s₁.heap.Ns builtinsNs mb)(hbb:∀x:Str,x ≠ "__name__" → mb x=bootBuiltins x)(sk:s₁.heap.NoLimit)(hg:s₁.gens=#[])(ha:s₁.heap.get? a=some {cls:=.type "list",data:=.seq vs.toArray})(hi:IntsAre vs ns)(hl:ns.length≤sizeLine)(hr:Room k callerA)(F:∀base:Heap,K.In base→base.Ns mainGlobals mg→FnOk P w K mg base CX k fa fd [x] sp)(nX:∀(s:Shared) (u:Value),BindsTo s fd ⟨[u],[]⟩ [(x,u)])(c8:∀H:Hp,Only H→SqL K H a (ns.map V.int)→sp [.ref a] H (λv _=>v=.bl true) λ_ _ _=>False)(tU:∀H e s',CX [] H s₁ (λ_ _ _=>False) e s'→False) :
  codeAny (model P w) callerA (.call (.ref fa) ⟨[.ref a],[]⟩) (λr s'=>r=.ok (.ret (.bool true))∧OldK s₁.heap s'.heap∧s'.os=s₁.os∧AllBare s'.gens) s₁:=by
 have rv:=vals_ints hi
 have lenV:=hi.length
 have core:∀ H:Hp,Only H→SqL K H a (ns.map V.int)→HOk P w H s₁.heap→(∀ b,H b≠none→b=a)→(H a≠none→K.lookup a=none) →
   codeAny (model P w) callerA (.call (.ref fa) ⟨[.ref a],[]⟩) (λr s'=>r=.ok (.ret (.bool true))∧OldK s₁.heap s'.heap∧s'.os=s₁.os∧AllBare s'.gens) s₁:=by
  intro H hO hS hok hA hK
  have base_of:∀{b:Nc} {o:Obj},s₁.heap.get? b=some o→H b=none→(hidT s₁.heap H).get? b=some o:=λe n=>hidT_get e n
  have noA:∀{b:Nc} {o:Obj} {es:Array DictEntry} {ep:Nat},s₁.heap.get? b=some o→o.data=.dict es ep→H b=none:=λ{b o es ep} e d=>by
   cases q:H b with
   |none=>rfl
   |some u =>
    have e':b=a:=hA b (by rw[q];simp)
    subst e'
    rw[ha]at e;cases e
    have d':Data.seq vs.toArray _=Data.dict es ep:=d
    cases d'
  have nsK:∀{b:Nc} {m:Ng},s₁.heap.Ns b m→(hidT s₁.heap H).Ns b m:=λ{b m} ⟨o,es,ep,e,d,r⟩=>⟨o,es,ep,base_of e (noA e d),d,r⟩
  have hKb:K.In (hidT s₁.heap H):=λb o e=>base_of (KX b o e) (by
   cases q:H b with
   |none=>rfl
   |some u =>
    have e':b=a:=hA b (by rw[q];simp)
    subst e'
    rw[hK (by rw[q];simp)]at e;cases e)
  have hM:Mod K mg (hidT s₁.heap H):=⟨hKb,nsK dm,⟨mb,nsK hb,hbb⟩,let⟨mc,h1,h2⟩:=sk;⟨mc,nsK h1,h2⟩⟩
  have e0:Env0 P w K mg (hidT s₁.heap H) callerA [] s₁ H:=⟨rfl,hM,λb o e=>of_hidT e,Nat.le_of_eq (hidT_size _ _),trivial,λb hb=>absurd (show b∈([]:List Addr) from hb) (by simp),hok,.of_eq hg⟩
  refine codeAny_mono ((F _ hKb (nsK dm)).run callerA [] s₁ H ⟨[.ref a],[]⟩ [.ref a] [.ref a] _ _ hr e0 (nX s₁ (.ref a)) (.cons rfl .nil) (c8 H hO hS)) λr s' h=>?_
  cases r with
  |error e=>exact(tU H e s' h).elim
  | ok fl =>
   cases fl with
   |next=>exact False.elim h
   |brk=>exact False.elim h
   |cont=>exact False.elim h
   | ret u =>
    obtain⟨v,H',os,bare,un,rS,r',q⟩:=h
    have q':v=.bl true:=q
    subst q'
    obtain rfl:u=Value.bool true:=r'
    refine⟨rfl,OldK.of_keep λb o e=>?_,os,bare⟩
    cases q:H b with
    |none=>exact un.keep b o e q (by intro z;exact absurd (show b∈([]:List Addr) from z) (by simp)) (by simp)
    | some u =>
     rcases hO b with z | ⟨ob,xs,z⟩
     ·rw[q]at z;cases z
     ·have z2:=un.frzs b ob _ z
      obtain⟨e1,_⟩:=hok b _ z
      obtain⟨e2,_⟩:=rS b _ z2
      rw[e]at e1;cases e1
      exact e2
 cases hk:K.lookup a with
 |some o =>
  have e:=KX a o hk
  rw[ha]at e
  cases e
  refine core (λ_=>none) (λ_=>.inl rfl) (.inr ⟨_,vs.toArray,_,hk,rfl,rfl,rfl,by rw[Qy,lenV];exact hl,by simpa using rv⟩) (λb u z=>by have z':(none:Option HO)=some u:=z;cases z') (λb z=>absurd rfl z) λz=>absurd rfl z
 | none =>
  refine core (λb=>if b=a then some (.frz {cls:=.type "list",data:=.seq vs.toArray} (.lst (ns.map V.int))) else none) (λb=>?_) (.inl (.inr ⟨{cls:=.type "list",data:=.seq vs.toArray},if_pos rfl⟩)) (λb u z=>?_) (λb z=>?_) λ_=>hk
  ·by_cases hb:b=a
   ·exact .inr ⟨_,_,if_pos hb⟩
   ·exact .inl (if_neg hb)
  ·by_cases hb:b=a
   ·have z':=(if_pos hb).symm.trans z
    cases z'
    subst hb
    exact⟨ha,by rw[Qa];exact hl,vs,_,rv,ha⟩
   ·have z':=(if_neg hb).symm.trans z
    cases z'
  ·by_cases hb:b=a
   ·exact hb
   ·exact absurd (if_neg hb) z
end L2
namespace L2
open PySem PySem.Spec PyProof.Rows
def walk_of{l:PySem.W.OpenLaw}{n k:Nat}{q:Nj}{loose:Nf}{XP:(Str→Option Value)→Heap→Prop}{YP:World→Heap→Prop}{d:DefRec}{K:Params→PySem.W.Frag}{CX:World→CXT}{sp:World→Sp}{x:Str}(hn:l.most=some n)(bm:n≤sizeLine)(nK:d.params.defaults=[])(hr:Room k callerA)(hY:∀(w:World) (h:Heap),YP w h→(K w.params).In h)(F:∀ (w:Nl) (mg:Ng) (fa:Nc) (h:Nm),(K w.params).In h→h.Ns mainGlobals mg→mg d.name=some (.ref fa) →
   ∃fd:FuncData,(∀(s:Nh) (u:Value),BindsTo s fd ⟨[u],[]⟩ [(x,u)]) ∧
    ∀base:Heap,(K w.params).In base→base.Ns mainGlobals mg→FnOk l.prog w (K w.params) mg base (CX w) k fa fd [x] (sp w))(c8:∀(w:Nl) (H:Hp) (a:Nc) (ns:List Int),ns.length≤n→Only H→SqL (K w.params) H a (ns.map V.int)→sp w [.ref a] H (λv _=>v=.bl true) λ_ _ _=>False)(tU:∀(w:World) (H:Hp) (s:Shared) (e:Value) (s':Shared),CX w [] H s (λ_ _ _=>False) e s'→False) :
  PySem.W.WalkO q loose XP YP l.row.toRowW d [] (λf vs=>PySem.call f vs):=by
 refine Att.attach_call hn nK λw s₀ s₁ mg mb fa o pm cd doc a vs ns G Y ho hd aB se jQ f' af hg=>?_
 have KX:=hY w _ Y
 obtain⟨fd,hb,hF⟩:=F w mg fa _ KX G.T.g se
 exact law_call KX G.T.g G.T.b G.T.builtins G.T.nolimit hg jQ f' (Zn af bm) hr hF hb (λH hO hS=>c8 w H a ns af hO hS) λH e s'=>tU w H s₁ e s'
end L2
namespace L2
open PySem PySem.Spec PyProof.Rows
def inClass(s:Stmt)(j:Nat):Stmt:=match s with
 |.ClassDef _ _ _ body _ _ _ _ _ _ _=>body.getD j (.Pass ⟨0,0,0,0⟩)
 |_=>.Pass ⟨0,0,0,0⟩
def zco(s:Stmt):Arguments:=match s with
 |.FunctionDef _ a _ _ _ _ _ _ _ _=>a
 |_=>{posonlyargs:=[],args:=[],vararg:=none,kwonlyargs:=[],kw_defaults:=[],kwarg:=none,defaults:=[]}
def zca(s:Stmt):List Stmt:=match s with
 |.FunctionDef _ _ b _ _ _ _ _ _ _=>b
 |_=>[]
def zag(s:Stmt):Scope:=match s with
 |.FunctionDef _ _ _ _ _ _ sc _ _ _=>sc
 |_=>{kind:=.function,names:=[],isGenerator:=false,isCoroutine:=false}
abbrev CX0:CXT:=λ_ _ _ _ _ _=>False
abbrev E0:XK:=λ_ _ _=>False
def zav{X:Cx}:zgq CX0 X E0:=λ_ _ _ _ _ _ _ h=>h.elim
structure Fun(K:Nb)(x qual:Str)(st:Stmt)(f:Nc)(fd:No):Prop where
 ex:∃(oc:Value) (od:Option Addr) (kV doc pm:Value) (an:Option Addr) (cdv ct:Value) (osl:Array (Option Value)),
  fd=PySem.W.fnOf x qual (zco st) (zca st) (zag st) .none kV doc pm an cdv ct∧K.lookup f=some ⟨oc,od,.func fd,osl⟩∧PySem.W.codeIn K cdv qual=true
 kp:PySem.W.keepIn K (.ref f)=true
section
variable{P:Nj}{w:Nl}{K:Nb}{mg:Ng}{base:Nm}
def Fun.ok{x qual:Str}{st:Stmt}{f:Nc}{fd:No}{N ps:Nf}{k:Nat}{sp:Sp}(F:Fun K x qual st f fd)(S:zau N ps (zag st))(len:∀vs H Q E,sp vs H Q E→vs.length=ps.length)(gm:∀ (cdv:Value) (A:Nn) (outer:List Env) (s:Nh) (H:Hp) (vs:List V) (Q:VK) (E:XK),Room k (A.deeper (envOfC qual (zag st) s.heap.objs.size f cdv))→sp vs H Q E →
   ∃t,PSs (cxOf CX0 P w K mg base N qual (zag st) f cdv A outer s H E).nox (zca st) t∧t {nx:=λ_ H'=>Q .non H',rt:=Q} (start N vs) H):FnOk P w K mg base CX0 (k+1) f fd ps sp:=by
 obtain⟨oc,od,kV,doc,pm,an,cdv,ct,osl,rfl,lk,aB⟩:=F.ex
 refine fn_of lk aB S len λA outer s H vs Q E hr c8=>?_
 obtain⟨t,h,q⟩:=gm cdv A outer s H vs Q E hr c8
 exact⟨t,h.nox,q⟩
def Fun.binds{x qual:Str}{st:Stmt}{f:Nc}{fd:No}{ps:Nf}(F:Fun K x qual st f fd)(h:∀(kV doc pm:Value) (an:Option Addr) (cdv ct:Value) (us:Ni),us.length=ps.length→bindArgs (PySem.W.fnOf x qual (zco st) (zca st) (zag st) .none kV doc pm an cdv ct) ⟨us,[]⟩=pure (ps.zip us)):Binds K fd ps []:=by
 obtain⟨oc,od,kV,doc,pm,an,cdv,ct,osl,rfl,lk,aB⟩:=F.ex
 exact .all (h kV doc pm an cdv ct)
def fun_mk{x qual:Str}{st:Stmt}{f:Nc}{oc:Value}{od an:Option Addr}{osl:Array (Option Value)}{kV doc pm cdv ct:Value}(l:K.lookup f=some ⟨oc,od,.func (PySem.W.fnOf x qual (zco st) (zca st) (zag st) .none kV doc pm an cdv ct),osl⟩)(c:PySem.W.codeIn K cdv qual=true)(k:PySem.W.keepIn K (.ref f)=true):Fun K x qual st f (PySem.W.fnOf x qual (zco st) (zca st) (zag st) .none kV doc pm an cdv ct):=⟨⟨oc,od,kV,doc,pm,an,cdv,ct,osl,rfl,l,c⟩,k⟩
end
def zb5{A:Nn}{k:Nat}(hr:Room k A):A.units+1<cLine:=Nat.lt_of_le_of_lt (Nat.add_le_add_left (by decide:1≤64) _) hr.units
section
variable{X:Cx}
def pv(i:Nat){x:Str}{pos:Pos}(hN:X.N[i]?=some x:=by rfl)(hv:Vis X.env.scope x:=by first | exact Or.inl rfl | exact Or.inr (Or.inl rfl) | exact Or.inr (Or.inr rfl))(hd:(x==("__debug__" : Str))=false:=by decide)(aB:(x==("__classdict__" : Str))=false:=by decide):PE X (.Name x pos) (tVar i):=pe_var hN hv hd aB
def zep:zch X (.builtin "len") (λxs H Q=>Ex2 λa kvs=>Aj3 (xs=[V.ref a]) (H a=some (.dK kvs)) (Q (.int kvs.length) H)):=by
 intro a7 s σ H xs us Q I r h
 obtain⟨a,kvs,rfl,ha,q⟩:=h
 obtain⟨u,rfl,ru⟩:=vals1 r
 cases ru
 exact d_len I (.inl ha) λt s' I'=>⟨.int kvs.length,H,I',⟨t,rfl⟩,q⟩
end
def iteF{A B:Prop}(h:B):if false=true then A else B:=by
 rw[if_neg Zg]
 exact h
def iteT{A B:Prop}(h:A):if true=true then A else B:=by
 rw[if_pos rfl]
 exact h
def ite2{c A B:Prop}[Decidable c](h1:c→A)(h2:¬c→B):if c then A else B:=by
 by_cases h:c
 ·rw [if_pos h]
  exact h1 h
 ·rw [if_neg h]
  exact h2 h
section
variable{κ:Type}[DecidableEq κ]
end
end L2
end
section
namespace L2
open PySem PySem.Spec PyProof.Rows
def clOf(sc:Scope)(env:Env):List (Str×Addr):=sc.names.foldl (λcs y=>if(y.2==NameKind.free)=true then(y.1,(env.cells.lookup y.1).getD 0)::cs else cs) []
theorem cl_fold{env:Env}:∀(l:List (Str×NameKind)) (cs:List (Str×Addr)),(∀y∈l,y.2=.free→∃c,env.cells.lookup y.1=some c) →
  (forIn l cs (fun (y:Str×NameKind) (r:List (Str×Addr))=>(do
   let(name,kind):=y
   if(kind==.free)=true then do
    let a ←cellOf env name
    pure (ForInStep.yield ((name,a)::r))
   else pure (ForInStep.yield r):Sem (ForInStep (List (Str×Addr))))))=(pure (l.foldl (λcs y=>if(y.2==NameKind.free)=true then(y.1,(env.cells.lookup y.1).getD 0)::cs else cs) cs):Sem (List (Str×Addr)))
 |[],cs,_=>rfl
 | (n,k)::r,cs,h=>by
  rw[List.forIn_cons]
  have ih:=λcs=>cl_fold (env:=env) r cs λy hy=>h y (Qg _ hy)
  by_cases hk:(k==NameKind.free)=true
  ·obtain ⟨c,hc⟩:=h (n,k) Qc (by simpa using hk)
   have bV:env.cells.lookup n=some c:=hc
   have e:cellOf env n=pure c:=by unfold cellOf;rw[bV]
   rw[Jw]
   dsimp only
   rw[if_pos hk,if_pos hk,e,bV]
   exact ih _
  ·rw [Jw]
   dsimp only
   rw[if_neg hk,if_neg hk]
   exact ih _
def zcp{sc:Scope}{env:Env}(h:∀y∈sc.names,y.2=.free→∃c,env.cells.lookup y.1=some c):closureFor sc env=pure (clOf sc env):=by
 unfold closureFor
 have e:=cl_fold (env:=env) sc.names [] h
 exact(congrArg (λt:Sem (List (Str×Addr))=>t >>= λcs=>pure cs) e).trans rfl
theorem clOf_in{env:Env}{x:Str}{c:Nc}:∀(l:List (Str×NameKind)) (cs:List (Str×Addr)),(∀y∈l,y.2=.free→∃c,env.cells.lookup y.1=some c)→(∀x c,cs.lookup x=some c→env.cells.lookup x=some c) →
  (l.foldl (λcs y=>if(y.2==NameKind.free)=true then(y.1,(env.cells.lookup y.1).getD 0)::cs else cs) cs).lookup x=some c→env.cells.lookup x=some c
 |[],cs,_,hc,e=>hc _ _ e
 | (n,k)::r,cs,h,hc,e=>by
  rw[Jw]at e
  refine clOf_in r _ (λy hy=>h y (Qg _ hy)) ?_ e
  by_cases hk:(k==NameKind.free)=true
  ·obtain ⟨a,ha⟩:=h (n,k) Qc (by simpa using hk)
   have ha':env.cells.lookup n=some a:=ha
   dsimp only
   rw[if_pos hk,ha']
   intro x c q
   rw[Ww]at q
   cases hx:x==n with
   |true =>
    rw[hx]at q
    have q':a=c:=Qk q
    have:x=n:=by simpa using hx
    rw[this,←q'];exact ha'
   |false =>
    rw[hx]at q
    exact hc x c q
  ·dsimp only
   rw[if_neg hk]
   exact hc
theorem zij{env:Env}{x:Str}:∀(l:List (Str×NameKind)) (cs:List (Str×Addr)),((x,NameKind.free)∈l∨∃c,cs.lookup x=some c) →
  ∃c,(l.foldl (λcs y=>if(y.2==NameKind.free)=true then(y.1,(env.cells.lookup y.1).getD 0)::cs else cs) cs).lookup x=some c
 |[],cs,h=>by
  rcases h with h | h
  ·exact absurd h (by simp)
  ·exact h
 | (n,k)::r,cs,h=>by
  rw[Jw]
  refine zij r _ ?_
  rcases h with h | ⟨c,h⟩
  ·rcases Qe.mp h with e | e
   ·obtain ⟨rfl,rfl⟩:=Uq e
    exact .inr ⟨(env.cells.lookup x).getD 0,by dsimp only;rw[if_pos (by rfl),List.lookup_cons];simp⟩
   ·exact .inl e
  ·refine .inr ?_
   dsimp only
   by_cases hk:(k==NameKind.free)=true
   ·rw [if_pos hk,Ww]
    cases hx:x==n with
    |true=>exact⟨_,rfl⟩
    |false=>exact⟨c,h⟩
   ·rw[if_neg hk];exact⟨c,h⟩
structure Blk(X:Cx)(sc:Scope)(M:Nf)(ix:Nq):Prop where
 kind:sc.kind=.function
 nocell:∀y∈sc.names,y.2≠.cell
 names:∀y∈sc.names,y.2=.local→sc.names.lookup y.1=some .local
 frees:∀y∈sc.names,y.2=.free→X.env.scope.names.lookup y.1=some .cell∨X.env.scope.names.lookup y.1=some .free
 len:ix.length=M.length
 nd:M.Nodup
 caps:∀(j i:Nat) (x:Str),M[j]?=some x→ix[j]?=some (some i)→X.N[i]?=some x∧sc.names.lookup x=some .free
def inner(ix:Nq)(σ:St):St:=ix.map λo=>match o with | none=>none | some i=>(σ[i]?).join
def zhz{sc:Scope}{env:Env}{x:Str}{oz:Option Str}(hn:∀ y∈sc.names,y.2=.cell→oz=some y.1)(h:(relabel sc env).names.lookup x=some .cell∨(relabel sc env).names.lookup x=some .free):(x,NameKind.free)∈sc.names∨oz=some x:=by
 have key:∀k',k'=.cell∨k'=.free→(x,k')∈(relabel sc env).names→(x,NameKind.free)∈sc.names∨oz=some x:=λk' fZ hm=>by
  obtain⟨⟨n,k⟩,hy,e⟩:=Qh.mp hm
  dsimp only at e
  by_cases hb:(k==NameKind.free&&env.scope.kind==.function&&env.kindOf n==some .cell)=true
  ·rw [if_pos hb] at e
   obtain⟨rfl,_⟩:=Uq e
   have hk:k=.free:=by
    have:=(Bool.and_eq_true_iff.mp (Bool.and_eq_true_iff.mp hb).1).1
    simpa using this
   rw[hk]at hy
   exact .inl hy
  ·rw [if_neg hb] at e
   obtain⟨rfl,rfl⟩:=Uq e
   rcases fZ with q | q
   ·exact .inr (hn _ hy q)
   ·rw[q]at hy;exact .inl hy
 rcases h with h | h
 ·exact key _ (.inl rfl) (Wh h)
 ·exact key _ (.inr rfl) (Wh h)
def ocl(oz:Option Str)(C:Nc)(cl:List (Str×Addr)):List (Str×Addr):=match oz with
 |none=>cl
 |some z=>(z,C+1)::cl
def och(oz:Option Str)(h:Nm):Heap:=match oz with
 |none=>h
 |some _=>h.push {cls:=.type "cell",data:=.cell none}
structure BlkG(X:Cx)(sc:Scope)(oz:Option Str)(M:Nf)(ix:Nq):Prop where
 kind:sc.kind=.function
 own:∀y∈sc.names,y.2=.cell→oz=some y.1
 one:∀n cl,cellsFrom (n+1) sc.names cl=ocl oz n cl
 psh:∀h,pushCells h sc.names=och oz h
 zc:∀z,oz=some z→sc.names.lookup z=some .cell
 names:∀y∈sc.names,y.2=.local→sc.names.lookup y.1=some .local
 frees:∀y∈sc.names,y.2=.free→X.env.scope.names.lookup y.1=some .cell∨X.env.scope.names.lookup y.1=some .free
 len:ix.length=M.length
 nd:M.Nodup
 caps:∀(j i:Nat) (x:Str),M[j]?=some x→ix[j]?=some (some i)→X.N[i]?=some x∧sc.names.lookup x=some .free
theorem zil:∀{l:List (Str×NameKind)} (_:∀y∈l,y.2≠.cell),(∀n cl,cellsFrom n l cl=cl)∧∀h,pushCells h l=h
 |[],_=>⟨λ_ _=>rfl,λ_=>rfl⟩
 |(a,k)::t,h=>by
  obtain⟨h1,h2⟩:=zil λy hy=>h y (Qg _ hy)
  have hk:(k==NameKind.cell)=false:=beq_eq_false_iff_ne.mpr (h (a,k) Qc)
  exact⟨λn cl=>by unfold cellsFrom;rw[hk];exact h1 n cl,λg=>by unfold pushCells;rw[hk];exact h2 g⟩
def Blk.g{X:Cx}{sc:Scope}{M:Nf}{ix:Nq}(B:Blk X sc M ix):BlkG X sc none M ix :=
 ⟨B.kind,λy hy h=>absurd h (B.nocell y hy),λn cl=>(zil B.nocell).1 _ cl,(zil B.nocell).2,λ_ h=>(by cases h),B.names,B.frees,B.len,B.nd,B.caps⟩
def zen(X:Cx)(sc:Scope)(oz:Option Str)(M:Nf)(C:Nc)(a7:Nd)(ex:Nk)(s:Nh)(H:Hp):Cx :=
 {X with N:=M,s₀:=s,H₀:=H,env:=compEnvC sc (ocl oz C (clOf sc X.env)) C X.env,outer:=X.stack,ex:=ex,fn:=λx=>oz==some x,pn:=X.pn++a7,xe:=λ_ _=>False}
abbrev zc2(X:Cx)(sc:Scope)(M:Nf)(C:Nc)(a7:Nd)(ex:Nk)(s:Nh)(H:Hp):Cx:=zen X sc none M C a7 ex s H
section
variable{M:Model}{A:Nn}{E:Na}{s:Nh}
def newEnv_own{sc:Scope}{g:Nc}{cl:List (Str×Addr)}{q:Str}{env:Env}{oz:Option Str}{Q:Env→Shared→Prop}(one:∀n cl,cellsFrom (n+1) sc.names cl=ocl oz n cl)(psh:∀h,pushCells h sc.names=och oz h)(hQ:Q (newEnv sc s.heap.objs.size g (ocl oz s.heap.objs.size cl) q none .none (some env) builtinsNs) {s with heap:=och oz (s.heap.push {cls:=.type "dict",data:=.dict #[]})}) :
  wpAny M A (newFunctionEnv sc g cl [] q none .none (some env)) Q E s:=by
 simp only[newFunctionEnv,Option.isSome_some,if_true]
 refine wpAny_bind (wpAny_alloc ?_)
 refine wpAny_bind (wpAny_layCells _ (λname kind cells=>by cases hkc:kind==NameKind.cell<;>simp[hkc]) _ _ _ _ ?_)
 rw[psh,show({s with heap:=s.heap.push {cls:=.type "dict",data:=.dict #[]}}:Shared).heap.objs.size=s.heap.objs.size+1 from Wt ..,one]
 exact wpAny_pure hQ
end
section
variable{X:Cx}{sc:Scope}{oz:Option Str}{M:Nf}{ix:Nq}{a7:Nd}{σ:St}{H:Hp}{s:Nh}
def BlkG.clos(B:BlkG X sc oz M ix)(I:Inv X a7 σ H s):∀y∈sc.names,y.2=.free→∃c,X.env.cells.lookup y.1=some c:=λy hy hf =>
 I.ok.has y.1 (by rcases B.frees y hy hf with z | z;exact .inl z;exact .inr z)
def Blk.clos(B:Blk X sc M ix)(I:Inv X a7 σ H s):∀y∈sc.names,y.2=.free→∃c,X.env.cells.lookup y.1=some c:=B.g.clos I
def inv_blkG{ex:Nk}{s':Nh}{C:Nc}(B:BlkG X sc oz M ix)(I:Inv X a7 σ H s)(hx:∀ b∈ex,FpOk X a7 H b)(ag:∀ b∈ex,b < s.heap.objs.size)(hC:C=s.heap.objs.size)(hn:s'.heap.Ns C λ_=>none)(hz:∀z,oz=some z→s'.heap.IsCell (C+1) none)(hk:∀b o,s.heap.get? b=some o→s'.heap.get? b=some o)(hg:s'.gens=s.gens)(ho:s'.os=s.os):Inv (zen X sc oz M C a7 ex s H) [] (inner ix σ) H s':=by
 have cls:=B.clos I
 have cin:∀x c,(clOf sc X.env).lookup x=some c→X.env.cells.lookup x=some c:=λx c e=>clOf_in sc.names [] cls (λ_ _ z=>by cases z) e
 have cne:∀x c,(clOf sc X.env).lookup x=some c→c<s.heap.objs.size:=λx c e=>by
  obtain⟨v,q⟩:=I.cell x c (cin x c e)
  exact q.lt
 have zne:∀c:Addr,c<s.heap.objs.size→c≠C+1:=λc h e=>by
  rw[e,hC]at h;exact absurd (Jg h) (Yv _)
 have zin:∀x c,(ocl oz C (clOf sc X.env)).lookup x=some c→(oz=some x∧c=C+1)∨oz≠some x∧(clOf sc X.env).lookup x=some c:=λx c e=>by
  cases oz with
  |none=>exact .inr ⟨λz=>(by cases z),e⟩
  |some zn =>
   have e:((zn,C+1)::clOf sc X.env).lookup x=some c:=e
   rw[Ww]at e
   cases q:x==zn with
   |true=>rw[q]at e;exact .inl ⟨by rw[eq_of_beq q],(Qk e).symm⟩
   |false=>rw[q]at e;exact .inr ⟨λz=>(by rw[Qk z,beq_self_eq_true]at q;cases q),e⟩
 have zout:∀x c,oz≠some x→(clOf sc X.env).lookup x=some c→(ocl oz C (clOf sc X.env)).lookup x=some c:=λx c hx e=>by
  cases oz with
  |none=>exact e
  |some zn =>
   show((zn,C+1)::clOf sc X.env).lookup x=_
   rw[Ww,beq_eq_false_iff_ne.mpr λz=>hx (by rw[z])];exact e
 refine⟨⟨I.ok.mod,?_,I.ok.glob,I.ok.blt,?_,λx y c h1 h2=>?_,λx hx=>?_,λx c h e=>?_,I.ok.hd,I.ok.frames,.inl rfl,λb hb=>?_,I.bs,?_,λb o e hb=>?_,λb hb=>?_,I.stack,I.stkFree⟩,
  ?_,?_,Un.kept hk,⟨_,hn,λj x v e1 e2 e3=>?_⟩,λx c e=>?_,?_,λx c e=>?_,λp hp=>?_,I.hok.kept hk,?_⟩
 ·show (relabel sc X.env).kind=.function
  exact B.kind
 ·show s.heap.objs.size≤C
  rw[hC];exact Qi _
 ·rcases zin x c h1 with ⟨a,b⟩ | ⟨_,a⟩ <;> rcases zin y c h2 with ⟨a',b'⟩ | ⟨_,a'⟩
  ·exact Qk (a.symm.trans a')
  ·exact absurd b (zne c (cne y c a'))
  ·exact absurd b' (zne c (cne x c a))
  ·exact I.ok.inj x y c (cin x c a) (cin y c a')
 ·by_cases q:oz=some x
  ·exact⟨C+1,by show(ocl oz C (clOf sc X.env)).lookup x=_;rw[q];show((x,C+1)::clOf sc X.env).lookup x=_;rw[Ww,beq_self_eq_true]⟩
  ·obtain ⟨c,hc⟩:=zij (env:=X.env) sc.names [] (.inl ((zhz B.own hx).resolve_right q))
   exact⟨c,zout x c q hc⟩
 ·have h':oz=some x:=by
   have:(oz==some x)=true:=h
   exact eq_of_beq this
  rcases zin x c e with⟨_,b⟩ | ⟨b,_⟩
  ·show s.heap.objs.size≤c
   rw[b,hC];exact Uf _
  ·exact absurd h' b
 ·have:=ag b hb
  refine⟨λz=>?_,λx c e=>(zin x c e).elim (λq h=>zne b this (h.symm.trans q.2)) λe=>(hx b hb).2.2.2.2.1 x c (cin x c e.2)⟩
  have z':b=C:=z
  rw[z',hC]at this
  exact Yv _ this
 ·exact Zn I.ok.bsz I.sz
 ·rcases (hx b hb).2.2.2.1 with z | z
  ·exact I.ok.noex b o e z
  ·have h1:b < X.base.objs.size:=Qt e
   have h2:=I.ok.bsz
   have h3:X.s₀.heap.objs.size≤b:=z
   exact absurd (Zp h1 (Zn h2 h3)) (Yv _)
 ·intro z
  rcases Qe.mp (I.stkSub b z) with q | q
  ·exact(hx b hb).2.1 q
  ·exact(hx b hb).2.2.1 q
 ·exact ho
 ·rw[hg];exact I.bare
 ·have hj:∃ i,ix[j]?=some (some i)∧σ[i]?=some (some v):=by
   unfold inner at e2
   rw[Qs]at e2
   cases q:ix[j]? with
   |none=>rw[q]at e2;cases e2
   | some o =>
    rw[q]at e2
    cases o with
    |none=>cases e2
    |some i =>
     have kJ:(σ[i]?).join=some v:=Qk e2
     cases q2:σ[i]? with
     |none=>rw[q2]at kJ;cases kJ
     |some w=>rw[q2]at kJ;exact⟨i,rfl,by rw[q2];exact congrArg some kJ⟩
  obtain⟨i,hi,hσ⟩:=hj
  obtain⟨hN,bn⟩:=B.caps j i x e1 hi
  have hm:=Wh bn
  have dI:=B.frees (x,.free) hm rfl
  obtain⟨m,_,hl⟩:=I.loc
  obtain⟨u,ru,lk⟩:=hl i x v hN hσ (by rcases dI with z | z;exact .inr (.inl z);exact .inr (.inr z))
  refine⟨u,ru,.inr ?_⟩
  obtain⟨c,hc⟩:=zij (env:=X.env) sc.names [] (.inl hm)
  have bV:=cin x c hc
  have lk2:s.heap.IsCell c (some u):=by
   rcases lk with⟨k,_⟩ | ⟨_,c',e',z⟩
   ·have k':X.env.scope.names.lookup x=some .local:=k
    rcases dI with q | q<;>(rw[show X.env.scope.names.lookup x=_ from q]at k';cases k')
   ·rw[bV]at e';cases e';exact z
  refine⟨?_,c,zout x c (λq=>by rw[B.zc x q]at bn;cases bn) hc,?_⟩
  ·have e3':Vis (relabel sc X.env) x:=e3
   rcases e3' with z | z | z
   ·exfalso
    have:=@lookup_relabel_local
    have bQ:∀(l:List (Str×NameKind)),l.lookup x=some .free→(l.map λ(y:Str×NameKind)=>match y with | (n,k)=>if(k==NameKind.free&&X.env.scope.kind==.function&&X.env.kindOf n==some .cell) then(n,NameKind.cell) else(n,k)).lookup x≠some .local:=by
     intro l
     induction l with
     |nil=>intro h;cases h
     | cons y r ih =>
      obtain⟨n,k⟩:=y
      intro h
      rw[Ww]at h
      rw[Ql]
      dsimp only
      by_cases hb:(k==NameKind.free&&X.env.scope.kind==.function&&X.env.kindOf n==some .cell)=true
      ·rw [if_pos hb,Ww]
       cases hx:x==n with
       |true=>intro q;cases q
       |false=>rw[hx]at h;exact ih h
      ·rw [if_neg hb,Ww]
       cases hx:x==n with
       |true =>
        rw[hx]at h
        intro q
        have h':k=NameKind.free:=Qk h
        have q':k=NameKind.local:=Qk q
        rw[h']at q';cases q'
       |false=>rw[hx]at h;exact ih h
    exact bQ sc.names bn z
   ·exact .inl z
   ·exact .inr z
  ·obtain ⟨o,dl,iu⟩:=lk2
   exact⟨o,hk c o dl,iu⟩
 ·rcases zin x c e with ⟨a,b⟩ | ⟨_,b⟩
  ·rw[b];exact⟨none,hz x a⟩
  ·obtain ⟨v,o,dl,iu⟩:=I.cell x c (cin x c b)
   exact⟨v,o,hk c o dl,iu⟩
 ·show H C=none
  rw[hC]
  exact I.hok.fresh (Qi _)
 ·rcases zin x c e with ⟨_,b⟩ | ⟨_,b⟩
  ·rw[b];exact I.hok.fresh (by rw[hC];exact Uf _)
  ·exact I.freeC x c (cin x c b)
 ·have dF:p∈X.pn++a7:=by
   have:p∈(X.pn++a7)++[]:=hp
   rwa[Zt]at this
  obtain⟨e,n,ne,nf,d⟩:=I.pin p dF
  refine⟨hk _ _ e,n,?_,λz=>?_,d⟩
  ·intro z
   have z':p.1=C:=z
   have:=Qt e
   rw[z',hC]at this
   exact Yv _ this
  ·rcases Qe.mp (I.stkSub _ z) with q | q
   ·exact ne q
   ·exact nf q
 ·unfold inner
  rw[Qa]
  exact B.len
def inv_blk{ex:Nk}{s':Nh}{C:Nc}(B:Blk X sc M ix)(I:Inv X a7 σ H s)(hx:∀b∈ex,FpOk X a7 H b)(ag:∀b∈ex,b<s.heap.objs.size)(hC:C=s.heap.objs.size)(hn:s'.heap.Ns C λ_=>none)(hk:∀b o,s.heap.get? b=some o→s'.heap.get? b=some o)(hg:s'.gens=s.gens)(ho:s'.os=s.os):Inv (zc2 X sc M C a7 ex s H) [] (inner ix σ) H s':=inv_blkG B.g I hx ag hC hn (λ_ h=>by cases h) hk hg ho
def PTs(X:Cx)(ifs:Np)(t:TT):Prop :=
 ∀(a7:Nd) (s:Nh) (σ:St) (H:Hp) (Q:Bool→Hp→Prop),Inv X a7 σ H s→t σ H Q →
  wpAny (model X.prog X.w) X.A (forIn ifs true λc r=>if r=true then do let ok ←isTrue c X.env (eval c X.env);pure (ForInStep.yield ok) else pure (ForInStep.yield r)) (TP X a7 σ Q) X.xe s
def tAll:TT:=λ_ H Q=>Q true H
def zct{X:Cx}:PTs X [] tAll:=λ_ _ _ H _ I h=>wpAny_tests_nil ⟨H,I,h⟩
def zdz{X:Cx}{c:Expr}{t:TT}(h:PT X c t):PTs X [c] t:=λa7 s σ H Q I q=>wpAny_tests_one (h a7 s σ H Q I q)
def compLoop_any{prog:Nj}{w:Nl}{A:Nn}{s:Nh}{elt target iter:Expr}{ifs:Np}{scope:Scope}{pos:Pos}{it ai:Value}{env:Env}{R:Nt}(I:Nat→Shared→Prop)(turn:∀ n s,I n s→wpAny (model prog w) A (pyNext it) (fun r s₁=>match r with
   |none=>R (.ok .next) s₁
   | some v=>wpAny (model prog w) A (letOwnedTupleGo target it v) (fun _ s₁'=>wpAny (model prog w) A (assign target env v) (fun _ s₂ =>
     wpAny (model prog w) A (forIn ifs true λc r=>if r=true then do let ok ←isTrue c env (eval c env);pure (ForInStep.yield ok) else pure (ForInStep.yield r)) (λok s₃ =>
      if ok=true then wpAny (model prog w) A (eval elt env) (λx s₄ =>
       wpAny (model prog w) A (call (.builtin "list.append") [ai,x]) (λ_ s₅=>∃m,m<n∧I m s₅) (λ_ _=>False) s₄) (λ_ _=>False) s₃
      else ∃m,m<n∧I m s₃) (λ_ _=>False) s₂) (λ_ _=>False) s₁') (λ_ _=>False) s₁) (λ_ _=>False) s)(n:Nat)(h:I n s):codeAny (model prog w) A (.compLoop (.ListComp elt [⟨target,iter,ifs,0⟩] scope pos) 0 it ai env) R s:=by
 refine codeAny_loop rfl I (λn s hI=>?_) n h
 show wpAny _ A ((compTurn (.ListComp elt [⟨target,iter,ifs,0⟩] scope pos) 0 it ai env).onRaise (λx=>do noteFrame x env;theTreesLotGoes x)) _ _ s
 refine wpAny_noted ?_
 rw[compTurn_list]
 refine wpAny_bind (wpAny_standAt (wpAny_bind (wpAny_mono (turn n s hI) (λr s₁ h₁=>?_) λ_ _ h'=>h'.elim)))
 cases r with
 |none=>exact wpAny_pure h₁
 | some v =>
  refine wpAny_bind (wpAny_mono h₁ (λ_ s₁' h₁'=>?_) λ_ _ h'=>h'.elim)
  refine wpAny_bind (wpAny_mono h₁' (λ_ s₂ h₂=>wpAny_bind (wpAny_mono h₂ (λok s₃ h₃=>?_) λ_ _ h'=>h'.elim)) λ_ _ h'=>h'.elim)
  cases ok with
  |false=>exact wpAny_pure ⟨rfl,h₃⟩
  |true =>
   exact wpAny_bind (wpAny_bind (wpAny_mono h₃ (λx s₄ h₄=>wpAny_bind (wpAny_mono h₄ (λ_ s₅ h₅=>wpAny_pure (wpAny_pure ⟨rfl,h₅⟩)) λ_ _ h'=>h'.elim)) λ_ _ h'=>h'.elim))
def rLC(g:TG)(tc:TT)(te:TE)(Q:VK)(J:It)(τ:St)(H1:Hp):Prop:=∃W:Nat→Nat→List V→St→Hp→Prop,(∃m,W 0 m [] τ H1)∧∀i m ys τ H,W i m ys τ H →
 (J.stop i H∧∀D,H D=none→Q (.ref D) (upd H D (.lst ys))) ∨
 (J.go i H∧ys.length<sizeLine∧∀x H',J.yld i H x H'→g x τ H' λ τ2 H2=>tc τ2 H2 λb H3=>if b=true then te τ2 H3 λy H4=>∃m',m'<m∧W (i+1) m' (ys++[y]) τ2 H4 else ∃m',m'<m∧W (i+1) m' ys τ2 H3)
def tLC(ix:Nq)(wi:TI)(g:TG)(tc:TT)(te:TE):TE:=λ σ H Q=>wi σ H λJ H1=>rLC g tc te Q J (inner ix σ) H1
def lc_blockG{tg elt iter:Expr}{ifs:Np}{pos:Pos}{g:TG}{tc:TT}{te:TE}{fp:Nk}{it:Nc}{tn:Nat→Heap→Prop}{J:It}{Q:VK}{RR:Value→Addr→Result→Shared→Prop}{E:Na}(B:BlkG X sc oz M ix)(hc:X.calm=true)(hg:∀C ex s H,PG (zen X sc oz M C a7 ex s H) tg g)(ht:∀C ex s H,PTs (zen X sc oz M C a7 ex s H) ifs tc)(he:∀C ex s H,PE (zen X sc oz M C a7 ex s H) elt te)(I:Inv X a7 σ H s)(T:Turn X.prog X.w X.K tg J fp it tn)(h0:tn 0 s.heap)(hf:∀b∈fp,FpOk X a7 H b)(q:rLC g tc te Q J (inner ix σ) H)(o9:∀D C m ys H' s',Inv X a7 σ (upd H' D (.lst ys)) s'→Q (.ref D) (upd H' D (.lst ys))→s'.heap.Ns C m→upd H' D (.lst ys) C=none→s.heap.objs.size<C→RR (.ref D) C (.ok .next) s') :
  wpAny (model X.prog X.w) X.A (newList []) (λai s₃=>wpAny (model X.prog X.w) X.A (newFunctionEnv sc X.env.globals (clOf sc X.env) [] X.env.qual none .none (some X.env)) (λcenv s₄ =>
   codeAny (model X.prog X.w) X.A (.compStart (.ListComp elt [⟨tg,iter,ifs,0⟩] sc pos) 0 (.ref it) ai {cenv with scope:=relabel sc X.env}) (RR ai cenv.locals) s₄) E s₃) E s:=by
 refine wpAny_newObj_type (newEnv_own B.one B.psh ?_)
 dsimp only
 generalize hD:s.heap.objs.size=D
 generalize jd:s.heap.push {cls:=.type "list",dict:=none,data:=.seq ([]:List Value).toArray}=g2
 generalize sB:och oz (g2.push {cls:=.type "dict",data:=.dict #[]})=h₁
 have kp:∀(q:Nm) (b:Nc) (o:Obj),q.get? b=some o→(och oz q).get? b=some o:=λq b o e=>by
  cases oz with
  |none=>exact e
  |some _=>exact Qj _ e
 have hns₁:h₁.Ns g2.objs.size (λ_=>none):=sB▸(Heap.Ns.new g2 (.type "dict")).keeps λb o e=>kp _ b o e
 have hz₁:∀z,oz=some z→h₁.IsCell (g2.objs.size+1) none:=λz ez=>by
  have e:(g2.push {cls:=.type "dict",data:=.dict #[]}).objs.size=g2.objs.size+1:=Wt ..
  rw[←sB,←e,ez]
  exact⟨_,Zd _ rfl,rfl⟩
 have hC:g2.objs.size=D+1:=by rw[←jd,Wt,hD]
 have k2:∀b o,s.heap.get? b=some o→g2.get? b=some o:=λb o e=>by rw[←jd];exact Qj _ e
 have I3:Inv X a7 σ H {s with heap:=g2}:=I.kept (t':=s.toks) k2
 have HD:H D=none:=I.hok.fresh (by rw[hD];exact Qi _)
 have fD:FpOk X a7 H D:=I.fpOk (by rw[hD];exact Qi _) HD
 have D2:g2.get? D=some {cls:=.type "list",dict:=none,data:=.seq ([]:List Value).toArray}:=by rw[←jd,←hD];exact Zd _ rfl
 have k1:∀b o,g2.get? b=some o→h₁.get? b=some o:=λb o e=>sB▸kp _ b o (Qj _ e)
 have fpx:∀b∈D::fp,FpOk X a7 H b:=λb hb=>by
  rcases Qe.mp hb with e | e
  ·rw[e];exact fD
  ·exact hf b e
 have fplt:∀b∈D::fp,b<g2.objs.size:=λb hb=>by
  rcases Qe.mp hb with e | e
  ·rw[e,hC];exact Yu _
  ·obtain ⟨o,q,_⟩:=T.obj _ _ h0 b e
   exact Qt (k2 b o q)
 have fpD:D∉fp:=λhm=>by
  obtain⟨o,q,_⟩:=T.obj _ _ h0 D hm
  have:=Qt q
  rw[hD]at this
  exact Yv _ this
 generalize aN:zen X sc oz M g2.objs.size a7 (D::fp) {s with heap:=g2} H=Y
 have IY:Inv Y [] (inner ix σ) H {s with heap:=h₁,toks:=s.toks+([]:List (Str×Value)).length}:=by
  rw[←aN]
  exact inv_blkG B I3 fpx fplt rfl hns₁ hz₁ k1 rfl rfl
 have Yg:=aN▸hg g2.objs.size (D::fp) {s with heap:=g2} H
 have Yt:=aN▸ht g2.objs.size (D::fp) {s with heap:=g2} H
 have Ye:=aN▸he g2.objs.size (D::fp) {s with heap:=g2} H
 have eP:Y.prog=X.prog:=by rw[←aN];rfl
 have eW:Y.w=X.w:=by rw[←aN];rfl
 have eK:Y.K=X.K:=by rw[←aN];rfl
 have eA:Y.A=X.A:=by rw[←aN];rfl
 have eC:Y.calm=true:=by rw[←aN];exact hc
 have eE:Y.env=compEnvC sc (ocl oz g2.objs.size (clOf sc X.env)) g2.objs.size X.env:=by rw[←aN];rfl
 have eX:Y.xe=λ_ _=>False:=by rw[←aN];rfl
 have eEx:Y.ex=D::fp:=by rw[←aN];rfl
 have eFs:Y.fs=frs X.stack:=by rw[←aN];rfl
 have ePn:Y.pn=X.pn++a7:=by rw[←aN];rfl
 have eL:Y.env.locals=g2.objs.size:=by rw[eE];rfl
 have tZ:Y.H₀=H:=by rw[←aN];rfl
 have oB:Y.s₀={s with heap:=g2}:=by rw[←aN];rfl
 have fY:∀{H':Hp} {pl:Nd} {b:Nc},b∈D::fp→H' b=none→(∀p∈pl,p.1≠b)→FpOk Y pl H' b:=λ{H' pl b} hb hn hp=>by
  obtain⟨f0,f1,f2,f3,f4,f5⟩:=fpx b hb
  refine⟨hn,?_,?_,.inl (by rw[eEx];exact hb),IY.ok.exf b (by rw[eEx];exact hb) |>.2,λp dF=>?_⟩
  ·rw[eL];exact Zc (fplt b hb)
  ·rw [eFs]
   intro z
   rcases Qe.mp (I3.stkSub b z) with q | q
   ·exact f1 q
   ·exact f2 q
  ·rw [ePn] at dF
   rcases Qf.mp dF with z | z
   ·exact f5 p z
   ·exact hp p z
 obtain⟨W,⟨m0,w0⟩,turn⟩:=q
 have loop:∀ sN:Shared,sN={ s with heap:=h₁,toks:=s.toks+([]:List (Str×Value)).length } →
   codeAny (model X.prog X.w) X.A (.compLoop (.ListComp elt [⟨tg,iter,ifs,0⟩] sc pos) 0 (.ref it) (.ref D) (compEnvC sc (ocl oz g2.objs.size (clOf sc X.env)) g2.objs.size X.env)) (RR (.ref D) g2.objs.size) sN:=by
  rintro sN rfl
  refine compLoop_any (λn s'=>Ex6 λi τ H' ys a8 k=>Aj7 (Inv Y [] τ H' s') (tn i s'.heap) (∀b∈D::fp,H' b=none) (s'.heap.get? D=some {cls:=.type "list",data:=.seq (a8:Ni).toArray k}) (Vals ys a8) (ys.length≤sizeLine) (W i n ys τ H')) ?_ m0
   ⟨0,inner ix σ,H,[],[],0,IY,T.keep _ _ _ h0 λb _ o e=>k1 b o (k2 b o e),λb hb=>(fpx b hb).1,k1 _ _ D2,.nil,Zf _,w0⟩
  rintro n s5 ⟨i,τ,H5,ys,a8,k,I5,t5,n5,d5,v5,z5,w5⟩
  have oD:∀{s':Nh} {its':Ni} {k':Nat},s'.heap.get? D=some {cls:=.type "list",data:=.seq its'.toArray k'}→∀b∈[D],∃o,s'.heap.get? b=some o∧∀v,o.data≠.cell v:=λ{s' its' k'} e b hb=>by
   rw[Qb.mp hb]
   exact⟨_,e,λv z=>by cases z⟩
  have kQ:Inv Y ([]++zcq [D] s5.heap) τ H5 s5:=I5.pinned (λb hb=>fY (by rw[Qb.mp hb];exact Qc) (n5 b (by rw[Qb.mp hb];exact Qc)) (by simp)) (oD d5)
  have pD:∀p∈zcq [D] s5.heap,p.1=D∧p.2={cls:=.type "list",data:=.seq a8.toArray k}:=λp hp=>by
   obtain⟨e1,e2⟩:=zf4 hp
   have e7:p.1=D:=Qb.mp e1
   rw[e7,d5]at e2
   exact⟨e7,(Qk e2).symm⟩
  have fN:∀{H':Hp},(∀b∈fp,H' b=none)→∀b∈fp,FpOk Y ([]++zcq [D] s5.heap) H' b:=λhn b hb=>fY (Qg _ hb) (hn b hb) λp hp z=>by
   rw[Jv]at hp
   rw[(pD p hp).1]at z
   exact fpD (z▸hb)
  rcases turn i n ys τ H5 w5 with⟨stop,qn⟩ | ⟨go,zl,step⟩
  ·have h6:=T.done Y eP eW eK eC i _ s5 τ H5 (fun _ _=>False) kQ (fN fun b hb=>n5 b (Qg _ hb)) t5 stop
   rw[eA]at h6
   refine thn h6 λr s6 ⟨hr,I6⟩=>?_
   subst hr
   have d6:s6.heap.get? D=some {cls:=.type "list",data:=.seq a8.toArray k}:=by
    have hp:=zb0 (fp:=[D]) (Qb.mpr rfl) d5
    exact(I6.pin (D,_) (Qo _ hp)).1
   have H5D:H5 D=none:=n5 D Qc
   obtain⟨mL,nL,_⟩:=I6.loc
   rw[eL]at nL
   have CD:g2.objs.size≠D:=by rw[hC];exact Ks _
   refine o9 D _ mL ys H5 s6 ?_ (qn D H5D) nL ?_ (by rw[hC,hD];exact Yu _)
   ·have u6:=I6.base
    rw[eFs,eEx,tZ,oB]at u6
    refine I3.call' (ch:=D::fp) (I6.os.trans (by rw[oB])) ⟨u6.keep,u6.slot,λb o e n hx=>?_,u6.there,λb xs e=>?_,λb o u e=>?_,λb ps e=>?_⟩ ?_ I6.bare λb hb=>?_
    ·rw[zad (λz=>hx (by rw[z];exact Qc))];exact u6.free b o e n hx
    ·rw[zad (zaa e HD)];exact u6.tups b xs e
    ·rw[zad (zaa e HD)];exact u6.frzs b o u e
    ·rw[zad (zaa e HD)];exact u6.tbls b ps e
    ·have lI:=I6.hok
     rw[eP,eW]at lI
     intro b u e
     by_cases hb:b=D
     ·subst hb
      rw[zac]at e
      cases e
      exact⟨z5,a8,k,v5,d6⟩
     ·rw [zad hb] at e
      exact(lI b u e).stay (λc v _ q=>q) (λc q=>by rw[zad (zaa q H5D)];exact q) λc xs q=>by rw[zad (zaa q H5D)];exact q
    ·obtain ⟨f0,f1,f2,f3,f4,f5⟩:=fpx b hb
     exact⟨f3,f1,f4,f5⟩
   ·rw [zad CD]
    have:=I6.free
    rw[eL]at this
    exact this
  ·have h6:=T.item Y eP eW eK eC i _ s5 τ H5 (fun _ _=>False) kQ (fN fun b hb=>n5 b (Qg _ hb)) t5 go
   rw[eA]at h6
   refine thn h6 λr s6 ⟨u,hr,h7⟩=>?_
   subst hr
   refine thn h7 λ_ s7 ⟨x,H7,I7,r7,y7,t7,n7⟩=>?_
   have uy:=I7.pinned (fN n7) (T.obj _ _ t7)
   have h8:=Yg _ s7 τ H7 x u _ uy r7 (step x H7 y7)
   rw[eP,eW,eA,eX,eE]at h8
   refine thn h8 λ_ s8 ⟨τ8,H8,I8,q8⟩=>?_
   have h9:=Yt _ s8 τ8 H8 _ I8 q8
   rw[eP,eW,eA,eX,eE]at h9
   refine thn h9 λok s9 ⟨H9,I9,q9⟩=>?_
   have again:∀{τ':St} {H':Hp} {s':Nh},Inv Y (([]++zcq [D] s5.heap)++zcq fp s7.heap) τ' H' s'→s'.heap.get? D=some {cls:=.type "list",data:=.seq a8.toArray k}∧H' D=none∧tn (i+1) s'.heap∧∀b∈fp,H' b=none:=λ{τ' H' s'} I'=>by
    have pp:∀{b:Nc} {o:Obj},b∈fp→s7.heap.get? b=some o→s'.heap.get? b=some o∧H' b=none:=λ{b o} hb e =>
     let z:=I'.pin (b,o) (Qo _ (Qo _ (zb0 hb e)))
     ⟨z.1,z.2.1⟩
    have hp:=zb0 (fp:=[D]) (Qb.mpr rfl) d5
    have z:=I'.pin (D,_) (Qo _ (Qn _ hp))
    refine⟨z.1,z.2.1,T.keep _ _ _ t7 λb hb o e=>(pp hb e).1,λb hb=>?_⟩
    obtain⟨o,e,_⟩:=T.obj _ _ t7 b hb
    exact(pp hb e).2
   have drop:∀{pl:Nd} {τ':St} {H':Hp} {s':Nh},Inv Y pl τ' H' s'→Inv Y [] τ' H' s':=λI'=>I'.pins_of (by simp)
   cases ok with
   |false =>
    rw[if_neg (by decide)]at q9 ⊢
    obtain⟨m',hm,w9⟩:=q9
    obtain⟨d9,H9D,t9,n9⟩:=again I9
    exact⟨m',hm,i+1,τ8,H9,ys,a8,k,drop I9,t9,λb hb=>(Qe.mp hb).elim (λe=>e▸H9D) (n9 b),d9,v5,z5,w9⟩
   | true =>
    rw[if_pos rfl]at q9 ⊢
    have iG:=Ye _ s9 τ8 H9 _ I9 q9
    rw[eP,eW,eA,eX,eE]at iG
    refine thn iG λy jj ⟨yv,cZ,qb,oM,m',hm,w10⟩=>?_
    obtain⟨u5,H10D,t10,n10⟩:=again qb
    refine call_meets F.slot_list_append ⟨_,u5,rfl⟩ F.entry_list_append (F.args_list_append_2 _ _) (PySem.list_append D a8.toArray k y (by rw[Qy,←v5.length];assumption)) ⟨u5,?_⟩
    have q:=PySem.IsL.update u5 (λa=>a.push y)
    have u3:(a8.toArray.push y)=(a8++[y]).toArray:=by simp
    rw[u3]at q
    have kk:∀b o,b≠D→jj.heap.get? b=some o→(jj.heap.update D (Obj.mapSeq λa=>a.push y)).get? b=some o:=λb o hb e=>(Ue jj.heap (Obj.mapSeq λa=>a.push y) (Zb hb)).trans e
    obtain⟨g0,g1,g2',g3,g4,g5⟩:=fY (pl:=[]) (H':=cZ) (b:=D) Qc H10D (by simp)
    have qa:=(drop qb).turned (h':=jj.heap.update D (Obj.mapSeq λa=>a.push y)) (t':=jj.toks) (it:=D) kk H10D g1 g3 g4 g5
    exact⟨m',hm,i+1,τ8,cZ,ys++[yv],a8++[y],_,qa,T.keep _ _ _ t10 λb hb o e=>kk b o (λz=>fpD (z▸hb)) e,λb hb=>(Qe.mp hb).elim (λe=>e▸H10D) (n10 b),q,v5.append (.cons oM .nil),
     by rw[Qq,Xe];assumption,w10⟩
 exact codeAny_compStart_list (loop _ rfl) (T.self _ 0 _ _ _ (T.keep _ _ _ h0 λb _ o e=>k1 b o (k2 b o e)) (loop _ rfl))
def lc_block{tg elt iter:Expr}{ifs:Np}{pos:Pos}{g:TG}{tc:TT}{te:TE}{fp:Nk}{it:Nc}{tn:Nat→Heap→Prop}{J:It}{Q:VK}{RR:Value→Addr→Result→Shared→Prop}{E:Na}(B:Blk X sc M ix)(hc:X.calm=true)(hg:∀C ex s H,PG (zc2 X sc M C a7 ex s H) tg g)(ht:∀C ex s H,PTs (zc2 X sc M C a7 ex s H) ifs tc)(he:∀C ex s H,PE (zc2 X sc M C a7 ex s H) elt te)(I:Inv X a7 σ H s)(T:Turn X.prog X.w X.K tg J fp it tn)(h0:tn 0 s.heap)(hf:∀b∈fp,FpOk X a7 H b)(q:rLC g tc te Q J (inner ix σ) H)(o9:∀D C m ys H' s',Inv X a7 σ (upd H' D (.lst ys)) s'→Q (.ref D) (upd H' D (.lst ys))→s'.heap.Ns C m→upd H' D (.lst ys) C=none→s.heap.objs.size<C→RR (.ref D) C (.ok .next) s') :
  wpAny (model X.prog X.w) X.A (newList []) (λai s₃=>wpAny (model X.prog X.w) X.A (newFunctionEnv sc X.env.globals (clOf sc X.env) [] X.env.qual none .none (some X.env)) (λcenv s₄ =>
   codeAny (model X.prog X.w) X.A (.compStart (.ListComp elt [⟨tg,iter,ifs,0⟩] sc pos) 0 (.ref it) ai {cenv with scope:=relabel sc X.env}) (RR ai cenv.locals) s₄) E s₃) E s:=lc_blockG B.g hc hg ht he I T h0 hf q o9
def Inv.letgo{C:Nc}{m:Ng}{h':Nm}{s₀:Nm}(I:Inv X a7 σ H s)(hn:s.heap.Ns C m)(hC:H C=none)(ag:X.env.locals<s₀.objs.size)(gI:∀x c,X.env.cells.lookup x=some c→c<s₀.objs.size)(hp:∀p∈X.pn++a7,p.1<s₀.objs.size)(aL:X.s₀.heap.objs.size≤s₀.objs.size)(hc:s₀.objs.size<C)(hs:Heap.SameBut C s.heap h'):Inv X a7 σ H {s with heap:=h'} :=
 I.turned (t':=s.toks) (it:=C) (λb o hb e=>(hs.2 b hb).trans e) hC (Yc (Wn ag hc)) (.inr (Zn aL (Ug hc))) (λx c e=>Zc (Wn (gI x c e) hc)) λp q=>Zc (Wn (hp p q) hc)
def Inv.cl_lt(I:Inv X a7 σ H s):∀x c,X.env.cells.lookup x=some c→c<s.heap.objs.size:=λx c e=>by
 obtain⟨v,q⟩:=I.cell x c e
 exact q.lt
def Inv.pin_lt(I:Inv X a7 σ H s):∀p∈X.pn++a7,p.1<s.heap.objs.size:=λp hp=>Qt (I.pin p hp).1
def pe_lcC{tg elt iter:Expr}{ifs:Np}{pos:Pos}{wi:TI}{g:TG}{tc:TT}{te:TE}(B:BlkG X sc oz M ix)(hc:X.calm=true)(hi:PI X tg iter wi)(hg:∀C a7 ex s H,PG (zen X sc oz M C a7 ex s H) tg g)(ht:∀C a7 ex s H,PTs (zen X sc oz M C a7 ex s H) ifs tc)(he:∀C a7 ex s H,PE (zen X sc oz M C a7 ex s H) elt te)(hs:∀x,foldedSetIterable iter X.env x=pure x:=by intro _;rfl):PE X (.ListComp elt [⟨tg,iter,ifs,0⟩] sc pos) (tLC ix wi g tc te):=by
 intro a7 s σ H Q I h
 rw[eval_ListComp]
 refine wpAny_comprehension_free (use:=none) rfl hs (zcp (B.clos I)) B.kind B.names (thn (hi a7 s σ H _ I h) λv s1 h1=>thn h1 λitv s2 h2=>?_)
 obtain⟨it,fp,tn,J,H2,e,I2,T,bZ,f2,q⟩:=h2
 subst e
 refine lc_blockG (RR:=λai C=>compPost (model X.prog X.w) X.A X.xe none (EP X a7 σ Q) ai C) B hc (hg · a7) (ht · a7) (he · a7) I2 T bZ f2 q ?_
 intro D C m ys H' s' I' q' hn hC ag
 refine⟨m,hn,λh' aU=>⟨.ref D,_,I'.letgo hn hC I2.lt I2.cl_lt I2.pin_lt I2.sz ag aU,rfl,q'⟩⟩
def zh4{tg elt iter:Expr}{ifs:Np}{pos:Pos}{wi:TI}{g:TG}{tc:TT}{te:TE}(B:Blk X sc M ix)(hc:X.calm=true)(hi:PI X tg iter wi)(hg:∀C a7 ex s H,PG (zc2 X sc M C a7 ex s H) tg g)(ht:∀C a7 ex s H,PTs (zc2 X sc M C a7 ex s H) ifs tc)(he:∀C a7 ex s H,PE (zc2 X sc M C a7 ex s H) elt te)(hs:∀x,foldedSetIterable iter X.env x=pure x:=by intro _;rfl):PE X (.ListComp elt [⟨tg,iter,ifs,0⟩] sc pos) (tLC ix wi g tc te):=pe_lcC B.g hc hi hg ht he hs
def ps_lc{i:Nat}{y:Str}{tg elt iter:Expr}{ifs:Np}{pos spos py:Pos}{wi:TI}{g:TG}{tc:TT}{te:TE}(hN:X.N.Nodup)(du:X.N[i]?=some y)(hy:X.env.scope.names.lookup y=some .local)(B:Blk X sc M ix)(hc:X.calm=true)(hi:PI X tg iter wi)(hg:∀C a7 ex s H,PG (zc2 X sc M C a7 ex s H) tg g)(ht:∀C a7 ex s H,PTs (zc2 X sc M C a7 ex s H) ifs tc)(he:∀C a7 ex s H,PE (zc2 X sc M C a7 ex s H) elt te)(l6:swapsWith (.ListComp elt [⟨tg,iter,ifs,0⟩] sc pos) (some (.Name y py)) spos.line X.env=pure true)(hs:∀x,foldedSetIterable iter X.env x=pure x:=by intro _;rfl):PS X (.Assign [.Name y py] (.ListComp elt [⟨tg,iter,ifs,0⟩] sc pos) spos) (tAsg (tLC ix wi g tc te) (gName i)):=by
 intro a7 s σ H D' I h
 rw[exec_Assign_Name_used _ _ _ _ l6]
 refine wpAny_bind (wpAny_standAt (wpAny_bind ?_))
 show wpAny _ X.A (do let _ ←comprehension (.ListComp elt [⟨tg,iter,ifs,0⟩] sc pos) sc X.env _ (newList []) false (eval iter X.env) (some (assign (.Name y py) X.env))) _ _ s
 refine wpAny_bind (wpAny_mono (wpAny_comprehension_free (use:=some (assign (.Name y py) X.env)) (Q:=λ_ s'=>SP X a7 D' .next s') rfl hs (zcp (B.clos I)) B.kind B.names
  (thn (hi a7 s σ H _ I h) λv s1 h1=>thn h1 λitv s2 h2=>?_)) (λ_ s' hq=>wpAny_pure (wpAny_pure hq)) λ_ _ e=>e)
 obtain⟨it,fp,tn,J,H2,e,I2,T,bZ,f2,q⟩:=h2
 subst e
 refine lc_block (RR:=λai C=>compPost (model X.prog X.w) X.A X.xe (some (assign (.Name y py) X.env)) (λ_ s'=>SP X a7 D' .next s') ai C) B hc (hg · a7) (ht · a7) (he · a7) I2 T bZ f2 q ?_
 intro D C m ys H' s' I' q' hn hC ag
 show wpAny _ X.A (assign (.Name y py) X.env (.ref D)) _ _ s'
 refine wpAny_assign_Name (zft I' hN du (.inl hy) (v:=.ref D) rfl (λlH uz ⟨a,sb,ha⟩=>?_) (.inr hy))
 have aC:C≠a:=by
  rcases ha with z | z
  ·rw[z];exact Yc (Wn I2.lt ag)
  ·exact Yc (Wn (I2.cl_lt _ _ z) ag)
 have bm:=hn.sameBut sb aC
 exact⟨m,bm,λh' aU=>⟨_,_,uz.letgo bm hC I2.lt I2.cl_lt I2.pin_lt I2.sz ag aU,q'⟩⟩
end
end L2
end
section
namespace Tm
open PySem PyProof.Rows
def gallopT:Bool→Keyed→Array Keyed→Nat→Nat→Nat→StateT SortSt Sem (Option Nat):=sortPriv% PySem.Builtin.gallop
def mergeLoT:Array Keyed→Array Keyed→StateT SortSt Sem (Array Keyed):=sortPriv% PySem.Builtin.mergeLo
def mergeHiT:Array Keyed→Array Keyed→StateT SortSt Sem (Array Keyed):=sortPriv% PySem.Builtin.mergeHi
section
variable{σ α β:Type}{M:Model}{A:Nn}{E:Na}{s:Nh}{Q:α→σ→Prop}{st:σ}{c:Prop}[Decidable c]
def zcz{m:StateT σ Sem α}(h:∀Q0:α→σ→Prop,(∀r ae,Q r ae→Q0 r ae)→wpS M A E s m Q0 st):wpS M A E s m Q st:=h Q λ_ _ z=>z
def jp_if{f:Unit→β→StateT σ Sem α}{x y:β}(h:∀z,wpS M A E s (f () z) Q st):wpS M A E s (if c then f () x else f () y) Q st:=by
 split
 ·exact h _
 ·exact h _
def zao{x y:StateT σ Sem α}(h1:c→wpS M A E s x Q st)(h2:¬c→wpS M A E s y Q st):wpS M A E s (if c then x else y) Q st:=by
 split
 next z=>exact h1 z
 next z=>exact h2 z
end
section
variable{prog:Nj}{w:Nl}{A:Nn}{E:Na}{s:Nh}{kd:SortKind}{a₀:Array Keyed}
def Cmp(prog:Nj)(w:Nl)(A:Nn)(E:Na)(s:Nh)(kd:SortKind)(a₀:Array Keyed):Prop :=
 ∀(x y:Keyed) (st:SortSt) (Q:Option Bool→SortSt→Prop),x∈a₀.toList→y∈a₀.toList→kindOf st=kd→(∀b,Q (some b) st)→wpS (model prog w) A E s (lt' x y) Q st
def Of(a₀ xs:Array Keyed):Prop:=∀(i:Nat) (p:Keyed),xs[i]?=some p→p∈a₀.toList
def za2{arr:Array Keyed}{i:Nat}{p:Keyed}{Q:Keyed→SortSt→Prop}{st:SortSt}(h:arr[i]?=some p)(q:Q p st):wpS (model prog w) A E s (elem' arr i) Q st:=by
 rw[elem'_eq,h];exact wpS_pure q
def beyondT(left:Bool)(ky:Keyed)(arr:Array Keyed)(i:Nat):StateT SortSt Sem (Option Bool):=do
 let x ←elem' arr i
 if left=true then lt' x ky else do
  let r ←lt' ky x
  pure (r.map λz=>!z)
def wpS_beyond{left:Bool}{ky:Keyed}{arr:Array Keyed}{i:Nat}{Q:Option Bool→SortSt→Prop}{st:SortSt}(C:Cmp prog w A E s kd a₀)(hk:kindOf st=kd)(hO:Of a₀ arr)(hy:ky∈a₀.toList)(hi:i<arr.size)(q:∀b,Q (some b) st):wpS (model prog w) A E s (beyondT left ky arr i) Q st:=by
 have e:=getElem?_pos arr i hi
 unfold beyondT
 refine wpS_bind (za2 e ?_)
 have m:=hO _ _ e
 cases left with
 |true=>exact C _ _ _ _ m hy hk q
 |false=>exact wpS_bind (C _ _ _ _ hy m hk λb=>wpS_pure (q _))
def zcj{left:Bool}{ky:Keyed}{arr:Array Keyed}{base n hint:Nat}{Q:Option Nat→SortSt→Prop}{st:SortSt}(C:Cmp prog w A E s kd a₀)(hk:kindOf st=kd)(hO:Of a₀ arr)(hy:ky∈a₀.toList)(hb:base+n≤arr.size)(hh:hint<n)(h:∀k,k≤n→Q (some k) st):wpS (model prog w) A E s (gallopT left ky arr base n hint) Q st:=by
 have ask:∀{i:Nat} {Q':Option Bool→SortSt→Prop},i<n→(∀b,Q' (some b) st)→wpS (model prog w) A E s (beyondT left ky arr (base+i)) Q' st:=λ{i Q'} hi q=>wpS_beyond C hk hO hy (by omega) q
 have last:∀(f:Nat→(Option (Option Nat)×Nat×Nat)→StateT SortSt Sem (ForInStep (Option (Option Nat)×Nat×Nat))) (lo hi:Nat),lo≤hi→hi≤n →
   (∀x l r Q',l≥r→Q' (ForInStep.done (none,l,r)) st→wpS (model prog w) A E s (f x (none,l,r)) Q' st) →
   (∀x l r Q',¬l≥r→r≤n→Q' (ForInStep.yield (none,l+(r-l)/2+1,r)) st→Q' (ForInStep.yield (none,l,l+(r-l)/2)) st→wpS (model prog w) A E s (f x (none,l,r)) Q' st) →
   wpS (model prog w) A E s (forIn [:n] (none,lo,hi) f) (λc ae=>ae=st∧∃k,c=(none,k,k)∧k≤n) st:=by
  intro f lo hi h1 h2 f1 f2
  refine wpS_forRange (I:=λx c ae=>Aj2 (ae=st) (Ex2 λl r=>Aj4 (c=(none,l,r)) (l≤r) (r≤n) (r-l≤n-x))) ?step ?fin ?init
  case init=>exact⟨rfl,lo,hi,rfl,h1,h2,by omega⟩
  case fin =>
   rintro c ae ⟨rfl,l,r,rfl,a1,a2,a3⟩
   have:l=r:=by omega
   subst this
   exact⟨rfl,l,rfl,a2⟩
  case step =>
   rintro x c ae _ hx ⟨rfl,l,r,rfl,a1,a2,a3⟩
   by_cases dU:l≥r
   ·refine f1 x l r _ dU ?_
    have:l=r:=Nat.le_antisymm a1 dU
    subst this
    exact⟨rfl,l,rfl,a2⟩
   ·exact f2 x l r _ dU a2 ⟨rfl,_,_,rfl,by omega,a2,by omega⟩ ⟨rfl,_,_,rfl,Yh _ _,by omega,by omega⟩
 unfold gallopT
 refine wpS_bind (ask (i:=hint) hh λb0=>?_)
 cases b0 with
 | true =>
  refine wpS_bind (wpS_mono (wpS_forRange
   (I:=λx c ae=>Aj2 (ae=st) (Ex2 λla of=>Aj4 (c=(none,la,of)) (hint+la<n) (la<of) (x<of)))
   (Q:=λc ae=>Aj2 (ae=st) (Ex2 λla of=>Aj3 (c=(none,la,of)) (hint+la<n) (la<of))) ?step ?fin ?init) ?post)
  case init=>exact⟨rfl,0,1,rfl,hh,Qi _,Qi _⟩
  case fin =>
   rintro c ae ⟨rfl,la,of,rfl,a2,a3,a4⟩
   exact⟨rfl,la,of,rfl,a2,a3⟩
  case step =>
   rintro x c ae _ hx ⟨rfl,la,of,rfl,a2,a3,a4⟩
   dsimp only
   refine zao (λ_=>wpS_pure ⟨rfl,la,of,rfl,a2,a3⟩) λdU=>wpS_bind (ask (i:=hint+of) (by omega) λb=>?_)
   cases b with
   |true=>exact wpS_pure ⟨rfl,of,2*of+1,rfl,by omega,by omega,by omega⟩
   |false=>exact wpS_pure ⟨rfl,la,of,rfl,a2,a3⟩
  case post =>
   rintro c ae ⟨rfl,la,of,rfl,a2,a3⟩
   refine wpS_bind (wpS_mono (last _ (hint+la+1) (hint+min of (n-hint)) (by omega) (by omega) ?_ ?_) ?_)
   ·intro x l r Q' dU q
    exact zao (λ_=>wpS_pure q) λz=>absurd dU z
   ·intro x l r Q' dU hr q1 q2
    refine zao (λz=>absurd z dU) λ_=>wpS_bind (ask (i:=l+(r-l)/2) (by omega) λb=>?_)
    cases b with
    |true=>exact wpS_pure q1
    |false=>exact wpS_pure q2
   ·rintro c ae ⟨rfl,k,rfl,b1⟩
    exact wpS_pure (h k b1)
 | false =>
  refine wpS_bind (wpS_mono (wpS_forRange
   (I:=λx c ae=>Aj2 (ae=st) (Ex2 λla of=>Aj4 (c=(none,la,of)) (la≤hint) (la<of) (x<of)))
   (Q:=λc ae=>Aj2 (ae=st) (Ex2 λla of=>Aj3 (c=(none,la,of)) (la≤hint) (la<of))) ?step ?fin ?init) ?post)
  case init=>exact⟨rfl,0,1,rfl,Zf _,Qi _,Qi _⟩
  case fin =>
   rintro c ae ⟨rfl,la,of,rfl,a2,a3,a4⟩
   exact⟨rfl,la,of,rfl,a2,a3⟩
  case step =>
   rintro x c ae _ hx ⟨rfl,la,of,rfl,a2,a3,a4⟩
   dsimp only
   refine zao (λ_=>wpS_pure ⟨rfl,la,of,rfl,a2,a3⟩) λdU=>wpS_bind (ask (i:=hint-of) (by omega) λb=>?_)
   cases b with
   |true=>exact wpS_pure ⟨rfl,la,of,rfl,a2,a3⟩
   |false=>exact wpS_pure ⟨rfl,of,2*of+1,rfl,by omega,by omega,by omega⟩
  case post =>
   rintro c ae ⟨rfl,la,of,rfl,a2,a3⟩
   refine wpS_bind (wpS_mono (last _ (hint+1-min of (hint+1)) (hint-la) (by omega) (by omega) ?_ ?_) ?_)
   ·intro x l r Q' dU q
    exact zao (λ_=>wpS_pure q) λz=>absurd dU z
   ·intro x l r Q' dU hr q1 q2
    refine zao (λz=>absurd z dU) λ_=>wpS_bind (ask (i:=l+(r-l)/2) (by omega) λb=>?_)
    cases b with
    |true=>exact wpS_pure q1
    |false=>exact wpS_pure q2
   ·rintro c ae ⟨rfl,k,rfl,b1⟩
    exact wpS_pure (h k b1)
end
section
variable{prog:Nj}{w:Nl}{A:Nn}{E:Na}{s:Nh}{kd:SortKind}{a₀:Array Keyed}
variable{all out ra rb seg:List Keyed}
def Pm(all out ra rb:List Keyed):Prop:=(out++(ra++rb)).Perm all
def Pm.appA(j:Pm all out (seg++ra) rb):Pm all (out++seg) ra rb:=by
 unfold Pm at *
 rw[Qu,←Qu seg];exact j
def Pm.appB(j:Pm all out ra (seg++rb)):Pm all (out++seg) ra rb:=by
 unfold Pm at *
 rw[Qu]
 refine List.Perm.trans (Ya _ ?_) j
 rw[←Qu,←Qu]
 exact Yx.append_right _
def drop_cons{a:Array Keyed}{i:Nat}(h:i<a.size):a.toList.drop i=a[i]::a.toList.drop (i+1):=by
 rw[Ke (by simpa using h)];simp
def zc0{a:Array Keyed}{i:Nat}:(a.extract i a.size).toList=a.toList.drop i:=by
 simp[Qv]
def zgi{a:Array Keyed}{i k:Nat}(h:i+k≤a.size):(a.extract i (i+k)).toList++a.toList.drop (i+k)=a.toList.drop i:=by
 rw[Array.toList_extract,Kd]
 have:i+k-i=k:=by omega
 rw[this,←List.drop_drop,Wa]
abbrev Pa(a b o:Array Keyed)(i k:Nat):Prop:=Pm (a.toList++b.toList) o.toList (a.toList.drop i) (b.toList.drop k)
variable{a b o:Array Keyed}{i k n:Nat}
def Pa.pushA(j:Pa a b o i k)(h:i<a.size):Pa a b (o.push a[i]) (i+1) k:=by
 have:=Pm.appA (seg:=[a[i]]) (ra:=a.toList.drop (i+1)) (by rw[Xd,←drop_cons h];exact j)
 rwa[←Jj]at this
def Pa.pushB(j:Pa a b o i k)(h:k<b.size):Pa a b (o.push b[k]) i (k+1):=by
 have:=Pm.appB (seg:=[b[k]]) (rb:=b.toList.drop (k+1)) (by rw[Xd,←drop_cons h];exact j)
 rwa[←Jj]at this
def Pa.runA(j:Pa a b o i k)(h:i+n≤a.size):Pa a b (o++a.extract i (i+n)) (i+n) k:=by
 have:=Pm.appA (seg:=(a.extract i (i+n)).toList) (ra:=a.toList.drop (i+n)) (by rw[zgi h];exact j)
 show Pm _ (o++a.extract i (i+n)).toList _ _
 rw[Yb];exact this
def Pa.runB(j:Pa a b o i k)(h:k+n≤b.size):Pa a b (o++b.extract k (k+n)) i (k+n):=by
 have:=Pm.appB (seg:=(b.extract k (k+n)).toList) (rb:=b.toList.drop (k+n)) (by rw[zgi h];exact j)
 show Pm _ (o++b.extract k (k+n)).toList _ _
 rw[Yb];exact this
def Pa.end1(j:Pa a b o i k):(o++a.extract i++b.extract k).toList.Perm (a.toList++b.toList):=by
 rw[Yb,Yb,zc0,zc0,Qu];exact j
def Pa.end2(j:Pa a b o i k):(o++b.extract k++a.extract i).toList.Perm (a.toList++b.toList):=by
 rw[Yb,Yb,zc0,zc0,Qu]
 exact(Ya _ Yx).trans j
def SG(st ae:SortSt):Prop:=∃g,ae=SortSt.mk' (kindOf st) (arrOf st) (pendingOf st) g (failedOf st)
def wpS_mergeLo{Q:Array Keyed→SortSt→Prop}{st:SortSt}(C:Cmp prog w A E s kd a₀)(hk:kindOf st=kd)(oa:Of a₀ a)(ob:Of a₀ b)(ha:0 < a.size)(hb:0 < b.size)(h:∀(res:Array Keyed) (ae:SortSt),res.toList.Perm (a.toList++b.toList)→SG st ae→Q res ae):wpS (model prog w) A E s (mergeLoT a b) Q st:=by
 have ia_:∀i (hi:i<a.size),a[i]∈a₀.toList:=λi hi=>oa i _ (getElem?_pos a i hi)
 have ib_:∀i (hi:i<b.size),b[i]∈a₀.toList:=λi hi=>ob i _ (getElem?_pos b i hi)
 have ea:∀i (hi:i<a.size),a[i]?=some a[i]:=λi hi=>getElem?_pos a i hi
 have eb:∀i (hi:i<b.size),b[i]?=some b[i]:=λi hi=>getElem?_pos b i hi
 have sgk:∀{ae},SG st ae→kindOf ae=kd:=λ⟨g,e⟩=>by rw[e];exact hk
 unfold mergeLoT
 refine wpS_bind (wpS_lift (wpAny_rule ⟨rfl,?_⟩))
 refine wpS_bind (za2 (eb 0 hb) ?_)
 have j0:Pa a b (#[b[0]]:Array Keyed) 0 1:=by
  have j:Pa a b (#[]:Array Keyed) 0 0:=by show List.Perm _ _;simp
  exact j.pushB hb
 refine zao (λc1=>wpS_pure (h _ _ j0.end1 ⟨_,rfl⟩)) λc1=>zao (λc2=>wpS_pure (h _ _ j0.end2 ⟨_,rfl⟩)) λc2=>?_
 have u7:¬b.size=1:=λz=>c1 (by simp[z])
 have c2':¬a.size=1:=λz=>c2 (by simp[z])
 refine wpS_bind (wpS_get ?_)
 refine wpS_bind (wpS_mono (wpS_forRange
  (I:=λx c ae=>Aj2 (SG st ae) (Ex4 λo i k g=>Aj5 (c=(none,o,i,k,g)) (i+1<a.size) (k<b.size) (Pa a b o i k) (x≤i+k)))
  (Q:=λc ae=>Aj2 (SG st ae) (Ex2 λres r=>Aj2 (c=(some res,r)) (res.toList.Perm (a.toList++b.toList)))) ?step ?fin ?init) ?post)
 case init=>exact⟨⟨_,rfl⟩,_,0,1,_,rfl,by omega,by omega,j0,by omega⟩
 case fin =>
  rintro c ae ⟨_,o,i,k,g,rfl,a1,a2,a3,a4⟩
  exfalso;omega
 case post =>
  rintro c ae ⟨g,res,r,rfl,m⟩
  exact wpS_pure (h res ae m g)
 case step =>
  rintro x c bd _ hx ⟨g1,o1,i1,k1,mg,rfl,a1,a2,a3,a4⟩
  dsimp -zeta only
  refine wpS_bind (wpS_mono (wpS_forRange
   (I:=λy c ae=>Aj2 (ae=bd) (Ex5 λo i k ac bc=>Aj5 (c=(none,o,i,k,ac,bc)) (i+1<a.size) (k<b.size) (Pa a b o i k) (i1+k1+y≤i+k)))
   (Q:=λc ae=>Aj2 (ae=bd) ((Ex2 λres r=>Aj2 (c=(some res,r)) (res.toList.Perm (a.toList++b.toList)))∨Ex5 λo i k ac bc=>Aj5 (c=(none,o,i,k,ac,bc)) (i+1<a.size) (k<b.size) (Pa a b o i k) (i1+k1<i+k))) ?step1 ?fin1 ?init1) ?post1)
  case init1=>exact⟨rfl,o1,i1,k1,0,0,rfl,a1,a2,a3,Qi _⟩
  case fin1 =>
   rintro c ae ⟨_,o,i,k,ac,bc,rfl,b1,b2,b3,b4⟩
   exfalso;omega
  case step1 =>
   rintro y c bZ _ hy ⟨rfl,o,i,k,ac,bc,rfl,b1,b2,b3,b4⟩
   have pY:i<a.size:=by omega
   dsimp -zeta only
   refine wpS_bind (za2 (eb k b2) (wpS_bind (za2 (ea i pY) (wpS_bind (C _ _ _ _ (ib_ k b2) (ia_ i pY) (sgk g1) λe=>?_)))))
   dsimp -zeta only
   refine zao (λ_=>?_) (λ_=>?_)
   ·refine wpS_bind (za2 (eb k b2) ?_)
    have j:=b3.pushB b2
    refine zao (λ_=>wpS_pure ⟨rfl,.inl ⟨_,_,rfl,j.end1⟩⟩) λd1=>?_
    have oC:¬k+1=b.size:=λz=>d1 (beq_iff_eq.mpr z)
    exact zao (λ_=>wpS_pure ⟨rfl,.inr ⟨_,i,k+1,_,_,rfl,b1,by omega,j,by omega⟩⟩) λ_=>wpS_pure ⟨rfl,_,i,k+1,_,_,rfl,b1,by omega,j,by omega⟩
   ·refine wpS_bind (za2 (ea i pY) ?_)
    have j:=b3.pushA pY
    refine zao (λ_=>wpS_pure ⟨rfl,.inl ⟨_,_,rfl,j.end2⟩⟩) λd1=>?_
    have oC:¬i+1+1=a.size:=λz=>d1 (beq_iff_eq.mpr z)
    exact zao (λ_=>wpS_pure ⟨rfl,.inr ⟨_,i+1,k,_,_,rfl,by omega,b2,j,by omega⟩⟩) λ_=>wpS_pure ⟨rfl,_,i+1,k,_,_,rfl,by omega,b2,j,by omega⟩
  case post1 =>
   rintro c bZ ⟨rfl,⟨res,r,rfl,m⟩ | ⟨o2,i2,k2,ac2,bc2,rfl,b1,b2,b3,b4⟩⟩
   ·exact wpS_pure ⟨g1,res,_,rfl,m⟩
   dsimp -zeta only
   refine wpS_bind (wpS_lift (wpAny_rule ⟨rfl,?_⟩))
   refine wpS_bind (wpS_mono (wpS_forRange
    (I:=λy c ae=>Aj2 (SG st ae) (Ex6 λo i k g ac bc=>Aj5 (c=(none,o,i,k,g,ac,bc)) (i+1<a.size) (k<b.size) (Pa a b o i k) (i2+k2≤i+k)))
    (Q:=λc ae=>Aj2 (SG st ae) ((Ex2 λres r=>Aj2 (c=(some res,r)) (res.toList.Perm (a.toList++b.toList)))∨Ex6 λo i k g ac bc=>Aj5 (c=(none,o,i,k,g,ac,bc)) (i+1<a.size) (k<b.size) (Pa a b o i k) (i2+k2≤i+k))) ?step2 ?fin2 ?init2) ?post2)
   case init2=>exact⟨g1,o2,i2,k2,_,_,_,rfl,b1,b2,b3,Qi _⟩
   case fin2 =>
    rintro c ae ⟨g,o,i,k,g',ac,bc,rfl,c1,c2,c3,c4⟩
    exact⟨g,.inr ⟨o,i,k,g',ac,bc,rfl,c1,c2,c3,c4⟩⟩
   case post2 =>
    rintro c ax ⟨g3,⟨res,r,rfl,m⟩ | ⟨o3,i3,k3,g',ux,u8,rfl,c1,c2,c3,c4⟩⟩
    ·exact wpS_pure ⟨g3,res,_,rfl,m⟩
    dsimp -zeta only
    refine wpS_bind (wpS_modify ?_)
    obtain⟨gg,e3⟩:=g3
    exact wpS_pure ⟨⟨_,by rw[e3]⟩,o3,i3,k3,_,rfl,c1,c2,c3,by omega⟩
   case step2 =>
    rintro y c ax _ hy ⟨g3,o3,i3,k3,mg3,ux,u8,rfl,c1,c2,c3,c4⟩
    refine zcz λQ0 bw=>?_
    dsimp -zeta only
    have sgm:∀g',SG st (SortSt.mk' (kindOf ax) (arrOf ax) (pendingOf ax) g' (failedOf ax)):=λg'=>by
     obtain⟨g,e⟩:=g3
     exact⟨g',by rw[e]⟩
    extract_lets -underBinder +onlyGivenNames s1 out s2 ia s3 ib s4 mn s5 ac bc jp
    refine jp_if (f:=jp) λm'=>?_
    refine wpS_bind (wpS_modify ?_)
    refine wpS_bind (za2 (eb k3 c2) ?_)
    refine wpS_bind (zcj (base:=i3) (n:=a.size-i3) (hint:=0) C (sgk (sgm _)) oa (ib_ k3 c2) (by omega) (by omega) λk q1=>?_)
    dsimp -zeta only
    have jr:=c3.runA (n:=k) (by omega)
    extract_lets -underBinder +onlyGivenNames ac' jp2
    have h2:∀(n':Nat) (o':Array Keyed) (f1:n'+1<a.size),i3≤n'→Pa a b o' n' k3→wpS (model prog w) A E s (jp2 () o' n') Q0 (SortSt.mk' (kindOf ax) (arrOf ax) (pendingOf ax) m' (failedOf ax)):=by
     intro n' o' f1 f2 fJ
     have f0:n'<a.size:=by omega
     refine wpS_bind (za2 (eb k3 c2) ?_)
     have fK:=fJ.pushB c2
     refine zao (λ_=>wpS_pure (bw _ _ ⟨sgm _,.inl ⟨_,_,rfl,fK.end1⟩⟩)) λd=>?_
     have d':¬k3+1=b.size:=λz=>d (beq_iff_eq.mpr z)
     refine wpS_bind (za2 (ea n' f0) ?_)
     refine wpS_bind (zcj (base:=k3+1) (n:=b.size-(k3+1)) (hint:=0) C (sgk (sgm _)) ob (ia_ n' f0) (by omega) (by omega) λk' r1=>?_)
     dsimp -zeta only
     have js:=fK.runB (n:=k') (by omega)
     extract_lets -underBinder +onlyGivenNames bc' jp3
     have h3:∀(m2:Nat) (o2:Array Keyed) (p1:m2<b.size),k3+1≤m2→Pa a b o2 n' m2→wpS (model prog w) A E s (jp3 () o2 m2) Q0 (SortSt.mk' (kindOf ax) (arrOf ax) (pendingOf ax) m' (failedOf ax)):=by
      intro m2 o2 p1 p2 pJ
      refine wpS_bind (za2 (ea n' f0) ?_)
      have pK:=pJ.pushA f0
      refine zao (λ_=>wpS_pure (bw _ _ ⟨sgm _,.inl ⟨_,_,rfl,pK.end2⟩⟩)) λd=>?_
      have d2:¬n'+1+1=a.size:=λz=>d (beq_iff_eq.mpr z)
      exact zao (λ_=>wpS_pure (bw _ _ ⟨sgm _,.inr ⟨_,n'+1,m2,_,_,_,rfl,by omega,p1,pK,by omega⟩⟩)) λ_=>wpS_pure (bw _ _ ⟨sgm _,_,n'+1,m2,_,_,_,rfl,by omega,p1,pK,by omega⟩)
     refine zao (λkz=>?_) (λkz=>?_)
     ·refine zao (fun _=>wpS_pure (bw _ _ ⟨sgm _,.inl ⟨_,_,rfl,js.end1⟩⟩)) fun d4=>?_
      have d4':¬k3+1+k'=b.size:=λz=>d4 (beq_iff_eq.mpr z)
      exact h3 (k3+1+k') _ (by omega) (Yh _ _) js
     ·exact h3 (k3+1) _ (by omega) (Qi _) fK
    refine zao (λkz=>?_) (λkz=>?_)
    ·refine zao (fun _=>wpS_pure (bw _ _ ⟨sgm _,.inl ⟨_,_,rfl,jr.end2⟩⟩)) fun d=>zao (fun _=>wpS_pure (bw _ _ ⟨sgm _,.inl ⟨_,_,rfl,jr.end1⟩⟩)) fun e=>?_
     have d':¬i3+k+1=a.size:=λz=>d (beq_iff_eq.mpr z)
     have e':¬i3+k=a.size:=λz=>e (beq_iff_eq.mpr z)
     exact h2 (i3+k) _ (by omega) (Yh _ _) jr
    ·exact h2 i3 _ c1 (Qi _) c3
end
section
variable{prog:Nj}{w:Nl}{A:Nn}{E:Na}{s:Nh}{kd:SortKind}{a₀:Array Keyed}
variable{a b o:Array Keyed}{na nb at_:Nat}
def zfo{a:Array Keyed}{n:Nat}:(a.extract 0 n).toList=a.toList.take n:=by simp
def zfi{a:Array Keyed}{i n:Nat}(hi:i≤n)(h:n≤a.size):a.toList.take i++(a.extract i n).toList=a.toList.take n:=by
 rw[Array.toList_extract,Kd]
 have e:a.toList.take i=(a.toList.take n).take i:=by rw[List.take_take];congr 1;omega
 have e2:(a.toList.drop i).take (n-i)=(a.toList.take n).drop i:=by rw[List.drop_take]
 rw[e,e2,Wa]
def Ph(a b o:Array Keyed)(na nb:Nat):Prop:=(a.toList.take na++(b.toList.take nb++o.toList)).Perm (a.toList++b.toList)
def mvA{t sg lG u r all:List Keyed}(h:((t++sg)++(u++r)).Perm all)(hs:lG.Perm sg):(t++(u++(r++lG))).Perm all:=by
 refine List.Perm.trans ?_ h
 rw[Qu,←Qu u]
 exact Ya _ ((Ya _ hs).trans Yx)
def mvB{t sg lG u r all:List Keyed}(h:(t++((u++sg)++r)).Perm all)(hs:lG.Perm sg):(t++(u++(r++lG))).Perm all:=by
 refine List.Perm.trans ?_ h
 rw[Qu]
 exact Ya _ (Ya _ ((Ya _ hs).trans Yx))
def Ph.runA(j:Ph a b o na nb)(hi:at_≤na)(h:na≤a.size):Ph a b (o++(a.extract at_ na).reverse) at_ nb:=by
 unfold Ph at *
 rw[←zfi hi h]at j
 rw[Yb,Ju]
 exact mvA j (Jh _)
def Ph.runB(j:Ph a b o na nb)(hi:at_≤nb)(h:nb≤b.size):Ph a b (o++(b.extract at_ nb).reverse) na at_:=by
 unfold Ph at *
 rw[←zfi hi h]at j
 rw[Yb,Ju]
 exact mvB j (Jh _)
def Ph.pushA(j:Ph a b o (na+1) nb)(h:na<a.size):Ph a b (o.push a[na]) na nb:=by
 unfold Ph at *
 rw[Qm (by simpa using h)]at j
 rw[Jj]
 exact mvA j (by simp)
def Ph.pushB(j:Ph a b o na (nb+1))(h:nb<b.size):Ph a b (o.push b[nb]) na nb:=by
 unfold Ph at *
 rw[Qm (by simpa using h)]at j
 rw[Jj]
 exact mvB j (by simp)
def Ph.end1(j:Ph a b o na nb):(a.extract 0 na++b.extract 0 nb++o.reverse).toList.Perm (a.toList++b.toList):=by
 rw[Yb,Yb,Ju,zfo,zfo,Qu]
 exact(Ya _ (Ya _ (Jh _))).trans j
def Ph.end2(j:Ph a b o na nb):(b.extract 0 nb++a.extract 0 na++o.reverse).toList.Perm (a.toList++b.toList):=by
 rw[Yb,Yb,Ju,zfo,zfo]
 refine List.Perm.trans ?_ j
 rw[←Qu]
 exact(Yx).append (Jh _)
def wpS_mergeHi{Q:Array Keyed→SortSt→Prop}{st:SortSt}(C:Cmp prog w A E s kd a₀)(hk:kindOf st=kd)(oa:Of a₀ a)(ob:Of a₀ b)(ha:0 < a.size)(hb:0 < b.size)(h:∀(res:Array Keyed) (ae:SortSt),res.toList.Perm (a.toList++b.toList)→SG st ae→Q res ae):wpS (model prog w) A E s (mergeHiT a b) Q st:=by
 have ia_:∀i (hi:i<a.size),a[i]∈a₀.toList:=λi hi=>oa i _ (getElem?_pos a i hi)
 have ib_:∀i (hi:i<b.size),b[i]∈a₀.toList:=λi hi=>ob i _ (getElem?_pos b i hi)
 have ea:∀i (hi:i<a.size),a[i]?=some a[i]:=λi hi=>getElem?_pos a i hi
 have eb:∀i (hi:i<b.size),b[i]?=some b[i]:=λi hi=>getElem?_pos b i hi
 have sgk:∀{ae},SG st ae→kindOf ae=kd:=λ⟨g,e⟩=>by rw[e];exact hk
 obtain⟨n0,rZ⟩:∃n0,a.size=n0+1:=⟨a.size-1,by omega⟩
 have gE:n0<a.size:=by omega
 have j0:Ph a b (#[a[n0]]:Array Keyed) n0 b.size:=by
  have j:Ph a b (#[]:Array Keyed) (n0+1) b.size:=by
   have e1:a.toList.take (n0+1)=a.toList:=Qv (by simp;omega)
   have e2:b.toList.take b.size=b.toList:=Qv (by simp)
   unfold Ph;rw[e1,e2];simp
  exact j.pushA gE
 unfold mergeHiT
 refine wpS_bind (wpS_lift (wpAny_rule ⟨rfl,?_⟩))
 have e2:a.size-1=n0:=by omega
 simp -zeta only [e2]
 refine wpS_bind (za2 (ea n0 gE) ?_)
 refine zao (λc1=>wpS_pure (h _ _ j0.end1 ⟨_,rfl⟩)) λc1=>zao (λc2=>wpS_pure (h _ _ j0.end2 ⟨_,rfl⟩)) λc2=>?_
 have u7:¬n0=0:=λz=>c1 (by simp[z])
 have c2':¬b.size=1:=λz=>c2 (by simp[z])
 refine wpS_bind (wpS_get ?_)
 obtain⟨n1,rfl⟩:∃n1,n0=n1+1:=⟨n0-1,by omega⟩
 obtain⟨m1,cx⟩:∃m1,b.size=m1+1+1:=⟨b.size-2,by omega⟩
 rw[cx]at j0
 refine wpS_bind (wpS_mono (wpS_forRange
  (I:=λx c ae=>Aj2 (SG st ae) (Ex4 λo i k g=>Aj5 (c=(none,i+1,k+1+1,o,g)) (i<a.size) (k+1<b.size) (Ph a b o (i+1) (k+1+1)) (i+k+x+4≤a.size+b.size)))
  (Q:=λc ae=>Aj2 (SG st ae) (Ex2 λres r=>Aj2 (c=(some res,r)) (res.toList.Perm (a.toList++b.toList)))) ?step ?fin ?init) ?post)
 case init=>exact⟨⟨_,rfl⟩,_,n1,m1,_,by rw[cx],by omega,by omega,j0,by omega⟩
 case fin =>
  rintro c ae ⟨_,o,i,k,g,rfl,a1,a2,a3,a4⟩
  exfalso;omega
 case post =>
  rintro c ae ⟨g,res,r,rfl,m⟩
  exact wpS_pure (h res ae m g)
 case step =>
  rintro x c bd _ hx ⟨g1,o1,i1,k1,mg,rfl,a1,a2,a3,a4⟩
  dsimp -zeta only
  refine wpS_bind (wpS_mono (wpS_forRange
   (I:=λy c ae=>Aj2 (ae=bd) (Ex5 λo i k ac bc=>Aj5 (c=(none,i+1,k+1+1,o,ac,bc)) (i<a.size) (k+1<b.size) (Ph a b o (i+1) (k+1+1)) (i+k+y≤i1+k1)))
   (Q:=λc ae=>Aj2 (ae=bd) ((Ex2 λres r=>Aj2 (c=(some res,r)) (res.toList.Perm (a.toList++b.toList)))∨Ex5 λo i k ac bc=>Aj5 (c=(none,i+1,k+1+1,o,ac,bc)) (i<a.size) (k+1<b.size) (Ph a b o (i+1) (k+1+1)) (i+k<i1+k1))) ?step1 ?fin1 ?init1) ?post1)
  case init1=>exact⟨rfl,o1,i1,k1,0,0,rfl,a1,a2,a3,Qi _⟩
  case fin1 =>
   rintro c ae ⟨_,o,i,k,ac,bc,rfl,b1,b2,b3,b4⟩
   exfalso;omega
  case step1 =>
   rintro y c bZ _ hy ⟨rfl,o,i,k,ac,bc,rfl,b1,b2,b3,b4⟩
   dsimp -zeta only
   refine wpS_bind (za2 (eb (k+1) b2) (wpS_bind (za2 (ea i b1) (wpS_bind (C _ _ _ _ (ib_ (k+1) b2) (ia_ i b1) (sgk g1) λe=>?_)))))
   dsimp -zeta only
   refine zao (λ_=>?_) (λ_=>?_)
   ·refine wpS_bind (za2 (ea i b1) ?_)
    have j:=b3.pushA b1
    refine zao (λ_=>wpS_pure ⟨rfl,.inl ⟨_,_,rfl,j.end1⟩⟩) λd1=>?_
    have oC:¬i=0:=λz=>d1 (beq_iff_eq.mpr z)
    cases i with
    |zero=>exact absurd rfl oC
    |succ i'=>exact zao (λ_=>wpS_pure ⟨rfl,.inr ⟨_,i',k,_,_,rfl,by omega,b2,j,by omega⟩⟩) λ_=>wpS_pure ⟨rfl,_,i',k,_,_,rfl,by omega,b2,j,by omega⟩
   ·refine wpS_bind (za2 (eb (k+1) b2) ?_)
    have j:=b3.pushB b2
    refine zao (λ_=>wpS_pure ⟨rfl,.inl ⟨_,_,rfl,j.end2⟩⟩) λd1=>?_
    have oC:¬k+1=1:=λz=>d1 (beq_iff_eq.mpr z)
    cases k with
    |zero=>exact absurd rfl oC
    |succ k'=>exact zao (λ_=>wpS_pure ⟨rfl,.inr ⟨_,i,k',_,_,rfl,b1,by omega,j,by omega⟩⟩) λ_=>wpS_pure ⟨rfl,_,i,k',_,_,rfl,b1,by omega,j,by omega⟩
  case post1 =>
   rintro c bZ ⟨rfl,⟨res,r,rfl,m⟩ | ⟨o2,i2,k2,ac2,bc2,rfl,b1,b2,b3,b4⟩⟩
   ·exact wpS_pure ⟨g1,res,_,rfl,m⟩
   dsimp -zeta only
   refine wpS_bind (wpS_lift (wpAny_rule ⟨rfl,?_⟩))
   refine wpS_bind (wpS_mono (wpS_forRange
    (I:=λy c ae=>Aj2 (SG st ae) (Ex6 λo i k g ac bc=>Aj5 (c=(none,i+1,k+1+1,o,g,ac,bc)) (i<a.size) (k+1<b.size) (Ph a b o (i+1) (k+1+1)) (i+k≤i2+k2)))
    (Q:=λc ae=>Aj2 (SG st ae) ((Ex2 λres r=>Aj2 (c=(some res,r)) (res.toList.Perm (a.toList++b.toList)))∨Ex6 λo i k g ac bc=>Aj5 (c=(none,i+1,k+1+1,o,g,ac,bc)) (i<a.size) (k+1<b.size) (Ph a b o (i+1) (k+1+1)) (i+k≤i2+k2))) ?step2 ?fin2 ?init2) ?post2)
   case init2=>exact⟨g1,o2,i2,k2,_,_,_,rfl,b1,b2,b3,Qi _⟩
   case fin2 =>
    rintro c ae ⟨g,o,i,k,g',ac,bc,rfl,c1,c2,c3,c4⟩
    exact⟨g,.inr ⟨o,i,k,g',ac,bc,rfl,c1,c2,c3,c4⟩⟩
   case post2 =>
    rintro c ax ⟨g3,⟨res,r,rfl,m⟩ | ⟨o3,i3,k3,g',ux,u8,rfl,c1,c2,c3,c4⟩⟩
    ·exact wpS_pure ⟨g3,res,_,rfl,m⟩
    dsimp -zeta only
    refine wpS_bind (wpS_modify ?_)
    obtain⟨gg,e3⟩:=g3
    exact wpS_pure ⟨⟨_,by rw[e3]⟩,o3,i3,k3,_,rfl,c1,c2,c3,by omega⟩
   case step2 =>
    rintro y c ax _ hy ⟨g3,o3,i3,k3,mg3,ux,u8,rfl,c1,c2,c3,c4⟩
    refine zcz λQ0 bw=>?_
    dsimp -zeta only
    have sgm:∀g',SG st (SortSt.mk' (kindOf ax) (arrOf ax) (pendingOf ax) g' (failedOf ax)):=λg'=>by
     obtain⟨g,e⟩:=g3
     exact⟨g',by rw[e]⟩
    extract_lets -underBinder +onlyGivenNames s1 na s2 nb s3 out s4 mn s5 ac bc jp
    refine jp_if (f:=jp) λm'=>?_
    refine wpS_bind (wpS_modify ?_)
    refine wpS_bind (za2 (eb (k3+1) c2) ?_)
    refine wpS_bind (zcj (n:=i3+1) (hint:=i3) C (sgk (sgm _)) oa (ib_ (k3+1) c2) (by omega) (by omega) λpZ q1=>?_)
    dsimp -zeta only
    have jr:=c3.runA (at_:=pZ) q1 (by omega)
    extract_lets -underBinder +onlyGivenNames kk ac' jp2
    have h2:∀(n':Nat) (o':Array Keyed) (f1:n'<a.size),n'≤i3→Ph a b o' (n'+1) (k3+1+1)→wpS (model prog w) A E s (jp2 () (n'+1) o') Q0 (SortSt.mk' (kindOf ax) (arrOf ax) (pendingOf ax) m' (failedOf ax)):=by
     intro n' o' f1 f2 fJ
     refine wpS_bind (za2 (eb (k3+1) c2) ?_)
     have fK:=fJ.pushB c2
     refine zao (λ_=>wpS_pure (bw _ _ ⟨sgm _,.inl ⟨_,_,rfl,fK.end2⟩⟩)) λd=>?_
     have d':¬k3+1=1:=λz=>d (beq_iff_eq.mpr z)
     refine wpS_bind (za2 (ea n' f1) ?_)
     refine wpS_bind (zcj (n:=k3+1) (hint:=k3) C (sgk (sgm _)) ob (ia_ n' f1) (by omega) (by omega) λoF r1=>?_)
     dsimp -zeta only
     have js:=fK.runB (at_:=oF) r1 (by omega)
     extract_lets -underBinder +onlyGivenNames kX bc' jp3
     have h3:∀(m2:Nat) (o2:Array Keyed) (p1:m2+1<b.size),m2≤k3→Ph a b o2 (n'+1) (m2+1+1)→wpS (model prog w) A E s (jp3 () (m2+1+1) o2) Q0 (SortSt.mk' (kindOf ax) (arrOf ax) (pendingOf ax) m' (failedOf ax)):=by
      intro m2 o2 p1 p2 pJ
      refine wpS_bind (za2 (ea n' f1) ?_)
      have pK:=pJ.pushA f1
      refine zao (λ_=>wpS_pure (bw _ _ ⟨sgm _,.inl ⟨_,_,rfl,pK.end1⟩⟩)) λd=>?_
      have d2:¬n'=0:=λz=>d (beq_iff_eq.mpr z)
      cases n' with
      |zero=>exact absurd rfl d2
      |succ t=>exact zao (λ_=>wpS_pure (bw _ _ ⟨sgm _,.inr ⟨_,t,m2,_,_,_,rfl,by omega,p1,pK,by omega⟩⟩)) λ_=>wpS_pure (bw _ _ ⟨sgm _,_,t,m2,_,_,_,rfl,by omega,p1,pK,by omega⟩)
     refine zao (λkz=>?_) (λkz=>?_)
     ·refine zao (fun _=>wpS_pure (bw _ _ ⟨sgm _,.inl ⟨_,_,rfl,js.end2⟩⟩)) fun d4=>zao (fun _=>wpS_pure (bw _ _ ⟨sgm _,.inl ⟨_,_,rfl,js.end1⟩⟩)) fun d5=>?_
      have d4':¬oF=1:=λz=>d4 (beq_iff_eq.mpr z)
      have d5':¬oF=0:=λz=>d5 (beq_iff_eq.mpr z)
      obtain⟨m2,e2⟩:∃m2,oF=m2+1+1:=⟨oF-2,by omega⟩
      have:=h3 m2 _ (by omega) (by omega) (by rw[←e2];exact js)
      rw[←e2]at this
      exact this
     ·obtain ⟨m2,e2⟩:∃ m2,k3=m2+1:=⟨k3 - 1,by omega⟩
      have:=h3 m2 _ (by omega) (by omega) (by rw[←e2];exact fK)
      rw[←e2]at this
      exact this
    refine zao (λkz=>?_) (λkz=>?_)
    ·refine zao (fun _=>wpS_pure (bw _ _ ⟨sgm _,.inl ⟨_,_,rfl,jr.end1⟩⟩)) fun d=>?_
     have d':¬pZ=0:=λz=>d (beq_iff_eq.mpr z)
     obtain⟨n',e1⟩:∃n',pZ=n'+1:=⟨pZ-1,by omega⟩
     have:=h2 n' _ (by omega) (by omega) (by rw[←e1];exact jr)
     rw[←e1]at this
     exact this
    ·exact h2 i3 _ c1 (Qi _) c3
end
section
variable{prog:Nj}{w:Nl}{A:Nn}{E:Na}{s:Nh}{kd:SortKind}{a₀:Array Keyed}{p:Array (Nat×Nat×Nat)}{lo:Nat}
structure Bs(kd:SortKind)(a₀:Array Keyed)(p:Array (Nat×Nat×Nat))(st:SortSt):Prop where
 kind:kindOf st=kd
 failed:failedOf st=none
 pend:pendingOf st=p
 perm:(arrOf st).Perm a₀
def Bs.size{st:SortSt}(B:Bs kd a₀ p st):(arrOf st).size=a₀.size:=B.perm.size_eq
def Bs.mem{st:SortSt}(B:Bs kd a₀ p st){i:Nat}(hi:i<a₀.size):∃q,(arrOf st)[i]?=some q∧q∈a₀.toList:=by
 have du:i<(arrOf st).size:=by rw[B.size];exact hi
 exact⟨_,getElem?_pos _ i du,(Yf.mp B.perm).mem_iff.mp (by simp)⟩
def zg0{st:SortSt}{i j:Nat}{Q:Option Bool→SortSt→Prop}(C:Cmp prog w A E s kd a₀)(B:Bs kd a₀ p st)(hi:i<a₀.size)(hj:j<a₀.size)(h:∀b,Q (some b) st):wpS (model prog w) A E s (ltAt' i j) Q st:=by
 obtain⟨x,e1,m1⟩:=B.mem hi
 obtain⟨y,e2,m2⟩:=B.mem hj
 rw[ltAt'_eq]
 refine wpS_bind (wpS_get ?_)
 refine wpS_bind (za2 e1 (wpS_bind (za2 e2 ?_)))
 exact C x y st Q m1 m2 B.kind h
def Bs.mirror{st:SortSt}(B:Bs kd a₀ p st)(i j k:Nat):Bs kd a₀ p (setArr st (mirror (arrOf st) i j k)):=⟨B.kind,B.failed,B.pend,(mirror_perm _ _ _ _).trans B.perm⟩
def Bs.bubble{st:SortSt}(B:Bs kd a₀ p st)(src d:Nat):Bs kd a₀ p (setArr st (bubble (arrOf st) src d)):=⟨B.kind,B.failed,B.pend,(bubble_perm _ _ _).trans B.perm⟩
def wpS_binary{st:SortSt}{n ok:Nat}{Q:Bool→SortSt→Prop}(C:Cmp prog w A E s kd a₀)(hn:lo+n≤a₀.size)(B:Bs kd a₀ p st)(h:∀ae,Bs kd a₀ p ae→Q true ae):wpS (model prog w) A E s (binarySort' lo n ok) Q st:=by
 rw[binarySort'_eq]
 refine wpS_bind (wpS_mono (wpS_forRange (I:=λk c ae=>Aj2 (c=(none,())) (Bs kd a₀ p ae)) (Q:=λc ae=>Aj2 (c=(none,())) (Bs kd a₀ p ae)) ?step (λ_ _ z=>z) ⟨rfl,B⟩) ?post)
 case post =>
  rintro c ae ⟨rfl,B'⟩
  exact wpS_pure (h ae B')
 case step =>
  rintro k c ae hak dR ⟨rfl,B'⟩
  refine wpS_bind (wpS_mono (wpS_forRange
   (I:=λx c dJ=>Aj2 (dJ=ae) (Ex2 λl r=>Aj4 (c=(none,l,r)) (l≤r) (r≤k) (r-l≤k-x)))
   (Q:=λc dJ=>Aj2 (dJ=ae) (Ex1 λl=>Aj2 (c=(none,l,l)) (l≤k))) ?is ?if_ ?ii) ?ip)
  case ii=>exact⟨rfl,0,k,rfl,Zf _,Qi _,Qi _⟩
  case if_ =>
   rintro c dJ ⟨rfl,l,r,rfl,b1,b2,b3⟩
   have:l=r:=by omega
   subst this
   exact⟨rfl,l,rfl,b2⟩
  case is =>
   rintro x c dJ _ hx ⟨rfl,l,r,rfl,b1,b2,b3⟩
   dsimp only
   refine zao (λge=>?_) λge=>wpS_bind (zg0 C B' (by omega) (by omega) λb=>?_)
   ·have:l=r:=Nat.le_antisymm b1 ge
    subst this
    exact wpS_pure ⟨rfl,l,rfl,b2⟩
   ·cases b with
    |true=>exact wpS_pure ⟨rfl,l,(l+r)/2,rfl,by omega,by omega,by omega⟩
    |false=>exact wpS_pure ⟨rfl,(l+r)/2+1,r,rfl,by omega,b2,by omega⟩
  case ip =>
   rintro c dJ ⟨rfl,l,rfl,b2⟩
   show wpS _ _ _ _ (do moveDown' (lo+k) (lo+l);pure (ForInStep.yield (none,()))) _ _
   rw[moveDown'_eq]
   exact wpS_bind (wpS_modify (wpS_pure ⟨rfl,B'.bubble _ _⟩))
def jp_rev{α:Type}{c:Prop}[Decidable c]{i j:Nat}{f:Unit→StateT SortSt Sem α}{Q:α→SortSt→Prop}{st:SortSt}(B:Bs kd a₀ p st)(h:∀ae,Bs kd a₀ p ae→wpS (model prog w) A E s (f ()) Q ae):wpS (model prog w) A E s (if c then reverseSlice' i j >>= f else f ()) Q st:=by
 split
 ·exact wpS_bind (wpS_reverse (h _ (B.mirror _ _ _)))
 ·exact h _ B
def wpS_count{st:SortSt}{nrem:Nat}{Q:Option Nat→SortSt→Prop}(C:Cmp prog w A E s kd a₀)(hn:lo+nrem≤a₀.size)(h1:1≤nrem)(B:Bs kd a₀ p st)(h:∀m ae,Bs kd a₀ p ae→1≤m→m≤nrem→Q (some m) ae):wpS (model prog w) A E s (countRun' lo nrem) Q st:=by
 have asc:∀(f:Nat→(Option (Option Nat)×Nat)→StateT SortSt Sem (ForInStep (Option (Option Nat)×Nat))) (a:Nat) (bd:SortSt),1≤a→a≤nrem →
   (∀x y Q',1≤y→y<nrem→Q' (ForInStep.done (none,y)) bd→Q' (ForInStep.yield (none,y+1)) bd→wpS (model prog w) A E s (f x (none,y)) Q' bd) →
   wpS (model prog w) A E s (forIn [a:nrem] (none,a) f) (λc ae=>Aj2 (ae=bd) (Ex1 λn=>Aj3 (c=(none,n)) (a≤n) (n≤nrem))) bd:=by
  intro f a bd a1 a2 hf
  refine wpS_forRange (I:=λx c ae=>Aj2 (ae=bd) (c=(none,x))) ?step ?fin ⟨rfl,rfl⟩
  case fin =>
   rintro c ae ⟨rfl,rfl⟩
   rw[show max a nrem=nrem by omega]
   exact⟨rfl,nrem,rfl,a2,Qi _⟩
  case step =>
   rintro x c ae g1 g2 ⟨rfl,rfl⟩
   exact hf x x _ (by omega) g2 ⟨rfl,x,rfl,g1,Ug g2⟩ ⟨rfl,rfl⟩
 have two:∀{bd:SortSt},Bs kd a₀ p bd→∀{y:Nat},1≤y→y<nrem→lo+y<a₀.size∧lo+y-1<a₀.size:=λ_ y y1 y2=>⟨by omega,by omega⟩
 rw[countRun'_eq]
 refine wpS_bind (wpS_mono (asc _ 1 st (Qi _) h1 ?_) ?_)
 ·intro x y Q' y1 y2 q1 q2
  refine wpS_bind (zg0 C B (two B y1 y2).1 (two B y1 y2).2 λb=>?_)
  cases b with
  |true=>exact wpS_pure q1
  |false=>exact wpS_pure q2
 rintro c ae ⟨rfl,n,rfl,n1,n2⟩
 refine zcz λQ0 bw=>?_
 refine zao (λd=>wpS_pure (bw _ _ (h n _ B n1 n2))) λd=>?_
 have d':n<nrem:=by have:¬n=nrem:=λz=>d (beq_iff_eq.mpr z);omega
 extract_lets -underBinder +onlyGivenNames jp
 have mZ:∀bd,Bs kd a₀ p bd→wpS (model prog w) A E s (jp ()) Q0 bd:=by
  intro bd B1
  refine wpS_bind (wpS_lift (wpAny_rule ⟨rfl,?_⟩))
  refine wpS_bind (wpS_mono (wpS_forRange
   (I:=λx c bZ=>Ex1 λq=>Aj4 (c=(none,x,q)) (Bs kd a₀ p bZ) (2≤x) (x≤nrem))
   (Q:=λc bZ=>Ex2 λx q=>Aj4 (c=(none,x,q)) (Bs kd a₀ p bZ) (2≤x) (x≤nrem)) ?step ?fin ⟨0,rfl,B1,by omega,d'⟩) ?post)
  case fin =>
   rintro c bZ ⟨q,rfl,b1,b2,b3⟩
   exact⟨_,q,rfl,b1,b2,b3⟩
  case step =>
   rintro x c bZ x1 x2 ⟨q,rfl,b1,b2,b3⟩
   refine zcz λQ1 gO=>?_
   refine wpS_bind (zg0 (i:=lo+x) (j:=lo+x-1) C b1 (by omega) (by omega) λe1=>?_)
   cases e1 with
   |true =>
    refine zao (λ_=>?_) (λz=>absurd rfl z)
    exact jp_rev b1 λax B3=>wpS_pure (gO _ _ ⟨0,rfl,B3,by omega,x2⟩)
   |false =>
    refine zao (λz=>absurd z (by decide)) λ_=>wpS_bind (zg0 (i:=lo+x-1) (j:=lo+x) C b1 (by omega) (by omega) λe2=>?_)
    cases e2 with
    |true=>exact zao (λ_=>wpS_pure (gO _ _ ⟨x,q,rfl,b1,b2,b3⟩)) (λz=>absurd rfl z)
    |false=>exact zao (λz=>absurd z (by decide)) λ_=>wpS_pure (gO _ _ ⟨q+1,rfl,b1,by omega,x2⟩)
  case post =>
   rintro c bZ ⟨x,q,rfl,b1,b2,b3⟩
   refine jp_rev b1 λax B3=>?_
   refine wpS_bind (wpS_reverse ?_)
   have B6:=B3.mirror lo (lo+x) ((lo+x-lo)/2)
   refine wpS_bind (wpS_mono (asc _ x _ (by omega) b3 ?_) ?_)
   ·intro z y Q' y1 y2 q1 q2
    refine wpS_bind (zg0 C B6 (two B6 y1 y2).1 (two B6 y1 y2).2 λb=>?_)
    cases b with
    |true=>exact wpS_pure q1
    |false=>exact wpS_pure q2
   ·rintro c st6 ⟨rfl,m,rfl,m1,m2⟩
    exact wpS_pure (bw _ _ (h m _ B6 (by omega) m2))
 refine zao (λd2=>?_) λd2=>mZ _ B
 refine wpS_bind (zg0 C B (by omega) (by omega) λe=>?_)
 cases e with
 |true=>exact zao (λ_=>wpS_pure (bw _ _ (h n _ B n1 n2))) (λz=>absurd rfl z)
 |false=>exact zao (λz=>absurd z (by decide)) λ_=>wpS_bind (wpS_reverse (mZ _ (B.mirror _ _ _)))
end
def PL:List (Nat×Nat×Nat)→Nat→Nat→Prop
 |[],off,tot=>off=tot
 |q::ps,off,tot=>q.1=off∧0<q.2.1∧PL ps (off+q.2.1) tot
def PL.split{gq:List (Nat×Nat×Nat)}{tot:Nat}:∀{d0:List (Nat×Nat×Nat)} {off:Nat},PL (d0++gq) off tot→∃mid,PL d0 off mid∧PL gq mid tot:=by
 intro d0
 induction d0 with
 |nil=>intro off h;exact⟨off,rfl,h⟩
 |cons q ps ih =>
  intro off h
  obtain⟨mid,a,b⟩:=ih h.2.2
  exact⟨mid,⟨h.1,h.2.1,a⟩,b⟩
def PL.join{gq:List (Nat×Nat×Nat)}{mid tot:Nat}:∀{d0:List (Nat×Nat×Nat)} {off:Nat},PL d0 off mid→PL gq mid tot→PL (d0++gq) off tot:=by
 intro d0
 induction d0 with
 |nil=>intro off a b;cases(show off=mid from a);exact b
 |cons q ps ih=>intro off a b;exact⟨a.1,a.2.1,ih a.2.2 b⟩
def PL.len{tot:Nat}:∀{ps:List (Nat×Nat×Nat)} {off:Nat},PL ps off tot→off+ps.length≤tot:=by
 intro ps
 induction ps with
 |nil=>intro off h;exact Nat.le_of_eq h
 |cons q ps ih =>
  intro off h
  have:=ih h.2.2
  have:=h.2.1
  rw[Qx];omega
def put_back{sa:Nat}:∀ (l:List Keyed) (n:Nat) (arr:Array Keyed) (F M S:List Keyed),arr.toList=F++(M++S)→F.length=sa+n→M.length=l.length →
  ((l.zipIdx n).foldl (λ(a:Array Keyed) (q:Keyed×Nat)=>a.setIfInBounds (sa+q.2) q.1) arr).toList=F++(l++S):=by
 intro l
 induction l with
 |nil =>
  intro n arr F M S e _ hl
  have:M=[]:=List.length_eq_zero_iff.mp (by simpa using hl)
  rw[this]at e
  simpa using e
 | cons p l ih =>
  intro n arr F M S e hf hl
  cases M with
  |nil=>simp at hl
  | cons m M =>
   rw[List.zipIdx_cons,Jw]
   have e2:(arr.setIfInBounds (sa+n) p).toList=(F++[p])++(M++S):=by
    rw[Array.toList_setIfInBounds,e,←hf,List.set_append_right _ _ (Qi _),Nat.sub_self]
    simp
   rw[ih (n+1) _ (F++[p]) M S e2 (by rw[Qq];simp;omega) (by simpa using hl)]
   simp
section
variable{prog:Nj}{w:Nl}{A:Nn}{E:Na}{s:Nh}{kd:SortKind}{a₀:Array Keyed}
structure Rn(kd:SortKind)(a₀:Array Keyed)(tot:Nat)(st:SortSt):Prop where
 kind:kindOf st=kd
 failed:failedOf st=none
 perm:(arrOf st).Perm a₀
 pend:PL (pendingOf st).toList 0 tot
 le:tot≤a₀.size
def of_perm{xs:Array Keyed}(h:xs.Perm a₀):Of a₀ xs:=λi p e=>by
 refine(Yf.mp h).mem_iff.mp ?_
 have:xs.toList[i]?=some p:=by simpa using e
 exact Yj this
def of_ext{xs:Array Keyed}(h:xs.Perm a₀)(i j:Nat):Of a₀ (xs.extract i j):=λk p e=>by
 have e1:(xs.extract i j).toList[k]?=some p:=by rw[Ud];exact e
 have:=Yj e1
 rw[Array.toList_extract,Kd]at this
 exact(Yf.mp h).mem_iff.mp (List.mem_of_mem_drop (Us this))
def wpS_set{Q:PUnit→SortSt→Prop}{st ae:SortSt}(h:Q ⟨⟩ ae):wpS (model prog w) A E s (set ae:StateT SortSt Sem PUnit) Q st:=by
 unfold wpS;rw[StateT.run_set];exact wpAny_pure ⟨rfl,h⟩
def zfr{i tot:Nat}{Q:Bool→SortSt→Prop}{st:SortSt}(C:Cmp prog w A E s kd a₀)(R:Rn kd a₀ tot st)(hi:i+1 < (pendingOf st).size)(h:∀ae,Rn kd a₀ tot ae→(pendingOf ae).size+1=(pendingOf st).size→Q true ae):wpS (model prog w) A E s (mergeAt' i) Q st:=by
 obtain⟨d0,q1,q2,gq,hp,hl⟩:∃d0 q1 q2 gq,(pendingOf st).toList=d0++q1::q2::gq∧d0.length=i:=by
  have h1:i<(pendingOf st).toList.length:=by simp;omega
  have h2:i+1<(pendingOf st).toList.length:=by simp;omega
  refine⟨(pendingOf st).toList.take i,(pendingOf st).toList[i],(pendingOf st).toList[i+1],(pendingOf st).toList.drop (i+2),?_,by rw[Zj];omega⟩
  rw[←Ke h2,←Ke h1,Wa]
 have pr:=R.pend
 rw[hp]at pr
 obtain⟨sa,pr1,e1,hA,e2,hB,qk⟩:=pr.split
 obtain⟨aF,na,pw⟩:=q1
 obtain⟨sb',nb,pw2⟩:=q2
 dsimp only at e1 hA e2 hB qk
 subst e1 e2
 have x1:(pendingOf st)[i]?=some (aF,na,pw):=by
  have:(pendingOf st)[i]?=(pendingOf st).toList[i]?:=by simp
  rw[this,hp,←hl];simp
 have x2:(pendingOf st)[i+1]?=some (aF+na,nb,pw2):=by
  have:(pendingOf st)[i+1]?=(pendingOf st).toList[i+1]?:=by simp
  rw[this,hp,←hl];simp
 have hsz:aF+na+nb≤(arrOf st).size:=by
  have:=qk.len
  have:=R.le
  rw[R.perm.size_eq];omega
 have oA:=of_perm R.perm
 have mem:∀j (hj:j<(arrOf st).size),(arrOf st)[j]∈a₀.toList:=λj hj=>oA j _ (getElem?_pos _ j hj)
 have fin:∀(ae:SortSt),kindOf ae=kd→failedOf ae=none→(arrOf ae).Perm a₀→pendingOf ae=((pendingOf st).setIfInBounds i (aF,na+nb,pw)).eraseIdxIfInBounds (i+1)→Q true ae:=by
  intro ae m3 m4 m5 m6
  have e:(pendingOf ae).toList=d0++(aF,na+nb,pw)::gq:=by
   rw[m6]
   have e1:((pendingOf st).setIfInBounds i (aF,na+nb,pw)).toList=d0++(aF,na+nb,pw)::(aF+na,nb,pw2)::gq:=by
    rw[Array.toList_setIfInBounds,hp,←hl,List.set_append_right _ _ (Qi _),Nat.sub_self]
    rfl
   rw[Array.toList_eraseIdxIfInBounds,e1,←hl,List.eraseIdx_append_of_length_le (Yh _ _)]
   simp
  refine h ae ⟨m3,m4,m5,?_,R.le⟩ ?_
  ·rw [e]
   exact pr1.join ⟨rfl,Nat.add_pos_left hA _,by rw[←Nat.add_assoc];exact qk⟩
  ·rw[←Yw,←Yw,e,hp];simp;omega
 unfold mergeAt'
 refine wpS_bind (wpS_get ?_)
 rw[x1,x2]
 dsimp only
 refine wpS_bind (wpS_set ?_)
 have lm:aF+na<(arrOf st).size:=by omega
 refine wpS_bind (za2 (getElem?_pos (arrOf st) (aF+na) lm) ?_)
 refine wpS_bind (zcj (arr:=arrOf st) (base:=aF) (n:=na) (hint:=0) C R.kind oA (mem _ lm) (by omega) hA λk k1=>?_)
 refine zao (λc1=>wpS_pure (fin _ R.kind R.failed R.perm rfl)) λc1=>?_
 have u7:¬na-k=0:=λz=>c1 (beq_iff_eq.mpr z)
 have hla:aF+k+(na-k)-1<(arrOf st).size:=by omega
 refine wpS_bind (za2 (getElem?_pos (arrOf st) (aF+k+(na-k)-1) hla) ?_)
 refine wpS_bind (zcj (arr:=arrOf st) (base:=aF+na) (n:=nb) (hint:=nb-1) C R.kind oA (mem _ hla) (by omega) (by omega) λm n1=>?_)
 refine zao (λc2=>wpS_pure (fin _ R.kind R.failed R.perm rfl)) λc2=>?_
 have c2':¬m=0:=λz=>c2 (beq_iff_eq.mpr z)
 have oG:(arrOf st).toList=(arrOf st).toList.take (aF+k)++((((arrOf st).extract (aF+k) (aF+na)).toList++((arrOf st).extract (aF+na) (aF+na+m)).toList)++(arrOf st).toList.drop (aF+na+m)):=by
  rw[←Qu,←Qu,zfi (by omega) (by omega),zfi (by omega) (by omega),Wa]
 have oX:=of_ext R.perm (aF+k) (aF+na)
 have oY:=of_ext R.perm (aF+na) (aF+na+m)
 have zX:0<((arrOf st).extract (aF+k) (aF+na)).size:=by rw[Array.size_extract];omega
 have zY:0<((arrOf st).extract (aF+na) (aF+na+m)).size:=by rw[Array.size_extract];omega
 have done:∀(res:Array Keyed) (ae:SortSt),res.toList.Perm (((arrOf st).extract (aF+k) (aF+na)).toList++((arrOf st).extract (aF+na) (aF+na+m)).toList)→SG (SortSt.mk' (kindOf st) (arrOf st) (((pendingOf st).setIfInBounds i (aF,na+nb,pw)).eraseIdxIfInBounds (i+1)) (gallopOf st) (failedOf st)) ae →
   wpS (model prog w) A E s (do
    modify λz=>SortSt.mk' (kindOf z) (res.toList.zipIdx.foldl (λ(a:Array Keyed) (q:Keyed×Nat)=>a.setIfInBounds (aF+k+q.2) q.1) (arrOf z)) (pendingOf z) (gallopOf z) (failedOf z)
    let z ←get
    pure (failedOf z).isNone) Q ae:=by
  intro res ae mg ⟨g,est⟩
  subst est
  refine wpS_bind (wpS_modify (wpS_bind (wpS_get ?_)))
  have mx:failedOf st=none:=R.failed
  show wpS _ _ _ _ (pure (failedOf st).isNone) _ _
  rw[mx]
  refine wpS_pure (fin _ R.kind rfl ?_ rfl)
  have pb:=put_back (sa:=aF+k) res.toList 0 (arrOf st) _ _ _ oG (by rw[Zj,Yw];omega) mg.length_eq.symm
  refine Yf.mpr (List.Perm.trans ?_ (Yf.mp R.perm))
  refine List.Perm.trans (List.Perm.of_eq pb) ?_
  conv=>rhs;rw[oG]
  exact Ya _ (List.Perm.append_right _ mg)
 exact zao (λ_=>wpS_bind (wpS_mergeLo C R.kind oX oY zX zY done)) λ_=>wpS_bind (wpS_mergeHi C R.kind oX oY zX zY done)
end
section
variable{prog:Nj}{w:Nl}{A:Nn}{E:Na}{s:Nh}{kd:SortKind}{a₀:Array Keyed}
def PL.congr{tot:Nat}:∀{ps kS:List (Nat×Nat×Nat)} {off:Nat},(ps.map λq=>(q.1,q.2.1))=(kS.map λq=>(q.1,q.2.1))→PL ps off tot→PL kS off tot:=by
 intro ps
 induction ps with
 |nil =>
  intro kS off e h
  cases kS with
  |nil=>exact h
  |cons q r=>cases e
 | cons q ps ih =>
  intro kS off e h
  cases kS with
  |nil=>cases e
  |cons q' r =>
   rw[Ql,Ql]at e
   obtain⟨e1,e2⟩:=List.cons.inj e
   obtain⟨e3,e4⟩:=Uq e1
   exact⟨e3.symm.trans h.1,e4▸h.2.1,ih e2 (e4▸h.2.2)⟩
def map_mod(f:Nat×Nat×Nat→Nat×Nat×Nat)(hf:∀q,((f q).1,(f q).2.1)=(q.1,q.2.1))(l:List (Nat×Nat×Nat))(i:Nat):((l.modify i f).map λq=>(q.1,q.2.1))=l.map λq=>(q.1,q.2.1):=by
 apply List.ext_getElem?
 intro k
 rw[Qs,Qs,List.getElem?_modify]
 cases l[k]? with
 |none=>simp
 |some q =>
  by_cases e:i=k
  ·simp[e];exact Uq (hf q)
  ·simp[e]
def Rn.mod{tot:Nat}{st:SortSt}(R:Rn kd a₀ tot st)(i:Nat)(f:Nat×Nat×Nat→Nat×Nat×Nat)(hf:∀q,((f q).1,(f q).2.1)=(q.1,q.2.1)):Rn kd a₀ tot (setPending st ((pendingOf st).modify i f)) :=
 ⟨R.kind,R.failed,R.perm,by
  show PL ((pendingOf st).modify i f).toList 0 tot
  rw[Array.toList_modify]
  exact R.pend.congr (map_mod f hf _ i).symm,R.le⟩
def zfq{st:SortSt}{Q:Unit→SortSt→Prop}(C:Cmp prog w A E s kd a₀)(hk:kindOf st=kd)(hf:failedOf st=none)(hp:(arrOf st).Perm a₀)(cp:pendingOf st=#[])(h:∀ae,(arrOf ae).Perm a₀→failedOf ae=none→Q () ae):wpS (model prog w) A E s sortRuns' Q st:=by
 have R0:Rn kd a₀ 0 st:=⟨hk,hf,hp,by rw[cp];rfl,Zf _⟩
 rw[sortRuns'_eq]
 refine wpS_bind (wpS_get ?_)
 dsimp -zeta only
 have hz:(arrOf st).size=a₀.size:=hp.size_eq
 rw[hz]
 refine wpS_bind (wpS_mono (wpS_forRange
  (I:=λx c ae=>Ex1 λtot=>Aj3 (c=(none,tot)) (Rn kd a₀ tot ae) (x≤tot))
  (Q:=λc ae=>Ex1 λtot=>Aj3 (c=(none,tot)) (Rn kd a₀ tot ae) (a₀.size≤tot)) ?step ?fin ⟨0,rfl,R0,Zf _⟩) ?post)
 case fin =>
  rintro c ae ⟨tot,rfl,R,hx⟩
  exact⟨tot,rfl,R,by omega⟩
 case step =>
  rintro x c bd _ hx ⟨tot,rfl,R,oU⟩
  refine zcz λQ0 bw=>?_
  refine zao (λc0=>wpS_pure (bw _ _ ⟨tot,rfl,R,c0⟩)) λc0=>?_
  have B0:Bs kd a₀ (pendingOf bd) bd:=⟨R.kind,R.failed,rfl,R.perm⟩
  refine wpS_bind (wpS_count (lo:=tot) (nrem:=a₀.size-tot) C (by omega) (by omega) B0 λm bZ B2 m1 m2=>?_)
  dsimp -zeta only
  extract_lets -underBinder +onlyGivenNames n0 jp
  have mZ:∀(n':Nat) (ax:SortSt),1≤n'→tot+n'≤a₀.size→Bs kd a₀ (pendingOf bd) ax→wpS (model prog w) A E s (jp () n') Q0 ax:=by
   intro n' ax l1 l2 B3
   have R3:Rn kd a₀ tot ax:=⟨B3.kind,B3.failed,B3.perm,by rw[B3.pend];exact R.pend,R.le⟩
   have push:∀aW,Rn kd a₀ tot aW→Rn kd a₀ (tot+n') (setPending aW ((pendingOf aW).push (tot,n',0))):=λaW R4 =>
    ⟨R4.kind,R4.failed,R4.perm,by show PL ((pendingOf aW).push _).toList 0 _;rw[Jj];exact R4.pend.join ⟨rfl,l1,rfl⟩,l2⟩
   refine wpS_bind (wpS_get ?_)
   extract_lets -underBinder +onlyGivenNames jp2
   have mY:∀aW,Rn kd a₀ tot aW→wpS (model prog w) A E s (jp2 ()) Q0 aW:=λaW R4=>wpS_bind (wpS_modify (wpS_pure (bw _ _ ⟨tot+n',rfl,push aW R4,by omega⟩)))
   cases(pendingOf ax).back? with
   |none=>exact mY _ R3
   | some q =>
    obtain⟨s1,n1,o1⟩:=q
    refine wpS_bind (wpS_mono (wpS_forRange (I:=λ_ c aW=>Aj2 (c=(none,())) (Rn kd a₀ tot aW)) (Q:=λc aW=>Aj2 (c=(none,())) (Rn kd a₀ tot aW)) ?istep (λ_ _ z=>z) ⟨rfl,R3⟩) ?ipost)
    case istep =>
     rintro y c aW _ _ ⟨rfl,R4⟩
     refine zcz λQ1 gO=>wpS_bind (wpS_get ?_)
     dsimp only
     by_cases hs:(pendingOf aW).size>1
     ·rw [if_pos hs,getElem?_pos (pendingOf aW) ((pendingOf aW).size - 2) (by omega)]
      refine zao (λ_=>wpS_pure (gO _ _ ⟨rfl,R4⟩)) λ_=>wpS_bind (zfr C R4 (by omega) λlF R5 _=>?_)
      exact zao (λz=>absurd z (by decide)) λ_=>wpS_pure (gO _ _ ⟨rfl,R5⟩)
     ·rw [if_neg hs]
      exact wpS_pure (gO _ _ ⟨rfl,R4⟩)
    case ipost =>
     rintro c aW ⟨rfl,R4⟩
     exact wpS_bind (wpS_modify (mY _ (R4.mod _ _ λq=>rfl)))
  refine zao (λc1=>?_) λc1=>mZ m bZ m1 (by omega) B2
  have u7:m<minRun' a₀.size a₀.size 0:=c1
  refine wpS_bind (wpS_lift (wpAny_rule ⟨rfl,?_⟩))
  refine wpS_bind (wpS_binary (lo:=tot) (n:=min (a₀.size-tot) (minRun' a₀.size a₀.size 0)) C (by omega) B2 λax B3=>?_)
  exact zao (λz=>absurd z (by decide)) λ_=>mZ _ ax (by omega) (by omega) B3
 case post =>
  rintro c bd ⟨tot,rfl,R,hx⟩
  refine wpS_bind (wpS_mono (wpS_forRange (I:=λ_ c aW=>Aj2 (c=(none,())) (Rn kd a₀ tot aW)) (Q:=λc aW=>Aj2 (c=(none,())) (Rn kd a₀ tot aW)) ?istep (λ_ _ z=>z) ⟨rfl,R⟩) ?ipost)
  case istep =>
   rintro y c aW _ _ ⟨rfl,R4⟩
   refine zcz λQ1 gO=>wpS_bind (wpS_get ?_)
   dsimp only
   refine zao (λ_=>wpS_pure (gO _ _ ⟨rfl,R4⟩)) λhs=>wpS_bind (zfr C R4 ?_ λlF R5 _=>?_)
   ·repeat' split
    all_goals omega
   ·exact zao (λz=>absurd z (by decide)) λ_=>wpS_pure (gO _ _ ⟨rfl,R5⟩)
  case ipost =>
   rintro c aW ⟨rfl,R4⟩
   exact wpS_pure (h aW R4.perm R4.failed)
end
end Tm
end
section
namespace Tm
open PySem PyProof.Rows PySem.W
section
variable{O:KeyOrd}{kf:Nat→O.α}{n:Nat}{s:Nh}{cmp:Nat→Nat→(Bool→Shared→Prop)→Shared→Prop}
def kk(kf:Nat→O.α)(p:Array Nat)(i:Nat):O.α:=kf (p.getD i 0)
def kk_rev{p:Array Nat}{i j:Nat}(hj:j≤p.size)(k:Nat):kk kf (kas_rev p i j) k=if i≤k∧k<j then kk kf p (i+j-1-k) else kk kf p k:=by
 unfold kk kas_rev
 simp only[Wv,getElem?_mirror_all hj k]
 split<;>rfl
def kk_bub{p:Array Nat}{a d:Nat}(hs:a<p.size)(hd:d≤a)(k:Nat):kk kf (bubble p a d) k=if k=a-d then kk kf p a else if a-d<k∧k≤a then kk kf p (k-1) else kk kf p k:=by
 unfold kk
 simp only[Wv,getElem?_bubble hs d hd k]
 repeat' split
 all_goals rfl
def Up(kf:Nat→O.α)(p:Array Nat)(k:Nat):Prop:=∀i j,i≤j→j<k→O.kle (kk kf p i) (kk kf p j)
def Dn(kf:Nat→O.α)(p:Array Nat)(k:Nat):Prop:=∀i j,i≤j→j<k→O.kle (kk kf p j) (kk kf p i)
def Up.snoc{p:Array Nat}{a:Nat}(h1:1≤a)(h:Up kf p a)(e:O.kle (kk kf p (a-1)) (kk kf p a)):Up kf p (a+1):=λi j bf hj=>by
 by_cases z:j<a
 ·exact h i j bf z
 obtain rfl:j=a:=by omega
 by_cases z2:i=j
 ·subst z2;exact Jx _
 ·exact Ut (h i (j-1) (by omega) (by omega)) e
def Dn.snoc{p:Array Nat}{a:Nat}(h1:1≤a)(h:Dn kf p a)(e:O.kle (kk kf p a) (kk kf p (a-1))):Dn kf p (a+1):=λi j bf hj=>by
 by_cases z:j<a
 ·exact h i j bf z
 obtain rfl:j=a:=by omega
 by_cases z2:i=j
 ·subst z2;exact Jx _
 ·exact Ut e (h i (j-1) (by omega) (by omega))
structure Ar(n:Nat)(p:Array Nat):Prop where
 sz:p.size=n
 lt:∀i,0<n→p.getD i 0<n
 pm:p.Perm (List.toArray (List.range n))
def Ar.of{p:Array Nat}(h:p.Perm (List.toArray (List.range n))):Ar n p:=by
 have z:p.size=n:=by rw[h.size_eq];simp
 refine⟨z,λi h0=>?_,h⟩
 by_cases hi:i<p.size
 ·have:p[i]∈List.range n:=(Yf.mp h).mem_iff.mp (by simp)
  rw[Wv,getElem?_pos p i hi]
  exact Ur.mp this
 ·rw[Wv,getElem?_neg p i hi];exact h0
def Ar.rev{p:Array Nat}(h:Ar n p)(i j:Nat):Ar n (kas_rev p i j):=.of ((mirror_perm _ _ _ _).trans h.pm)
def Ar.bub{p:Array Nat}(h:Ar n p)(i j:Nat):Ar n (bubble p i j):=.of ((bubble_perm _ _ _).trans h.pm)
variable(h0:0<n)(hc:∀i j C,i<n→j<n→C (O.blt (kf i) (kf j)) s→cmp i j C s)
include h0 hc
theorem t_ask{p:Array Nat}(P:Ar n p){α:Type}{i j:Nat}{k:Bool→KasT α}{Q:α→Shared→Prop}(h1:O.klt (kk kf p i) (kk kf p j)→(k true).kasWp cmp Q s)(h2:O.kle (kk kf p j) (kk kf p i)→(k false).kasWp cmp Q s):(KasT.ask (p.getD i 0) (p.getD j 0) k).kasWp cmp Q s:=by
 refine hc _ _ _ (P.lt _ h0) (P.lt _ h0) ?_
 cases e:O.blt (kf (p.getD i 0)) (kf (p.getD j 0)) with
 |true=>exact h1 e
 |false=>exact h2 e
theorem t_asc{p:Array Nat}(P:Ar n p){Q:Nat→Shared→Prop}:∀(f a:Nat),1≤a→a+f≤n→Up kf p a→(∀m,a≤m→m≤a+f→Up kf p m→(m=a+f∨O.klt (kk kf p m) (kk kf p (m-1)))→Q m s)→(kas_asc p f a).kasWp cmp Q s
 |0,a,_,_,hs,h=>h a (Qi _) (Qi _) hs (.inl rfl)
 |f+1,a,h1,hn,hs,h=>t_ask h0 hc P (λe=>h a (Qi _) (by omega) hs (.inr e)) λe=>t_asc P f (a+1) (by omega) (by omega) (hs.snoc h1 e) λm h2 h3=>h m (by omega) (by omega)|>λq h4 h5=>q h4 (h5.imp (by omega) id)
theorem t_desc{Q:Array Nat×Nat×Nat→Shared→Prop}:∀(f:Nat) (p:Array Nat) (a q:Nat),Ar n p→1≤a→a+f≤n→Dn kf p a→q<a→(∀i,a-(q+1)≤i→i<a→kk kf p i=kk kf p (a-1))→(∀p' m q',Ar n p'→a≤m→m≤a+f→Dn kf p' m→q'<m→(∀i,m-(q'+1)≤i→i<m→kk kf p' i=kk kf p' (m-1))→Q (p',m,q') s)→(kas_desc f p a q).kasWp cmp Q s
 |0,p,a,q,P,_,_,hs,hq,he,h=>h p a q P (Qi _) (Qi _) hs hq he
 | f+1,p,a,q,P,h1,hn,hs,hq,he,h=>by
  have again:∀p',Ar n p'→Dn kf p' (a+1)→∀q'<a+1,(∀i,a+1-(q'+1)≤i→i<a+1→kk kf p' i=kk kf p' (a+1-1))→(kas_desc f p' (a+1) q').kasWp cmp Q s:=λp' P' aU q' i4 aS=>t_desc f p' (a+1) q' P' (by omega) (by omega) aU i4 aS λp2 m q2 P2 h3 h4=>h p2 m q2 P2 (by omega) (by omega)
  have one:∀(p':Array Nat) (i:Nat),a+1-(0+1)≤i→i<a+1→kk kf p' i=kk kf p' (a+1-1):=λp' i h2 h3=>by rw[show i=a+1-1 by omega]
  refine t_ask h0 hc P (λe=>?_) λe=>?_
  ·rw [if_pos rfl]
   have same:∀k,kk kf (kas_rev p (a-(q+1)) a) k=kk kf p k:=λk=>by
    rw[kk_rev (by rw[P.sz];omega)]
    split
    ·rw[he _ (by omega) (by omega),he k (by omega) (by omega)]
    ·rfl
   split
   ·refine again _ (P.rev _ _) (fun i j bf hj=>?_) 0 (by omega) (one _)
    rw[same,same]
    exact hs.snoc h1 (Kb e) i j bf hj
   ·exact again _ P (hs.snoc h1 (Kb e)) 0 (by omega) (one _)
  ·rw [if_neg (by simp)]
   refine t_ask h0 hc P (λe2=>?_) λe2=>?_
   ·rw[if_pos rfl];exact h p a q P (Qi _) (by omega) hs hq he
   ·rw [if_neg (by simp)]
    have eq:=KeyOrd.kle_antisymm e2 e
    refine again _ P (hs.snoc h1 e2) (q+1) (by omega) λi h2 h3=>?_
    rw[Nat.add_sub_cancel]
    by_cases z:i=a
    ·rw[z]
    ·rw[he i (by omega) (by omega),eq]
theorem t_tail{p:Array Nat}{m:Nat}(P:Ar n p){Q:Nat×Array Nat→Shared→Prop}(h1:1≤m)(hm:m≤n)(hs:Dn kf p m)(h:∀p' k,Ar n p'→1≤k→k≤n→Up kf p' k→Q (k,p') s):(kas_tail3 m n p).kasWp cmp Q s:=by
 unfold kas_tail3
 rw[Kn]
 refine t_asc h0 hc (P.rev 0 m) _ m h1 (by omega) (λi j bf hj=>?_) λk h2 h3 h4 _=>h _ k (P.rev 0 m) (by omega) (by omega) h4
 rw[kk_rev (by rw[P.sz];omega),kk_rev (by rw[P.sz];omega),if_pos (by omega),if_pos (by omega)]
 exact hs _ _ (by omega) (by omega)
theorem t_dpart{p:Array Nat}{m:Nat}(P:Ar n p){Q:Nat×Array Nat→Shared→Prop}(hm:m+1≤n)(hs:Dn kf p (m+1))(h:∀p' k,Ar n p'→1≤k→k≤n→Up kf p' k→Q (k,p') s):(kas_descPart m n p).kasWp cmp Q s:=by
 unfold kas_descPart
 rw[Kn]
 refine t_desc h0 hc _ p (m+1) 0 P (by omega) (by omega) hs (by omega) (λi h2 h3=>by rw[show i=m+1-1 by omega]) λp' k q P' h2 h3 aU hq he=>?_
 dsimp only
 split
 ·refine t_tail h0 hc (P'.rev _ _) (by omega) (by omega) (fun i j bf hj=>?_) h
  have same:∀i,kk kf (kas_rev p' (k-(q+1)) k) i=kk kf p' i:=λi=>by
   rw[kk_rev (by rw[P'.sz];omega)]
   split
   ·rw[he _ (by omega) (by omega),he i (by omega) (by omega)]
   ·rfl
  rw[same,same]
  exact aU i j bf hj
 ·exact t_tail h0 hc P' (by omega) (by omega) aU h
theorem t_count{p:Array Nat}(P:Ar n p){Q:Nat×Array Nat→Shared→Prop}(h:∀p' k,Ar n p'→1≤k→k≤n→Up kf p' k→Q (k,p') s):(kas_count n p).kasWp cmp Q s:=by
 unfold kas_count
 rw[Kn]
 refine t_asc h0 hc P _ 1 (Qi _) (by omega) (λi j bf hj=>by rw[show i=j by omega];exact Jx _) λm h1 h2 hs hor=>?_
 split
 ·exact h p m P h1 (by omega) hs
 rename_i az
 have jT:m≠n:=by simpa using az
 have ag:=hor.resolve_left (by omega)
 split
 ·refine t_ask h0 hc P (fun _=>?_) fun e=>?_
  ·rw[if_pos rfl];exact h p m P h1 (by omega) hs
  ·rw [if_neg (by simp)]
   have all:∀k,k<m→kk kf p k=kk kf p (m-1):=λk hk=>KeyOrd.kle_antisymm (hs k (m-1) (by omega) (by omega)) (Ut e (hs 0 k (by omega) hk))
   have same:∀k,kk kf (kas_rev p 0 m) k=kk kf p k:=λk=>by
    rw[kk_rev (by rw[P.sz];omega)]
    split
    ·rw[all _ (by omega),all k (by omega)]
    ·rfl
   refine t_dpart h0 hc (P.rev 0 m) (by omega) (Dn.snoc h1 (λi j bf hj=>?_) (by rw[same,same];exact Kb ag)) h
   rw[same,same,all i (by omega),all j hj]
   exact Jx _
 ·obtain rfl:m=1:=by omega
  exact t_dpart h0 hc P (by omega) (Dn.snoc (Qi _) (λi j bf hj=>by rw[show i=j by omega];exact Jx _) (Kb ag)) h
theorem t_place{p:Array Nat}{k:Nat}(P:Ar n p)(hs:Up kf p k){Q:Nat→Shared→Prop}:∀(f l r:Nat),l≤r→r≤k→r-l≤f→(∀i,i<l→O.kle (kk kf p i) (kk kf p k))→(∀i,r≤i→i<k→O.klt (kk kf p k) (kk kf p i))→(∀l,l≤k→(∀i,i<l→O.kle (kk kf p i) (kk kf p k))→(∀i,l≤i→i<k→O.klt (kk kf p k) (kk kf p i))→Q l s)→(kas_place p k f l r).kasWp cmp Q s
 |0,l,r,h1,h2,h3,h4,h5,h=>h l (by omega) h4 λi q=>h5 i (by omega)
 | f+1,l,r,h1,h2,h3,h4,h5,h=>by
  unfold kas_place
  split
  ·exact h l (by omega) h4 λi q=>h5 i (by omega)
  ·refine t_ask h0 hc P (fun e=>?_) fun e=>?_
   ·rw [if_pos rfl]
    exact t_place P hs f l _ (by omega) (by omega) (by omega) h4 (λi q1 q2=>KeyOrd.klt_of_klt_of_kle e (hs _ _ q1 q2)) h
   ·rw [if_neg (by simp)]
    exact t_place P hs f _ r (by omega) h2 (by omega) (λi q=>Ut (hs i ((l+r)/2) (by omega) (by omega)) e) h5 h
theorem t_bin{Q:Array Nat→Shared→Prop}(h:∀p,Ar n p→Up kf p n→Q p s):∀(f:Nat) (p:Array Nat) (k:Nat),Ar n p→Up kf p k→k+f=n→(kas_bin f p k).kasWp cmp Q s
 |0,p,k,P,hs,e=>h p P (by rwa[←e])
 | f+1,p,k,P,hs,e=>by
  unfold kas_bin
  rw[Kn]
  refine t_place h0 hc P hs k 0 k (by omega) (by omega) (by omega) (λi q=>absurd q (by omega)) (λi q1 q2=>absurd q2 (by omega)) λl hl lg hhi=>t_bin h f _ (k+1) (P.bub _ _) (λi j bf hj=>?_) (by omega)
  have hk:k<p.size:=by rw[P.sz];omega
  rw[kk_bub hk (by omega),kk_bub hk (by omega),show k-(k-l)=l by omega]
  repeat' split
  all_goals first
   |(exfalso;omega)
   |exact Jx _
   |exact lg _ (by omega)
   |exact Kb (hhi _ (by omega) (by omega))
   |exact hs _ _ (by omega) (by omega)
theorem t_sort{Q:Array Nat→Shared→Prop}(h:∀p,Ar n p→Up kf p n→Q p s):(kas_sort n).kasWp cmp Q s:=by
 unfold kas_sort
 rw[Kn]
 refine t_count h0 hc (.of (Array.Perm.refl _)) λp k P h1 h2 hs=>?_
 dsimp only
 split
 ·exact t_bin h0 hc h _ p _ P (by rwa[Nat.max_eq_left h1]) (by omega)
 ·exact h p P (by rwa[show k=n by omega]at hs)
end
open AutoSeq1 (wpAny_loadPart')
open MeetsSeq MeetsSeq2 MeetsSeq3 SeqRoads2
section
variable{prog:Nj}{w:Nl}{A:Nn}{E:Na}{s:Nh}{R:List Value→Prop}{vs:Ni}
structure zb8(prog:Nj)(w:Nl)(A:Nn)(E:Na)(s:Nh)(R:List Value→Prop)(vs:Ni):Prop where
 few:vs.length<2→R vs
 go:2≤vs.length→∃kd:SortKind,(∀Q:SortKind→Shared→Prop,Q kd s→wpAny (model prog w) A (keyKind' vs.toArray) Q E s) ∧
  ∀Q:Unit→SortSt→Prop,(∀ae,(arrOf ae).Perm (pairsOf vs)→failedOf ae=none→R ((arrOf ae).toList.map (·.2))→Q () ae)→wpS (model prog w) A E s sortRuns' Q (SortSt.mk' kd (vs.toArray.zip vs.toArray) #[] 7 none)
def zdm(vs:Ni):(pairsOf vs).toList=vs.map λv=>(v,v):=by
 rw[pairsOf_toList]
 induction vs with
 |nil=>rfl
 |cons v r ih=>rw[List.zip_cons_cons,Ql,ih]
def perm_back{l:List Keyed}{vs:Ni}(h:l.Perm (vs.map λv=>(v,v))):(l.map (·.2)).Perm vs:=by
 have:=h.map (·.2)
 rwa[Zi,show((λ(p:Keyed)=>p.2)∘λv=>(v,v))=id from rfl,List.map_id]at this
def cmp_of{kd:SortKind}(h:∀x y,x∈vs→y∈vs→∀(Q:Bool→Shared→Prop) (E':Value→Shared→Prop),(∀b,Q b s)→wpAny (model prog w) A (keyLt' kd x y) Q E' s):Cmp prog w A E s kd (pairsOf vs):=by
 intro x y st Q hx hy hk q
 rw[zdm]at hx hy
 obtain⟨v,hv,rfl⟩:=Qh.mp hx
 obtain⟨u,hu,rfl⟩:=Qh.mp hy
 rw[lt'_eq]
 refine wpS_bind (wpS_get ?_)
 rw[hk]
 refine wpS_bind (wpS_lift (wpAny_attempt (h v u hv hu _ _ λb=>⟨rfl,?_⟩)))
 exact wpS_pure (q b)
def zb8.any(h:2≤vs.length→∃kd:SortKind,(∀Q:SortKind→Shared→Prop,Q kd s→wpAny (model prog w) A (keyKind' vs.toArray) Q E s)∧∀x y,x∈vs→y∈vs→∀(Q:Bool→Shared→Prop) (E':Na),(∀b,Q b s)→wpAny (model prog w) A (keyLt' kd x y) Q E' s):zb8 prog w A E s (λ_=>True) vs :=
 ⟨fun _=>trivial,fun h2=>by
  obtain⟨kd,a1,a2⟩:=h h2
  exact⟨kd,a1,λQ q=>zfq (cmp_of a2) rfl rfl (Array.Perm.refl _) rfl λae p1 p2=>q ae p1 p2 trivial⟩⟩
def zb8.ord{O:KeyOrd}{kv:Value→O.α}(h:2≤vs.length→∃ kd:SortKind,(∀ Q:SortKind→Shared→Prop,Q kd s→wpAny (model prog w) A (keyKind' vs.toArray) Q E s)∧∀ x y,x∈vs→y∈vs→∀ (Q:Bool→Shared→Prop) (E':Na),Q (O.blt (kv x) (kv y)) s→wpAny (model prog w) A (keyLt' kd x y) Q E' s):zb8 prog w A E s (fun ws=>vs.length < 64→ws.Pairwise fun x y=>O.kle (kv x) (kv y)) vs:=by
 refine⟨λh2 _=>?_,λh2=>?_⟩
 ·obtain _ | ⟨v,_ | ⟨v',r⟩⟩:=vs
  ·exact List.Pairwise.nil
  ·exact Wp _ _
  ·exact absurd h2 (by simp)
 obtain⟨kd,a1,a2⟩:=h h2
 refine⟨kd,a1,λQ q=>?_⟩
 by_cases pO:vs.length<64
 ·have at_:∀ i,i < vs.length→vs.getD i .none∈vs:=fun i hi=>by
   rw[Zs,Qd hi]
   exact Qz hi
  have st0:SortSt.mk' kd (vs.toArray.zip vs.toArray) #[] 7 none=kas_st kd (pairsOf vs) (List.toArray (List.range vs.length)):=by
   unfold kas_st
   rw[←pairsOf_size vs,kas_range]
   rfl
  rw[st0]
  refine kas_runs (κ:=kd) (it:=pairsOf vs) (E:=E) (Q:=λr st s'=>s'=s∧Q r st) (G:=λp s'=>Aj3 (s'=s) (Ar vs.length p) (Up (O:=O) (λi=>kv (vs.getD i .none)) p vs.length)) h2 pO (λp ae s' hz ha hf ⟨hs,P,U⟩=>⟨hs,q ae ?_ hf λ_=>?_⟩) (t_sort (O:=O) (kf:=λi=>kv (vs.getD i .none)) (by omega) (λi j C hi hj hC=>?_) λp P U=>⟨rfl,P,U⟩)
  ·have:=(Yf.mp P.pm).map (kas_item (pairsOf vs))
   rw[←Kv,←Kv,←pairsOf_size vs,kas_range]at this
   rw[ha]
   exact Yf.mpr this
  ·rw [ha,Kv,Zi,Wq,Kc]
   intro i j hi hj bf
   have e:∀k (hk:k<p.toList.length),kv ((kas_item (pairsOf vs) p.toList[k]).2)=kk (λi=>kv (vs.getD i .none)) p k:=λk hk=>by
    unfold kk
    rw[kas_item_eq,Wv,getElem?_pos p k (by simpa using hk)]
    rfl
   show O.kle (kv _) (kv _)
   dsimp only[Function.comp]
   rw[e i hi,e j hj]
   exact U i j (Ug bf) (by simpa[P.sz] using hj)
  ·unfold kas_cmp
   rw[kas_item_eq,kas_item_eq]
   exact a2 _ _ (at_ i hi) (at_ j hj) _ _ hC
 ·exact zfq (cmp_of λx y hx hy Q' E' q'=>a2 x y hx hy Q' E' (q' _)) rfl rfl (Array.Perm.refl _) rfl λae p1 p2=>q ae p1 p2 λz=>absurd z pO
abbrev strO:KeyOrd:=strKind.toKeyOrd
def kvS(v:Value):List Nat:=(strOf v).cps.toList
def zd8(hv:∀v∈vs,∃x t,v=.str x t):zb8 prog w A E s (λws=>vs.length<64→ws.Pairwise λx y=>strO.kle (kvS x) (kvS y)) vs:=by
 refine .ord λh2=>⟨oneType',λQ q=>kas_kind (T:=.type "str") h2 (λv hm=>?_) (by decide) (by decide) q,λx y hx hy Q E' q=>?_⟩
 ·obtain ⟨x,t,rfl⟩:=hv v hm
  exact Looks.of_pure rfl
 ·obtain ⟨a,t,rfl⟩:=hv x hx
  obtain⟨b,u,rfl⟩:=hv y hy
  rw[keyLt'_oneType]
  exact oneLt_str q
def sort_list{a:Nc}{n:Nat}{P:Fin→Shared→Prop}(ho:s.heap.get? a=some (seqObj "list" vs.toArray n))(hz:vs.length≤sizeLine)(hS:∀s':Shared,(∀b o,b≠a→s.heap.get? b=some o→s'.heap.get? b=some o)→zb8 prog w A E s' R vs)(h:∀ws:List Value,ws.Perm vs→R ws→P (.done (.ret .none)) {s with heap:=sortedHeap s.heap a vs ws.toArray}) :
  wpAny (model prog w) A (Builtin.«list.sort» ⟨[.ref a],[]⟩) P E s:=by
 have lt:a<s.heap.objs.size:=Qt ho
 rw[list_sort_plain]
 refine wpAny_bind (listItems_at ho rfl (wpAny_bind (listUpdate_at ho rfl ?_ (hsz:=by simpa using hz) (hsz2:=by simp))))
 obtain⟨e1,k1⟩:∃e,(s.heap.update a (Obj.mapSeq λ_=>#[])).get? a=some (seqObj "list" #[] e):=⟨_,get?_update_seq ho λ_=>#[]⟩
 refine wpAny_bind (seqEpoch_at k1 rfl (wpAny_bind (wpAny_newTuple (wpAny_bind (wpAny_newList (wpAny_holding ?_))))))
 show wpAny (model prog w) A _ P E {s with heap:=((s.heap.update a (Obj.mapSeq λ_=>#[])).push (seqObj "tuple" vs.toArray 0)).push (seqObj "list" #[] 0)}
 generalize hg:((s.heap.update a (Obj.mapSeq λ_=>#[])).push (seqObj "tuple" vs.toArray 0)).push (seqObj "list" #[] 0)=g
 have k6:g.get? a=some (seqObj "list" #[] e1):=by
  rw[←hg]
  exact Qj _ (Qj _ k1)
 have kk:∀b o,b≠a→s.heap.get? b=some o→g.get? b=some o:=λb o hb e=>by
  rw[←hg]
  exact Qj _ (Qj _ ((Ue s.heap _ (Zb hb)).trans e))
 have eh:∀out,sortedHeap s.heap a vs out=g.update a (Obj.mapSeq λ_=>out):=λout=>by rw[←hg];rfl
 have S:=hS {s with heap:=g} kk
 dsimp only
 have fin:∀(l:Array Keyed),l.toList.Perm (vs.map λv=>(v,v))→R (l.toList.map (·.2))→P (.done (.ret .none)) {s with heap:=g.update a (Obj.mapSeq λ_=>l.map (·.2))}:=λl p1 p2=>by
  have:=h _ (perm_back p1) p2
  rw[eh]at this
  rw[show l.map (·.2)=(l.toList.map (·.2)).toArray by rw[←Kv]]
  exact this
 have lz:vs.toArray.size=vs.length:=Qy
 have szOk:∀l:Array Keyed,l.toList.Perm (vs.map λv=>(v,v))→(l.map (·.2)).size≤sizeLine+1:=λl p1=>by
  rw[Array.size_map,←Yw,p1.length_eq,Qa];exact zar16 ‹_›
 by_cases few:vs.toArray.size<2
 ·rw [if_pos few,if_pos few]
  refine wpAny_bind (wpAny_pure ?_)
  rw[StateT.run_pure]
  have pr:(pairsOf vs).toList.Perm (vs.map λv=>(v,v)):=by rw[zdm]
  refine wpAny_bind (wpAny_pure (wpAny_bind (seqEpoch_at k6 rfl (wpAny_bind (listUpdate_at k6 rfl ?_ (hsz:=by simp) (hsz2:=szOk (pairsOf vs) pr))))))
  simp only[bne_self_eq_false,Je,if_false]
  refine wpAny_pure (fin (pairsOf vs) pr ?_)
  rw[zdm,Zi,show((λ(p:Keyed)=>p.2)∘λv=>(v,v))=id from rfl,List.map_id]
  exact S.few (by rw[←lz];exact few)
 ·rw [if_neg few,if_neg few]
  obtain⟨kd,ask,C⟩:=S.go (by omega)
  refine wpAny_bind (ask _ ?_)
  refine wpAny_bind (wpAny_mono (C (λ_ ae=>Aj3 ((arrOf ae).Perm (pairsOf vs)) (failedOf ae=none) (R ((arrOf ae).toList.map (·.2)))) λae p1 p2 p3=>⟨p1,p2,p3⟩) ?_ λ_ _ e=>e)
  rintro⟨⟨⟩,ae⟩ s' ⟨rfl,p1,p2,p3⟩
  have pr:(arrOf ae).toList.Perm (vs.map λv=>(v,v)):=by rw[←zdm];exact Yf.mp p1
  dsimp only
  refine wpAny_bind (seqEpoch_at k6 rfl (wpAny_bind (listUpdate_at k6 rfl ?_ (hsz:=by simp) (hsz2:=szOk (arrOf ae) pr))))
  rw[p2]
  simp only[bne_self_eq_false,Je,if_false]
  exact wpAny_pure (fin _ pr p3)
def zes{x:Value}{G:List Value→Prop}{R:List Value→List Value→Prop}{Q:Na}(tH:∀(E':Na) (R:List Value→Shared→Prop),(∀(g:Nm) (tk:Nat) (vs:Ni),(∀b o,s.heap.get? b=some o→g.get? b=some o)→s.heap.objs.size≤g.objs.size→G vs→R vs {s with heap:=g,toks:=tk})→wpAny (model prog w) A.in1 (collect x) R E' s)(hz:∀vs,G vs→vs.length≤sizeLine)(hS:∀vs,G vs→∀(A':Around) (E':Value→Shared→Prop) (s':Shared),A'.units≤A.units+8→(∀b o,s.heap.get? b=some o→s'.heap.get? b=some o)→zb8 prog w A' E' s' (R vs) vs)(h:∀(vs ws:Ni) (l:Nc) (g:Nm) (tk e:Nat),G vs→ws.Perm vs→R vs ws→s.heap.objs.size≤l→(∀b o,s.heap.get? b=some o→g.get? b=some o)→g.get? l=some (seqObj "list" ws.toArray e)→Q (.ref l) {s with heap:=g,toks:=tk}) :
  wpAny (model prog w) A (call (.builtin "sorted") [x]) Q E s:=by
 refine Calls.call_function_entry kind_sorted plain_sorted entry_sorted (args_sorted1 _) ?_
 unfold Builtin.«sorted»
 refine wpAny_bind (m:=checkCount "sorted" 1 1 _) (wpAny_pure (wpAny_bind (tH _ _ λg tk vs kg le hG=>?_)))
 have hzv:=hz vs hG
 refine wpAny_bind (wpAny_newList ?_ (hsz:=hzv))
 have o1:(g.push (seqObj "list" vs.toArray 0)).get? g.objs.size=some (seqObj "list" vs.toArray 0):=Zd _ rfl
 show wpAny _ _ _ _ _ {s with heap:=g.push (seqObj "list" vs.toArray 0),toks:=tk}
 refine wpAny_bind (wpAny_holding (wpAny_call_entry slot_list_sort ⟨_,o1,rfl⟩ entry_list_sort (sort_list (R:=R vs) o1 hzv (λs' k=>hS vs hG _ _ s' ?_ λb o e=>k b o (λz=>?_) (Qj _ (kg b o e))) λws p1 p2=>⟨_,rfl,?_⟩) (args_list_sort _)))
 ·show A.units+1+1≤A.units+8
  omega
 ·have lt:b < g.objs.size:=Qt (kg b o e)
  rw[z]at lt
  exact absurd lt (Yv _)
 ·obtain ⟨e,he⟩:=sortedHeap_at (out:=ws.toArray) o1
  refine wpAny_pure ⟨_,rfl,h vs ws _ _ _ e hG p1 p2 le (λb o q=>?_) he⟩
  have lt:b<g.objs.size:=Qt (kg b o q)
  rw[sortedHeap_old (Zc lt) (by rw[size_push'];exact Uk lt)]
  exact Qj _ (kg b o q)
def zgl{T:String}{r d:Nc}{n:Nat}{P:Nat→Value→Prop}{OK:Heap→Prop}{R:List Value→Shared→Prop}(K:KdlSrc prog w T r d n P OK)(hh:A.handled=none)(ok:OK s.heap)(hn:n≤sizeLine)(h:∀(g:Nm) (tk:Nat) (ai:Array Value),(∀b o,s.heap.get? b=some o→g.get? b=some o)→s.heap.objs.size≤g.objs.size→ItemsOf P ai n→R ai.toList {s with heap:=g,toks:=tk}) :
  wpAny (model prog w) A (collect (.ref r)) R E s:=by
 have there:=K.there _ ok
 unfold collect
 refine wpAny_bind (wpAny_runValue (codeAny_builtin entry_proto_collect' ?_))
 rw[Wg PySem.F.plain_proto_collect _]
 show wpAny _ A.in1 (newList [] >>= λl =>
  again (.builtin "list.__iadd__" ⟨[l,.ref r],[]⟩)) _ _ s
 refine wpAny_bind (wpAny_newObj_type (wpAny_pure ⟨plainId_quiet PySem.F.plain_list_iadd _,codeAny_builtin entry_list_iadd' ?_⟩))
 rw[Wg PySem.F.plain_list_iadd _]
 show wpAny _ A.in1 (Builtin.List.listExtendWith (.ref s.heap.objs.size)
  (.ref r) (.ref s.heap.objs.size)) _ _ _
 have kM:(s.heap.push {cls:=.type "list",data:=.seq ([]:List Value).toArray}).get? s.heap.objs.size=some {cls:=.type "list",data:=.seq #[]}:=Zd _ rfl
 refine wpAny_mono (kdl_extend (A:=A) (s:={s with heap:=s.heap.push {cls:=.type "list",data:=.seq ([]:List Value).toArray}})
  (R:=fun (q:Result) (s':Nh)=>∃ (g:Nm) (tk:Nat) (ai:Array Value) (c:Nat),q=.ok (.ret (.ref s.heap.objs.size))∧s'={ s with heap:=g,toks:=tk } ∧
   (∀b o,s.heap.get? b=some o→g.get? b=some o)∧g.get? s.heap.objs.size=some {cls:=.type "list",dict:=none,data:=.seq ai c,slots:=#[]}∧ItemsOf P ai n)
  K hh (K.keep _ _ ok λb _ o e=>Qj _ e) s.heap.objs.size (Yc there.1) (Yc there.2) (.ref s.heap.objs.size) 0 kM
  (λg tk ai c hk hS ha=>⟨g,tk,ai,c,rfl,rfl,λb o e=>hk b o (Zc (Qt e)) (Qj _ e),hS,ha⟩) hn) (λfin s' x=>?_) λe s' x=>?_
 ·cases fin with
  |done f =>
   obtain⟨g,tk,ai,c,e,rfl,hk,hS,ha⟩:=x
   cases e
   show wpAny _ A (load s.heap.objs.size >>= _) _ _ _
   exact wpAny_bind (wpAny_load hS (wpAny_pure (h g tk ai hk (Ug (Qt hS)) ha)))
  |again c1 =>
   refine⟨x.1,codeAny_mono x.2 λq s2 y=>?_⟩
   obtain⟨g,tk,ai,c,rfl,rfl,hk,hS,ha⟩:=y
   show wpAny _ A (load s.heap.objs.size >>= _) _ _ _
   exact wpAny_bind (wpAny_load hS (wpAny_pure (h g tk ai hk (Ug (Qt hS)) ha)))
 ·obtain ⟨_,_,_,_,e',_⟩:=x
  cases e'
def sorted_any{l:Nc}{Q:Na}(hl:s.heap.IsList l vs.toArray)(hz:vs.length≤sizeLine)(hS:∀(A':Around) (E':Value→Shared→Prop) (s':Shared),A'.units≤A.units+8→(∀b o,s.heap.get? b=some o→s'.heap.get? b=some o)→zb8 prog w A' E' s' R vs)(h:∀(ws:Ni) (l:Nc) (g:Nm) (tk e:Nat),ws.Perm vs→R ws→s.heap.objs.size≤l→(∀b o,s.heap.get? b=some o→g.get? b=some o)→g.get? l=some (seqObj "list" ws.toArray e)→Q (.ref l) {s with heap:=g,toks:=tk}) :
  wpAny (model prog w) A (call (.builtin "sorted") [.ref l]) Q E s :=
 zes (G:=λus=>us=vs) (R:=λ_=>R) (λE' R' hR=>collect_list hl (hR _ _ _ (λb o e=>(Ue _ _ (Zb (Zc (Qt e)))).trans (Qj _ e)) (by rw[Heap.size_update,size_push'];exact Uf _) rfl) hz) (λus e=>e▸hz) (λus e=>e▸hS) λus ws l g tk e e' p1 p2=>h ws l g tk e (e'▸p1) p2
end
def str_ext{a b:Str}(h:a.cps.toList=b.cps.toList):a=b:=by
 cases a;cases b
 exact congrArg _ (Jo.mp h)
def str_ne{a b:Str}(h:¬a=b):¬a.cps.toList=b.cps.toList:=λq=>h (str_ext q)
def pairO(O P:KeyOrd):KeyOrd where
 α:=O.α×P.α
 blt a b:=O.blt a.1 b.1||(!O.blt b.1 a.1&&P.blt a.2 b.2)
 irrefl a:=by rw[O.irrefl,P.irrefl];rfl
 trans a b c h1 h2:=by
  simp only[Xa,Ku,Kk]at *
  rcases h1 with h1 | ⟨n1,h1⟩
  ·rcases h2 with h2 | ⟨n2,h2⟩
   ·exact .inl (O.trans _ _ _ h1 h2)
   ·exact .inl (KeyOrd.klt_of_klt_of_kle h1 n2)
  ·rcases h2 with h2 | ⟨n2,h2⟩
   ·exact .inl (KeyOrd.klt_of_kle_of_klt n1 h2)
   ·exact .inr ⟨Ut n1 n2,P.trans _ _ _ h1 h2⟩
 negTrans a b c h:=by
  simp only[Xa,Ku,Kk]at *
  rcases h with h | ⟨n,h⟩
  ·rcases O.negTrans _ b.1 _ h with q | q
   ·exact .inl (.inl q)
   ·exact .inr (.inl q)
  ·cases e1:O.blt a.1 b.1 with
   |true=>exact .inl (.inl rfl)
   | false =>
    cases e2:O.blt b.1 c.1 with
    |true=>exact .inr (.inl rfl)
    |false =>
     have n1:O.blt b.1 a.1=false:=Ut (O:=O) (a:=a.1) (b:=c.1) (c:=b.1) n e2
     have n2:O.blt c.1 b.1=false:=Ut (O:=O) (a:=b.1) (b:=a.1) (c:=c.1) e1 n
     rcases P.negTrans _ b.2 _ h with q | q
     ·exact .inl (.inr ⟨n1,q⟩)
     ·exact .inr (.inr ⟨n2,q⟩)
 total a b h1 h2:=by
  simp only[Bool.or_eq_false_iff,Bool.and_eq_false_iff,Bool.not_eq_false']at *
  have e1:=O.total _ _ h1.1 h2.1
  obtain⟨a1,a2⟩:=a
  obtain⟨b1,b2⟩:=b
  simp only at e1 h1 h2
  subst e1
  have i:=O.irrefl a1
  rw[i]at h1 h2
  have p1:P.blt a2 b2=false:=h1.2.elim (λz=>by cases z) id
  have p2:P.blt b2 a2=false:=h2.2.elim (λz=>by cases z) id
  rw[P.total _ _ p1 p2]
def zid(h:Nm):Value→List Value
 | .ref a=>match h.get? a with
  |some o=>match o.data with
   |.seq xs _=>xs.toList
   |_=>[]
  |none=>[]
 |_=>[]
def itemsAt_ref{h:Nm}{a:Nc}{o:Obj}{xs:Array Value}{n:Nat}(e:h.get? a=some o)(d:o.data=.seq xs n):zid h (.ref a)=xs.toList:=by
 unfold zid
 dsimp only
 rw[e]
 dsimp only
 rw[d]
def kvP(h:Nm)(v:Value):List Nat×List Nat:=(kvS ((zid h v).getD 0 .none),kvS ((zid h v).getD 1 .none))
def zff(h:Nm)(v:Value)(x:Str)(q:Value):Prop:=∃a o t n,v=.ref a∧h.get? a=some o∧o.cls=.type "tuple" ∧ o.data=.seq #[.str x t,q] n
def zff.key{h:Nm}{v:Value}{x:Str}{q:Value}(p:zff h v x q):kvP h v=(x.cps.toList,kvS q):=by
 obtain⟨a,o,t,n,rfl,e,c,d⟩:=p
 unfold kvP
 rw[itemsAt_ref e d]
 rfl
theorem katTups{h s:Nm}(k:∀b o,h.get? b=some o→s.get? b=some o):∀(vs:Ni),(∀v∈vs,∃x q,zff h v x q)→∃fs,KatTups s vs fs∧fs.length=vs.length∧∀f∈fs,∃x t,f=.str x t
 |[],_=>⟨[],.nil,rfl,λf hf=>by cases hf⟩
 |v::vs,hv=>by
  obtain⟨fs,h1,h2,h3⟩:=katTups k vs λu hu=>hv u (Qg _ hu)
  obtain⟨x,q,a,o,t,n,rfl,e,c,d⟩:=hv v Qc
  refine⟨.str x t::fs,.cons (k _ _ e) c d rfl h1,by rw[Qx,Qx,h2],λf hf=>?_⟩
  rcases Qe.mp hf with z | z
  ·exact⟨x,t,z⟩
  ·exact h3 f z
section
variable{prog:Nj}{w:Nl}{A:Nn}{E:Na}{s:Nh}{vs:Ni}{h:Nm}
def kind_tups(k:∀b o,h.get? b=some o→s.heap.get? b=some o)(hv:∀v∈vs,∃x q,zff h v x q)(h2:2≤vs.length){Q:SortKind→Shared→Prop}(q:Q (tuples' true) s):wpAny (model prog w) A (keyKind' vs.toArray) Q E s:=by
 obtain⟨fs,h1,h3,h4⟩:=katTups k vs hv
 refine kat_kind (T:=.type "str") h1 (by omega) (λf hf=>?_) (by decide) q
 obtain⟨x,t,rfl⟩:=h4 f hf
 exact Looks.of_pure rfl
def blt_p{x x' y y':List Nat}:(pairO strO strO).blt (x,y) (x',y')=if x=x' then decide (y<y') else decide (x<x'):=by
 show(decide (x<x')||(!decide (x'<x)&&decide (y<y')))=_
 split
 ·rename_i e
  subst e
  rw[decide_eq_false (Wy x)];rfl
 ·rename_i ne
  by_cases h1:x<x'
  ·rw[decide_eq_true h1];rfl
  ·rw[decide_eq_false h1,decide_eq_true (Kf λh2=>ne (strO.total _ _ (decide_eq_false h1) (decide_eq_false h2)))];rfl
def zd7(k:∀ b o,h.get? b=some o→s.heap.get? b=some o)(hv:∀ v∈vs,∃ x q,zff h v x q)(hd:∀ v∈vs,∀ u∈vs,∀ x p q,zff h v x p→zff h u x q→v=u∨∃ y t y' t',p=.str y t∧q=.str y' t'):zb8 prog w A E s (fun ws=>vs.length < 64→ws.Pairwise fun x y=>(pairO strO strO).kle (kvP h x) (kvP h y)) vs:=by
 refine .ord λh2=>⟨tuples' true,λQ q=>kind_tups k hv h2 q,λv v' hx hy Q E' q=>?_⟩
 have same:=hd v hx v' hy
 obtain⟨x,z,p⟩:=hv v hx
 obtain⟨x',z',p'⟩:=hv v' hy
 have P:=p
 have P':=p'
 rw[P.key,P'.key,blt_p]at q
 obtain⟨a,o,t,n,rfl,e,c,d⟩:=p
 obtain⟨a',o',t',n',rfl,e',c',d'⟩:=p'
 refine kat_lt (k _ _ e) d (k _ _ e') d' ?_
 show KatLex _ _ _ _ _ _ [(Value.str x t,Value.str x' t'),(z,z')] 0 s
 refine kat_cons (wpAny_eqBool_str ?_)
 by_cases ex:x=x'
 ·subst ex
  rw[if_pos rfl]at q
  rw[decide_eq_true rfl]
  refine kat_yes (kat_cons ?_)
  rcases same x z z' P P' with e2 | ⟨y,u,y',u',rfl,rfl⟩
  ·cases e2
   rw[e]at e'
   cases e'
   rw[d]at d'
   have d2:(#[Value.str x t,z]:Array Value)=#[Value.str x t',z']:=by injection d'
   have d3:z=z':=by
    have:=congrArg (λa:Array Value=>a[1]?) d2
    simpa using this
   subst d3
   rw[decide_eq_false (Wy _)]at q
   exact SeqAt.EqAt.same z _ _ _ _ (kat_yes (kat_nil q))
  ·refine wpAny_eqBool_str ?_
   by_cases ey:y=y'
   ·subst ey
    rw[show kvS (Value.str y u')=kvS (Value.str y u) from rfl,decide_eq_false (Wy _)]at q
    rw[decide_eq_true rfl]
    exact kat_yes (kat_nil q)
   ·rw [decide_eq_false ey]
    exact kat_no (kat_one _ _ (lt_str q))
 ·rw [decide_eq_false ex]
  rw[if_neg (str_ne ex)]at q
  exact kat_no (oneLt_str q)
end
def lt_loopAt(l b:Nc)(xs ys:List (Str×Tok))(n n2:Nat)(k:Nat) :
  ∀ i:Nat,min xs.length ys.length - i=k→i≤min xs.length ys.length→Meets (Builtin.«list.__eq__.loop» ⟨[.ref l,.ref b,rawInt i,rawInt 0],[]⟩)
   (fun A R s=>s.heap.get? l=some { cls:=.type "list",data:=.seq (strValues xs).toArray n }∧s.heap.get? b=some { cls:=.type "list",data:=.seq (strValues ys).toArray n2 } ∧
    ∀z,R (.ok (.ret (.bool z))) s):=by
 have get:∀(zs:List (Str×Tok)) (i:Nat),(strValues zs).toArray[((i:Nat):Int).toNat]?=zs[i]?.map λp=>Value.str p.1 p.2:=λzs i=>by
  simp[strValues]
 induction k with
 | zero =>
  intro i hk sm prog w A R s h
  obtain⟨hp,g,d,tk,os⟩:=s;obtain⟨hl,hb,h⟩:=h
  wp_walk using wpAny_loadPart' hl,wpAny_loadPart' hb
  rw[get,get]
  by_cases hx:i<xs.length
  ·have hy:ys[i]?=none:=by simp;lia
   rw[hy,Qd hx]
   dsimp only[Option.map_some,Option.map_none]
   wp_walk using wpAny_loadPart' hl,wpAny_loadPart' hb
   exact h _
  ·have ci:xs[i]?=none:=by simp;lia
   rw[ci]
   dsimp only[Option.map_some,Option.map_none]
   wp_walk using wpAny_loadPart' hl,wpAny_loadPart' hb
   exact h _
 | succ k ih =>
  intro i hk sm prog w A R s h
  obtain⟨hp,g,d,tk,os⟩:=s;obtain⟨hl,hb,h⟩:=h
  wp_walk using wpAny_loadPart' hl,wpAny_loadPart' hb
  have hx:i<xs.length:=by lia
  have hy:i<ys.length:=by lia
  rw[get,get,Qd hx,Qd hy]
  dsimp only[Option.map_some]
  have hc:((i:Int)+1)=((i+1:Nat):Int):=by push_cast;rfl
  refine wpAny_bind (wpAny_eqBool_str ?_)
  by_cases he:xs[i].1=ys[i].1
  ·rw [decide_eq_true he]
   wp_walk
   rw[hc]
   exact⟨plainId_quiet plain_eq_loop _,codeAny_builtin entry_eq_loop (by
    rw[Wg plain_eq_loop _]
    exact ih (i+1) (by lia) (by lia) prog w A R _ ⟨hl,hb,h⟩)⟩
  ·rw [decide_eq_false he]
   wp_walk using wpAny_loadPart' hl,wpAny_loadPart' hb
   rw[get,get,Qd hx,Qd hy]
   dsimp only[Option.map_some]
   refine wpAny_bind (show wpAny _ _ (compareOp .Lt (Value.str xs[i].1 xs[i].2) (Value.str ys[i].1 ys[i].2)) _ _ _ from lt_str ?_)
   wp_walk
   exact h _
def list_ltAt(l b:Nc)(xs ys:List (Str×Tok))(n n2:Nat):Meets (Builtin.«list.__lt__» ⟨[.ref l,.ref b],[]⟩)
   (fun A R s=>s.heap.get? l=some { cls:=.type "list",data:=.seq (strValues xs).toArray n }∧s.heap.get? b=some { cls:=.type "list",data:=.seq (strValues ys).toArray n2 } ∧
    ∀z,R (.ok (.ret (.bool z))) s):=by
 intro prog w A R s h
 obtain⟨hp,g,d,tk,os⟩:=s;obtain⟨hl,hb,h⟩:=h
 have f3:=AutoSeq1.sub_list_list
 wp_walk using wpAny_loadPart' hl,wpAny_loadPart' hb
 exact⟨plainId_quiet plain_eq_loop _,codeAny_builtin entry_eq_loop (by
  rw[Wg plain_eq_loop _]
  exact lt_loopAt l b xs ys n n2 _ 0 rfl (Zf _) prog w A R _ ⟨hl,hb,h⟩)⟩
section
variable{prog:Nj}{w:Nl}{A:Nn}{E:Na}{s:Nh}
def zgs{vs:Ni}{h:Nm}(hu:A.units<cLine)(k:∀b o,h.get? b=some o→s.heap.get? b=some o)(hv:∀v∈vs,∃a xs n,v=.ref a∧h.get? a=some {cls:=.type "list",data:=.seq (strValues xs).toArray n}):zb8 prog w A E s (λ_=>True) vs:=by
 refine .any λh2=>⟨oneType',λQ q=>kas_kind (T:=.type "list") h2 (λv hm=>?_) (by decide) (by decide) q,λx y hx hy Q E' q=>?_⟩
 ·obtain ⟨a,xs,n,rfl,e⟩:=hv v hm
  exact(Looks.ld (k _ _ e)).andThen .now
 ·obtain ⟨a,xs,n,rfl,e⟩:=hv x hx
  obtain⟨b,ys,m,rfl,e'⟩:=hv y hy
  rw[keyLt'_oneType,oneLt'_eq]
  simp only[if_true]
  refine wpAny_bind (wpAny_cRoomFor hu ?_)
  refine wpAny_bind (wpAny_callSpecialIfBound?_slot ⟨_,k _ _ e,rfl⟩ F.slot_list_lt (call_meets F.slot_list_lt ⟨_,k _ _ e,rfl⟩ F.entry_list_lt (F.args_list_lt_2 _ _) (list_ltAt a b xs ys n m) ⟨k _ _ e,k _ _ e',λz=>?_⟩))
  exact wpAny_truthy_bool (q _)
end
end Tm
end
section
namespace L2
open PySem PySem.Spec PyProof.Rows
section
variable{X:Cx}
inductive RrIndex(x:V)(vs:List V)(H:Hp)(Q:VK):Prop
 |mk (l:Nc) (xs:List V) (y:V) (j:Nat) (h0:x=.ref l) (h1:vs=[y]) (h2:H l=some (.lst xs)) (h3:zdp y=true) (h4:xs.all zdp=true) (h5:(∃z,xs[j]?=some z∧eqV z y=true)) (h6:(∀m z,m<j→xs[m]?=some z→eqV z y=false)) (h7:Q (.int j) H):RrIndex x vs H Q
def rIndex:V→List V→Hp→VK→Prop:=λx vs H Q=>RrIndex x vs H Q
def zia:MtM X "list.index" rIndex:=by
 intro a7 s σ H x vs v us Q I rx rv h
 obtain⟨l,xs,y,j,rfl,rfl,hH,fy,fs,⟨z,hz,ez⟩,bQ,q⟩:=h
 cases rx
 obtain⟨u,rfl,ru⟩:=rv.one
 obtain⟨zz,a8,n,r,hl,e⟩:=I.lstM hH
 have hn:=zej
 obtain⟨wv,hw,cC⟩:=r.get hz
 have hj:j<a8.length:=(Qw.mp hw).1
 have fl:∀{i:Nat} {a:V},xs[i]?=some a→zdp a=true:=λ{i a} q=>Uv.mp fs a (Yj q)
 refine call_meets F.slot_list_index ⟨_,e,rfl⟩ F.entry_list_index (F.args_list_index_2 _ _)
  (SeqAt.list_indexAt l a8.toArray n none #[] u (eqU y) j (by simpa using hj) (by lia) ?_ ?_) ⟨e,λa ha=>zdn ru fy r fs a (by simpa using ha),?_⟩
 ·have e1:a8[j]=wv:=by
   have:=Qd hj
   rw[this]at hw;exact Qk hw
  show eqU y (a8.toArray[j])=true
  rw[Jr,e1,eqU_of cC (fl hz)]
  exact ez
 ·intro m hm ag
  have si:m<a8.length:=by simpa using hm
  have cx:m<xs.length:=by exact zar6 ‹_› ‹_›
  have gx:xs[m]?=some xs[m]:=Qd cx
  obtain⟨wm,lP,rm⟩:=r.get gx
  have e1:a8[m]=wm:=by
   have:=Qd si
   rw[this]at lP;exact Qk lP
  show eqU y (a8.toArray[m])=false
  rw[Jr,e1,eqU_of rm (fl gx)]
  exact bQ m _ ag gx
 ·exact⟨.int j,H,I.tok _,⟨_,rfl⟩,q⟩
inductive RrInsert(x:V)(vs:List V)(H:Hp)(Q:VK):Prop
 |mk (l:Nc) (xs:List V) (y:V) (k:Nat) (h0:x=.ref l) (h1:vs=[.int k,y]) (h2:H l=some (.lst xs)) (h3:xs.length<sizeLine) (h4:k≤xs.length) (h5:Q .non (upd H l (.lst (xs.take k++y::xs.drop k)))):RrInsert x vs H Q
def rInsert:V→List V→Hp→VK→Prop:=λx vs H Q=>RrInsert x vs H Q
def mt_insert:MtM X "list.insert" rInsert:=by
 intro a7 s σ H x vs v us Q I rx rv h
 obtain⟨l,xs,y,k,rfl,rfl,hH,hz,hk,q⟩:=h
 cases rx
 obtain⟨u1,u,rfl,⟨t,rfl⟩,ru⟩:=rv.two
 obtain⟨zz,a8,n,r,hl,e⟩:=I.lstM hH
 have hn:=zej
 obtain⟨i,hi⟩:∃i:Int,i=(k:Int):=⟨_,rfl⟩
 have sH:¬(!Builtin.List.listFitsIndex i)=true:=by
  rw[fitsIndex_both (by lia) (by lia)]
  exact Zg
 have hsz:a8.toArray.size≤sizeLine:=by rw[Qy];exact zdw ‹_› ‹_›
 have M:=AutoSeq1.list_insert_list_int_val_1 l a8.toArray n i t u sH hsz
 rw[←hi]
 refine call_meets F.slot_list_insert ⟨_,e,rfl⟩ F.entry_list_insert (F.args_list_insert_3 _ _ _) M ⟨e,?_⟩
 refine⟨.non,_,I.lset (its':=a8.take k++u::a8.drop k) hH e ?_ ((r.take k).append (.cons ru (r.drop k))) ?_,rfl,q⟩
 ·have e1:¬ (i < 0):=by lia
  have e2:min i.toNat a8.toArray.size=k:=by rw[Qy];lia
  show(a8.toArray.extract 0 (if i<0 then(i+((a8.toArray.size:Nat):Int)).toNat else min i.toNat a8.toArray.size)).push u++a8.toArray.extract (if i<0 then(i+((a8.toArray.size:Nat):Int)).toNat else min i.toNat a8.toArray.size)=_
  rw[if_neg e1,e2]
  apply Jo.mp
  simp
  rw[Qv (by rw[Jn];exact Qi _)]
 ·simp;lia
theorem zd6:∀{zs:Nf} {a8:Ni},Vals (zs.map V.str) a8→∃l:List (Str×Tok),a8=PySem.strValues l∧l.map (·.1)=zs
 |[],_,.nil=>⟨[],rfl,rfl⟩
 |z::zs,_,.cons r t=>by
  obtain⟨tk,rfl⟩:=r
  obtain⟨l,rfl,e⟩:=zd6 t
  exact⟨(z,tk)::l,rfl,by rw[Ql,e]⟩
def call_isi_str:zch X (.builtin "isinstance") (λxs H Q=>Ex1 λz=>Aj2 (xs=[.str z,.ty "str"]) (Q (.bl true) H)):=by
 intro a7 s σ H xs us Q I r h
 obtain⟨z,rfl,q⟩:=h
 obtain⟨u,w',rfl,⟨t,rfl⟩,e⟩:=vals2 r
 have e':w'=Value.type "str" := e
 subst e'
 exact IsiPair.str_str ⟨.bl true,H,I,rfl,q⟩
def zhj{a7:Nd}{s:Nh}{σ:St}{H:Hp}{p:Nc}{ys:List V}(hc:X.calm=true)(I:Inv X a7 σ H s)(hq:SqL X.K H p ys){Q:Na}(h:∀ (a8:Ni) (It:Nc) (h1:Nm),Vals ys a8→Walks X.prog X.w X.A.in1 It [It,p] [It] a8.toArray.size (fun i v=>a8.toArray[i]?=some v) (fun i h=>h.IsListIter It p i∧h.IsList p a8.toArray)→(h1.IsListIter It p 0∧h1.IsList p a8.toArray)→(∀ b∈[It,p],b < h1.objs.size) →
   (∀(h':Nm) (tk:Nat),(∀b o,b∉[It]→h1.get? b=some o→h'.get? b=some o)→Inv X a7 σ H {s with heap:=h',toks:=tk})→Q (.ref It) {s with heap:=h1}) :
  wpAny (model X.prog X.w) X.A.in1 (pyIter (.ref p)) Q X.xe s:=by
 obtain⟨a8,rv,pl,hz⟩:=I.list hq
 refine wpAny_pyIter_list pl.isList ?_
 have lt:p<s.heap.objs.size:=by obtain⟨o,n,e,_⟩:=pl;exact Qt e
 refine h a8 s.heap.objs.size _ rv (Walks.list (show X.A.in1.handled=none from I.ok.hd hc) _ _ (Zc lt) _) ⟨⟨_,Zd _ rfl,rfl,rfl⟩,?_⟩ (λb hb=>?_) λh' tk k=>I.kept (t':=tk) λb o e=>?_
 ·obtain ⟨o,e,r⟩:=pl.isList
  exact⟨o,Qj _ e,r⟩
 ·rcases Qe.mp hb with e | e
  ·rw[e];simp[Heap.push]
  ·rw[Qb.mp e];simp[Heap.push];exact Uk lt
 ·exact k b o (λz=>absurd (Qt e) (by rw[Qb.mp z];exact Yv _)) (Qj _ e)
theorem zd0(ns:List Int):∀k,k≤ns.length→preSum (λi=>ns.getD i 0) k=(ns.take k).sum
 |0,_=>rfl
 |k+1,h=>by
  show preSum (λi=>ns.getD i 0) k+ns.getD k 0=_
  have hk:k<ns.length:=h
  rw[zd0 ns k (by exact Ug ‹_›),Qm hk,List.sum_append,List.sum_singleton]
  congr 1
  simp[List.getD,hk]
theorem zg1:∀{ns:List Int} {a8:Ni},Vals (ns.map V.int) a8→∀(i:Nat) (v:Value),a8[i]?=some v→∃t,v=Value.int (ns.getD i 0) t
 |[],_,.nil,i,v,e=>by simp at e
 |n::ns,_,.cons r t,0,v,e=>by
  obtain⟨tk,rfl⟩:=r
  simp at e;subst e
  exact⟨tk,rfl⟩
 |n::ns,_,.cons r t,i+1,v,e=>by
  obtain⟨tk,h⟩:=zg1 t i v (by simpa using e)
  exact⟨tk,by rw[h];simp⟩
def sum_small{ns:List Int}(hb:∀n∈ns,0≤n∧n≤1000000):0≤ns.sum∧ns.sum≤1000000*(ns.length:Int):=by
 induction ns with
 |nil=>simp
 |cons a r ih =>
  have h1:=hb a Qc
  have h2:=ih λn hn=>hb n (Qg _ hn)
  rw[Zl,Qx]
  lia
def call_sum(hc:X.calm=true):zch X (.builtin "sum") (λxs H Q=>Ex2 λ(p:Nc) (ns:List Int)=>Aj5 (xs=[.ref p]) (SqL X.K H p (ns.map V.int)) (ns.length≤1000000) (∀n∈ns,0≤n∧n≤1000000) (Q (.int ns.sum) H)):=by
 intro a7 s σ H xs us Q I r h
 obtain⟨p,ns,rfl,hq,hl,hb,q⟩:=h
 obtain⟨u,rfl,rx⟩:=vals1 r
 cases rx
 refine call_sum_walk (zhj hc I hq λa8 It h1 rv W st lt keep=>⟨It,_,_,_,_,_,λi=>ns.getD i 0,rfl,W,st,lt,λi v e=>zg1 rv i v (by simpa using e),λj hj=>?_,λh' tk t' k=>⟨.int ns.sum,H,keep h' tk k,⟨t',?_⟩,q⟩⟩)
 ·have aj:=rv.length
  rw[Qa]at aj
  have n8:j<ns.length:=by rw[aj];simpa using hj
  have s1:=sum_small (ns:=ns.take (j+1)) λn hn=>hb n (Us hn)
  rw[Zj]at s1
  have g:ns.getD j 0=ns[j]:=by simp[List.getD,n8]
  have g2:=hb _ (Qz n8)
  refine⟨?_,?_⟩
  ·show InLong (ns.getD j 0)
   rw[g];unfold InLong;lia
  ·rw [zd0 ns (j+1) n8]
   unfold InLong;lia
 ·have aj:=rv.length
  rw[Qa]at aj
  rw[Qy,zd0 ns _ (by lia),←aj,Qv (Qi _)]
theorem zg2:∀{bs:List Bool} {a8:Ni},Vals (bs.map V.bl) a8→∀(i:Nat) (v:Value),a8[i]?=some v→v=Value.bool (bs.getD i true)
 |[],_,.nil,i,v,e=>by simp at e
 |n::ns,_,.cons r t,0,v,e=>by
  cases r
  simp at e;subst e
  rfl
 |n::ns,_,.cons r t,i+1,v,e=>by
  have h:=zg2 t i v (by simpa using e)
  rw[h];simp
def all_range(bs:List Bool):(List.range bs.length).all (λi=>bs.getD i true)=bs.all id:=by
 rw[Wl,Uv,Uv]
 constructor
 ·intro h x hx
  obtain⟨i,hi,e⟩:=Zr hx
  have:=h i (Ur.mpr hi)
  simp[List.getD,hi]at this
  rw[←e];exact this
 ·intro h i hi
  have du:=Ur.mp hi
  simp[List.getD,du]
  exact h _ (Qz du)
def call_all(hc:X.calm=true):zch X (.builtin "all") (λxs H Q=>Ex2 λ(p:Nc) (bs:List Bool)=>Aj3 (xs=[.ref p]) (SqL X.K H p (bs.map V.bl)) (Q (.bl (bs.all id)) H)):=by
 intro a7 s σ H xs us Q I r h
 obtain⟨p,bs,rfl,hq,q⟩:=h
 obtain⟨u,rfl,rx⟩:=vals1 r
 cases rx
 refine call_all_walk (zhj hc I hq λa8 It h1 rv W st lt keep=>⟨It,_,_,_,_,_,λi=>bs.getD i true,rfl,W,st,λi v s' Q' E' e q'=>?_,λh' tk k=>⟨.bl (bs.all id),H,keep h' tk k,?_,q⟩⟩)
 ·have e':=zg2 rv i v (by simpa using e)
  subst e'
  exact wpAny_truthy_bool q'
 ·have aj:=rv.length
  rw[Qa]at aj
  show Value.bool _=Value.bool _
  rw[Qy,←aj,all_range]
end
end L2
end
section
namespace L2
open PySem PySem.Spec PyProof.Rows Tm
def Vals.perm{ws us:Ni}(p:ws.Perm us):∀{ys:List V},Vals ys us→∃zs,zs.Perm ys∧Vals zs ws:=by
 induction p with
 |nil=>intro ys r;cases r;exact⟨[],.nil,.nil⟩
 | cons x q ih =>
  intro ys r
  cases r with
  |cons r1 r2 =>
   obtain⟨zs,h1,h2⟩:=ih r2
   exact⟨_::zs,h1.cons _,.cons r1 h2⟩
 | swap x y l =>
  intro ys r
  cases r with
  |cons r1 r2 =>
   cases r2 with
   |cons r3 r4=>exact⟨_,List.Perm.swap ..,.cons r3 (.cons r1 r4)⟩
 |trans _ _ ih1 ih2 =>
  intro ys r
  obtain⟨zs,h1,h2⟩:=ih2 r
  obtain⟨jh,h3,h4⟩:=ih1 h2
  exact⟨jh,h3.trans h1,h4⟩
theorem Vals.pairwise{α:Type}{R:α→α→Prop}{kv:Value→α}{kV:V→α}:∀{zs:List V} {ws:Ni},Vals zs ws→(∀v∈zs,∀u,RelV v u→kv u=kV v)→ws.Pairwise (λa b=>R (kv a) (kv b))→zs.Pairwise λa b=>R (kV a) (kV b)
 |_,_,.nil,_,_=>.nil
 |v::zs,u::ws,.cons r t,hk,h=>by
  rw[Jc]at h ⊢
  refine⟨λb hb=>?_,Vals.pairwise t (λv hv=>hk v (Qg _ hv)) h.2⟩
  obtain⟨i,hi,e⟩:=Zr hb
  obtain⟨x,hx,rx⟩:=Vals.get t (i:=i) (x:=b) (by rw[Qd hi,e])
  have:=h.1 x (Yj hx)
  rw[hk v Qc u r,hk b (Qg _ hb) x rx]at this
  exact this
section
variable{X:Cx}
def zdx{a7:Nd}{s:Nh}{σ:St}{H:Hp}{p:Nc}{ys:List V}{R:List Value→List Value→Prop}{Q:VK}(I:Inv X a7 σ H s)(hq:SqL X.K H p ys)(hS:∀a8,Vals ys a8→∀(A':Around) (E':Value→Shared→Prop) (s':Shared),A'.units≤X.A.units+8→(∀b o,s.heap.get? b=some o→s'.heap.get? b=some o)→zb8 X.prog X.w A' E' s' (R a8) a8)(h:∀(l:Nc) (ws:List V) (a8 us:Ni),H l=none→ws.Perm ys→Vals ys a8→Vals ws us→R a8 us→Q (.ref l) (upd H l (.lst ws))) :
  wpAny (model X.prog X.w) X.A (call (.builtin "sorted") [.ref p]) (EP X a7 σ Q) X.xe s:=by
 obtain⟨a8,r,pl,hz⟩:=I.list hq
 refine sorted_any pl.isList (by rw[←r.length];exact hz) (hS a8 r) λws l g tk e p1 p2 le k he=>?_
 obtain⟨zs,q1,q2⟩:=Vals.perm p1 r
 exact⟨.ref l,_,I.laid (t':=tk) k le (show zbq X.prog X.w _ g _ (.lst zs) from⟨by rw[q1.length_eq];exact hz,ws,e,q2,he⟩),rfl,h l zs a8 ws (I.hok.fresh le) q1 r q2 p2⟩
def leS(x y:Str):Prop:=¬y.cps.toList<x.cps.toList
def txV:V→List Nat
 |.str x=>x.cps.toList
 |_=>[]
def strs_perm{ws:List V}{zs:Nf}(pm:ws.Perm (zs.map V.str)):∃ts:List Str,ws=ts.map V.str∧ts.Perm zs:=by
 have a1:∀v∈ws,∃x,v=V.str x:=λv hv=>by
  obtain⟨x,_,e⟩:=Qh.mp (pm.mem_iff.mp hv)
  exact⟨x,e.symm⟩
 have a2:∃ts:List Str,ws=ts.map V.str:=by
  clear pm
  induction ws with
  |nil=>exact⟨[],rfl⟩
  |cons v r ih =>
   obtain⟨ts,e⟩:=ih λv hv=>a1 v (Qg _ hv)
   obtain⟨x,e2⟩:=a1 v Qc
   exact⟨x::ts,by rw[e,e2];rfl⟩
 obtain⟨ts,rfl⟩:=a2
 refine⟨ts,rfl,?_⟩
 have:=pm.map (λv=>match v with | .str x=>x | _=>Str.empty)
 rw[Zi,Zi]at this
 simpa[Function.comp_def] using this
def ze3{zs:Nf}{a8:Ni}(r:Vals (zs.map V.str) a8):∀v∈a8,∃x t,v=.str x t:=λv hv=>by
 obtain⟨l,rfl,e⟩:=zd6 r
 obtain⟨pr,_,e2⟩:=Qh.mp hv
 exact⟨_,_,e2.symm⟩
def txV_str{zs:Nf}:∀v∈zs.map V.str,∀u,RelV v u→kvS u=txV v:=λv hv u ru=>by
 obtain⟨x,_,rfl⟩:=Qh.mp hv
 obtain⟨t,rfl⟩:=ru
 rfl
def strs_out{zs ts:Nf}{a8 us:Ni}(r:Vals (zs.map V.str) a8)(r2:Vals (ts.map V.str) us)(p:a8.length<64→us.Pairwise λx y=>strO.kle (kvS x) (kvS y))(h:zs.length<64):ts.Pairwise leS:=by
 have p2:=Vals.pairwise (R:=λa b=>strO.kle a b) (kV:=txV) r2 txV_str (p (by rw[←r.length,Qa];exact h))
 rw[Wq]at p2
 exact p2.imp of_decide_eq_false
def zfd:zch X (.builtin "sorted") (λxs H Q=>Ex2 λ(p:Nc) (zs:Nf)=>Aj3 (xs=[.ref p]) (SqL X.K H p (zs.map V.str)) (∀(l:Nc) (ws:Nf),H l=none→ws.Perm zs→(zs.length<64→ws.Pairwise leS)→Q (.ref l) (upd H l (.lst (ws.map V.str))))):=by
 intro a7 s σ H xs us Q I r h
 obtain⟨p,zs,rfl,hq,q⟩:=h
 obtain⟨u,rfl,rx⟩:=vals1 r
 cases rx
 refine zdx I hq (λa8 r A' E' s' _ _=>zd8 (ze3 r)) λl ws a8 us hl p1 r1 r2 p2=>?_
 obtain⟨ts,rfl,p3⟩:=strs_perm p1
 exact q l ts hl p3 (strs_out r1 r2 p2)
def zhl{a7:Nd}{s:Nh}{σ:St}{H:Hp}{a:Nc}{x:Str}{z:V}(I:Inv X a7 σ H s)(e:H a=some (.tup [.str x,z])):∃q,RelV z q∧zff s.heap (.ref a) x q:=by
 obtain⟨_,a8,r,o,e1,c,n,d⟩:=I.hok a _ e
 obtain⟨u,w',rfl,⟨t,rfl⟩,rz⟩:=vals2 r
 exact⟨w',rz,a,o,t,n,rfl,e1,c,d⟩
def vals_back{ys:List V}{a8:Ni}(r:Vals ys a8):∀v∈a8,∃b∈ys,RelV b v:=λv hv=>by
 obtain⟨i,hi,e⟩:=Zr hv
 have hl:=r.length
 have aI:i<ys.length:=by exact zar6 ‹_› ‹_›
 obtain⟨u,hu,ru⟩:=r.get (i:=i) (Qd aI)
 rw[Qd hi,e]at hu
 cases hu
 exact⟨_,Qz aI,ru⟩
def zfh{h:Nm}{v p q:Value}{x y:Str}(a:zff h v x p)(b:zff h v y q):x=y∧p=q:=by
 obtain⟨a,o,t,n,rfl,e,c,d⟩:=a
 obtain⟨a',o',t',n',e0,e',c',d'⟩:=b
 cases e0
 rw[e]at e'
 cases e'
 rw[d]at d'
 have d2:(#[Value.str x t,p]:Array Value)=#[Value.str y t',q]:=by injection d'
 have d3:=congrArg (λa:Array Value=>a[0]?) d2
 have d4:=congrArg (λa:Array Value=>a[1]?) d2
 simp at d3 d4
 exact⟨d3.1,d4⟩
def rowV(H:Hp):V→List Nat
 |.ref a=>match H a with
  |some (.tup [x,_])=>txV x
  |_=>[]
 |_=>[]
def zed{H:Hp}{a:Nc}{x y:V}(e:H a=some (.tup [x,y])):rowV H (.ref a)=txV x:=by
 unfold rowV;dsimp only;rw[e]
def zfe:zch X (.builtin "sorted") (λxs H Q=>Ex2 λ(p:Nc) (ys:List V)=>Aj5 (xs=[.ref p]) (SqL X.K H p ys) (∀v∈ys,∃a x z,v=.ref a∧H a=some (.tup [.str x,z])) (∀v∈ys,∀u∈ys,rowV H v=rowV H u→v=u) (∀(l:Nc) (ws:List V),H l=none→ws.Perm ys→(ys.length<64→ws.Pairwise λa b=>strO.kle (rowV H a) (rowV H b))→Q (.ref l) (upd H l (.lst ws)))):=by
 intro a7 s σ H xs us Q I r h
 obtain⟨p,ys,rfl,hq,hy,hd,q⟩:=h
 obtain⟨u,rfl,rx⟩:=vals1 r
 cases rx
 have back:∀a8,Vals ys a8→∀v∈a8,∃b∈ys,RelV b v∧∃a x z q,b=.ref a∧v=.ref a∧H a=some (.tup [.str x,z])∧zff s.heap v x q:=λa8 r v hv=>by
  obtain⟨b,hb,rb⟩:=vals_back r v hv
  obtain⟨a,x,z,rfl,e2⟩:=hy b hb
  have rb':=rb
  cases rb
  obtain⟨q',_,T⟩:=zhl I e2
  exact⟨_,hb,rb',a,x,z,q',rfl,rfl,e2,T⟩
 refine zdx I hq (λa8 r A' E' s' _ k=>zd7 k (λv hv=>?_) λv hv u hu x p q T T'=>?_) λl ws a8 us hl p1 r1 r2 p2=>q l ws hl p1 λpO=>?_
 ·obtain ⟨b,hb,rb,a,x,z,q,_,_,_,T⟩:=back a8 r v hv
  exact⟨x,q,T⟩
 ·obtain ⟨b,hb,rb,a,x1,z,q1,rfl,rfl,e1,T1⟩:=back a8 r v hv
  obtain⟨c,hc,rc,a',x2,z',q2,rfl,rfl,e2,T2⟩:=back a8 r u hu
  have h1:=(zfh T T1).1
  have h2:=(zfh T' T2).1
  subst h1
  subst h2
  have:=hd _ hb _ hc (by rw[zed e1,zed e2])
  cases this
  exact .inl rfl
 ·refine Vals.pairwise (R:=fun a b=>strO.kle a b) (kv:=fun u=>(kvP s.heap u).1) r2 (fun v hv u ru=>?_) ((p2 (by rw [← r1.length];exact pO)).imp fun h=>(Bool.or_eq_false_iff.mp h).1)
  obtain⟨a,x,z,rfl,e2⟩:=hy v (p1.mem_iff.mp hv)
  cases ru
  obtain⟨q',_,T⟩:=zhl I e2
  rw[T.key,zed e2]
  rfl
def ze2(hu:X.A.units+8<cLine):zch X (.builtin "sorted") (λxs H Q=>Ex2 λ(p:Nc) (ys:List V)=>Aj4 (xs=[.ref p]) (SqL X.K H p ys) (∀v∈ys,∃a zs,v=.ref a∧H a=some (.lst (List.map V.str zs))) (∀(l:Nc) (ws:List V),H l=none→ws.Perm ys→Q (.ref l) (upd H l (.lst ws)))):=by
 intro a7 s σ H xs us Q I r h
 obtain⟨p,ys,rfl,hq,hy,q⟩:=h
 obtain⟨u,rfl,rx⟩:=vals1 r
 cases rx
 refine zdx I hq (λa8 r A' E' s' hA k=>zgs (by exact Nat.lt_of_le_of_lt ‹_› ‹_›) k λv hv=>?_) λl ws _ _ hl p1 _ _ _=>q l ws hl p1
 obtain⟨b,hb,ru⟩:=vals_back r v hv
 obtain⟨a,zs,rfl,e2⟩:=hy b hb
 cases ru
 obtain⟨_,d8,n,r2,e3⟩:=I.hok a _ e2
 obtain⟨l2,rfl,_⟩:=zd6 r2
 exact⟨a,l2,n,rfl,e3⟩
def dk_at{a7:Nd}{s:Nh}{σ:St}{H:Hp}{d:Nc}{kvs:List (Key×V)}(I:Inv X a7 σ H s)(rd:Rd H d (.dK kvs)) :
  kvs.length≤sizeLine∧(d==sysModules)=false∧∃vs ep,KV kvs vs∧s.heap.DictAt (zat X.prog X.w) d vs ep∧vs.length=kvs.length:=by
 obtain⟨z,y,vs,r,hd⟩:=rd.ok I.hok
 obtain⟨ep,ha⟩:=hd.dictAt
 exact⟨z,y,vs,ep,r,ha,(Yr r).symm⟩
def KV.get{kvs:List (Key×V)}{vs:List (Key×Value)}(r:KV kvs vs){i:Nat}{k:Key}{x:Value}(e:vs[i]?=some (k,x)):∃v,kvs[i]?=some (k,v)∧RelV v x:=by
 induction r generalizing i with
 |nil=>simp at e
 | cons h t ih =>
  cases i with
  |zero =>
   simp at e
   subst e
   exact⟨_,by simp;exact Ux h.1 rfl,h.2⟩
  |succ j =>
   obtain⟨v,h1,h2⟩:=ih (i:=j) (by simpa using e)
   exact⟨v,by simpa using h1,h2⟩
def key_rel{P:Nj}{w:Nl}{k:Key}{v:Value}(h:(zat P w).is k v=true):RelV (kV k) v:=by
 rcases zbj h with⟨i,t,rfl,rfl⟩ | ⟨x,t,rfl,rfl⟩
 ·exact⟨t,rfl⟩
 ·exact⟨t,rfl⟩
def keys_vals{P:Nj}{w:Nl}{kvs:List (Key×V)}{vs:List (Key×Value)}{ai:Array Value}(r:KV kvs vs)(hl:vs.length=kvs.length)(h:ItemsOf (λi v=>∃k x,vs[i]?=some (k,x)∧(zat P w).is k v=true) ai vs.length):Vals (kvs.map λp=>kV p.1) ai.toList:=by
 have g:∀(i:Nat),i<kvs.length→∃v,ai.toList[i]?=some v∧RelV (kV ((kvs.map Prod.fst).getD i (.inl 0))) v:=λi hi=>by
  have aI:i<ai.size:=by rw[h.1];exact zar6 ‹_› ‹_›
  have e:ai[i]?=some ai[i]:=by simp[aI]
  obtain⟨k,x,e1,e2⟩:=h.2 i _ e
  obtain⟨v',e3,_⟩:=KV.get r e1
  refine⟨ai[i],by rw[Ud];exact e,?_⟩
  have e4:(kvs.map Prod.fst).getD i (.inl 0)=k:=by
   rw[Zs,Qs,e3];rfl
  rw[e4]
  exact key_rel e2
 have hsz:ai.toList.length=kvs.length:=by rw[Yw,h.1];exact hl
 clear h r hl
 generalize ai.toList=l at g hsz
 induction kvs generalizing l with
 |nil =>
  have:l=[]:=List.length_eq_zero_iff.mp hsz
  subst this
  exact .nil
 | cons p t ih =>
  cases l with
  |nil=>cases hsz
  | cons u us =>
   refine .cons ?_ (ih us (λi hi=>?_) (by simpa using hsz))
   ·obtain ⟨v,e1,e2⟩:=g 0 (by simp)
    simp at e1
    subst e1
    exact e2
   ·obtain ⟨v,e1,e2⟩:=g (i+1) (by simpa using hi)
    exact⟨v,by simpa using e1,by simpa using e2⟩
def zdu(hc:X.calm=true):zch X (.type "list") (λxs H Q=>Ex2 λ(d:Nc) (kvs:List (Key×V))=>Aj3 (xs=[.ref d]) (Rd H d (.dK kvs)) (∀l,H l=none→Q (.ref l) (upd H l (.lst (kvs.map λp=>kV p.1))))):=by
 intro a7 s σ H xs us Q I r h
 obtain⟨d,kvs,rfl,hq,q⟩:=h
 obtain⟨u,rfl,rx⟩:=vals1 r
 cases rx
 obtain⟨z,lo,vs,ep,rk,ha,hl⟩:=dk_at I hq
 refine PySem.W.kdl_call (PySem.W.kdl_dict lo) (I.ok.hd hc) ha (by rw[hl];exact z) λh' tk ai c k e hi=>?_
 have rv:=keys_vals rk hl hi
 exact⟨.ref _,_,I.laid (t':=tk) k (Qi _) (show zbq X.prog X.w _ h' _ (.lst _) from⟨by rw[Qa];exact z,ai.toList,c,rv,by rw[e]⟩),rfl,q _ (I.hok.fresh (Qi _))⟩
def zcg(hc:X.calm=true):zch X (.builtin "sorted") (λxs H Q=>Ex3 λ(d:Nc) (kvs:List (Key×V)) (zs:Nf)=>Aj4 (xs=[.ref d]) (Rd H d (.dK kvs)) ((kvs.map λp=>kV p.1)=zs.map V.str) (∀(l:Nc) (ws:Nf),H l=none→ws.Perm zs→(zs.length<64→ws.Pairwise leS)→Q (.ref l) (upd H l (.lst (ws.map V.str))))):=by
 intro a7 s σ H xs us Q I r h
 obtain⟨d,kvs,zs,rfl,hq,ez,q⟩:=h
 obtain⟨u,rfl,rx⟩:=vals1 r
 cases rx
 obtain⟨z,lo,vs,ep,rk,ha,hl⟩:=dk_at I hq
 refine zes (G:=λa8=>Vals (zs.map V.str) a8) (λE' R hR=>zgl (PySem.W.kdl_dict lo) (show X.A.in1.handled=none from I.ok.hd hc) ha (by rw[hl];exact z) λg tk ai k le hi=>hR g tk _ k le (ez▸keys_vals rk hl hi))
  (λa8 r=>by rw[←r.length,←ez,Qa];exact z) (λa8 r A' E' s' _ _=>zd8 (ze3 r)) λa8 ws l g tk e r p1 p2 le k he=>?_
 obtain⟨jh,q1,q2⟩:=Vals.perm p1 r
 obtain⟨ts,rfl,p3⟩:=strs_perm q1
 refine⟨.ref l,_,I.laid (t':=tk) k le (show zbq X.prog X.w _ g _ (.lst _) from⟨?_,ws,e,q2,he⟩),rfl,q l ts (I.hok.fresh le) p3 (strs_out r q2 p2)⟩
 rw[q1.length_eq,←ez,Qa];exact z
end
section
variable{X:Cx}{a7:Nd}{σ:St}{H:Hp}{s:Nh}
def Inv.freeze{d:Nc}{u:HO}{o:Obj}(I:Inv X a7 σ H s)(hd:H d=some u)(ho:s.heap.get? d=some o)(mu:Mut (some u)):Inv X a7 σ (upd H d (.frz o u)) s:=by
 have ne:∀b,H b=none→b≠d:=λb e z=>by rw[z,hd]at e;cases e
 have nt:∀b xs,H b=some (.tup xs)→b≠d:=λb xs e z=>by rw[z,hd]at e;cases e;exact mu
 have nf:∀b o' u',H b=some (.frz o' u')→b≠d:=λb o' u' e z=>by rw[z,hd]at e;cases e;exact mu
 have nb:∀b ps,H b=some (.tbl ps)→b≠d:=λb ps e z=>by rw[z,hd]at e;cases e;exact mu
 have no:∀b a,H b=some (.own a)→b≠d:=λb a e z=>by rw[z,hd]at e;cases e;exact mu
 refine I.un (h':=s.heap) (t':=s.toks) ⟨λb o e _ _ _=>e,λb o e _ _ _=>⟨o.slots,e⟩,λb o e n _=>by rw[zad (ne b n)];exact n,λb o e _=>⟨o,e⟩,λb xs e=>by rw[zad (nt b xs e)];exact e,
  λb o' u' e=>by rw[zad (nf b o' u' e)];exact e,λb ps e=>⟨#[],by rw[zad (nb b ps e),e];simp⟩⟩ λb v e=>?_
 by_cases hb:b=d
 ·subst hb
  rw[zac]at e
  cases e
  exact⟨ho,(I.hok b u hd).stay (λc v _ q=>q) (λc q=>by rw[zad (no c _ q)];exact q) λc xs q=>by rw[zad (nt c xs q)];exact q⟩
 ·rw [zad hb] at e
  exact(I.hok b v e).stay (λc v _ q=>q) (λc q=>by rw[zad (no c _ q)];exact q) λc xs q=>by rw[zad (nt c xs q)];exact q
def Inv.thaw{d:Nc}{u:HO}{o:Obj}(I:Inv X a7 σ H s)(hd:H d=some (.frz o u))(hx:∀o' u',X.H₀ d≠some (.frz o' u')):Inv X a7 σ (upd H d u) s:=by
 have ne:∀b,H b=none→b≠d:=λb e z=>by rw[z,hd]at e;cases e
 have nt:∀b xs,H b=some (.tup xs)→b≠d:=λb xs e z=>by rw[z,hd]at e;cases e
 have nb:∀b ps,H b=some (.tbl ps)→b≠d:=λb ps e z=>by rw[z,hd]at e;cases e
 have no:∀b a,H b=some (.own a)→b≠d:=λb a e z=>by rw[z,hd]at e;cases e
 have B:=I.base
 refine⟨I.ok,I.os,I.bare,⟨B.keep,B.slot,λb o e n hx=>?_,B.there,λb xs e=>?_,λb o' u' e=>?_,λb ps e=>?_⟩,I.loc,I.cell,?_,λx c e=>?_,λp hp=>?_,λb v e=>?_,I.len⟩
 ·have:=B.free b o e n hx
  rw[zad (ne b this)];exact this
 ·have:=B.tups b xs e
  rw[zad (nt b xs this)];exact this
 ·have:=B.frzs b o' u' e
  have nd:b≠d:=λz=>hx o' u' (z▸e)
  rw[zad nd];exact this
 ·obtain ⟨m,q⟩:=B.tbls b ps e
  exact⟨m,by rw[zad (nb b _ q)];exact q⟩
 ·rw[zad (ne _ I.free)];exact I.free
 ·rw[zad (ne c (I.freeC x c e))];exact I.freeC x c e
 ·obtain ⟨h1,h2,h3⟩:=I.pin p hp
  exact⟨h1,by rw[zad (ne _ h2)];exact h2,h3⟩
 ·by_cases hb:b=d
  ·subst hb
   rw[zac]at e
   cases e
   exact(show s.heap.get? b=some o∧zbq X.prog X.w H s.heap b u from I.hok b _ hd).2.stay (λc v _ q=>q) (λc q=>by rw[zad (no c _ q)];exact q) λc xs q=>by rw[zad (nt c xs q)];exact q
  ·rw [zad hb] at e
   exact(I.hok b v e).stay (λc v _ q=>q) (λc q=>by rw[zad (no c _ q)];exact q) λc xs q=>by rw[zad (nt c xs q)];exact q
inductive Thaw(X:Cx)(R:Hp→Prop)(H':Hp):Prop
 |mk (d:Nc) (o:Obj) (u:HO) (h:H' d=some (.frz o u)) (n:∀o' u',X.H₀ d≠some (.frz o' u')) (q:R (upd H' d u)):Thaw X R H'
def sThaw(X:Cx)(t:TS):TS:=λD σ H=>t {nx:=λ σ' H'=>Thaw X (D.nx σ') H',rt:=λv H'=>Thaw X (D.rt v) H',bk:=λ σ' H'=>Thaw X (D.bk σ') H',ct:=λ σ' H'=>Thaw X (D.ct σ') H'} σ H
def zew{st:Stmt}{t:TS}(h:PS X st t):PS X st (sThaw X t):=by
 intro a7 s σ H D I q
 refine thn (h a7 s σ H _ I q) λf s' z=>?_
 cases f with
 |next=>obtain⟨σ',H',I',d,o,w',e1,e2,e3⟩:=z;exact⟨σ',_,I'.thaw e1 e2,e3⟩
 |brk=>obtain⟨σ',H',I',d,o,w',e1,e2,e3⟩:=z;exact⟨σ',_,I'.thaw e1 e2,e3⟩
 |cont=>obtain⟨σ',H',I',d,o,w',e1,e2,e3⟩:=z;exact⟨σ',_,I'.thaw e1 e2,e3⟩
 |ret u=>obtain⟨v,σ',H',I',r,d,o,w',e1,e2,e3⟩:=z;exact⟨v,σ',_,I'.thaw e1 e2,r,e3⟩
def Itd(d:Nc)(o:Obj)(kvs:List (Key×V)):It :=
 ⟨λi H=>H d=some (.frz o (.dK kvs))∧i<kvs.length,λi H x H'=>H'=H∧∃p,kvs[i]?=some p∧x=kV p.1,λi H=>H d=some (.frz o (.dK kvs))∧kvs.length≤i⟩
def frz_at{d:Nc}{o:Obj}{kvs:List (Key×V)}(I:Inv X a7 σ H s)(e:H d=some (.frz o (.dK kvs))):s.heap.get? d=some o∧zbq X.prog X.w H s.heap d (.dK kvs):=I.hok d _ e
def zhd{P:Nj}{w:Nl}{h:Nm}{d:Nc}{kvs:List (Key×V)}{vs vs':List (Key×Value)}{ep ep':Nat}{o:Obj}(ho:h.get? d=some o)(a:h.DictAt (zat P w) d vs ep)(o':Obj)(h':Nm)(dl:h'.get? d=some o):h'.DictAt (zat P w) d vs ep:=by
 obtain⟨q,es,e,r⟩:=a
 rw[ho]at e
 cases e
 exact⟨o,es,dl,r⟩
theorem turn_dict{P:Nj}{w:Nl}{K:Nb}{tg:Expr}{o:Obj}{kvs:List (Key×V)}{vs:List (Key×Value)}{ep:Nat}{h0:Nm}(d it:Nc)(rk:KV kvs vs)(hl:vs.length=kvs.length)(h00:h0.get? d=some o)(kM:h0.DictAt (zat P w) d vs ep) :
  Turn P w K tg (Itd d o kvs) [it] it (λi h=>h.IsKeyIter it d i vs.length ep) where
 mem:=by simp
 obj:=λi h st b hb=>by
  have e:b=it:=by simpa using hb
  subst e
  obtain⟨o,e,c,d⟩:=st
  exact⟨o,e,λv z=>by rw[d]at z;cases z⟩
 keep:=λi h h' st k=>st.at λo e=>k it (by simp) o e
 item:=by
  intro X hP hw hK hc i a7 s σ H E I hf st hg
  subst hP hw hK
  obtain⟨fz,hi⟩:=hg
  obtain⟨ho,_⟩:=frz_at I fz
  have DA:s.heap.DictAt (zat X.prog X.w) d vs ep:=zhd (kvs:=kvs) (vs':=vs) (ep':=ep) h00 kM o s.heap ho
  obtain⟨f0,f1,f2,f3,f4,f5⟩:=hf it (by simp)
  have aI:i<vs.length:=by exact zar6 ‹_› ‹_›
  obtain⟨v',e3,_⟩:=KV.get rk (i:=i) (k:=vs[i].1) (x:=vs[i].2) (Qd aI)
  refine wpAny_pyNext_dict_item st DA (k:=vs[i].1) (v:=vs[i].2) (Qd aI) λkey h' hk ae sb=>?_
  have I1:Inv X a7 σ H {s with heap:=h'}:=I.turned (t':=s.toks) (λb o hb e=>(sb.2 b hb).trans e) f0 f1 f3 f4 f5
  obtain⟨o2,e,c,d2⟩:=id ae
  exact⟨key,rfl,go_of (s:={s with heap:=h'}) e c d2 (by decide) ⟨kV vs[i].1,H,I1,key_rel hk,⟨rfl,_,e3,rfl⟩,ae,λb hb=>(hf b hb).1⟩⟩
 done:=by
  intro X hP hw hK hc i a7 s σ H E I hf st hg
  subst hP hw hK
  obtain⟨fz,hi⟩:=hg
  obtain⟨ho,_⟩:=frz_at I fz
  have DA:s.heap.DictAt (zat X.prog X.w) d vs ep:=zhd (kvs:=kvs) (vs':=vs) (ep':=ep) h00 kM o s.heap ho
  obtain⟨f0,f1,f2,f3,f4,f5⟩:=hf it (by simp)
  exact wpAny_pyNext_dict_end (I.ok.hd hc) st DA (Xf (by omega)) λh' eb=>⟨rfl,I.turned (t':=s.toks) (λb o hb e=>eb b o hb e) f0 f1 f3 f4 f5⟩
 self:=λ_ _ _ _ _ st h=>wpAny_pyIter_keyiter st h
inductive RIDi(x:V)(H:Hp)(R:It→Hp→Prop):Prop
 |mk (d:Nc) (kvs:List (Key×V)) (e:x=.ref d) (h:H d=some (.dK kvs)) (q:∀o,R (Itd d o kvs) (upd H d (.frz o (.dK kvs)))):RIDi x H R
def iDict(td:TE):TI:=λ σ H R=>td σ H λx H1=>RIDi x H1 R
def zex{tg l:Expr}{tl:TE}(hl:PE X l tl):PI X tg l (iDict tl):=by
 intro a7 s σ H R I h
 refine thn (hl a7 s σ H _ I h) λv s1 ⟨x,H1,I1,r1,q1⟩=>?_
 obtain⟨d,kvs,e,hd,q⟩:=q1
 subst e
 cases r1
 obtain⟨z,lo,vs,ep,rk,ha,af⟩:=dk_at I1 (.inl hd)
 obtain⟨o,es,ho,r⟩:=id ha
 refine wpAny_pyIter_dict lo ha ?_
 have I2:=I1.freeze hd ho trivial
 have I3:Inv X a7 σ (upd H1 d (.frz o (.dK kvs))) {s1 with heap:=s1.heap.push {cls:=.type "dict_keyiterator",data:=.fields #[.ref d,.int 0 0,.int vs.length 0,.int ep 0]}}:=I2.kept (t':=s1.toks) λb o e=>Qj _ e
 refine⟨s1.heap.objs.size,[s1.heap.objs.size],_,_,_,rfl,I3,turn_dict d _ rk af ho ha,⟨_,Zd _ rfl,rfl,rfl⟩,λb hb=>?_,q o⟩
 have e:b=s1.heap.objs.size:=by simpa using hb
 subst e
 exact I2.fpOk (Qi _) (I2.hok.fresh (Qi _))
end
def zfn{d:Nc}{o:Obj}{kvs:List (Key×V)}{g:TG}{tb:TS}{D:Ends}{σ:St}{H:Hp}(Pv:Nat→St→Hp→Prop)(h0:Pv 0 σ H)(hl:∀i σ H,i≤kvs.length→Pv i σ H→H d=some (.frz o (.dK kvs)))(hs:∀i p σ H,kvs[i]?=some p→Pv i σ H→g (kV p.1) σ H λ σ2 H2=>tb {D with nx:=Pv (i+1),ct:=Pv (i+1),bk:=D.nx} σ2 H2)(hd:∀σ H,Pv kvs.length σ H→D.nx σ H) :
  ∃W:Nat→Nat→St→Hp→Prop,(∃m,W 0 m σ H)∧∀i m σ H,W i m σ H →
   ((Itd d o kvs).stop i H∧D.nx σ H)∨((Itd d o kvs).go i H∧∃N:St→Hp→Prop,(∀σ' H',N σ' H'→∃m',m'<m∧W (i+1) m' σ' H')∧∀x H',(Itd d o kvs).yld i H x H'→g x σ H' λ σ2 H2=>tb {D with nx:=N,ct:=N,bk:=D.nx} σ2 H2):=by
 refine⟨λi m σ H=>m=kvs.length-i∧i≤kvs.length∧Pv i σ H,⟨kvs.length,by simp,Zf _,h0⟩,?_⟩
 rintro i m σ H ⟨rfl,hi,p⟩
 have q:=hl i σ H hi p
 by_cases ag:i<kvs.length
 ·refine .inr ⟨⟨q,ag⟩,Pv (i+1),fun σ' H' p'=>⟨kvs.length - (i+1),by exact zar1 ‹_›,rfl,ag,p'⟩,fun x H' y=>?_⟩
  obtain⟨e,pr,e2,rfl⟩:=y
  subst e
  exact hs i pr σ _ e2 p
 ·have e:i=kvs.length:=by exact zar3 ‹_› ‹_›
  subst e
  exact .inl ⟨⟨q,Qi _⟩,hd σ H p⟩
end L2
end
section
namespace Enu
open PySem PyProof.Rows
open AutoSeq1 (wpAny_loadPart')
section
variable{prog:Nj}{w:Nl}{A:Nn}{E:Na}{s:Nh}
def next_item{j t:Nc}{i:Nat}{xs:Array Value}{x:Value}{Q:Na}(st:s.heap.IsTupleIter j t i)(ht:s.heap.IsTuple t xs)(hx:xs[i]?=some x)(hQ:∀g,g.IsTupleIter j t (i+1)→Heap.SameBut j s.heap g→Q x {s with heap:=g}):wpAny (model prog w) A (Builtin.SmallTypes.nextOf (.ref j)) Q E s:=by
 obtain⟨o,ho,hc,hd⟩:=id st
 obtain⟨p,hp,_,k,hk⟩:=ht
 unfold Builtin.SmallTypes.nextOf
 refine wpAny_bind (wpAny_callSpecial?_slot (name:=Str.ofString "__next__") st.typeIs Uy (wpAny_call_entry Uy st.typeIs F.entry_tuple_iterator_next ?_ (F.args_tuple_iterator_next_1 _)))
 show wpAny _ _ (field (.ref j) 0 >>= _) _ _ s
 refine wpAny_bind (wpAny_field ho hd (x:=.ref t) rfl ?_)
 show wpAny _ _ (if(Value.ref t==.none)=true then _ else _) _ _ s
 rw[if_neg (show ¬((Value.ref t==.none)=true) from Zg)]
 show wpAny _ _ (field (.ref j) 1 >>= _) _ _ s
 refine wpAny_bind (wpAny_field ho hd (x:=.int i 0) rfl ?_)
 show wpAny _ _ (seqItems? (.ref t) >>= _) _ _ s
 refine wpAny_bind (wpAny_seqItems hp hk ?_)
 simp only[Um,hx]
 refine wpAny_bind (wpAny_setField ho hd (by simp) (wpAny_pure ⟨x,rfl,wpAny_pure (hQ _ ⟨_,Jz _ ho (Obj.isFreed_of_fields (Kr hd _)),(Obj.cls_mapFields ..).trans hc,by rw[Kr hd];simp[rawInt]⟩ (Kj ..))⟩))
def next_end{j t:Nc}{i:Nat}{xs:Array Value}{Q:Na}(hh:A.handled=none)(st:s.heap.IsTupleIter j t i)(ht:s.heap.IsTuple t xs)(hx:xs[i]?=none)(hE:∀g e,Heap.ExtBut j s.heap g→(∃o,g.get? e=some o∧o.cls=.type "StopIteration")→E (.ref e) {s with heap:=g}):wpAny (model prog w) A (Builtin.SmallTypes.nextOf (.ref j)) Q E s:=by
 obtain⟨o,ho,hc,hd⟩:=id st
 obtain⟨p,hp,_,k,hk⟩:=ht
 unfold Builtin.SmallTypes.nextOf
 refine wpAny_bind (wpAny_callSpecial?_slot (name:=Str.ofString "__next__") st.typeIs Uy (wpAny_call_entry Uy st.typeIs F.entry_tuple_iterator_next ?_ (F.args_tuple_iterator_next_1 _)))
 show wpAny _ _ (field (.ref j) 0 >>= _) _ _ s
 refine wpAny_bind (wpAny_field ho hd (x:=.ref t) rfl ?_)
 show wpAny _ _ (if(Value.ref t==.none)=true then _ else _) _ _ s
 rw[if_neg (show ¬((Value.ref t==.none)=true) from Zg)]
 show wpAny _ _ (field (.ref j) 1 >>= _) _ _ s
 refine wpAny_bind (wpAny_field ho hd (x:=.int i 0) rfl ?_)
 show wpAny _ _ (seqItems? (.ref t) >>= _) _ _ s
 refine wpAny_bind (wpAny_seqItems hp hk ?_)
 simp only[Um,hx]
 refine wpAny_bind (wpAny_rule (wpAny_bind (wpAny_setField ho hd (by simp) ?_)))
 show wpAny _ _ (newExc (.type "StopIteration") [] >>= _) _ _ _
 refine wpAny_bind ?_
 simp only[newExc,newTuple]
 refine wpAny_bind (wpAny_newObj_type (wpAny_bind (m:=firstArgMember _ _) (wpAny_of_eq (a:=Value.none) (by first | rfl | (simp only[firstArgMember];rfl)) (wpAny_newObj_type ?_ (by size_fits)))) (by size_fits))
 simp only[raiseNew]
 refine wpAny_bind (wpAny_handled ?_)
 first | rw[show A.in1.handled=none from hh] | rw[hh]
 refine wpAny_bind (wpAny_pure (wpAny_throw (hE _ _ (((Kj ..).extBut.push _).push _) ⟨_,Zd _ rfl,rfl⟩)))
theorem drawsT(hh:A.handled=none)(j t:Nc)(az:t≠j)(xs:Array Value) :
  Draws prog w A j [j,t] xs.size (λi v=>xs[i]?=some v) (λi h=>h.IsTupleIter j t i∧h.IsTuple t xs) where
 live:=λ_ _ st=>let⟨o,ho,_⟩:=st.1;⟨o,ho⟩
 frame:=λi h h' st k=>⟨st.1.at λo e=>k j (by simp) o e,let⟨o,e,r⟩:=st.2;⟨o,k t (by simp) o e,r⟩⟩
 item:=λi s Q E hi st hQ=>by
  refine next_item st.1 st.2 (x:=xs[i]) (by simp[hi]) λg a b=>?_
  obtain⟨o,e,r⟩:=st.2
  exact hQ _ g s.toks (by simp[hi]) ⟨a,o,(b.2 t az).trans e,r⟩ b
 done:=λs Q E st hE=>next_end hh st.1 st.2 (by simp) hE
def new_tuple(t:Nc)(xs:Array Value)(n:Nat)(dct:Option Addr)(sl:Array (Option Value)) :
  Meets (Builtin.«enumerate.__new__» ⟨[.type "enumerate",.ref t],[]⟩) (λ_ R s=>s.heap.get? t=some {cls:=.type "tuple",dict:=dct,data:=.seq xs n,slots:=sl} ∧
   R (.ok (.ret (.ref (s.heap.push {cls:=.type "tuple_iterator",data:=.fields #[.ref t,.int 0 0]}).objs.size)))
    {s with heap:=(s.heap.push {cls:=.type "tuple_iterator",data:=.fields #[.ref t,.int 0 0]}).push {cls:=.type "enumerate",data:=.fields #[.none,.bool false,.ref s.heap.objs.size,rawInt 0,.none,.none]}}) :=
 .of_wp λprog w A R s h=>by
  obtain⟨hp,g,d,tk,os⟩:=s;obtain⟨hl,h⟩:=h
  have r9:=sub_enumerate
  have hL:Heap.IsTuple (Shared.heap ⟨hp,g,d,tk,os⟩) t xs:=⟨_,hl,rfl,n,rfl⟩
  wp_walk using wpAny_loadPart' hl
  refine wpAny_stack_any λst=>wpAny_pure ?_
  split
  ·rename_i c _ _ _ _ _
   cases(c==Value.type "enumerate")<;>(wp_walk using wpAny_loadPart' hl,wpAny_pyIter_tuple hL;exact⟨_,rfl,h⟩)
  ·wp_walk using wpAny_loadPart' hl,wpAny_pyIter_tuple hL
   exact⟨_,rfl,h⟩
def call_enum{t:Nc}{xs:Array Value}{Q:Na}(hL:s.heap.IsTuple t xs)(h:∀g,IsEnum g (s.heap.objs.size+1) s.heap.objs.size 0 .none→g.IsTupleIter s.heap.objs.size t 0→g.objs.size=s.heap.objs.size+2→(∀b o,s.heap.get? b=some o→g.get? b=some o)→Q (.ref (s.heap.objs.size+1)) {s with heap:=g}) :
  wpAny (model prog w) A (call (.type "enumerate") [.ref t]) Q E s:=by
 obtain⟨⟨c,dct,dt,sl⟩,hl,hc,n,hd⟩:=hL
 replace hc:c=.type "tuple" := hc
 replace hd:dt=.seq xs n:=hd
 subst hc hd
 refine callType_new F.called_enumerate (by decide) (F.typeCall_enumerate_1 _) (F.newCall_enumerate_1 _) (λobj=>F.args_object_init_2 obj _) F.entry_enumerate_new (new_tuple t xs n dct sl) ⟨hl,?_⟩
 have hz:(s.heap.push {cls:=.type "tuple_iterator",data:=.fields #[.ref t,.int 0 0]}).objs.size=s.heap.objs.size+1:=Wt ..
 show _∧_
 rw[hz]
 have he:IsEnum ((s.heap.push {cls:=.type "tuple_iterator",data:=.fields #[.ref t,.int 0 0]}).push {cls:=.type "enumerate",data:=.fields #[.none,.bool false,.ref s.heap.objs.size,rawInt 0,.none,.none]}) (s.heap.objs.size+1) s.heap.objs.size 0 .none:=by
  have q:=Zd (s.heap.push {cls:=.type "tuple_iterator",data:=.fields #[.ref t,.int 0 0]}) (o:={cls:=.type "enumerate",data:=.fields #[.none,.bool false,.ref s.heap.objs.size,rawInt 0,.none,.none]}) rfl
  rw[hz]at q;exact q
 exact⟨⟨_,he,rfl⟩,h _ he ⟨_,Qj _ (Zd _ rfl),rfl,rfl⟩ (by rw[Wt,hz]) λb o x=>Qj _ (Qj _ x)⟩
end
end Enu
namespace L2
open PySem PySem.Spec PyProof.Rows Enu
def Ite(a:Nc)(K:Nb):It :=
 ⟨λi H=>∃xs,SqT K H a xs∧i<xs.length,λi H x H'=>∃y t,(∀xs,SqT K H a xs→xs[i]?=some y)∧H t=none∧x=.ref t∧H'=upd H t (.tup [.int i,y]),λi H=>∃xs,SqT K H a xs∧xs.length≤i⟩
theorem turn_enum{P:Nj}{w:Nl}{K:Nb}{elts:Np}{kk:Nat}{pos:Pos}(a e j:Nc)(dW:e≠j)(gM:a≠j)(tR:e≠a) :
  Turn P w K (.Tuple elts kk pos) (Ite a K) [e,j] e (λi h=>(∃old,IsEnum h e j i old)∧h.IsTupleIter j a i) where
 mem:=by simp
 obj:=λi h st b hb=>by
  rcases Qe.mp hb with z | z
  ·subst z
   obtain⟨old,q⟩:=st.1
   exact⟨_,q,λv z=>by
    have z':Data.fields _=Data.cell v:=z
    cases z'⟩
  ·rw [Qb.mp z]
   obtain⟨o,q,c,d⟩:=st.2
   exact⟨o,q,λv z=>by rw[d]at z;cases z⟩
 keep:=λi h h' st k=>⟨let⟨old,q⟩:=st.1;⟨old,k e (by simp) _ q⟩,st.2.at λo q=>k j (by simp) o q⟩
 item:=by
  intro X hP hw hK hc i a7 s σ H E I hf st hg
  subst hP hw hK
  obtain⟨xs,hq,hi⟩:=hg
  obtain⟨a8,rv,p,hz⟩:=I.tuple hq
  have hl:=rv.length
  obtain⟨⟨old,he⟩,hit⟩:=st
  have hh:X.A.in1.handled=none:=I.ok.hd hc
  refine wpAny_pyNext_enum_itemD (drawsT hh j a gM a8.toArray) he ⟨hit,p⟩ (by simp;exact zar7 ‹_› ‹_›) dW (by simp[dW,tR]) λx g tk hP ho hs hT hsz hk=>⟨.ref s.heap.objs.size,rfl,?_⟩
  have fr:∀b,b∈[e,j]→FpOk X a7 H b:=hf
  obtain⟨e0,e1,e2,e3,e4,e5⟩:=hf e (by simp)
  obtain⟨j0,j1,j2,j3,j4,j5⟩:=hf j (by simp)
  have oj:∀b u,H b=some u→b≠e∧b≠j:=λb u q=>⟨λz=>(by rw[z,e0]at q;cases q),λz=>(by rw[z,j0]at q;cases q)⟩
  have I1:Inv X a7 σ H {s with heap:=g,toks:=tk+1}:=by
   refine I.step (g':=s.gens) (d':=s.drawn) (ch:=[e,j]) (λb hb=>?_) (λb o _ _ hc q _=>hk b o (λz=>hc (by simp[z])) (λz=>hc (by simp[z])) q) (λb o _ _ hc q _=>⟨o.slots,hk b o (λz=>hc (by simp[z])) (λz=>hc (by simp[z])) q⟩) (λ_ _ _ _ n=>n)
    (λb o hc q=>⟨o,hk b o (λz=>hc (by simp[z])) (λz=>hc (by simp[z])) q⟩) (λ_ _ q=>q) (λ_ _ _ q=>q) (λb ps q=>⟨#[],by rw[q];simp⟩) (λm hm=>?_) (λb u q=>?_) I.bare
   ·rcases Qe.mp hb with z | z
    ·subst z;exact⟨e3,e1,e4,e5⟩
    ·rw[Qb.mp z];exact⟨j3,j1,j4,j5⟩
   ·obtain ⟨o,es,ep,q,r⟩:=hm
    exact⟨o,es,ep,hk _ o (Zb e1) (Zb j1) q,r⟩
   ·refine (I.hok b u q).stay (fun c v hc z=>?_) (fun _ z=>z) fun _ _ z=>z
    have nP:c≠e∧c≠j:=by
     rcases hc with rfl | hc
     ·exact oj c u q
     ·exact oj c _ hc
    exact hk c v nP.1 nP.2 z
  obtain⟨y,hy⟩:∃y,xs[i]?=some y:=⟨xs[i],Qd hi⟩
  obtain⟨u,hu,ru⟩:=rv.get hy
  have og:a8[i]?=some x:=by simpa using hP
  rw[hu]at og
  have qS:u=x:=Qk og
  subst qS
  have hN:H s.heap.objs.size=none:=I.hok.fresh (Qi _)
  refine wpAny_letOwnedTupleGo_enum ho λg' aS aU=>?_
  have nT:s.heap.objs.size≠e:=Yc (Qt he)
  have nJ:s.heap.objs.size≠j:=by obtain⟨o,q,_⟩:=hit;exact Yc (Qt q)
  have I2:Inv X a7 σ H {s with heap:=g',toks:=tk+1}:=Inv.turned (s:={s with heap:=g,toks:=tk+1}) (t':=tk+1) (it:=e) I1 (λb o hb q=>(aU.2 b hb).trans q) e0 e1 e3 e4 e5
  have o8:g'.get? s.heap.objs.size=some {cls:=.type "tuple",data:=.seq #[.int i tk,u]}:=(aU.2 _ nT).trans hT
  have I3:Inv X a7 σ (upd H s.heap.objs.size (.tup [.int i,y])) {s with heap:=g',toks:=tk+1}:=by
   refine⟨I2.ok,I2.os,I2.bare,⟨I2.base.keep,I2.base.slot,λb o q n hx=>?_,I2.base.there,λb zs q=>?_,λb o v q=>?_,λb ps q=>?_⟩,I2.loc,I2.cell,?_,λz c q=>?_,λpp hp=>?_,λb v q=>?_,I2.len⟩
   ·have lt:b < s.heap.objs.size:=Zp (Qt q) I.sz
    rw[zad (Zc lt)];exact I2.base.free b o q n hx
   ·have:=I2.base.tups b zs q
    rw[zad (zaa this hN)];exact this
   ·have:=I2.base.frzs b o v q
    rw[zad (zaa this hN)];exact this
   ·obtain ⟨m,z⟩:=I2.base.tbls b ps q
    exact⟨m,by rw[zad (zaa z hN)];exact z⟩
   ·rw[zad (Zc I.lt)];exact I2.free
   ·rw[zad (Zc (I.cl_lt z c q))];exact I2.freeC z c q
   ·obtain ⟨h1,h2,h3⟩:=I2.pin pp hp
    exact⟨h1,by rw[zad (Zc (I.pin_lt pp hp))];exact h2,h3⟩
   ·by_cases hb:b=s.heap.objs.size
    ·subst hb
     rw[zac]at q
     cases q
     exact⟨by show 2≤sizeLine;decide,[.int i tk,u],.cons ⟨tk,rfl⟩ (.cons ru .nil),_,o8,rfl,_,rfl⟩
    ·rw [zad hb] at q
     exact(I2.hok b v q).stay (λc v _ z=>z) (λc z=>by rw[zad (zaa z hN)];exact z) λc zs z=>by rw[zad (zaa z hN)];exact z
  refine⟨.ref s.heap.objs.size,_,I3,rfl,⟨y,_,λys jw=>by rw[I.tuple_inj jw hq];exact hy,hN,rfl,rfl⟩,⟨⟨u,by simpa using aS⟩,?_⟩,λb hb=>?_⟩
  ·exact hs.1.at λo q=>(aU.2 j (Zb dW)).trans q
  ·rcases Qe.mp hb with z | z
   ·rw[z,zad (Zb nT)];exact e0
   ·rw[Qb.mp z,zad (Zb nJ)];exact j0
 done:=by
  intro X hP hw hK hc i a7 s σ H E I hf st hg
  subst hP hw hK
  obtain⟨xs,hq,hi⟩:=hg
  obtain⟨a8,rv,p,hz⟩:=I.tuple hq
  have hl:=rv.length
  obtain⟨⟨old,he⟩,hit⟩:=st
  obtain⟨j0,j1,j2,j3,j4,j5⟩:=hf j (by simp)
  have hh:X.A.in1.handled=none:=I.ok.hd hc
  have hT:s.TypeIs (.ref e) "enumerate" := ⟨_,he,rfl⟩
  unfold pyNext
  refine wpAny_bind (wpAny_attempt (wpAny_callSpecial?_slot (name:=Str.ofString "__next__") hT Ka (wpAny_call_entry Ka hT F.entry_enumerate_next ?_ (F.args_enumerate_next_1 _))))
  show wpAny _ _ (field (.ref e) 2 >>= _) _ _ _
  refine wpAny_bind (wpAny_field he rfl (x:=.ref j) rfl (wpAny_bind (next_end hh hit p (by simp;exact zdw ‹_› ‹_›) λg x hg hx=>?_)))
  obtain⟨o,ho,hc⟩:=hx
  refine wpAny_bind (wpAny_isInstance (T := "StopIteration") (b:=true) ⟨o,ho,hc⟩ isSubtype_stop (wpAny_pure ⟨rfl,?_⟩))
  exact I.turned (t':=s.toks) (λb o hb q=>hg b o hb q) j0 j1 j3 j4 j5
 self:=λA i s Q E st h=>by
  obtain⟨⟨old,he⟩,_⟩:=st
  exact wpAny_pyIter_enum he h
end L2
end
section
namespace L2
open PySem PySem.Spec PyProof.Rows Enu
section
variable{X:Cx}
def iEnum(K:Nb)(ta:TA):TI:=λ σ H R=>ta σ H λvs H1=>∃a,vs=[.ref a]∧(∃xs,SqT K H1 a xs)∧R (Ite a K) H1
def pi_enum{elts:Np}{kk:Nat}{tpos:Pos}{a:Expr}{ta:TA}{p pos:Pos}(hg:Gl X "enumerate")(hm:X.mg "enumerate" = none)(ha:PA X [a] ta)(hs:starEach [a] X.env=[(false,eval a X.env)]:=by rfl) :
  PI X (.Tuple elts kk tpos) (.Call (.Name "enumerate" p) [a] [] pos) (iEnum X.K ta):=by
 intro a7 s σ H R I h
 refine Call_ (zdt I hg hm boot_enumerate (Yq (thn (ha pos a7 s σ H _ I h) λus s1 ⟨vs,H1,I1,r1,q1⟩=>?_) hs rfl))
 obtain⟨t,e,⟨xs,hq⟩,q⟩:=q1
 subst e
 obtain⟨u,rfl,ru⟩:=vals1 r1
 cases ru
 obtain⟨a8,rv,pl,hz⟩:=I1.tuple hq
 have lt:t<s1.heap.objs.size:=by obtain⟨o,q,_⟩:=pl;exact Qt q
 refine call_enum pl λg he hit hsz k=>wpAny_pyIter_enum he ?_
 have I2:Inv X a7 σ H1 {s1 with heap:=g}:=I1.kept (t':=s1.toks) k
 refine⟨s1.heap.objs.size+1,[s1.heap.objs.size+1,s1.heap.objs.size],_,_,H1,rfl,I2,turn_enum t _ _ (Ks _) (Zc lt) (Yc (Uk lt)),⟨⟨_,he⟩,hit⟩,λb hb=>?_,q⟩
 have cT:s1.heap.objs.size≤b:=by
  rcases Qe.mp hb with z | z
  ·rw[z];exact Uf _
  ·rw[Qb.mp z];exact Qi _
 exact I1.fpOk cT (I1.hok.fresh cT)
def for_enum{K:Nb}{a:Nc}{xs:List V}{g:TG}{tb:TS}{D:Ends}{σ:St}{H:Hp}(Pv:Nat→St→Hp→Prop)(h0:Pv 0 σ H)(hl:∀i σ H,i≤xs.length→Pv i σ H→H a=some (.tup xs))(hs:∀i x t σ H,xs[i]?=some x→Pv i σ H→H t=none→g (.ref t) σ (upd H t (.tup [.int i,x])) λ σ2 H2=>tb {D with nx:=Pv (i+1),ct:=Pv (i+1),bk:=D.nx} σ2 H2)(hd:∀σ H,Pv xs.length σ H→D.nx σ H) :
  ∃W:Nat→Nat→St→Hp→Prop,(∃m,W 0 m σ H)∧∀i m σ H,W i m σ H →
   ((Ite a K).stop i H∧D.nx σ H)∨((Ite a K).go i H∧∃N:St→Hp→Prop,(∀σ' H',N σ' H'→∃m',m'<m∧W (i+1) m' σ' H')∧∀x H',(Ite a K).yld i H x H'→g x σ H' λ σ2 H2=>tb {D with nx:=N,ct:=N,bk:=D.nx} σ2 H2):=by
 refine⟨λi m σ H=>m=xs.length-i∧i≤xs.length∧Pv i σ H,⟨xs.length,by simp,Zf _,h0⟩,?_⟩
 rintro i m σ H ⟨rfl,hi,p⟩
 have q:=hl i σ H hi p
 by_cases ag:i<xs.length
 ·refine .inr ⟨⟨xs,SqT.of q,ag⟩,Pv (i+1),fun σ' H' p'=>⟨xs.length - (i+1),by exact zar1 ‹_›,rfl,ag,p'⟩,fun x H' y=>?_⟩
  obtain⟨z,t,e1,e3,rfl,rfl⟩:=y
  exact hs i z t σ H (e1 xs (SqT.of q)) p e3
 ·have e:i=xs.length:=by exact zar3 ‹_› ‹_›
  subst e
  exact .inl ⟨⟨xs,SqT.of q,Qi _⟩,hd σ H p⟩
def Its(x:Str):It:=⟨λi _=>i<x.cps.size,λi H v H'=>H'=H∧∃c,x.cps[i]?=some c∧v=.str ⟨#[c]⟩,λi _=>x.cps.size≤i⟩
theorem turn_str{P:Nj}{w:Nl}{K:Nb}{tg:Expr}{x:Str}{t:Tok}(it:Nc):Turn P w K tg (Its x) [it] it (λi h=>h.IsStrIter it "str_ascii_iterator" x t i) where
 mem:=by simp
 obj:=λi h st b hb=>by
  rw[Qb.mp hb]
  obtain⟨o,e,c,d⟩:=st
  exact⟨o,e,λv z=>by rw[d]at z;cases z⟩
 keep:=λi h h' st k=>let⟨o,ho,r⟩:=st;⟨o,k it (by simp) o ho,r⟩
 item:=by
  intro X hP hw hK hc i a7 s σ H E I hf st hg
  subst hP hw hK
  obtain⟨f0,f1,f2,f3,f4,f5⟩:=hf it (by simp)
  have hi:i<x.cps.size:=hg
  refine wpAny_pyNext_ascii_item st (c:=x.cps[i]) (by simp[hi]) λh' ae sb=>?_
  have I1:Inv X a7 σ H {s with heap:=h',toks:=s.toks+1}:=I.turned (λb o hb e=>(sb.2 b hb).trans e) f0 f1 f3 f4 f5
  obtain⟨o,e,c,d⟩:=id ae
  exact⟨_,rfl,go_of (s:={s with heap:=h',toks:=s.toks+1}) e c d (by decide) ⟨.str ⟨#[x.cps[i]]⟩,H,I1,⟨_,rfl⟩,⟨rfl,_,by simp[hi],rfl⟩,ae,λb hb=>(hf b hb).1⟩⟩
 done:=by
  intro X hP hw hK hc i a7 s σ H E I hf st hg
  subst hP hw hK
  obtain⟨f0,f1,f2,f3,f4,f5⟩:=hf it (by simp)
  have hi:x.cps.size≤i:=hg
  exact wpAny_pyNext_ascii_end (I.ok.hd hc) st (by simp[hi]) λh' eb=>⟨rfl,I.turned (t':=s.toks) (λb o hb e=>eb b o hb e) f0 f1 f3 f4 f5⟩
 self:=λ_ _ _ _ _ st h=>wpAny_pyIter_striter_ascii st h
def iStr(tl:TE):TI:=λ σ H R=>tl σ H λv H1=>∃x:Str,v=.str x∧x.cps.all (· < 128)=true∧R (Its x) H1
def pi_str{tg l:Expr}{tl:TE}(hl:PE X l tl):PI X tg l (iStr tl):=by
 intro a7 s σ H R I h
 refine thn (hl a7 s σ H _ I h) λv s1 ⟨y,H1,I1,r1,q1⟩=>?_
 obtain⟨x,e,ha,q⟩:=q1
 subst e
 obtain⟨t,rfl⟩:=r1
 refine wpAny_pyIter_ascii ha ?_
 refine⟨s1.heap.objs.size,[s1.heap.objs.size],_,_,H1,rfl,I1.kept (t':=s1.toks) λb o e=>Qj _ e,turn_str (t:=t) _,⟨_,Zd _ rfl,rfl,rfl⟩,λb hb=>?_,q⟩
 rw[Qb.mp hb]
 exact I1.fpOk (Qi _) (I1.hok.fresh (Qi _))
def op_le_str:OpR X (compareOp .LtE) (λx y H Q=>Ex2 λi j=>Aj3 (x=.str i) (y=.str j) (Q (.bl (!decide (j.cps.toList<i.cps.toList))) H)):=by
 intro a7 s σ H x y v u Q I rx ry h
 obtain⟨i,j,rfl,rfl,q⟩:=h
 obtain⟨t,rfl⟩:=rx
 obtain⟨t',rfl⟩:=ry
 exact PySem.P.le_str (zbe I q rfl)
end
end L2
end
section
namespace L2
open PySem PySem.Spec PyProof.Rows
section
variable{X:Cx}{a7:Nd}{σ:St}{H:Hp}{s:Nh}
inductive RrNil(neg:Bool)(K:Nb)(x:V)(y:V)(H:Hp)(Q:VK):Prop
 |mk (l:_) (b:_) (xs:_) (h0:x=.ref l) (h1:y=.ref b) (h2:SqL K H l xs) (h3:SqL K H b []) (h4:Q (.bl (if neg then !xs.isEmpty else xs.isEmpty)) H):RrNil neg K x y H Q
def rNil(neg:Bool)(K:Nb):R2:=λx y H Q=>RrNil neg K x y H Q
def op_eq_nil(hu:X.A.units<cLine):OpR X (compareOp .Eq) (rNil false X.K):=by
 intro a7 s σ H x y v u Q I rx ry h
 obtain⟨l,b,xs,rfl,rfl,h1,h2,q⟩:=h
 cases rx;cases ry
 obtain⟨a8,r,pl,_⟩:=I.list h1
 obtain⟨d8,r2,jk,_⟩:=I.list h2
 cases r2
 cases r with
 |nil=>exact SeqAt.eq_listAt (e:=λ_=>true) pl.isList jk.isList rfl hu (λj h1 _=>by simp at h1) ⟨.bl true,H,I,rfl,q⟩
 |cons a t=>exact SeqAt.eq_list_lengthsAt pl.isList jk.isList (by simp) hu ⟨.bl false,H,I,rfl,q⟩
def zf1(hu:X.A.units<cLine):OpR X (compareOp .NotEq) (rNil true X.K):=by
 intro a7 s σ H x y v u Q I rx ry h
 obtain⟨l,b,xs,rfl,rfl,h1,h2,q⟩:=h
 cases rx;cases ry
 obtain⟨a8,r,pl,_⟩:=I.list h1
 obtain⟨d8,r2,jk,_⟩:=I.list h2
 cases r2
 cases r with
 |nil=>exact SeqAt.RcNeAt.lists (e:=λ_=>true) pl.isList jk.isList rfl hu (λj h1 _=>by simp at h1) _ _ _ _ ⟨.bl false,H,I,rfl,q⟩
 |cons a t=>exact SeqAt.RcNeAt.lists_lengths pl.isList jk.isList (by simp) hu _ _ _ _ ⟨.bl true,H,I,rfl,q⟩
def op_mul_str:OpR X (binaryOp .Mult) (λx y H Q=>Ex2 λ(z:Str) (n:Nat)=>Aj5 (x=.str z) (y=.int n) (z.length≤1000) (n≤1000) (Q (.str (Txt.mul z n)) H)):=by
 intro a7 s σ H x y v u Q I rx ry h
 obtain⟨z,n,rfl,rfl,h1,h2,q⟩:=h
 obtain⟨t,rfl⟩:=rx
 obtain⟨t',rfl⟩:=ry
 exact SB.mul (mulOk_of 1000 1000 h1 (by lia) (by lia) (by decide) (by decide)) λt' k=>⟨.str _,H,I.tok _,⟨t',rfl⟩,q⟩
theorem argBest_lt{bt:Nat→Nat→Bool}:∀k,argBest bt k≤k
 |0=>Qi _
 |k+1=>by
  show(if bt (k+1) (argBest bt k)=true then k+1 else argBest bt k)≤k+1
  split
  ·exact Qi _
  ·exact Nat.le_succ_of_le (argBest_lt k)
theorem zc3(f:Nat→List Nat):∀k j,j≤k→¬f j<f (argBest (λi j=>decide (f i<f j)) k)
 |0,j,h=>by
  have:j=0:=by lia
  subst this
  exact Wy _
 | k+1,j,h=>by
  show ¬f j<f (if decide (f (k+1)<f (argBest (λi j=>decide (f i<f j)) k))=true then k+1 else argBest (λi j=>decide (f i<f j)) k)
  by_cases ag:f (k+1)<f (argBest (λi j=>decide (f i<f j)) k)
  ·rw [if_pos (decide_eq_true ag)]
   by_cases hj:j=k+1
   ·subst hj;exact Wy _
   ·intro z
    exact zc3 f k j (by lia) (List.lt_trans z ag)
  ·rw [if_neg (by simpa using ag)]
   by_cases hj:j=k+1
   ·subst hj;exact ag
   ·exact zc3 f k j (by lia)
def ziq(hc:X.calm=true):zch X (.builtin "min") (λxs H Q=>Ex2 λ(p:Nc) (zs:Nf)=>Aj4 (xs=[.ref p]) (SqL X.K H p (zs.map V.str)) (zs≠[]) (∀z∈zs,(∀y∈zs,leS z y)→Q (.str z) H)):=by
 intro a7 s σ H xs us Q I r h
 obtain⟨p,zs,rfl,hq,az,q⟩:=h
 obtain⟨u,rfl,rx⟩:=vals1 r
 cases rx
 have i6:0<zs.length:=Ws.mpr az
 refine call_min_walk (zhj hc I hq λa8 It h1 rv W st lt keep=>⟨It,_,_,_,_,_,λi j=>decide ((zs.getD i Str.empty).cps.toList<(zs.getD j Str.empty).cps.toList),rfl,W,st,lt,?_,λi j vi vj s' Q' E' hi hj i4=>?_,λv h' tk hv k=>?_⟩)
 ·have:=rv.length
  rw[Qa]at this
  rw[Qy];exact zar7 ‹_› ‹_›
 ·have gs:∀ (i:Nat) (v:Value),a8.toArray[i]?=some v→∃ t,v=.str (zs.getD i Str.empty) t:=fun i v e=>by
   have e':a8[i]?=some v:=by simpa using e
   have hi:i<a8.length:=(Qw.mp e').1
   have hl:=rv.length
   rw[Qa]at hl
   have aI:i<zs.length:=by exact zar6 ‹_› ‹_›
   obtain⟨u,e2,t,e3⟩:=rv.get (i:=i) (x:=.str zs[i]) (by simp[aI])
   rw[e']at e2
   cases e2
   exact⟨t,by rw[e3];simp[List.getD,aI]⟩
  obtain⟨t1,rfl⟩:=gs i vi hi
  obtain⟨t2,rfl⟩:=gs j vj hj
  exact lt_str i4
 ·have hl:=rv.length
  rw[Qa]at hl
  have hk:=argBest_lt (bt:=λi j=>decide ((zs.getD i Str.empty).cps.toList<(zs.getD j Str.empty).cps.toList)) (a8.toArray.size-1)
  generalize hb:argBest (λi j=>decide ((zs.getD i Str.empty).cps.toList<(zs.getD j Str.empty).cps.toList)) (a8.toArray.size-1)=b at hv hk
  have bY:b<zs.length:=by rw[Qy]at hk;lia
  have fG:a8[b]?=some v:=by simpa using hv
  obtain⟨u,e2,t,e3⟩:=rv.get (i:=b) (x:=.str zs[b]) (by simp[bY])
  rw[fG]at e2
  cases e2
  refine⟨.str zs[b],H,keep h' tk k,⟨t,e3⟩,q _ (Qz bY) λy hy=>?_⟩
  obtain⟨j,hj,ej⟩:=Zr hy
  have:=zc3 (λi=>(zs.getD i Str.empty).cps.toList) (a8.toArray.size-1) j (by rw[Qy];lia)
  rw[hb]at this
  have g1:zs.getD b Str.empty=zs[b]:=by simp[List.getD,bY]
  have g2:zs.getD j Str.empty=y:=by simp[List.getD,hj,ej]
  rw[g1,g2]at this
  exact this
end
section
variable{X:Cx}
def call_dict_of:zch X (.type "dict") (λxs H Q=>Ex2 λ(d:Nc) (kvs:List (Key×V))=>Aj3 (xs=[.ref d]) (Rd H d (.dK kvs)) (∀l,H l=none→Q (.ref l) (upd H l (.dK kvs)))):=by
 intro a7 s σ H xs us Q I r h
 obtain⟨d,kvs,rfl,hq,q⟩:=h
 obtain⟨u,rfl,rx⟩:=vals1 r
 cases rx
 obtain⟨z,lo,vs,ep,rk,ha,hl⟩:=dk_at I hq
 refine kt_call_dict lo ha.dictOf (by rw[hl];exact z) λh' hd sb=>?_
 have lt:d<s.heap.objs.size:=ha.lt_size
 have k:∀b o,s.heap.get? b=some o→h'.get? b=some o:=λb o e=>(sb.2 b (Zc (Qt e))).trans (Qj _ e)
 have nS:(s.heap.objs.size==sysModules)=false:=beq_eq_false_iff_ne.mpr (Yc I.big)
 exact⟨.ref _,_,I.laid (t':=s.toks) k (Qi _) (show zbq X.prog X.w _ h' _ (.dK kvs) from⟨z,nS,vs,rk,hd⟩),rfl,q _ (I.hok.fresh (Qi _))⟩
def eqV_self{x:V}(f:zdp x=true):eqV x x=true:=by
 cases x with
 |non=>rfl
 |bl b=>exact beq_self_eq_true b
 |int i=>exact beq_self_eq_true i
 |str z=>exact beq_self_eq_true z
 |_=>cases f
def KV.value{kvs:List (Key×V)}{vs:List (Key×Value)}(r:KV kvs vs){k:Key}{v:V}(nd:(kvs.map (·.1)).Nodup)(h:(k,v)∈kvs):∃ y,valueAt vs k=some y∧RelV v y:=by
 induction r with
 |nil=>cases h
 | @cons p q ps qs e t ih =>
  rw[Ql,Qr]at nd
  rcases Qe.mp h with z | z
  ·refine ⟨q.2,?_,?_⟩
   ·unfold valueAt
    rw[We (by rw[←e.1,←z];simp)]
    rfl
   ·have:=e.2
    rw[←z]at this
    exact this
  ·obtain ⟨y,h1,h2⟩:=ih nd.2 z
   refine⟨y,?_,h2⟩
   have ne:p.1≠k:=λw=>nd.1 (by rw[w];exact Qh.mpr ⟨_,z,rfl⟩)
   unfold valueAt at h1 ⊢
   rw[Wf (by rw[←e.1];simpa using ne)]
   exact h1
end
end L2
end
section
namespace SetT
open PySem PyProof.Rows PySem.Spec
section
variable{prog:Nj}{w:Nl}{A:Nn}{R:Nt}{I:Nc}{fp wr:Nk}{G:Array GenState→Array GenState→Prop}{n:Nat}{P:Nat→Value→Prop}{St:Nat→Shared→Prop}
def loop(W:WalksS prog w A.in1 I fp wr G n P St)(S:Nc)(lr:S∉fp)(zs:Nf)(hz:zs.length=n)(nd:zs.Nodup)(bD:∀i v,P i v→∃t,v=.str (zs.getD i Str.empty) t)(hb:n+1<scanBound) :
  ∀(k i:Nat) (s:Nh),n-i=k→i≤n→St i s→s.heap.SetOf (PySem.strKind prog w) S (λx=>decide (x∈zs.take i)) i →
   (∀s',Moved (S::wr) G s s'→s'.heap.SetOf (PySem.strKind prog w) S (λx=>decide (x∈zs.take n)) n→R (.ok (.ret .none)) s')→codeAny (model prog w) A (.builtin "set.update.loop" ⟨[.ref S,.ref I],[]⟩) R s:=by
 have hSw:S∉wr:=λh=>lr (W.sub _ h)
 have sub:∀b∈wr,b∈S::wr:=λb q=>Qg _ q
 intro k
 induction k with
 |zero =>
  intro i s hk hi aq hS hR
  obtain rfl:i=n:=by lia
  refine codeAny_builtin F.entry_set_update_loop ?_
  rw[Wg F.plain_set_update_loop _]
  show wpAny _ A.in1 (pyNext (.ref I) >>= _) _ _ s
  refine wpAny_bind (W.done s _ _ aq λs' hm=>(show wpAny _ A.in1 (ret Value.none) _ _ s' from wpAny_pure (hR s' (hm.mono sub) ?_)))
  obtain⟨o,es,ep,t,ho,rest⟩:=hS
  exact⟨o,es,ep,t,hm.heap S _ hSw ho,rest⟩
 | succ k ih =>
  intro i s hk hi aq hS hR
  have lt:i<n:=by lia
  refine codeAny_builtin F.entry_set_update_loop ?_
  rw[Wg F.plain_set_update_loop _]
  show wpAny _ A.in1 (pyNext (.ref I) >>= _) _ _ s
  refine wpAny_bind (W.item i s _ _ lt aq λv s' hP rg hm=>?_)
  obtain⟨t,rfl⟩:=bD i v hP
  have aI:i<zs.length:=by exact zar6 ‹_› ‹_›
  have eg:zs.getD i Str.empty=zs[i]:=by simp[List.getD,aI]
  rw[eg]
  have jc:s'.heap.SetOf (PySem.strKind prog w) S (λx=>decide (x∈zs.take i)) i:=by
   obtain⟨o,es,ep,tb,ho,rest⟩:=hS
   exact⟨o,es,ep,tb,hm.heap S _ hSw ho,rest⟩
  show wpAny _ A.in1 (holding [Value.str zs[i] t] (setAdd S (.str zs[i] t)) >>= _) _ _ s'
  refine wpAny_bind (wpAny_holding ?_)
  unfold setAdd
  refine wpAny_holding (wpAny_bind ((PySem.strKind prog w).pyHash (k:=zs[i]) (by simp[PySem.strKind,Value.isStrOf]) ?_))
  have nin:decide (zs[i]∈zs.take i)=false:=decide_eq_false λq=>by
   obtain⟨j,hj,e⟩:=Zr q
   rw[Zj]at hj
   rw[Wr]at e
   have:=(Yi nd).mp e
   lia
  refine wpAny_setAddHashed_of (knd:=PySem.strKind prog w) (k:=zs[i]) (by simp[PySem.strKind,Value.isStrOf]) rfl jc (by lia) λg sb hS2=>?_
  have hSi:g.SetOf (PySem.strKind prog w) S (λx=>decide (x∈zs.take (i+1))) (i+1):=by
   refine SetOf_congr hS2 (λx=>?_) (by simp only[nin];simp)
   rw[Wl]
   simp only[Xa,decide_eq_true_eq]
   rw[Qm aI,Qf,Qb]
  refine wpAny_pure ⟨plainId_quiet F.plain_set_update_loop _,ih (i+1) _ (by lia) lt (W.frame _ s' _ _ rg (by first | exact Qi _ | exact Uf _) λb q o e=>?_) hSi λs2 cx hS3=>hR s2 (Moved.trans W.gtrans ((hm.mono sub).then_heap (by first | exact Qi _ | exact Uf _) λb o q e=>?_) cx) hS3⟩
  ·rw[sb.2 b (λz:b=S=>lr (by rw[←z];exact q))];exact e
  ·rw[sb.2 b (λz:b=S=>q (by rw[z];exact Qc))];exact e
end
section
variable{prog:Nj}{w:Nl}{A:Nn}{E:Na}{s:Nh}
def call_set{l:Nc}{a8:Ni}{zs:Nf}{Q:Na}(hh:A.handled=none)(hl:s.heap.IsList l a8.toArray)(hz:zs.length=a8.length)(nd:zs.Nodup)(bD:∀(i:Nat) (v:Value),a8[i]?=some v→∃t,v=.str (zs.getD i Str.empty) t)(hb:a8.length+1<scanBound)(h:∀(g:Nm) (tk:Nat),g.SetOf (PySem.strKind prog w) s.heap.objs.size (λx=>decide (x∈zs)) zs.length→(∀b o,s.heap.get? b=some o→g.get? b=some o)→Q (.ref s.heap.objs.size) {s with heap:=g,toks:=tk}) :
  wpAny (model prog w) A (call (.type "set") [.ref l]) Q E s:=by
 obtain⟨c,tl,hmro⟩:=Wm.mro
 have hmade:=Wm.made
 have r9:=Wm.sub
 refine wpAny_call (codeAny_of_tree (show wpAny _ _ (callAny (.type "set") _) _ _ _ from wpAny_pure ⟨Code.quiet_builtin _ (by decide +kernel),codeAny_builtin PySem.F.entry_type_call ?_⟩))
 rw[Around.under_plain (weight_type_call_type "set" [.ref l] []) rfl]
 have h1:=Wm.notType
 have h2:=Wm.canCreate
 have lh:=PySem.F.typeCall_set_1 (.ref l)
 repeat(any_goals (first | assumption | wp_step))
 refine codeAny_mono (code_set_new_1 (.ref l) (E:=E) (Q₁:=λobj s₁=>∃led:Bool,obj=.ref s.heap.objs.size∧s₁={s with heap:=s.heap.push {cls:=.type "set",dict:=none,data:=.set #[] 0 (.fresh 0 0 led)}}) λled=>⟨led,rfl,rfl⟩) λr s1 hr=>?_
 cases r with
 |error e=>exact hr
 | ok fl =>
  cases fl with
  | ret obj =>
   obtain⟨led,rfl,rfl⟩:=hr
   have hS:(s.heap.push {cls:=.type "set",dict:=none,data:=.set #[] 0 (.fresh 0 0 led)}).get? s.heap.objs.size=some {cls:=.type "set",dict:=none,data:=.set #[] 0 (.fresh 0 0 led)}:=Zd _ rfl
   have hT:Shared.TypeIs {s with heap:=s.heap.push {cls:=.type "set",dict:=none,data:=.set #[] 0 (.fresh 0 0 led)}} (.ref s.heap.objs.size) "set" := ⟨_,hS,rfl⟩
   have hli:=Wm.init.lookup
   have tK:=Wm.init.bind (.ref s.heap.objs.size)
   repeat(any_goals (first | assumption | wp_step))
   refine codeAny_mono (codeAny_call_builtin (R:=wants (λr s₂=>r=.none∧∃g tk,s₂={s with heap:=g,toks:=tk}∧g.SetOf (PySem.strKind prog w) s.heap.objs.size (λx=>decide (x∈zs)) zs.length∧(∀b o,s.heap.get? b=some o→g.get? b=some o)) E)
    Wm.init.plain PySem.F.entry_set_init (check_set_init_1 hT ?_)) λr2 s2 cN=>?_
   ·obtain ⟨ol,hol,gI,nl,j8⟩:=hl
    obtain⟨ocls,odict,odata,oslots⟩:=ol
    simp only at gI j8
    subst gI;subst j8
    have rR:(s.heap.push {cls:=.type "set",dict:=none,data:=.set #[] 0 (.fresh 0 0 led)}).get? l=some {cls:=.type "list",dict:=odict,data:=.seq a8.toArray nl,slots:=oslots}:=Qj _ hol
    have hsls:=PySem.F.sub_list_set
    have hslf:=PySem.F.sub_list_frozenset
    have az:(Value.type "list" == Value.type "dict")=false:=by decide
    have cb:(s.heap.push {cls:=.type "set",dict:=none,data:=.set #[] 0 (.fresh 0 0 led)}).IsList l a8.toArray:=⟨_,rR,rfl,nl,rfl⟩
    unfold Builtin.«set.__init__» noKeywords Builtin.Frozenset.updateFrom
    generalize hPI:pyIter=PI
    wp_walk
    subst hPI
    refine wpAny_pyIter_list cb (wpAny_bind (wpAny_runValue ?_))
    have hlS:l<s.heap.objs.size:=Qt hol
    have hh3:A.in1.in1.in1.handled=none:=by simp[hh]
    have z1:(s.heap.push {cls:=.type "set",dict:=none,data:=.set #[] 0 (.fresh 0 0 led)}).objs.size=s.heap.objs.size+1:=Wt ..
    have rW:l≠(s.heap.push {cls:=.type "set",dict:=none,data:=.set #[] 0 (.fresh 0 0 led)}).objs.size:=by rw[z1];exact Zc (Uk hlS)
    have lr:s.heap.objs.size∉[(s.heap.push {cls:=.type "set",dict:=none,data:=.set #[] 0 (.fresh 0 0 led)}).objs.size,l]:=by
     rw[z1];simp only[Qe,Wd,or_false,not_or]
     exact⟨Zc (Yu _),Yc hlS⟩
    refine loop ((Walks.list hh3 _ l rW a8.toArray).toS) s.heap.objs.size lr zs (by rw[Qy];exact hz) nd (λi v hv=>bD i v (by simpa using hv)) (by rw[Qy];exact hb) _ 0 _ rfl (Zf _) ⟨⟨_,Zd _ rfl,rfl,rfl⟩,(cb.push _)⟩ ?_ ?_
    ·exact SetOf_congr ((setObjOf_fresh (knd:=PySem.strKind prog w) led).setOf (Qj _ hS) (by unfold scanBound;exact Nat.le_add_left _ _)) (λ_=>by simp) rfl
    ·intro s' hm jc
     obtain⟨g,g',d',qh,qm⟩:=s'
     have eg:g'=s.gens:=hm.gens
     have ed:d'=s.drawn:=hm.drawn
     have eo:qm=s.os:=hm.os
     subst eg;subst ed;subst eo
     show wpAny _ _ _ _ _ _
     refine wpAny_pure (show wpAny _ _ (ret Value.none) _ _ _ from wpAny_pure ⟨rfl,g,qh,rfl,?_,λb o e=>?_⟩)
     ·have e1:a8.toArray.size=zs.length:=by rw [Qy,hz]
      rw[e1,Qv (Qi _)]at jc
      exact jc
     ·have lm:b < s.heap.objs.size:=Qt e
      refine hm.heap b o ?_ (Qj _ (Qj _ e))
      rw[z1]
      simp only[Qe,Wd,or_false,not_or]
      exact⟨Zc lm,Zc (Uk lm)⟩
   ·cases r2 with
    |error e=>exact cN
    | ok fl2 =>
     cases fl2 with
     |ret r =>
      obtain⟨rfl,g,tk,rfl,jc,fZ⟩:=cN
      repeat(any_goals (first | assumption | wp_step))
      exact h _ _ jc fZ
     |_=>exact cN.elim
  |_=>exact hr.elim
end
end SetT
namespace L2
open PySem PySem.Spec PyProof.Rows
def setO(P:Nj)(w:Nl)(a:Nc)(zs:Nf):HO:=.ext λh=>h.SetOf (PySem.strKind P w) a (λx=>decide (x∈zs)) zs.length
section
variable{X:Cx}
def zio(hc:X.calm=true):zch X (.type "set") (λxs H Q=>Ex2 λ(p:Nc) (zs:Nf)=>Aj5 (xs=[.ref p]) (SqL X.K H p (zs.map V.str)) zs.Nodup (zs.length≤1000) (∀l,H l=none→Q (.ref l) (upd H l (setO X.prog X.w l zs)))):=by
 intro a7 s σ H xs us Q I r h
 obtain⟨p,zs,rfl,hq,nd,hz,q⟩:=h
 obtain⟨u,rfl,rx⟩:=vals1 r
 cases rx
 obtain⟨a8,rv,pl,_⟩:=I.list hq
 have hl:=rv.length
 rw[Qa]at hl
 refine SetT.call_set (zs:=zs) (I.ok.hd hc) pl.isList hl nd (λi v e=>?_) (by unfold scanBound;lia) λg tk hS k=>?_
 ·have hi:i < a8.length:=(Qw.mp e).1
  have aI:i<zs.length:=by exact zar6 ‹_› ‹_›
  obtain⟨u,e2,t,e3⟩:=rv.get (i:=i) (x:=.str zs[i]) (by simp[aI])
  rw[e]at e2
  cases e2
  exact⟨t,by rw[e3];simp[List.getD,aI]⟩
 ·refine ⟨.ref _,_,I.laid (t':=tk) k (Qi _) (show zbq X.prog X.w _ g _ (setO X.prog X.w s.heap.objs.size zs) from ⟨hS,?_,fun h1 h2 p1 k1=>?_⟩),rfl,q _ (I.hok.fresh (Qi _))⟩
  ·obtain ⟨o,_,_,_,e,_⟩:=hS
   exact⟨o,e⟩
  ·obtain ⟨o,es,ep,t,e,rest⟩:=p1
   exact⟨o,es,ep,t,k1 o e,rest⟩
def zis:zch X (.builtin "len") (λxs H Q=>Ex2 λ(p:Nc) (zs:Nf)=>Aj4 (xs=[.ref p]) (H p=some (setO X.prog X.w p zs)) (zs.length≤1000) (Q (.int zs.length) H)):=by
 intro a7 s σ H xs us Q I r h
 obtain⟨p,zs,rfl,hq,hz,q⟩:=h
 obtain⟨u,rfl,rx⟩:=vals1 r
 cases rx
 obtain⟨⟨o,es,ep,t,ho,cu,hd,nH,hmem,hb,hf,hn⟩,_⟩:=(show zbq X.prog X.w H s.heap p (setO X.prog X.w p zs) from I.hok p _ hq)
 exact call_len_set ho cu hd hf (by rw[hn];lia) ⟨.int zs.length,H,I.tok _,⟨_,by rw[hn]⟩,q⟩
end
end L2
end
section
namespace DictR
open PySem PyProof.Rows PySem.Spec
def miss_keys:typeLookup (.type "list") "keys" = pure none:=am_miss_of_fast (by decide +kernel)
section
variable{prog:Nj}{w:Nl}{A:Nn}{E:Na}{s:Nh}
def no_keys{a:Nc}{xs:Array Value}{k:Nat}{sl:Array (Option Value)}{Q:Option Value→Shared→Prop}(hx:s.heap.get? a=some {cls:=.type "list",dict:=none,data:=.seq xs k,slots:=sl})(hA:A.handled=none)(h:∀g tk,(∀b o,s.heap.get? b=some o→g.get? b=some o)→Q none {s with heap:=g,toks:=tk}):wpAny (model prog w) A (getAttr? (.ref a) "keys") Q E s:=by
 obtain⟨hp,g,d,tk,os⟩:=s
 have hT:∀t',(⟨hp,g,d,t',os⟩:Shared).TypeIs (.ref a) "list" := λ_=>⟨_,hx,rfl⟩
 have f1:=sub_AttributeError
 have f3:=Xg.lookup
 have f4:=Xg.bind (.ref a)
 have f5:=am_list_getattr_none
 unfold getAttr? getAttrBy? getAttrBy
 repeat(any_goals (first | assumption | exact hT _ | ((with_reducible show wpAny _ _ (call (Value.builtin "list.__getattribute__") _ _) _ _ _);refine call_meets Xg (hT _) am_entry_list_getattribute (F.args_list_getattribute_2 _ _) (meets_getattribute_miss_list a xs k sl "keys" _ miss_keys (by decide +kernel) (by decide +kernel)) ⟨hx,hA,λh' qh e ci=>?_⟩) | wp_step))
 obtain⟨t',u',he⟩:=ci.there
 show wpAny _ _ (getattributeRaised _ _ _ _ _ _ _) _ _ _
 unfold getattributeRaised
 repeat(any_goals (first | assumption | wp_step))
 exact h h' qh ci.keeps
def zhc:entryFor table "dict.update.loop" = some Builtin.«dict.update.loop»:=entryFor_of_tree (by kernel_rfl)
def zdl:plainId "dict.update.loop" = true:=by decide +kernel
structure Row(K:Type) where
 a:Addr
 o:Obj
 k:K
 key:Value
 val:Value
 n:Nat
variable{K:Type}[DecidableEq K]{knd:KeyKind prog w K}
def RowAt(knd:KeyKind prog w K)(h:Nm)(r:Row K):Prop:=h.get? r.a=some r.o∧r.o.cls=.type "tuple" ∧ r.o.data=.seq #[r.key,r.val] r.n∧knd.is r.k r.key=true
def stored_new{kvs:List (K×Value)}{k:K}{v:Value}(h:k∉kvs.map (·.1)):stored kvs k v=kvs++[(k,v)]:=by
 unfold stored
 rw[if_neg]
 intro z
 obtain⟨p,hp,e⟩:=Yz.mp z
 exact h (Qh.mpr ⟨p,hp,of_decide_eq_true e⟩)
def loop{R:Nt}{I l:Nc}(hh:A.handled=none)(rows:List (Row K))(d:Nc)(tE:d≠I)(j8:d≠l)(hlI:l≠I)(hr:∀ r∈rows,r.a≠d∧r.a≠I)(nd:(rows.map (·.k)).Nodup)(hz:rows.length≤sizeLine) :
  ∀(m i:Nat) (s:Nh),rows.length-i=m→i≤rows.length→s.heap.IsListIter I l i→s.heap.IsList l (rows.map λr=>Value.ref r.a).toArray→(∀r∈rows,RowAt knd s.heap r)→s.heap.DictOf knd d ((rows.take i).map λr=>(r.k,r.val)) →
   (∀g tk,(∀b o,b≠d→b≠I→s.heap.get? b=some o→g.get? b=some o)→g.DictOf knd d (rows.map λr=>(r.k,r.val))→R (.ok (.ret .none)) {s with heap:=g,toks:=tk}) →
   codeAny (model prog w) A (.builtin "dict.update.loop" ⟨[.ref d,.ref I,rawInt i,.none],[]⟩) R s:=by
 intro m
 induction m with
 |zero =>
  intro i s hm hi st hl hR hd hQ
  obtain rfl:i=rows.length:=by lia
  refine codeAny_builtin zhc ?_
  rw[Wg zdl _]
  show wpAny _ A.in1 (pyNext (.ref I) >>= _) _ _ s
  refine wpAny_bind (wpAny_pyNext_list_end (show A.in1.handled=none from hh) st hl (by simp) λg eb=>?_)
  show wpAny _ A.in1 (Builtin.Dict.addKeywords d [] >>= λ_=>ret Value.none) _ _ _
  refine wpAny_bind (show wpAny _ A.in1 (pure ()) _ _ _ from wpAny_pure (wpAny_pure (hQ g s.toks (λb o _ hb e=>eb b o hb e) ?_)))
  rw[Qv (Qi _)]at hd
  exact hd.extBut eb tE
 | succ m ih =>
  intro i s hm hi st hl hR hd hQ
  have lt:i<rows.length:=by lia
  obtain⟨e1,e2,e3,e4⟩:=hR rows[i] (Qz lt)
  obtain⟨n1,n2⟩:=hr rows[i] (Qz lt)
  refine codeAny_builtin zhc ?_
  rw[Wg zdl _]
  show wpAny _ A.in1 (pyNext (.ref I) >>= _) _ _ s
  refine wpAny_bind (wpAny_pyNext_list_item st hl (x:=.ref rows[i].a) (by simp[lt]) λg ae sb=>?_)
  have k1:∀b o,b≠I→s.heap.get? b=some o→g.get? b=some o:=λb o hb e=>(sb.2 b hb).trans e
  have km:g.DictOf knd d ((rows.take i).map λr=>(r.k,r.val)):=hd.sameBut sb tE
  refine wpAny_bind (wpAny_holding ?_)
  refine wpAny_bind (wpAny_tryCatch ?_)
  show wpAny _ A.in1 (Builtin.Dict.pairItems (.ref rows[i].a)) _ _ _
  unfold Builtin.Dict.pairItems
  refine wpAny_bind (wpAny_typeOf (T := "tuple") ⟨_,k1 _ _ n2 e1,e2⟩ ?_)
  rw[if_pos (by decide)]
  refine wpAny_bind (wpAny_seqItems (k1 _ _ n2 e1) e3 (wpAny_pure ?_))
  show wpAny _ A.in1 (holding [rows[i].key,rows[i].val] (dictSet d rows[i].key rows[i].val)) _ _ _
  have nk:rows[i].k∉((rows.take i).map λr=>(r.k,r.val)).map (·.1):=by
   rw[Zi]
   intro q
   obtain⟨r,aE,cN⟩:=Qh.mp q
   obtain⟨j,hj,ej⟩:=Zr aE
   rw[Zj]at hj
   rw[Wr]at ej
   have n6:j<rows.length:=by lia
   have:(rows.map (·.k))[j]'(by simpa using n6)=(rows.map (·.k))[i]'(by simpa using lt):=by
    rw[Zm,Zm,ej];exact cN
   have:=(Yi nd).mp this
   lia
  refine wpAny_holding (wpAny_dictSet_pairs (knd:=knd) e4 km (λg2 hd2 sb2=>?_) (by rw[Qa,Zj];lia))
  rw[stored_new nk]at hd2
  have nN:g2.DictOf knd d ((rows.take (i+1)).map λr=>(r.k,r.val)):=by
   rw[Qm lt,Qp];exact hd2
  have k2:∀b o,b≠d→b≠I→s.heap.get? b=some o→g2.get? b=some o:=λb o gL bY e=>(sb2.2 b gL).trans (k1 b o bY e)
  have hc:((i:Int)+1)=((i+1:Nat):Int):=by push_cast;rfl
  refine wpAny_pure ⟨plainId_quiet zdl _,?_⟩
  rw[hc]
  refine ih (i+1) _ (by lia) lt ?_ ?_ (λr md=>?_) nN λg3 tk3 k3 tF=>?_
  ·obtain ⟨o,q,z⟩:=ae
   exact⟨o,(sb2.2 I (Zb tE)).trans q,z⟩
  ·obtain ⟨o,q,z⟩:=hl
   exact⟨o,k2 l o (Zb j8) hlI q,z⟩
  ·obtain ⟨q1,q2⟩:=hR r md
   exact⟨k2 _ _ (hr r md).1 (hr r md).2 q1,q2⟩
  ·exact hQ g3 tk3 (λb o gL bY e=>k3 b o gL bY (k2 b o gL bY e)) tF
def call{l:Nc}{rows:List (Row K)}{Q:Na}{xk:Nat}(hh:A.handled=none)(hl:s.heap.get? l=some {cls:=.type "list",data:=.seq (rows.map λr=>Value.ref r.a).toArray xk})(hR:∀r∈rows,RowAt knd s.heap r)(nd:(rows.map (·.k)).Nodup)(hz:rows.length≤sizeLine)(h:∀g tk,g.DictOf knd s.heap.objs.size (rows.map λr=>(r.k,r.val))→(∀b o,s.heap.get? b=some o→g.get? b=some o)→Q (.ref s.heap.objs.size) {s with heap:=g,toks:=tk}) :
  wpAny (model prog w) A (call (.type "dict") [.ref l]) Q E s:=by
 refine callType_codes (Q₁:=λobj s₁=>obj=.ref s.heap.objs.size∧s₁={s with heap:=s.heap.push {cls:=.type "dict",data:=.dict #[]}}) PySem.F.kt_called_dict (PySem.F.kt_typeCall_dict_1 _) PySem.F.entry_dict_init (kt_code_dict_new _ ⟨rfl,rfl⟩) ?_
 rintro obj s₁ ⟨rfl,rfl⟩
 have bi:(s.heap.push {cls:=.type "dict",data:=.dict #[]}).DictOf knd s.heap.objs.size []:=Heap.DictOf.new s.heap
 refine⟨bi.typeIs,PySem.F.args_dict_init_2 _ _,?_⟩
 unfold Builtin.«dict.__init__»
 refine wpAny_bind ?_
 unfold Builtin.Dict.selfAndRest
 refine wpAny_bind (wpAny_notOrdered_dict bi.typeIs (show wpAny _ _ (pure (s.heap.objs.size,[Value.ref l])) _ _ _ from wpAny_pure ?_))
 show wpAny _ _ (Builtin.Dict.updateFrom "dict.__init__" s.heap.objs.size (.ref l) [] .none) _ _ _
 unfold Builtin.Dict.updateFrom
 have cb:(s.heap.push {cls:=.type "dict",data:=.dict #[]}).get? l=some {cls:=.type "list",data:=.seq (rows.map λr=>Value.ref r.a).toArray xk}:=Qj _ hl
 refine wpAny_bind (wpAny_typeOf (T := "list") ⟨_,cb,rfl⟩ ?_)
 rw[if_pos (by decide)]
 refine wpAny_bind (no_keys cb (by first | exact hh | (show A.handled=none;exact hh)) λg tk kg=>?_)
 simp only[Option.isNone_none,if_true]
 refine wpAny_bind (wpAny_rule ?_)
 have ltl:l<s.heap.objs.size:=Qt hl
 have dg:g.DictOf knd s.heap.objs.size []:=by
  obtain⟨o,es,ep,q,z⟩:=bi
  exact⟨o,es,ep,kg _ _ q,z⟩
 have hlg:g.IsList l (rows.map λr=>Value.ref r.a).toArray:=⟨_,kg _ _ cb,rfl,xk,rfl⟩
 have ltd:s.heap.objs.size<g.objs.size:=by
  obtain⟨o,es,ep,q,z⟩:=dg
  exact Qt q
 have lts:∀b o,s.heap.get? b=some o→b≠s.heap.objs.size∧b≠g.objs.size:=λb o e=>⟨Zc (Qt e),Zc (Wn (Qt e) ltd)⟩
 refine wpAny_bind (wpAny_pyIter_list (s:={s with heap:=g,toks:=tk}) hlg (wpAny_pure ⟨plainId_quiet zdl _,?_⟩))
 refine loop (knd:=knd) (I:=g.objs.size) (l:=l) (by first | exact hh | (show A.handled=none;exact hh)) rows s.heap.objs.size (Zc ltd) (Yc ltl) (Zc (Wn ltl ltd)) (λr hr=>lts r.a r.o (hR r hr).1) nd hz _ 0 _ rfl (Zf _) ⟨_,Zd _ rfl,rfl,rfl⟩ ?_ (λr hr=>?_) ?_ λg2 tk2 k2 hd=>?_
 ·obtain ⟨o,q,z⟩:=hlg
  exact⟨o,Qj _ q,z⟩
 ·obtain ⟨q1,q2⟩:=hR r hr
  exact⟨Qj _ (kg _ _ (Qj _ q1)),q2⟩
 ·exact dg.push _
 ·exact⟨rfl,h g2 tk2 hd λb o e=>k2 b o (lts b o e).1 (lts b o e).2 (Qj _ (kg _ _ (Qj _ e)))⟩
end
end DictR
end
section
namespace L2
open PySem PySem.Spec PyProof.Rows
section
variable{X:Cx}
abbrev RowsAt(H:Hp):List Addr→List (Str×V)→Prop:=Paired λa p=>H a=some (.tup [.str p.1,p.2])
theorem rows_of{a7:Nd}{s:Nh}{σ:St}{H:Hp}(I:Inv X a7 σ H s):∀{as:Nk} {ps:List (Str×V)},RowsAt H as ps →
  ∃rows:List (DictR.Row Key),rows.map (·.a)=as∧(∀r∈rows,DictR.RowAt (zat X.prog X.w) s.heap r)∧rows.map (·.k)=ps.map (λp=>Sum.inr p.1)∧KV (ps.map λp=>((Sum.inr p.1:Key),p.2)) (rows.map λr=>(r.k,r.val))
 |_,_,.nil=>⟨[],rfl,λr hr=>(by cases hr),rfl,.nil⟩
 | a::as,p::ps,.cons h t=>by
  obtain⟨rows,e1,e2,e3,e4⟩:=rows_of I t
  obtain⟨_,a8,r,o,q,c,n,d⟩:=I.hok a _ h
  obtain⟨u,w',rfl,⟨tk,rfl⟩,rz⟩:=vals2 r
  refine⟨⟨a,o,Sum.inr p.1,.str p.1 tk,w',n⟩::rows,by rw[Ql,e1],λx hx=>?_,by rw[Ql,Ql,e3],.cons ⟨rfl,rz⟩ e4⟩
  rcases Qe.mp hx with z | z
  ·subst z
   exact⟨q,c,d,zf6 _ _ _ _⟩
  ·exact e2 x z
def zgz(hc:X.calm=true):zch X (.type "dict") (fun xs H Q=>Ex3 fun (p:Nc) (as:Nk) (ps:List (Str×V))=>Aj5 (xs=[.ref p]) (H p=some (.lst (as.map V.ref))) (RowsAt H as ps) ((ps.map (·.1)).Nodup) (∀ l,H l=none→Q (.ref l) (upd H l (.dK (ps.map fun p=>((Sum.inr p.1:Key),p.2)))))):=by
 intro a7 s σ H xs us Q I r h
 obtain⟨p,as,ps,rfl,hp,hr,nd,q⟩:=h
 obtain⟨u,rfl,rx⟩:=vals1 r
 cases rx
 obtain⟨hz,a8,n,rv,hl,e⟩:=I.lstM hp
 obtain⟨rows,e1,e2,e3,e4⟩:=rows_of I hr
 have eits:a8=rows.map λr=>Value.ref r.a:=by
  have e7:=e1
  clear hz hl e hp e4 e3 e2 hr e1 q
  induction rows generalizing as a8 with
  |nil=>subst e7;cases rv;rfl
  | cons r rs ih =>
   cases as with
   |nil=>cases e7
   | cons a as =>
    rw[Ql]at e7 rv
    injection e7 with h1 h2
    cases rv with
    |cons r1 r2 =>
     cases r1
     rw[Ql,h1,ih _ _ r2 h2]
 subst eits
 have af:rows.length≤sizeLine:=by rw[Qa]at hz hl;rw[Qa]at hl;exact zdw ‹_› ‹_›
 have ndk:(rows.map (·.k)).Nodup:=by
  rw[e3,show(λp:Str×V=>(Sum.inr p.1:Key))=(Sum.inr:Str→Key)∘(λp:Str×V=>p.1) from rfl,←Zi]
  exact List.Pairwise.map _ (λa b z q=>z (Wo q)) nd
 refine DictR.call (knd:=zat X.prog X.w) (rows:=rows) (xk:=n) (I.ok.hd hc) e e2 ndk af λg tk hd k=>?_
 have nS:(s.heap.objs.size==sysModules)=false:=beq_eq_false_iff_ne.mpr (Yc I.big)
 refine⟨.ref _,_,I.laid (t':=tk) k (Qi _) (show zbq X.prog X.w _ g _ (.dK _) from⟨?_,nS,_,e4,hd⟩),rfl,q _ (I.hok.fresh (Qi _))⟩
 have:=Yr e4
 rw[Qa,Qa]at this
 rw[Qa];omega
end
def zii{prog:Nj}{w:Nl}{A:Nn}{s:Nh}{kx vx target iter:Expr}{ifs:Np}{scope:Scope}{pos:Pos}{it:Value}{D:Nc}{env:Env}{R:Nt}(I:Nat→Shared→Prop)(turn:∀ n s,I n s→wpAny (model prog w) A (pyNext it) (fun r s₁=>match r with
   |none=>R (.ok .next) s₁
   | some v=>wpAny (model prog w) A (letOwnedTupleGo target it v) (fun _ s₁'=>wpAny (model prog w) A (assign target env v) (fun _ s₂ =>
     wpAny (model prog w) A (forIn ifs true λc r=>if r=true then do let ok ←isTrue c env (eval c env);pure (ForInStep.yield ok) else pure (ForInStep.yield r)) (λok s₃ =>
      if ok=true then wpAny (model prog w) A (eval kx env) (λkv s₄=>wpAny (model prog w) A (eval vx env) (λvv s₅ =>
       wpAny (model prog w) A (dictSet D kv vv) (λ_ s₆=>∃m,m<n∧I m s₆) (λ_ _=>False) s₅) (λ_ _=>False) s₄) (λ_ _=>False) s₃
      else ∃m,m<n∧I m s₃) (λ_ _=>False) s₂) (λ_ _=>False) s₁') (λ_ _=>False) s₁) (λ_ _=>False) s)(n:Nat)(h:I n s):codeAny (model prog w) A (.compLoop (.DictComp kx vx [⟨target,iter,ifs,0⟩] scope pos) 0 it (.ref D) env) R s:=by
 refine codeAny_loop rfl I (λn s hI=>?_) n h
 show wpAny _ A ((compTurn (.DictComp kx vx [⟨target,iter,ifs,0⟩] scope pos) 0 it (.ref D) env).onRaise (λx=>do noteFrame x env;theTreesLotGoes x)) _ _ s
 refine wpAny_noted ?_
 rw[compTurn_dict]
 refine wpAny_bind (wpAny_standAt (wpAny_bind (wpAny_mono (turn n s hI) (λr s₁ h₁=>?_) λ_ _ h'=>h'.elim)))
 cases r with
 |none=>exact wpAny_pure h₁
 | some v =>
  refine wpAny_bind (wpAny_mono h₁ (λ_ s₁' h₁'=>?_) λ_ _ h'=>h'.elim)
  refine wpAny_bind (wpAny_mono h₁' (λ_ s₂ h₂=>wpAny_bind (wpAny_mono h₂ (λok s₃ h₃=>?_) λ_ _ h'=>h'.elim)) λ_ _ h'=>h'.elim)
  cases ok with
  |false=>exact wpAny_pure ⟨rfl,h₃⟩
  |true =>
   exact wpAny_bind (wpAny_bind (wpAny_mono h₃ (λkv s₄ h₄=>wpAny_bind (wpAny_holding (wpAny_mono h₄ (λvv s₅ h₅=>wpAny_bind (wpAny_standAt (wpAny_holding (wpAny_mono h₅ (λ_ s₆ h₆=>wpAny_pure ⟨rfl,h₆⟩) λ_ _ h'=>h'.elim)))) λ_ _ h'=>h'.elim))) λ_ _ h'=>h'.elim))
section
variable{X:Cx}{sc:Scope}{M:Nf}{ix:Nq}{a7:Nd}{σ:St}{H:Hp}{s:Nh}
def rDC(g:TG)(tc:TT)(tk tv:TE)(Q:VK)(J:It)(τ:St)(H1:Hp):Prop:=∃W:Nat→Nat→List (Key×V)→St→Hp→Prop,(∃m,W 0 m [] τ H1)∧∀i m ys τ H,W i m ys τ H →
 (J.stop i H∧∀D,H D=none→Q (.ref D) (upd H D (.dK ys))) ∨
 (J.go i H∧ys.length<sizeLine∧∀x H',J.yld i H x H'→g x τ H' λ τ2 H2=>tc τ2 H2 λb H3=>if b=true then tk τ2 H3 λkv H4=>tv τ2 H4 λy H5=>∃k,kv=kV k∧∃m',m'<m∧W (i+1) m' (putK ys k y) τ2 H5 else ∃m',m'<m∧W (i+1) m' ys τ2 H3)
def tDC(ix:Nq)(wi:TI)(g:TG)(tc:TT)(tk tv:TE):TE:=λ σ H Q=>wi σ H λJ H1=>rDC g tc tk tv Q J (inner ix σ) H1
def dc_block{tg kx vx iter:Expr}{ifs:Np}{pos:Pos}{g:TG}{tc:TT}{tk tv:TE}{fp:Nk}{it:Nc}{tn:Nat→Heap→Prop}{J:It}{Q:VK}{RR:Value→Addr→Result→Shared→Prop}{E:Na}(B:Blk X sc M ix)(hc:X.calm=true)(hg:∀C ex s H,PG (zc2 X sc M C a7 ex s H) tg g)(ht:∀C ex s H,PTs (zc2 X sc M C a7 ex s H) ifs tc)(hk:∀C ex s H,PE (zc2 X sc M C a7 ex s H) kx tk)(he:∀C ex s H,PE (zc2 X sc M C a7 ex s H) vx tv)(I:Inv X a7 σ H s)(T:Turn X.prog X.w X.K tg J fp it tn)(h0:tn 0 s.heap)(hf:∀b∈fp,FpOk X a7 H b)(q:rDC g tc tk tv Q J (inner ix σ) H)(o9:∀D C m ys H' s',Inv X a7 σ (upd H' D (.dK ys)) s'→Q (.ref D) (upd H' D (.dK ys))→s'.heap.Ns C m→upd H' D (.dK ys) C=none→s.heap.objs.size<C→RR (.ref D) C (.ok .next) s') :
  wpAny (model X.prog X.w) X.A newDict (λai s₃=>wpAny (model X.prog X.w) X.A (newFunctionEnv sc X.env.globals (clOf sc X.env) [] X.env.qual none .none (some X.env)) (λcenv s₄ =>
   codeAny (model X.prog X.w) X.A (.compStart (.DictComp kx vx [⟨tg,iter,ifs,0⟩] sc pos) 0 (.ref it) ai {cenv with scope:=relabel sc X.env}) (RR ai cenv.locals) s₄) E s₃) E s:=by
 refine wpAny_newObj_type (wpAny_newFunctionEnv B.nocell (by intro y hy;simp at hy) (λh₁ hns₁ hsb₁=>?_) B.kind)
 dsimp only at hns₁ hsb₁ ⊢
 generalize hD:s.heap.objs.size=D at hns₁ hsb₁ ⊢
 generalize jd:s.heap.push {cls:=.type "dict",dict:=none,data:=.dict #[]}=g2 at hns₁ hsb₁ ⊢
 have hC:g2.objs.size=D+1:=by rw[←jd,Wt,hD]
 have k2:∀b o,s.heap.get? b=some o→g2.get? b=some o:=λb o e=>by rw[←jd];exact Qj _ e
 have I3:Inv X a7 σ H {s with heap:=g2}:=I.kept (t':=s.toks) k2
 have HD:H D=none:=I.hok.fresh (by rw[hD];exact Qi _)
 have fD:FpOk X a7 H D:=I.fpOk (by rw[hD];exact Qi _) HD
 have D2:g2.get? D=some {cls:=.type "dict",dict:=none,data:=.dict #[]}:=by rw[←jd,←hD];exact Zd _ rfl
 have nS:(D==sysModules)=false:=beq_eq_false_iff_ne.mpr (by rw[←hD];exact Yc I.big)
 have k1:∀b o,g2.get? b=some o→h₁.get? b=some o:=λb o e=>by
  have hb:b≠g2.objs.size:=Zc (Qt e)
  exact(hsb₁.2 b hb).trans (Qj _ e)
 have DN:h₁.DictOf (zat X.prog X.w) D []:=by
  have q:g2.DictOf (zat X.prog X.w) D []:=by rw[←jd,←hD];exact Heap.DictOf.new s.heap
  obtain⟨o,es,ep,e,r⟩:=q
  exact⟨o,es,ep,k1 _ _ e,r⟩
 have fpx:∀b∈D::fp,FpOk X a7 H b:=λb hb=>by
  rcases Qe.mp hb with e | e
  ·rw[e];exact fD
  ·exact hf b e
 have fplt:∀b∈D::fp,b<g2.objs.size:=λb hb=>by
  rcases Qe.mp hb with e | e
  ·rw[e,hC];exact Yu _
  ·obtain ⟨o,q,_⟩:=T.obj _ _ h0 b e
   exact Qt (k2 b o q)
 have fpD:D∉fp:=λhm=>by
  obtain⟨o,q,_⟩:=T.obj _ _ h0 D hm
  have:=Qt q
  rw[hD]at this
  exact Yv _ this
 generalize aN:zc2 X sc M g2.objs.size a7 (D::fp) {s with heap:=g2} H=Y
 have IY:Inv Y [] (inner ix σ) H {s with heap:=h₁,toks:=s.toks+([]:List (Str×Value)).length}:=by
  rw[←aN]
  exact inv_blk B I3 fpx fplt rfl hns₁ k1 rfl rfl
 have Yg:=aN▸hg g2.objs.size (D::fp) {s with heap:=g2} H
 have Yt:=aN▸ht g2.objs.size (D::fp) {s with heap:=g2} H
 have Yk:=aN▸hk g2.objs.size (D::fp) {s with heap:=g2} H
 have Ye:=aN▸he g2.objs.size (D::fp) {s with heap:=g2} H
 have eP:Y.prog=X.prog:=by rw[←aN];rfl
 have eW:Y.w=X.w:=by rw[←aN];rfl
 have eK:Y.K=X.K:=by rw[←aN];rfl
 have eA:Y.A=X.A:=by rw[←aN];rfl
 have eC:Y.calm=true:=by rw[←aN];exact hc
 have eE:Y.env=compEnvC sc (clOf sc X.env) g2.objs.size X.env:=by rw[←aN];rfl
 have eX:Y.xe=λ_ _=>False:=by rw[←aN];rfl
 have eEx:Y.ex=D::fp:=by rw[←aN];rfl
 have eFs:Y.fs=frs X.stack:=by rw[←aN];rfl
 have ePn:Y.pn=X.pn++a7:=by rw[←aN];rfl
 have eL:Y.env.locals=g2.objs.size:=by rw[eE];rfl
 have tZ:Y.H₀=H:=by rw[←aN];rfl
 have oB:Y.s₀={s with heap:=g2}:=by rw[←aN];rfl
 have fY:∀{H':Hp} {pl:Nd} {b:Nc},b∈D::fp→H' b=none→(∀p∈pl,p.1≠b)→FpOk Y pl H' b:=λ{H' pl b} hb hn hp=>by
  obtain⟨f0,f1,f2,f3,f4,f5⟩:=fpx b hb
  refine⟨hn,?_,?_,.inl (by rw[eEx];exact hb),IY.ok.exf b (by rw[eEx];exact hb) |>.2,λp dF=>?_⟩
  ·rw[eL];exact Zc (fplt b hb)
  ·rw [eFs]
   intro z
   rcases Qe.mp (I3.stkSub b z) with q | q
   ·exact f1 q
   ·exact f2 q
  ·rw [ePn] at dF
   rcases Qf.mp dF with z | z
   ·exact f5 p z
   ·exact hp p z
 obtain⟨W,⟨m0,w0⟩,turn⟩:=q
 have loop:∀ sN:Shared,sN={ s with heap:=h₁,toks:=s.toks+([]:List (Str×Value)).length } →
   codeAny (model X.prog X.w) X.A (.compLoop (.DictComp kx vx [⟨tg,iter,ifs,0⟩] sc pos) 0 (.ref it) (.ref D) (compEnvC sc (clOf sc X.env) g2.objs.size X.env)) (RR (.ref D) g2.objs.size) sN:=by
  rintro sN rfl
  refine zii (λn s'=>Ex5 λi τ H' ys vs=>Aj7 (Inv Y [] τ H' s') (tn i s'.heap) (∀b∈D::fp,H' b=none) (s'.heap.DictOf (zat X.prog X.w) D vs) (KV ys vs) (ys.length≤sizeLine) (W i n ys τ H')) ?_ m0
   ⟨0,inner ix σ,H,[],[],IY,T.keep _ _ _ h0 λb _ o e=>k1 b o (k2 b o e),λb hb=>(fpx b hb).1,DN,.nil,Zf _,w0⟩
  rintro n s5 ⟨i,τ,H5,ys,vs,I5,t5,n5,dd5,v5,z5,w5⟩
  obtain⟨o5,tX,tY,d5,pW⟩:=id dd5
  have nc5:∀v,o5.data≠.cell v:=λv z=>by
   obtain⟨_,q,_⟩:=pW
   rw[q]at z;cases z
  have oD:∀b∈[D],∃o,s5.heap.get? b=some o∧∀v,o.data≠.cell v:=λb hb=>by
   rw[Qb.mp hb]
   exact⟨_,d5,nc5⟩
  have kQ:Inv Y ([]++zcq [D] s5.heap) τ H5 s5:=I5.pinned (λb hb=>fY (by rw[Qb.mp hb];exact Qc) (n5 b (by rw[Qb.mp hb];exact Qc)) (by simp)) oD
  have pD:∀p∈zcq [D] s5.heap,p.1=D∧p.2=o5:=λp hp=>by
   obtain⟨e1,e2⟩:=zf4 hp
   have e7:p.1=D:=Qb.mp e1
   rw[e7,d5]at e2
   exact⟨e7,(Qk e2).symm⟩
  have fN:∀{H':Hp},(∀b∈fp,H' b=none)→∀b∈fp,FpOk Y ([]++zcq [D] s5.heap) H' b:=λhn b hb=>fY (Qg _ hb) (hn b hb) λp hp z=>by
   rw[Jv]at hp
   rw[(pD p hp).1]at z
   exact fpD (z▸hb)
  rcases turn i n ys τ H5 w5 with⟨stop,qn⟩ | ⟨go,zl,step⟩
  ·have h6:=T.done Y eP eW eK eC i _ s5 τ H5 (fun _ _=>False) kQ (fN fun b hb=>n5 b (Qg _ hb)) t5 stop
   rw[eA]at h6
   refine thn h6 λr s6 ⟨hr,I6⟩=>?_
   subst hr
   have d6:s6.heap.get? D=some o5:=by
    have hp:=zb0 (fp:=[D]) (Qb.mpr rfl) d5
    exact(I6.pin (D,_) (Qo _ hp)).1
   have H5D:H5 D=none:=n5 D Qc
   obtain⟨mL,nL,_⟩:=I6.loc
   rw[eL]at nL
   have CD:g2.objs.size≠D:=by rw[hC];exact Ks _
   refine o9 D _ mL ys H5 s6 ?_ (qn D H5D) nL ?_ (by rw[hC,hD];exact Yu _)
   ·have u6:=I6.base
    rw[eFs,eEx,tZ,oB]at u6
    refine I3.call' (ch:=D::fp) (I6.os.trans (by rw[oB])) ⟨u6.keep,u6.slot,λb o e n hx=>?_,u6.there,λb xs e=>?_,λb o u e=>?_,λb ps e=>?_⟩ ?_ I6.bare λb hb=>?_
    ·rw[zad (λz=>hx (by rw[z];exact Qc))];exact u6.free b o e n hx
    ·rw[zad (zaa e HD)];exact u6.tups b xs e
    ·rw[zad (zaa e HD)];exact u6.frzs b o u e
    ·rw[zad (zaa e HD)];exact u6.tbls b ps e
    ·have lI:=I6.hok
     rw[eP,eW]at lI
     intro b u e
     by_cases hb:b=D
     ·subst hb
      rw[zac]at e
      cases e
      exact⟨z5,nS,vs,v5,o5,tX,tY,d6,pW⟩
     ·rw [zad hb] at e
      exact(lI b u e).stay (λc v _ q=>q) (λc q=>by rw[zad (zaa q H5D)];exact q) λc xs q=>by rw[zad (zaa q H5D)];exact q
    ·obtain ⟨f0,f1,f2,f3,f4,f5⟩:=fpx b hb
     exact⟨f3,f1,f4,f5⟩
   ·rw [zad CD]
    have:=I6.free
    rw[eL]at this
    exact this
  ·have h6:=T.item Y eP eW eK eC i _ s5 τ H5 (fun _ _=>False) kQ (fN fun b hb=>n5 b (Qg _ hb)) t5 go
   rw[eA]at h6
   refine thn h6 λr s6 ⟨u,hr,h7⟩=>?_
   subst hr
   refine thn h7 λ_ s7 ⟨x,H7,I7,r7,y7,t7,n7⟩=>?_
   have uy:=I7.pinned (fN n7) (T.obj _ _ t7)
   have h8:=Yg _ s7 τ H7 x u _ uy r7 (step x H7 y7)
   rw[eP,eW,eA,eX,eE]at h8
   refine thn h8 λ_ s8 ⟨τ8,H8,I8,q8⟩=>?_
   have h9:=Yt _ s8 τ8 H8 _ I8 q8
   rw[eP,eW,eA,eX,eE]at h9
   refine thn h9 λok s9 ⟨H9,I9,q9⟩=>?_
   have again:∀{τ':St} {H':Hp} {s':Nh},Inv Y (([]++zcq [D] s5.heap)++zcq fp s7.heap) τ' H' s'→s'.heap.get? D=some o5∧H' D=none∧tn (i+1) s'.heap∧∀b∈fp,H' b=none:=λ{τ' H' s'} I'=>by
    have pp:∀{b:Nc} {o:Obj},b∈fp→s7.heap.get? b=some o→s'.heap.get? b=some o∧H' b=none:=λ{b o} hb e =>
     let z:=I'.pin (b,o) (Qo _ (Qo _ (zb0 hb e)))
     ⟨z.1,z.2.1⟩
    have hp:=zb0 (fp:=[D]) (Qb.mpr rfl) d5
    have z:=I'.pin (D,_) (Qo _ (Qn _ hp))
    refine⟨z.1,z.2.1,T.keep _ _ _ t7 λb hb o e=>(pp hb e).1,λb hb=>?_⟩
    obtain⟨o,e,_⟩:=T.obj _ _ t7 b hb
    exact(pp hb e).2
   have drop:∀{pl:Nd} {τ':St} {H':Hp} {s':Nh},Inv Y pl τ' H' s'→Inv Y [] τ' H' s':=λI'=>I'.pins_of (by simp)
   cases ok with
   |false =>
    rw[if_neg (by decide)]at q9 ⊢
    obtain⟨m',hm,w9⟩:=q9
    obtain⟨d9,H9D,t9,n9⟩:=again I9
    exact⟨m',hm,i+1,τ8,H9,ys,vs,drop I9,t9,λb hb=>(Qe.mp hb).elim (λe=>e▸H9D) (n9 b),⟨o5,tX,tY,d9,pW⟩,v5,z5,w9⟩
   | true =>
    rw[if_pos rfl]at q9 ⊢
    have iG:=Yk _ s9 τ8 H9 _ I9 q9
    rw[eP,eW,eA,eX,eE]at iG
    refine thn iG λkv jj ⟨kw,cZ,qb,oM,q10⟩=>?_
    have lw:=Ye _ jj τ8 cZ _ qb q10
    rw[eP,eW,eA,eX,eE]at lw
    refine thn lw λy qi ⟨yv,qc,qa,r11,kk,ek,m',hm,w11⟩=>?_
    subst ek
    obtain⟨d11,H11D,t11,n11⟩:=again qa
    have u4:qi.heap.DictOf (zat X.prog X.w) D vs:=⟨o5,tX,tY,d11,pW⟩
    have jW:(zat X.prog X.w).is kk kv=true:=by
     cases kk with
     |inl i=>obtain⟨t,rfl⟩:=oM;exact keyIs_int i t
     |inr x=>obtain⟨t,rfl⟩:=oM;exact keyIs_str x t
    refine wpAny_dictSet_pairs (knd:=zat X.prog X.w) jW u4 (λh' iu sb=>?_) (by rw[←Yr v5];assumption)
    have kkp:∀b o,b≠D→qi.heap.get? b=some o→h'.get? b=some o:=λb o hb e=>(sb.2 b hb).trans e
    obtain⟨g0,g1,g2',g3,g4,g5⟩:=fY (pl:=[]) (H':=qc) (b:=D) Qc H11D (by simp)
    have I12:=(drop qa).turned (h':=h') (t':=qi.toks+1) (it:=D) kkp H11D g1 g3 g4 g5
    refine⟨m',hm,i+1,τ8,qc,putK ys kk yv,stored vs kk y,I12,T.keep _ _ _ t11 λb hb o e=>kkp b o (λz=>fpD (z▸hb)) e,λb hb=>(Qe.mp hb).elim (λe=>e▸H11D) (n11 b),iu,v5.put kk r11,?_,w11⟩
    unfold putK
    split
    ·rw[Qa];exact z5
    ·rw[Qq,Xe];assumption
 exact codeAny_compStart_dict (loop _ rfl) (T.self _ 0 _ _ _ (T.keep _ _ _ h0 λb _ o e=>k1 b o (k2 b o e)) (loop _ rfl))
def ps_dc{i:Nat}{y:Str}{tg kx vx iter:Expr}{ifs:Np}{pos spos py:Pos}{wi:TI}{g:TG}{tc:TT}{tk tv:TE}(hN:X.N.Nodup)(du:X.N[i]?=some y)(hy:X.env.scope.names.lookup y=some .local)(B:Blk X sc M ix)(hc:X.calm=true)(hi:PI X tg iter wi)(hg:∀C a7 ex s H,PG (zc2 X sc M C a7 ex s H) tg g)(ht:∀C a7 ex s H,PTs (zc2 X sc M C a7 ex s H) ifs tc)(hk:∀C a7 ex s H,PE (zc2 X sc M C a7 ex s H) kx tk)(he:∀C a7 ex s H,PE (zc2 X sc M C a7 ex s H) vx tv)(l6:swapsWith (.DictComp kx vx [⟨tg,iter,ifs,0⟩] sc pos) (some (.Name y py)) spos.line X.env=pure true)(hs:∀x,foldedSetIterable iter X.env x=pure x:=by intro _;rfl):PS X (.Assign [.Name y py] (.DictComp kx vx [⟨tg,iter,ifs,0⟩] sc pos) spos) (tAsg (tDC ix wi g tc tk tv) (gName i)):=by
 intro a7 s σ H D' I h
 rw[exec_Assign_Name_used _ _ _ _ l6]
 refine wpAny_bind (wpAny_standAt (wpAny_bind ?_))
 show wpAny _ X.A (do let _ ←comprehension (.DictComp kx vx [⟨tg,iter,ifs,0⟩] sc pos) sc X.env _ newDict false (eval iter X.env) (some (assign (.Name y py) X.env))) _ _ s
 refine wpAny_bind (wpAny_mono (wpAny_comprehension_free (use:=some (assign (.Name y py) X.env)) (Q:=λ_ s'=>SP X a7 D' .next s') rfl hs (zcp (B.clos I)) B.kind B.names
  (thn (hi a7 s σ H _ I h) λv s1 h1=>thn h1 λitv s2 h2=>?_)) (λ_ s' hq=>wpAny_pure (wpAny_pure hq)) λ_ _ e=>e)
 obtain⟨it,fp,tn,J,H2,e,I2,T,bZ,f2,q⟩:=h2
 subst e
 refine dc_block (RR:=λai C=>compPost (model X.prog X.w) X.A X.xe (some (assign (.Name y py) X.env)) (λ_ s'=>SP X a7 D' .next s') ai C) B hc (hg · a7) (ht · a7) (hk · a7) (he · a7) I2 T bZ f2 q ?_
 intro D C m ys H' s' I' q' hn hC ag
 show wpAny _ X.A (assign (.Name y py) X.env (.ref D)) _ _ s'
 refine wpAny_assign_Name (zft I' hN du (.inl hy) (v:=.ref D) rfl (λlH uz ⟨a,sb,ha⟩=>?_) (.inr hy))
 have aC:C≠a:=by
  rcases ha with z | z
  ·rw[z];exact Yc (Wn I2.lt ag)
  ·exact Yc (Wn (I2.cl_lt _ _ z) ag)
 have bm:=hn.sameBut sb aC
 exact⟨m,bm,λh' aU=>⟨_,_,uz.letgo bm hC I2.lt I2.cl_lt I2.pin_lt I2.sz ag aU,q'⟩⟩
end
section
variable{prog:Nj}{w:Nl}{A:Nn}{s:Nh}{elt tg1 it1 target iter:Expr}{ifs:Np}{scope:Scope}{pos:Pos}{it ai:Value}{env:Env}{R:Nt}
end
section
variable{X:Cx}{sc:Scope}{M:Nf}{ix:Nq}{a7:Nd}{σ:St}{H:Hp}{s:Nh}
end
end L2
end
section
namespace RawD
open PySem PyProof.Rows PySem.W
def At(h:Nm)(a:Nc)(es:Array DictEntry)(ep:Nat):Prop:=∃o,h.get? a=some o∧o.ExactDict∧o.data=.dict es ep
def At.typeIs{s:Nh}{a:Nc}{es:Array DictEntry}{ep:Nat}(x:At s.heap a es ep):s.TypeIs (.ref a) "dict" := let⟨o,e,c,_⟩:=x;⟨o,e,c.1⟩
def At.keep{h g:Nm}{a:Nc}{es:Array DictEntry}{ep:Nat}(x:At h a es ep)(k:∀o,h.get? a=some o→g.get? a=some o):At g a es ep:=let⟨o,e,r⟩:=x;⟨o,k _ e,r⟩
section
variable{prog:Nj}{w:Nl}{A:Nn}{E:Na}{s:Nh}{d:Nc}{es:Array DictEntry}{ep:Nat}
def iter{Q:Na}(nS:(d==sysModules)=false)(m:At s.heap d es ep)(q:Q (.ref s.heap.objs.size) {s with heap:=s.heap.push {cls:=.type "dict_keyiterator",data:=.fields #[.ref d,.int 0 0,.int es.size 0,.int ep 0]}}):wpAny (model prog w) A (pyIter (.ref d)) Q E s:=by
 obtain⟨o,ho,hc,hd⟩:=id m
 refine wpAny_pyIter_slot m.typeIs F.slot_dict_iter (wpAny_call_entry F.slot_dict_iter m.typeIs F.entry_dict_iter ?_ (F.args_dict_iter_1 _))
 unfold Builtin.«dict.__iter__»
 refine wpAny_bind ?_
 unfold Builtin.Dict.dictSlotNone
 refine wpAny_bind (wpAny_notOrdered_dict m.typeIs (show wpAny _ _ (pure (Value.ref d)) _ _ s from wpAny_pure ?_))
 show wpAny _ _ (Builtin.Dict.showsAll d >>= _) _ _ s
 unfold Builtin.Dict.showsAll
 rw[if_neg (by rw[nS];exact Zg)]
 refine wpAny_bind (wpAny_pure (wpAny_bind (wpAny_dictEntries ho hd (wpAny_bind (wpAny_dictEpoch ho hd ?_)))))
 refine wpAny_bind (wpAny_newObj_type (wpAny_pure ⟨_,rfl, "dict_keyiterator",_,⟨_,Zd _ rfl,rfl⟩,Wx.lookup,?_⟩))
 simpa[rawInt] using q
def item{j:Nc}{i:Nat}{Q:Option Value→Shared→Prop}(st:s.heap.IsKeyIter j d i es.size ep)(m:At s.heap d es ep)(hi:i<es.size)(hQ:∀g,g.IsKeyIter j d (i+1) es.size ep→Heap.SameBut j s.heap g→Q (some es[i].key) {s with heap:=g}):wpAny (model prog w) A (pyNext (.ref j)) Q E s:=by
 obtain⟨o,ho,hc,hd⟩:=id st
 obtain⟨od,mw,aB,gH⟩:=id m
 unfold pyNext
 refine wpAny_bind (wpAny_attempt (wpAny_callSpecial?_slot (name:=Str.ofString "__next__") st.typeIs Wx (wpAny_call_entry Wx st.typeIs F.entry_dict_keyiterator_next ?_ (F.args_dict_keyiterator_next_1 _))))
 refine wpAny_bind (wpAny_pure (wpAny_bind (wpAny_bind ?_)))
 first | refine wpAny_bind (wpAny_typeNameOfWhole_keyiter st.typeIs (wpAny_pure ?_)) | refine wpAny_bind (wpAny_typeNameOf_keyiter st.typeIs (wpAny_pure ?_))
 refine wpAny_bind (wpAny_fieldsOf ho hd ?_)
 have jP:Builtin.Dict_items.ownsTuple "dict_keyiterator" = false:=by decide
 simp only[jP,Je,if_false]
 show wpAny _ _ (if(Value.ref d==.none)=true then _ else _) _ _ s
 rw[if_neg (show ¬((Value.ref d==.none)=true) from Zg)]
 refine wpAny_bind (wpAny_pure (wpAny_bind (wpAny_dictEntries mw gH ?_)))
 rw[if_neg (by simp)]
 refine wpAny_bind (wpAny_pure (wpAny_bind (wpAny_dictEpoch mw gH ?_)))
 rw[if_neg (by simp)]
 refine wpAny_pure ?_
 simp only[show ¬((i:Int)<0) from by lia,if_false,Um,Kg hi]
 refine wpAny_bind ?_
 first | refine wpAny_bind (wpAny_typeNameOfWhole_keyiter st.typeIs (wpAny_pure ?_)) | refine wpAny_bind (wpAny_typeNameOf_keyiter st.typeIs (wpAny_pure ?_))
 refine wpAny_bind (wpAny_isOneOf_keyiter st.typeIs ?_)
 show wpAny _ _ (setField (.ref j) 1 (rawInt ((i:Int)+1)) >>= _) _ _ s
 refine wpAny_bind (wpAny_setField ho hd (by simp) ?_)
 have ae:(s.heap.update j (Obj.mapFields (·.setIfInBounds 1 (rawInt ((i:Int)+1))))).IsKeyIter j d (i+1) es.size ep :=
  ⟨_,Jz _ ho (Obj.isFreed_of_fields (Kr hd _)),(Obj.cls_mapFields ..).trans hc,by rw[Kr hd];simp[rawInt]⟩
 refine wpAny_bind (wpAny_holding (wpAny_bind (wpAny_isOneOf_keyiter (s:={s with heap:=s.heap.update j (Obj.mapFields (·.setIfInBounds 1 (rawInt ((i:Int)+1))))}) ae.typeIs ?_)))
 show wpAny _ _ (pure es[i].key) _ _ _
 exact wpAny_pure (wpAny_pure ⟨_,rfl,wpAny_pure (hQ _ ae (Kj ..))⟩)
def done{j:Nc}{i:Nat}{Q:Option Value→Shared→Prop}(hh:A.handled=none)(st:s.heap.IsKeyIter j d i es.size ep)(m:At s.heap d es ep)(hi:es.size≤i)(hQ:∀g,Heap.ExtBut j s.heap g→Q none {s with heap:=g}):wpAny (model prog w) A (pyNext (.ref j)) Q E s:=by
 obtain⟨o,ho,hc,hd⟩:=id st
 obtain⟨od,mw,aB,gH⟩:=id m
 unfold pyNext
 refine wpAny_bind (wpAny_attempt (wpAny_callSpecial?_slot (name:=Str.ofString "__next__") st.typeIs Wx (wpAny_call_entry Wx st.typeIs F.entry_dict_keyiterator_next ?_ (F.args_dict_keyiterator_next_1 _))))
 refine wpAny_bind (wpAny_pure (wpAny_bind (wpAny_bind ?_)))
 first | refine wpAny_bind (wpAny_typeNameOfWhole_keyiter st.typeIs (wpAny_pure ?_)) | refine wpAny_bind (wpAny_typeNameOf_keyiter st.typeIs (wpAny_pure ?_))
 refine wpAny_bind (wpAny_fieldsOf ho hd ?_)
 have jP:Builtin.Dict_items.ownsTuple "dict_keyiterator" = false:=by decide
 simp only[jP,Je,if_false]
 show wpAny _ _ (if(Value.ref d==.none)=true then _ else _) _ _ s
 rw[if_neg (show ¬((Value.ref d==.none)=true) from Zg)]
 refine wpAny_bind (wpAny_pure (wpAny_bind (wpAny_dictEntries mw gH ?_)))
 rw[if_neg (by simp)]
 refine wpAny_bind (wpAny_pure (wpAny_bind (wpAny_dictEpoch mw gH ?_)))
 rw[if_neg (by simp)]
 refine wpAny_pure ?_
 simp only[show ¬((i:Int)<0) from by lia,if_false,Um,Array.getElem?_eq_none hi]
 refine wpAny_bind ?_
 first | refine wpAny_bind (wpAny_typeNameOfWhole_keyiter st.typeIs (wpAny_pure ?_)) | refine wpAny_bind (wpAny_typeNameOf_keyiter st.typeIs (wpAny_pure ?_))
 show wpAny _ _ (setField (.ref j) 0 .none >>= _) _ _ s
 refine wpAny_bind (wpAny_setField ho hd (by simp) ?_)
 show wpAny _ _ (newExc (.type "StopIteration") [] >>= _) _ _ _
 refine wpAny_bind ?_
 simp only[newExc,newTuple]
 refine wpAny_bind (wpAny_newObj_type (wpAny_bind (m:=firstArgMember _ _) (wpAny_of_eq (a:=Value.none) (by first | rfl | (simp only[firstArgMember];rfl)) (wpAny_newObj_type ?_ (by size_fits)))) (by size_fits))
 simp only[raiseNew]
 refine wpAny_bind (wpAny_handled ?_)
 first | rw[show A.in1.handled=none from hh] | rw[hh]
 refine wpAny_bind (wpAny_pure (wpAny_throw ?_))
 refine wpAny_bind (wpAny_isInstance (T := "StopIteration") (b:=true) ⟨_,Zd _ rfl,rfl⟩ isSubtype_stop ?_)
 exact wpAny_pure (hQ _ (((Kj ..).extBut.push _).push _))
theorem src(nS:(d==sysModules)=false):KdlSrc prog w "dict" d d es.size (λi v=>∃e,es[i]?=some e∧v=e.key) (λh=>At h d es ep) where
 type:=λ_ m=>m.typeIs
 there:=λ_ m=>let⟨_,e,_⟩:=m;⟨Qt e,Qt e⟩
 keep:=λ_ _ m k=>m.keep λo e=>k d (.inl rfl) o e
 notList:=by decide
 notTuple:=by decide
 hint:=λ_ _ _ _ m q=>kdl_hint_dict m.typeIs q
 iter:=λA s hh m=>by
  have lt:d<s.heap.objs.size:=let⟨_,e,_⟩:=m;Qt e
  refine⟨_,λi h=>h.IsKeyIter s.heap.objs.size d i es.size ep∧At h d es ep,λ_ _ q=>iter nS m q,?_,⟨_,Zd _ rfl,rfl,rfl⟩,m.keep λo e=>Qj _ e⟩
  exact
   {sub:=fun b hb=>by simp at hb;simp [hb]
    frame:=λi h g st k=>⟨st.1.at λo e=>k _ (by simp) o e,st.2.keep λo e=>k d (by simp) o e⟩
    item:=λi s' Q E hi st hQ=>item st.1 st.2 hi λg a b=>hQ _ g s'.toks ⟨_,Kg hi,rfl⟩ ⟨a,st.2.keep λo e=>(b.2 d (Zc lt)).trans e⟩ λc o hc e=>(b.2 c (λz=>hc (by simp[z]))).trans e
    done:=λs' Q E st hQ=>done hh st.1 st.2 (Qi _) λg a=>hQ g s'.toks λc o hc e=>a c o (λz=>hc (by simp[z])) e
    self:=λ_ _ _ _ st q=>wpAny_pyIter_keyiter st.1 q}
end
end RawD
namespace L2
open PySem PySem.Spec PyProof.Rows Tm
def kP(q:Str×Str):List Key:=[Sum.inr q.1,Sum.inr q.2]
abbrev zbp(H:Hp):List Addr→List (Str×Str)→Prop:=Paired λb r=>H b=some (.tup [.str r.1,.str r.2])
section
variable{X:Cx}
def zd2{α β:Type}{R:α→β→Prop}{as dy:List α}(p:dy.Perm as):∀{bs:List β},Paired R as bs→∃lD,lD.Perm bs∧Paired R dy lD:=by
 induction p with
 |nil=>intro bs r;cases r;exact⟨[],.nil,.nil⟩
 | cons x q ih =>
  intro bs r
  cases r with
  |cons r1 r2 =>
   obtain⟨zs,h1,h2⟩:=ih r2
   exact⟨_::zs,h1.cons _,.cons r1 h2⟩
 | swap x y l =>
  intro bs r
  cases r with
  |cons r1 r2 =>
   cases r2 with
   |cons r3 r4=>exact⟨_,List.Perm.swap ..,.cons r3 (.cons r1 r4)⟩
 |trans _ _ ih1 ih2 =>
  intro bs r
  obtain⟨zs,h1,h2⟩:=ih2 r
  obtain⟨jh,h3,h4⟩:=ih1 h2
  exact⟨jh,h3.trans h1,h4⟩
def pairs_mem{H:Hp}{as:Nk}{qs:Nr}(r:zbp H as qs){a:Nc}(ha:a∈as):∃r:Str×Str,H a=some (.tup [.str r.1,.str r.2]):=by
 induction r with
 |nil=>cases ha
 |cons h t ih =>
  rcases Qe.mp ha with zz | zz
  ·subst zz;exact⟨_,h⟩
  ·exact ih zz
def zgy(hc:X.calm=true):zch X (.builtin "sorted") (fun xs H Q=>Ex3 fun (d:Nc) (kvs:List (List Key×V)) (qs:Nr)=>Aj4 (xs=[.ref d]) (H d=some (.dT kvs)) (kvs.map (·.1)=qs.map kP) (∀ (l:Nc) (as:Nk) (ws:Nr),H l=none→ws.Perm qs→zbp H as ws→Q (.ref l) (upd H l (.lst (as.map V.ref))))):=by
 intro a7 s σ H xs us Q I r h
 obtain⟨d,kvs,qs,rfl,hq,ek,q⟩:=h
 obtain⟨u,rfl,rx⟩:=vals1 r
 cases rx
 obtain⟨z,lo,ts,rk,o,es,ep,e1,e2,e3,e4,e5⟩:=(show zbq X.prog X.w H s.heap d (.dT kvs) from I.hok d _ hq)
 have kM:RawD.At s.heap d es ep:=⟨o,e1,e2,e3⟩
 have af:kvs.length=ts.length:=Yr rk
 have ba:es.size=ts.length:=by rw[←Yw,e4,Qa]
 have iX:zbp H (ts.map λt=>t.2.1) qs:=by
  clear e4 e5 ba af kM z q hq
  induction rk generalizing qs with
  |nil =>
   cases qs with
   |nil=>exact .nil
   |cons a b=>cases ek
  | @cons p t ps ts' h1 t1 ih =>
   cases qs with
   |nil=>cases ek
   |cons a b =>
    rw[Ql,Ql]at ek
    injection ek with k1 k2
    refine .cons ?_ (ih _ k2)
    have:=h1.2.1
    rw[k1]at this
    exact this
 have lQ:∀ai:Array Value,ItemsOf (λi v=>∃e,es[i]?=some e∧v=e.key) ai es.size→ai.toList=(ts.map λt=>t.2.1).map Value.ref:=λai hi=>by
  apply List.ext_getElem?
  intro i
  rw[Qs,Qs]
  by_cases ag:i<es.size
  ·have sj:i < ai.size:=by rw [hi.1];exact ag
   have a1:ai[i]?=some ai[i]:=Kg sj
   obtain⟨e,h1,h2⟩:=hi.2 i _ a1
   rw[Ud,a1,h2]
   have h3:es.toList[i]?=some e:=by rw[Ud];exact h1
   rw[e4,Qs]at h3
   cases ht:ts[i]? with
   |none=>rw[ht]at h3;cases h3
   |some t =>
    rw[ht]at h3
    have h4:entryOfKey (tupleKind (zat X.prog X.w)) t=e:=Qk h3
    rw[←h4];rfl
  ·have a1:ai.toList[i]?=none:=by rw [Ud];exact Array.getElem?_eq_none (by rw [hi.1];lia)
   have a2:ts[i]?=none:=Xf (by lia)
   rw[a1,a2];rfl
 have hvr:∀as:List Addr,Vals (as.map V.ref) (as.map Value.ref):=λas=>by
  induction as with
  |nil=>exact .nil
  |cons a r ih=>exact .cons rfl ih
 refine zes (R:=λa8 ws=>a8.length<64→ws.Pairwise λx y=>(pairO strO strO).kle (kvP s.heap x) (kvP s.heap y)) (G:=λa8=>a8=(ts.map λt=>t.2.1).map Value.ref) (λE' R hR=>zgl (RawD.src lo) (show X.A.in1.handled=none from I.ok.hd hc) kM (by lia) λg tk ai k le hi=>hR g tk _ k le (lQ ai hi))
  (λa8 e=>by rw[e,Qa,Qa];exact zdw ‹_› ‹_›) (λa8 e A' E' s' _ k=>?_) λa8 ws l g tk e r p1 p2 le k he=>?_
 ·have all:∀ v∈a8,∃ x y t,zff s.heap v x (.str y t):=fun v hv=>by
   rw[e]at hv
   obtain⟨a,ha,rfl⟩:=Qh.mp hv
   obtain⟨rr,md⟩:∃r:Str×Str,H a=some (.tup [.str r.1,.str r.2]):=pairs_mem iX ha
   obtain⟨q',⟨t,rfl⟩,T⟩:=zhl I md
   exact⟨_,_,t,T⟩
  refine zd7 k (λv hv=>let⟨x,y,t,T⟩:=all v hv;⟨x,_,T⟩) λv hv u hu x p q T T'=>.inr ?_
  obtain⟨_,y,t,T1⟩:=all v hv
  obtain⟨_,y',t',T2⟩:=all u hu
  exact⟨y,t,y',t',(zfh T T1).2,(zfh T' T2).2⟩
 ·subst r
  obtain⟨as,rfl,p3⟩:∃as:List Addr,ws=as.map Value.ref∧as.Perm (ts.map λt=>t.2.1):=by
   have key:∀{ws:Ni} {bs:Nk},ws.Perm (bs.map Value.ref)→∃as:List Addr,ws=as.map Value.ref∧as.Perm bs:=λ{ws bs} pm=>by
    have a2:∃as:List Addr,ws=as.map Value.ref:=by
     have a1:∀v∈ws,∃a,v=Value.ref a:=λv hv=>by
      obtain⟨a,_,e⟩:=Qh.mp (pm.mem_iff.mp hv)
      exact⟨a,e.symm⟩
     clear pm
     induction ws with
     |nil=>exact⟨[],rfl⟩
     |cons v r ih =>
      obtain⟨as,e⟩:=ih λv hv=>a1 v (Qg _ hv)
      obtain⟨x,e2⟩:=a1 v Qc
      exact⟨x::as,by rw[e,e2];rfl⟩
    obtain⟨as,rfl⟩:=a2
    refine⟨as,rfl,?_⟩
    have:=pm.map (λv=>match v with | .ref a=>a | _=>0)
    rw[Zi,Zi]at this
    simpa[Function.comp_def] using this
   exact key p1
  obtain⟨qs',q1,q2⟩:=zd2 p3 iX
  refine⟨.ref l,_,I.laid (t':=tk) k le (show zbq X.prog X.w _ g _ (.lst _) from⟨?_,as.map Value.ref,e,hvr as,he⟩),rfl,q l as qs' (I.hok.fresh le) q1 q2⟩
  rw[Qa,p3.length_eq,Qa];exact zdw ‹_› ‹_›
end
end L2
end
section
namespace K21
open PySem L2
def top(i:Nat):Stmt:=PySem.Challenge.pw_fivehues_k31_chains.main.body.getD i (.Pass ⟨0,0,0,0⟩)
def eOf:Stmt→Expr
 |.Assign _ e _=>e
 |.Return (some e) _=>e
 |.For _ e _ _ _=>e
 |.While e _ _ _=>e
 |_=>.Name "" ⟨0,0,0,0⟩
def bOf:Stmt→List Stmt
 |.For _ _ b _ _=>b
 |.If _ b _ _=>b
 |_=>[]
def aOf(i:Nat):Expr→Expr
 |.Call _ a _ _=>a.getD i (.Name "" ⟨0,0,0,0⟩)
 |.BinOp l _ r _=>[l,r].getD i l
 |.BoolOp _ a _=>a.getD i (.Name "" ⟨0,0,0,0⟩)
 |.Compare _ _ a _=>a.getD i (.Name "" ⟨0,0,0,0⟩)
 |e=>e
def scOf:Expr→Scope
 |.ListComp _ _ sc _=>sc
 |.DictComp _ _ _ sc _=>sc
 |_=>{kind:=.function,names:=[],isGenerator:=false,isCoroutine:=false}
abbrev sAt(s:Stmt)(i:Nat):Stmt:=(zca s).getD i (.Pass ⟨0,0,0,0⟩)
abbrev bAt(s:Stmt)(i:Nat):Stmt:=(bOf s).getD i (.Pass ⟨0,0,0,0⟩)
def Pot(H:Hp)(p:Nc)(b m:Int):Prop:=H p=some (.lst [.int b,.int m])∧0≤b∧0≤m∧m<2147483648
inductive IspTake(vs:List V)(H:Hp)(Q:VK):Prop
 |mk (p:Nc) (b m n:Int) (h0:vs=[.ref p,.int n]) (h1:Pot H p b m) (h2:0<n) (h3:n<1073741824) (h4:∀(d b' m':Int) (H':Hp),0≤d→d<n→Pot H' p b' m'→(∀c o,H c=some o→c≠p→H' c=some o)→Q (.int d) H'):IspTake vs H Q
def ze4:Sp:=λvs H Q _=>IspTake vs H Q
section
variable{P:Nj}{w:Nl}{K:Nb}{mg:Ng}{base:Nm}
end
end K21
end
section
namespace Wb
section
variable{α:Type}[DecidableEq α]
def nxt(zs:List α)(x:α):α:=zs.getD ((zs.idxOf x+1)%zs.length) x
def ins(zs:List α):Option α→α→List α
 |none,n=>n::zs
 |some c,n=>zs.take (zs.idxOf c+1)++n::zs.drop (zs.idxOf c+1)
abbrev Rs(α:Type):=List (α×List α)
def row(rs:Rs α)(x:α):List α:=((rs.find? λp=>decide (p.1=x)).map (·.2)).getD []
def za0(rs:Rs α)(x:α)(r:List α):Rs α:=rs.map λp=>if p.1=x then(p.1,r) else p
def stp(rs:Rs α)(s:α×α):α×α:=(s.2,nxt (row rs s.2) s.1)
end
end Wb
namespace K21
open PySem L2 Wb
def Keep(xs:Nk)(H H':Hp):Prop:=∀c o,H c=some o→c∉xs→H' c=some o
def Keep.refl{xs:Nk}{H:Hp}:Keep xs H H:=λ_ _ e _=>e
def Keep.trans{xs:Nk}{H H1 H2:Hp}(a:Keep xs H H1)(b:Keep xs H1 H2):Keep xs H H2:=λc o e n=>b c o (a c o e n) n
def Keep.sub{xs ys:Nk}{H H1:Hp}(a:Keep xs H H1)(h:∀x∈xs,x∈ys):Keep ys H H1:=λc o e n=>a c o e λz=>n (h c z)
def Keep.new{xs:Nk}{H:Hp}{l:Nc}{o:HO}(h:H l=none):Keep xs H (upd H l o):=λc u e _=>by rw[zad (zaa e h)];exact e
def Keep.wr{H:Hp}{l:Nc}{o:HO}{xs:Nk}(h:l∈xs):Keep xs H (upd H l o):=λc u e n=>by rw[zad (λz=>n (by rw[z];exact h))];exact e
abbrev Ent:=Str×List Str×Addr
structure RAt(H:Hp)(d:Nc)(es:List Ent):Prop where
 dc:H d=some (.dK (es.map λe=>((Sum.inr e.1:Key),V.ref e.2.2)))
 ro:∀e∈es,H e.2.2=some (.lst (e.2.1.map V.str))
 nd:(es.map (·.1)).Nodup
def rsOf(es:List Ent):Rs Str:=es.map λe=>(e.1,e.2.1)
def RAt.keep{H H':Hp}{d:Nc}{es:List Ent}{xs:Nk}(r:RAt H d es)(k:Keep xs H H')(hd:d∉xs)(h:∀e∈es,e.2.2∉xs):RAt H' d es:=⟨k _ _ r.dc hd,λe he=>k _ _ (r.ro e he) (h e he),r.nd⟩
def zbu{es:List Ent}(nd:(es.map (·.1)).Nodup){e:Ent}(h:e∈es):valV (es.map fun e=>((Sum.inr e.1:Key),V.ref e.2.2)) (Sum.inr e.1)=some (.ref e.2.2):=by
 induction es with
 |nil=>cases h
 | cons a t ih =>
  rw[Ql,Qr]at nd
  rw[Ql]
  rcases Qe.mp h with z | z
  ·subst z;exact zcb rfl
  ·rw [zbl]
   ·exact ih nd.2 z
   ·intro q
    exact nd.1 (by rw[Wo q];exact Qh.mpr ⟨e,z,rfl⟩)
def val_out{es:List Ent}{x:Str}(h:x∉es.map (·.1)):valV (es.map λe=>((Sum.inr e.1:Key),V.ref e.2.2)) (Sum.inr x)=none:=by
 induction es with
 |nil=>rfl
 |cons a t ih =>
  rw[Ql,Qe,not_or]at h
  rw[Ql,zbl]
  ·exact ih h.2
  ·intro q;exact h.1 (Wo q).symm
def zbk{es:List Ent}(nd:(es.map (·.1)).Nodup){e:Ent}(h:e∈es):row (rsOf es) e.1=e.2.1:=by
 unfold row rsOf
 induction es with
 |nil=>cases h
 | cons a t ih =>
  rw[Ql,Qr]at nd
  rw[Ql]
  rcases Qe.mp h with z | z
  ·subst z;rw[We (by simp)];rfl
  ·rw [Wf]
   ·exact ih nd.2 z
   ·intro q
    exact nd.1 (by rw[of_decide_eq_true q];exact Qh.mpr ⟨e,z,rfl⟩)
def setE(es:List Ent)(x:Str)(r:Nf)(a:Nc):List Ent:=es.map λe=>if e.1=x then(e.1,r,a) else e
def zb2(es:List Ent)(x:Str)(r:Nf)(a:Nc):rsOf (setE es x r a)=za0 (rsOf es) x r:=by
 unfold rsOf setE za0
 rw[Zi,Zi]
 refine Wi λe _=>?_
 show(λe:Ent=>(e.1,e.2.1)) (if e.1=x then(e.1,r,a) else e)=if e.1=x then(e.1,r) else(e.1,e.2.1)
 by_cases h:e.1=x
 ·rw[if_pos h,if_pos h]
 ·rw[if_neg h,if_neg h]
def zh0{es:List Ent}{x:Str}{r:Nf}{a:Nc}(h:x∉es.map (·.1)):putK (es.map λe=>((Sum.inr e.1:Key),V.ref e.2.2)) (Sum.inr x) (.ref a)=(es++[(x,r,a)]).map λe=>((Sum.inr e.1:Key),V.ref e.2.2):=by
 rw[zee _ (val_out h),Qp]
 rfl
def zax(es:List Ent)(x:Str)(r:Nf)(a:Nc):(setE es x r a).map (·.1)=es.map (·.1):=by
 unfold setE
 rw[Zi]
 refine Wi λe _=>?_
 show(if e.1=x then(e.1,r,a) else e).1=e.1
 split<;>rfl
def cut_to{xs:List V}{k:Nat}(h:k≤xs.length):cutV xs none (some (k:Int))=xs.take k:=by
 unfold cutV
 have e1:HT.sIx xs.length 0 none=0:=rfl
 have e2:HT.sIx xs.length xs.length (some (k:Int))=k:=by rw[HT.sIx_nat];omega
 rw[e1,e2];simp
def zfp{xs:List V}{k:Nat}(h:k≤xs.length):cutV xs (some (k:Int)) none=xs.drop k:=by
 unfold cutV
 have e1:HT.sIx xs.length 0 (some (k:Int))=k:=by rw[HT.sIx_nat];omega
 have e2:HT.sIx xs.length xs.length none=xs.length:=rfl
 rw[e1,e2,Qv (by rw[Jn];exact Qi _)]
def idx_lt{zs:Nf}{x:Str}(h:x∈zs):zs.idxOf x<zs.length:=List.idxOf_lt_length_iff.mpr h
def zie{zs:Nf}{x:Str}(h:x∈zs):(∃ z,(zs.map V.str)[zs.idxOf x]?=some z∧eqV z (.str x)=true)∧∀ m z,m < zs.idxOf x→(zs.map V.str)[m]?=some z→eqV z (.str x)=false:=by
 refine⟨⟨.str x,?_,beq_self_eq_true x⟩,λm z hm e=>?_⟩
 ·rw[Qs,Qd (idx_lt h),List.getElem_idxOf];rfl
 ·rw [Qs] at e
  have cx:m<zs.length:=Wn hm (idx_lt h)
  rw[Qd cx]at e
  cases e
  show(zs[m]==x)=false
  refine beq_eq_false_iff_ne.mpr λq=>?_
  have az:∀(l:Nf) (j:Nat) (hj:j<l.length),l[j]=x→l.idxOf x≤j:=by
   intro l
   induction l with
   |nil=>intro j hj;simp at hj
   | cons a t ih =>
    intro j hj e
    rw[Kw]
    cases j with
    |zero =>
     have e':a=x:=e
     rw[e'];simp
    | succ i =>
     have:=ih i (by simpa using hj) (by simpa using e)
     by_cases h:a=x
     ·rw[h];simp
     ·have hb:(a == x)=false:=beq_eq_false_iff_ne.mpr h
      rw[hb];simp;assumption
  have:=az zs m cx q
  omega
def zbw(zs:Nf):(zs.map V.str).all zdp=true:=by
 rw[Uv];intro v hv;obtain⟨x,_,rfl⟩:=Qh.mp hv;rfl
end K21
end
section
namespace K21
open PySem L2 Wb
def zgk:Option Str→V
 |none=>.non
 |some c=>.str c
section
variable{P:Nj}{w:Nl}{K:Nb}{mg:Ng}{base:Nm}
end
end K21
end
section
namespace Wb
section
variable{α:Type}[DecidableEq α]
def itr(rs:Rs α)(s:α×α):Nat→α×α
 |0=>s
 |n+1=>stp rs (itr rs s n)
def IsSt(rs:Rs α)(s:α×α):Prop:=∃p∈rs,p.1=s.2∧s.1∈p.2
def ziw(rs:Rs α):List (α×α):=rs.flatMap λp=>p.2.map λx=>(x,p.1)
def zf7{rs:Rs α}{s:α×α}:s∈ziw rs↔IsSt rs s:=by
 unfold ziw IsSt
 rw[List.mem_flatMap]
 constructor
 ·rintro ⟨p,hp,h⟩
  obtain⟨x,hx,rfl⟩:=Qh.mp h
  exact⟨p,hp,rfl,hx⟩
 ·rintro ⟨p,hp,e,hx⟩
  exact⟨p,hp,Qh.mpr ⟨s.1,hx,by rw[e]⟩⟩
def Clo(rs:Rs α):Prop:=∀s,IsSt rs s→IsSt rs (stp rs s)
theorem zgf{rs:Rs α}(c:Clo rs){s:α×α}(h:IsSt rs s):∀n,IsSt rs (itr rs s n)
 |0=>h
 |n+1=>c _ (zgf c h n)
def run(rs:Rs α)(s:α×α)(n:Nat):List (α×α):=(List.range n).map (itr rs s)
def run_succ(rs:Rs α)(s:α×α)(n:Nat):run rs s (n+1)=run rs s n++[itr rs s n]:=by
 unfold run;rw[List.range_succ,List.map_append];rfl
def zei{l m:List (α×α)}(nd:l.Nodup)(h:∀x∈l,x∈m):l.length≤m.length:=by
 induction l generalizing m with
 |nil=>exact Zf _
 |cons a t ih =>
  rw[Qr]at nd
  have ha:=h a Qc
  have:=ih (m:=m.erase a) nd.2 λx hx=>(List.mem_erase_of_ne (λe=>nd.1 (by rw[←e];exact hx))).mpr (h x (Qg _ hx))
  rw[Yo ha]at this
  have hp:0<m.length:=Yl ha
  rw[Qx];lia
end
end Wb
namespace K21
open PySem L2 Wb
section
variable{P:Nj}{w:Nl}{K:Nb}{mg:Ng}{base:Nm}
def zbp.keep{H H':Hp}{as:Nk}{qs:Nr}(r:zbp H as qs)(k:∀b x y,H b=some (.tup [x,y])→H' b=some (.tup [x,y])):zbp H' as qs:=by
 induction r with
 |nil=>exact .nil
 |cons h t ih=>exact .cons (k _ _ _ h) ih
def zbp.snoc{H:Hp}{as:Nk}{qs:Nr}{a:Nc}{q:Str×Str}(r:zbp H as qs)(h:H a=some (.tup [.str q.1,.str q.2])):zbp H (as++[a]) (qs++[q]):=by
 induction r with
 |nil=>exact .cons h .nil
 |cons h' t ih=>exact .cons h' ih
end
end K21
end
section
namespace Wb
section
variable{α:Type}[DecidableEq α]
structure Gen(G:Rs α→Prop):Prop where
 clo:∀rs,G rs→Clo rs
 nd:∀rs,G rs→(rs.map (·.1)).Nodup
 sub:∀rs,G rs→∀p∈rs,p.2.Nodup∧∀x∈p.2,x∈rs.map (·.1)
 sy:∀rs,G rs→∀p∈rs,∀x∈p.2,p.1∈row rs x
 nil:G []
 new:∀rs x,G rs→x∉rs.map (·.1)→G (rs++[(x,[])])
 leaf:∀rs x p c,G rs→x∉rs.map (·.1)→p∈rs→(∀y,c=some y→y∈p.2)→(c=none→p.2=[])→G (za0 (za0 (rs++[(x,[])]) p.1 (ins p.2 c x)) x [p.1])
 tie:∀rs c p n,G rs→p∈rs→c∈p.2→(itr rs (c,p.1) n).2≠p.1→(itr rs (c,p.1) n).2∉p.2 →
  G (za0 (za0 rs p.1 (ins p.2 (some c) (itr rs (c,p.1) n).2)) (itr rs (c,p.1) n).2 (ins (row rs (itr rs (c,p.1) n).2) (some (itr rs (c,p.1) n).1) p.1))
def zci{l m:List α}(nd:l.Nodup)(h:∀x∈l,x∈m):l.length≤m.length:=by
 induction l generalizing m with
 |nil=>exact Zf _
 |cons a t ih =>
  rw[Qr]at nd
  have ha:=h a Qc
  have:=ih (m:=m.erase a) nd.2 λx hx=>(List.mem_erase_of_ne (λe=>nd.1 (by rw[←e];exact hx))).mpr (h x (Qg _ hx))
  rw[Yo ha]at this
  have hp:0<m.length:=Yl ha
  rw[Qx];lia
def Gen.rows{G:Rs α→Prop}(g:Gen G){rs:Rs α}(h:G rs):∀p∈rs,p.2.length≤rs.length:=λp hp=>by
 obtain⟨a,b⟩:=g.sub rs h p hp
 have:=zci a b
 rwa[Qa]at this
def Gen.steps{G:Rs α→Prop}(g:Gen G){rs:Rs α}(h:G rs)(hl:rs.length≤40):(ziw rs).length≤1600:=by
 have key:∀(l:Rs α) (n:Nat),(∀p∈l,p.2.length≤n)→(ziw l).length≤l.length*n:=by
  intro l n
  induction l with
  |nil=>intro _;simp[ziw]
  |cons a t ih =>
   intro hh
   have h1:=ih λp hp=>hh p (Qg _ hp)
   have h2:=hh a Qc
   unfold ziw at h1 ⊢
   rw[List.flatMap_cons,Qq,Qa,Qx,Nat.succ_mul]
   lia
 have:=key rs rs.length (g.rows h)
 have:rs.length*rs.length≤40*40:=Nat.mul_le_mul hl hl
 exact Zn ‹_› ‹_›
end
end Wb
namespace K21
open PySem L2 Wb
def zb3{H:Hp}{p a:Nc}{b m:Int}{zs:Nf}(h:Pot H p b m)(ha:H a=some (.lst (zs.map V.str))):a≠p:=za5 ha h.1 (by
 intro z
 have z':zs.map V.str=[.int b,.int m]:=by injection z
 cases zs with
 |nil=>cases z'
 |cons x t=>rw[Ql]at z';injection z' with z1 _;cases z1)
def zg7{H:Hp}{p d:Nc}{b m:Int}{kvs:List (Key×V)}(h:Pot H p b m)(hd:H d=some (.dK kvs)):d≠p:=za5 hd h.1 (by intro z;cases z)
def RAt.pot{H H':Hp}{d p:Nc}{b m:Int}{es:List Ent}(r:RAt H d es)(h:Pot H p b m)(k:Keep [p] H H'):RAt H' d es :=
 r.keep k (by simpa using zg7 h r.dc) λe he=>by simpa using zb3 h (r.ro e he)
def Pot.keep{H H':Hp}{p:Nc}{b m:Int}{xs:Nk}(h:Pot H p b m)(k:Keep xs H H')(hp:p∉xs):Pot H' p b m:=⟨k _ _ h.1 hp,h.2⟩
def zbg{H H':Hp}{p:Nc}(h:∀c o,H c=some o→c≠p→H' c=some o):Keep [p] H H':=λc o e n=>h c o e λz=>n (by rw[z];exact Qb.mpr rfl)
section
variable{P:Nj}{w:Nl}{K:Nb}{mg:Ng}{base:Nm}
def zdd{x:Str}{zs:Nf}:inV (.str x) (zs.map V.str)=decide (x∈zs):=by
 unfold inV
 rw[Wl,Yz,decide_eq_true_iff]
 constructor
 ·rintro ⟨v,hv,e⟩
  obtain⟨y,hy,rfl⟩:=Qh.mp hv
  have e':y=x:=eq_of_beq e
  rw[←e'];exact hy
 ·intro h
  exact⟨.str x,Qh.mpr ⟨x,h,rfl⟩,beq_self_eq_true x⟩
def zcn{c:Bool}{A B:Prop}(h:c=false)(b:B):if c=true then A else B:=by rw[h];exact iteF b
def zdc{c:Bool}{A B:Prop}(h:c=true)(a:A):if c=true then A else B:=by rw[h];exact iteT a
def op_ne_nilK{X:Cx}{K:Nb}(hK:X.K=K)(hu:X.A.units<cLine):OpR X (compareOp .NotEq) (rNil true K):=hK▸zf1 hu
end
end K21
end
section
namespace K21
open PySem L2 Wb
def rat_new{H:Hp}{d a:Nc}{es:List Ent}{x:Str}{r:Nf}(R:RAt H d es)(hx:x∉es.map (·.1))(ha:H a=some (.lst (r.map V.str))) :
  RAt (upd H d (.dK (putK (es.map λe=>((Sum.inr e.1:Key),V.ref e.2.2)) (Sum.inr x) (.ref a)))) d (es++[(x,r,a)]):=by
 refine⟨by rw[zac,zh0 (r:=r) hx],λe he=>?_,?_⟩
 ·have key:∀ {b:Nc} {xs:List V},H b=some (.lst xs)→(upd H d (.dK (putK (es.map fun e=>((Sum.inr e.1:Key),V.ref e.2.2)) (Sum.inr x) (.ref a)))) b=some (.lst xs):=fun {b xs} hb=>by
   rw[zad (za5 hb R.dc (by intro z;cases z))];exact hb
  rcases Qf.mp he with z | z
  ·exact key (R.ro e z)
  ·rw[Qb.mp z];exact key ha
 ·rw [Qp,Za]
  refine⟨R.nd,Qr.mpr ⟨by simp,Zh⟩,λy hy z hz=>?_⟩
  have c7:z=x:=by simpa using hz
  rw[c7]
  exact λe=>hx (e▸hy)
def zgc(es:List Ent):((es.map λe=>((Sum.inr e.1:Key),V.ref e.2.2)).map λp=>kV p.1)=(es.map (·.1)).map V.str:=by
 rw[Zi,Zi];rfl
section
variable{P:Nj}{w:Nl}{K:Nb}{mg:Ng}{base:Nm}
end
def zfc(z:Str):Prop:=1≤z.length∧z.length≤8∧∀c∈z.cps.toList,97≤c∧c≤122
def nodup_of_map{α β:Type}{f:α→β}{l:List α}(h:(l.map f).Nodup):l.Nodup:=by
 induction l with
 |nil=>exact Zh
 |cons a t ih =>
  rw[Ql,Qr]at h
  exact Qr.mpr ⟨λz=>h.1 (Qh.mpr ⟨a,z,rfl⟩),ih h.2⟩
def zh9{α β:Type}{f:α→β}{l:List α}(nd:l.Nodup)(h:∀a∈l,∀b∈l,f a=f b→a=b):(l.map f).Nodup:=by
 induction l with
 |nil=>exact Zh
 |cons a t ih =>
  rw[Qr]at nd
  rw[Ql,Qr]
  refine⟨λz=>?_,ih nd.2 λx hx y hy=>h x (Qg _ hx) y (Qg _ hy)⟩
  obtain⟨b,hb,e⟩:=Qh.mp z
  exact nd.1 (h b (Qg _ hb) a Qc e▸hb)
def zdb:Str := "abcdefghijklmnopqrstuvwxyz"
def letters_at:∀i:Fin 26,zdb.cps.toList[i.1]?=some (97+i.1):=by decide +kernel
def zd4:zdb.length≤sizeLine:=by decide +kernel
def zf9{j:Int}(h0:0≤j)(h1:j<26):atI zdb.cps.toList j=some (97+j.toNat):=by
 obtain⟨n,rfl⟩:=Zy h0
 exact zaq (letters_at ⟨n,by exact zar8 ‹_›⟩)
section
variable{P:Nj}{w:Nl}{K:Nb}{mg:Ng}{base:Nm}
end
def zan{xs:Nk}{H H':Hp}{l:Nc}(k:Keep xs H H')(h:H' l=none)(hx:l∉xs):H l=none:=by
 cases z:H l with
 |none=>rfl
 |some o=>rw[k _ _ z hx]at h;cases h
section
variable{P:Nj}{w:Nl}{K:Nb}{mg:Ng}{base:Nm}
end
end K21
end
section
namespace K21
open PySem L2 Wb Tm
def leS_anti(a b:Str)(h:leS a b)(g:leS b a):a=b:=by
 have e:a.cps.toList=b.cps.toList:=List.le_antisymm (List.not_lt.mp h) (List.not_lt.mp g)
 cases a;cases b
 congr 1
 exact Jo.mp e
end K21
end
section
namespace K21
open PySem L2 Wb
abbrev sWeb:Stmt:=top 24
abbrev sPlaces:Stmt:=inClass sWeb 1
structure TAt(H:Hp)(d:Nc)(es:List Ent):Prop where
 dc:H d=some (.dK (es.map λe=>((Sum.inr e.1:Key),V.ref e.2.2)))
 ro:∀e∈es,H e.2.2=some (.tup (e.2.1.map V.str))
 nd:(es.map (·.1)).Nodup
def TAt.keep{H H':Hp}{d:Nc}{es:List Ent}{xs:Nk}(r:TAt H d es)(k:Keep xs H H')(hd:d∉xs)(h:∀e∈es,e.2.2∉xs):TAt H' d es:=⟨k _ _ r.dc hd,λe he=>k _ _ (r.ro e he) (h e he),r.nd⟩
structure WAt(H:Hp)(C x dx d:Nc)(es:List Ent):Prop where
 ob:H x=some (.ins C dx [("rounds",.ref d)])
 ta:TAt H d es
def WAt.keep{H H':Hp}{C x dx d:Nc}{es:List Ent}{xs:Nk}(r:WAt H C x dx d es)(k:Keep xs H H')(hx:x∉xs)(hd:d∉xs)(h:∀e∈es,e.2.2∉xs):WAt H' C x dx d es :=
 ⟨k _ _ r.ob hx,r.ta.keep k hd h⟩
def WAt.pot{H H':Hp}{C x dx d p:Nc}{b m:Int}{es:List Ent}(r:WAt H C x dx d es)(h:Pot H p b m)(k:Keep [p] H H'):WAt H' C x dx d es :=
 r.keep k (by simpa using za5 r.ob h.1 (by intro z;cases z)) (by simpa using za5 r.ta.dc h.1 (by intro z;cases z)) λe he=>by simpa using za5 (r.ta.ro e he) h.1 (by intro z;cases z)
inductive IspPlaces(C:Nc)(vs:List V)(H:Hp)(Q:VK):Prop
 |mk (x dx d:Nc) (es:List Ent) (h0:vs=[.ref x]) (h1:WAt H C x dx d es) (h2:∀l,H l=none→Q (.ref l) (upd H l (.lst ((es.map (·.1)).map V.str)))):IspPlaces C vs H Q
def spPlaces(C:Nc):Sp:=λvs H Q _=>IspPlaces C vs H Q
def refs_perm{ws:List V}{as:Nk}(h:ws.Perm (as.map V.ref)):∃dy:List Addr,ws=dy.map V.ref∧dy.Perm as:=by
 have key:∀ws:List V,(∀v∈ws,∃a,v=V.ref a)→∃dy:List Addr,ws=dy.map V.ref:=by
  intro ws
  induction ws with
  |nil=>intro _;exact⟨[],rfl⟩
  |cons v t ih =>
   intro hh
   obtain⟨a,rfl⟩:=hh v Qc
   obtain⟨dy,rfl⟩:=ih λv hv=>hh v (Qg _ hv)
   exact⟨a::dy,rfl⟩
 obtain⟨dy,rfl⟩:=key ws λv hv=>by
  obtain⟨a,_,rfl⟩:=Qh.mp (h.mem_iff.mp hv)
  exact⟨a,rfl⟩
 refine⟨dy,rfl,?_⟩
 have:=h.map (λv:V=>match v with | .ref a=>a | _=>0)
 rw[Zi,Zi]at this
 have e:∀l:List Addr,l.map ((λv:V=>match v with | .ref a=>a | _=>0)∘V.ref)=l:=λl=>List.map_id l
 rw[e,e]at this
 exact this
section
variable{P:Nj}{w:Nl}{K:Nb}{mg:Ng}{base:Nm}
def scPlaces:zau ["self"] ["self"] (zag sPlaces):=⟨rfl,rfl,rfl,by decide +kernel,rfl,by decide +kernel,by decide +kernel⟩
def ok_places{f C:Nc}{fd:No}(F:Fun K "places" "Web.places" sPlaces f fd)(cW:Cls K C)(nW:zdv K C "rounds")(aA:mg "list" = none):FnOk P w K mg base CX0 1 f fd ["self"] (spPlaces C):=by
 refine F.ok scPlaces (λvs H Q E h=>?_) (λcdv A outer s H vs Q E hr h=>?_)
 ·obtain ⟨x,dx,d,es,rfl,_⟩:=h
  rfl
 ·obtain ⟨x,dx,d,es,rfl,wt,k⟩:=h
  have hx:=wt.ob
  have T:=wt.ta
  refine⟨_,zah (zbm (zbo (zdu rfl) (by rfl) aA Wu (zab (pe_fld (pv 0) rfl) zaf))),?_⟩
  refine⟨_,rfl,x,C,dx,_,_,rfl,hx,cW,nW,rfl,d,_,rfl,.inl T.dc,λl hl=>?_⟩
  rw[zgc]
  exact k l hl
end
def zbh{α β:Type}{R:α→β→Prop}:∀{as:List α} {bs:List β},Paired R as bs→∀{i:Nat} (hi:i<as.length),∃aI:i<bs.length,R as[i] bs[i]:=by
 intro as bs r
 induction r with
 |nil=>intro i hi;simp at hi
 | cons h t ih =>
  intro i hi
  cases i with
  |zero=>exact⟨by simp,h⟩
  |succ j =>
   obtain⟨a,b⟩:=ih (i:=j) (by simpa using hi)
   exact⟨by simpa using a,b⟩
section
variable{P:Nj}{w:Nl}{K:Nb}{mg:Ng}{base:Nm}
end
end K21
end
section
namespace L2
open PySem
def zgx{X:Cx}{st:Stmt}:PS X st (λ_ _ _=>False):=λ_ _ _ _ _ _ h=>h.elim
def pe_tyN{X:Cx}{x:Str}{T:String}{pos:Pos}(hg:Gl X x)(hm:X.mg x=none)(hv:bootBuiltins x=some (.type T))(hn:x ≠ "__name__" := by decide)(iq:(x==("__debug__" : Str))=false:=by decide):PE X (.Name x pos) (tC (.ty T)):=by
 intro a7 s σ H Q I h
 exact zdt I hg hm hv ⟨.ty T,H,I,rfl,h⟩ hn iq
end L2
namespace K21
open PySem L2 Wb
abbrev zdy:Stmt:=top 18
inductive IspIsName(vs:List V)(H:Hp)(Q:VK):Prop
 |mk (z:Str) (h0:vs=[.str z]) (h1:zfc z) (h2:∀H',Keep [] H H'→Q (.bl true) H'):IspIsName vs H Q
def spIsName:Sp:=λvs H Q _=>IspIsName vs H Q
abbrev zeo:Scope:=scOf (aOf 0 (aOf 1 (eOf (sAt zdy 1))))
def csIsName_k:zeo.kind=.function:=by rfl
def csIsName_c:∀y∈zeo.names,y.2≠.cell:=by decide +kernel
def csIsName_n:∀y∈zeo.names,y.2=.local→zeo.names.lookup y.1=some .local:=by decide +kernel
def csIsName_f:∀y∈zeo.names,y.2=.free→(zag zdy).names.lookup y.1=some .cell∨(zag zdy).names.lookup y.1=some .free:=by decide +kernel
def nd1:(["sign"]:List Str).Nodup:=by decide +kernel
section
variable{P:Nj}{w:Nl}{K:Nb}{mg:Ng}{base:Nm}
def scIsName:zau ["thing"] ["thing"] (zag zdy):=⟨rfl,rfl,rfl,by decide +kernel,rfl,by decide +kernel,by decide +kernel⟩
def ok_isname{f:Nc}{fd:No}{tk:Tok}(F:Fun K "is_name" "is_name" zdy f fd)(hML:mg "MOST_LETTERS" = some (.int 8 tk))(jX:mg "isinstance" = none)(rf:mg "str" = none)(af:mg "len" = none)(cU:mg "all" = none):FnOk P w K mg base CX0 1 f fd ["thing"] spIsName:=by
 refine F.ok scIsName (λvs H Q E h=>?_) (λcdv A outer s H vs Q E hr h=>?_)
 ·obtain ⟨z,rfl,_⟩:=h
  rfl
 ·obtain ⟨z,rfl,hz,k⟩:=h
  have hu:=zb5 hr
  have aL:sizeLine=16777216:=sizeLine_eq
  refine⟨_,zae (zbs (pt_not (pt_val (zam call_isi_str (by rfl) jX PyProof.Rows.boot_isinstance (zab (pv 0) (zab (pe_tyN (T := "str") rfl rf PyProof.Rows.boot_str) zaf))))) (zah zgx) zay)
   (zah (zbm (pe_and (pe_chain op_le op_le zai (zam call_len_str (by rfl) af Zv (zab (pv 0) zaf)) (pe_glob (v:=.int 8) rfl hML ⟨tk,rfl⟩))
    (pe_one (zam (call_all rfl) (by rfl) cU PyProof.Rows.boot_all (zab (zh4 (M:=["sign"]) (ix:=[none]) ⟨csIsName_k,csIsName_c,csIsName_n,csIsName_f,rfl,by decide +kernel,λj i x h1 h2=>by
       match j,h1,h2 with
       |0,_,h2=>cases h2
       |n+1,h1,_=>cases h1⟩ rfl (pi_str (pv 0)) (λC a7 ex s H=>zal (i:=0) nd1 rfl (Or.inl rfl) (Or.inr rfl))
       (λC a7 ex s H=>zct) (λC a7 ex s H=>pe_chain op_le_str op_le_str pe_str (pv 0) pe_str)) zaf)))))),?_⟩
  obtain⟨hz1,fk,fj⟩:=hz
  have hz1':1≤z.cps.size:=hz1
  have hz2':z.cps.size≤8:=fk
  refine⟨_,rfl,z,rfl,_,rfl,zcn rfl ?_⟩
  refine⟨_,rfl,z,rfl,(by show z.cps.size≤sizeLine;lia),_,_,rfl,rfl,_,rfl,zdc (decide_eq_true (by show(1:Int)≤(z.cps.size:Int);exact zar9 ‹_›)) ?_⟩
  refine⟨_,_,rfl,rfl,_,rfl,zdc (decide_eq_true (by show(z.cps.size:Int)≤8;lia)) ?_⟩
  have asc:z.cps.all (· < 128)=true:=by
   rw[Array.all_eq_true]
   intro i hi
   have:=fj z.cps[i] (by rw[Array.mem_toList_iff];exact Array.getElem_mem hi)
   exact decide_eq_true (by lia)
  refine⟨_,rfl,z,rfl,asc,λi m ys τ H1=>Aj5 (H1=H) (m=z.cps.size-i) (i≤z.cps.size) (ys=List.replicate i (V.bl true)) (Ex1 λx0=>τ=[x0]),⟨_,rfl,rfl,Zf _,rfl,none,rfl⟩,?_⟩
  rintro i m ys τ H1 ⟨rfl,rfl,hi,rfl,x0,rfl⟩
  by_cases ag:i<z.cps.size
  ·refine .inr ⟨ag,by rw [Jk];lia,?_⟩
   rintro y H' ⟨rfl,c,hc,rfl⟩
   obtain⟨h1,h2⟩:=fj c (by rw[Array.mem_toList_iff];exact Array.mem_of_getElem? hc)
   have l1:(!decide ((⟨#[c]⟩:Str).cps.toList<("a" : Str).cps.toList))=true:=by
    rw[Kk,decide_eq_false_iff_not,show("a" : Str).cps.toList=[97] from by decide +kernel]
    show ¬[c]<[97]
    intro h
    have:=List.cons_lt_cons_iff.mp h
    rcases this with q | ⟨_,q⟩
    ·exact zar10 ‹_› ‹_›
    ·exact Wy _ q
   have l2:(!decide (("z" : Str).cps.toList<(⟨#[c]⟩:Str).cps.toList))=true:=by
    rw[Kk,decide_eq_false_iff_not,show("z" : Str).cps.toList=[122] from by decide +kernel]
    show ¬[122]<[c]
    intro h
    have:=List.cons_lt_cons_iff.mp h
    rcases this with q | ⟨_,q⟩
    ·exact zar10 ‹_› ‹_›
    ·exact Wy _ q
   refine⟨_,rfl,_,_,rfl,rfl,_,rfl,zdc l1 ?_⟩
   refine⟨_,_,rfl,rfl,_,?_,rfl,rfl,ag,?_,_,rfl⟩
   ·exact zar1 ‹_›
   ·rw[l2,List.replicate_succ']
  ·have e:i=z.cps.size:=by exact zar3 ‹_› ‹_›
   subst e
   refine .inl ⟨Qi _,λD hD=>?_⟩
   refine⟨D,List.replicate z.cps.size true,rfl,SqL.of (by rw[zac,List.map_replicate]),?_⟩
   have:(List.replicate z.cps.size true).all id=true:=by
    rw[Uv];intro b hb;exact(List.mem_replicate.mp hb).2
   rw[this]
   exact k _ (Keep.new hD)
end
end K21
end
section
namespace L2
open PySem
def lc_at{K:Nb}{g:TG}{te:TE}{Q:VK}{a:Nc}{τ:St}{H:Hp}{xs:List V}(T:St→Prop)(ys:List V)(hl:ys.length=xs.length)(ha:SqL K H a xs)(hn:xs.length≤sizeLine)(h0:T τ)(hs:∀(i:Nat) (hi:i<xs.length) (du:i<ys.length),∀τ,T τ→∀k:V→St→Hp→Prop,(∀τ2,T τ2→k ys[i] τ2 H)→g xs[i] τ H λ τ2 H2=>te τ2 H2 λy H4=>k y τ2 H4)(q:∀D,H D=none→Q (.ref D) (upd H D (.lst ys))):rLC g tAll te Q (Itl K a) τ H:=by
 refine⟨λi m zs τ H1=>Aj5 (H1=H) (T τ) (m=xs.length-i) (i≤xs.length) (zs=ys.take i),⟨_,rfl,h0,rfl,Zf _,rfl⟩,?_⟩
 rintro i m zs τ H1 ⟨rfl,ht,rfl,hi,rfl⟩
 by_cases ag:i<xs.length
 ·refine .inr ⟨⟨xs,xs[i],ha,Qd ag⟩,by rw [Zj];lia,?_⟩
  rintro x H' ⟨rfl,hx⟩
  have ci:=hx xs ha
  rw[Qd ag]at ci
  have jx:xs[i]=x:=Qk ci
  rw[←jx]
  refine hs i ag (by exact zar6 ‹_› ‹_›) τ ht (λy τ2 H4=>∃m',m'<xs.length-i∧Aj5 (H4=H') (T τ2) (m'=xs.length-(i+1)) (i+1≤xs.length) (ys.take i++[y]=ys.take (i+1))) λ τ2 h2=>?_
  exact⟨_,by exact zar1 ‹_›,rfl,h2,rfl,ag,by rw[Qm (by exact zar6 ‹_› ‹_›:i<ys.length)]⟩
 ·have e:i=xs.length:=by exact zar3 ‹_› ‹_›
  refine .inl ⟨⟨xs,ha,by lia⟩,λD hD=>?_⟩
  rw[Qv (by lia)]
  exact q D hD
end L2
namespace K21
open PySem L2 Wb
structure RwAt(H:Hp)(l:Nc)(as:Nk)(es:List Ent):Prop where
 ls:H l=some (.lst (as.map V.ref))
 ts:Paired (λa (e:Ent)=>H a=some (.tup [.str e.1,.ref e.2.2])) as es
 ro:∀e∈es,H e.2.2=some (.lst (e.2.1.map V.str))
def RwAt.keep{H H':Hp}{l:Nc}{as:Nk}{es:List Ent}(r:RwAt H l as es)(k:Keep [] H H'):RwAt H' l as es :=
 ⟨k _ _ r.ls (by simp),Paired.imp' (λ_ _ h=>k _ _ h (by simp)) r.ts,λe he=>k _ _ (r.ro e he) (by simp)⟩
abbrev zfl:Stmt:=top 19
abbrev zdq:Stmt:=top 20
abbrev zhu:Stmt:=top 21
inductive zhi(vs:List V)(H:Hp)(Q:VK):Prop
 |mk (l:Nc) (as:Nk) (es:List Ent) (h0:vs=[.ref l]) (h1:RwAt H l as es) (h2:(∀e∈es,e.2.1.length≤100∧zfc e.1∧∀x∈e.2.1,zfc x)) (h3:∀H',Keep [] H H'→Q .non H'):zhi vs H Q
def spNoNames:Sp:=λvs H Q _=>zhi vs H Q
inductive IspTwice(vs:List V)(H:Hp)(Q:VK):Prop
 |mk (l:Nc) (as:Nk) (es:List Ent) (h0:vs=[.ref l]) (h1:RwAt H l as es) (h2:es.length≤60) (h3:(es.map (·.1)).Nodup) (h4:(∀e∈es,e.2.1.length≤100∧e.2.1.Nodup)) (h5:∀H',Keep [] H H'→Q .non H'):IspTwice vs H Q
def spTwice:Sp:=λvs H Q _=>IspTwice vs H Q
inductive IspOneWay(vs:List V)(H:Hp)(Q:VK):Prop
 |mk (l:Nc) (as:Nk) (es:List Ent) (h0:vs=[.ref l]) (h1:RwAt H l as es) (h2:(es.map (·.1)).Nodup) (h3:(∀e∈es,e.1∉e.2.1∧∀x∈e.2.1,∃e'∈es,e'.1=x∧e.1∈e'.2.1)) (h4:∀H',Keep [] H H'→Q .non H'):IspOneWay vs H Q
def spOneWay:Sp:=λvs H Q _=>IspOneWay vs H Q
section
variable{P:Nj}{w:Nl}{K:Nb}{mg:Ng}{base:Nm}
def zea:zau ["rows", "place", "around", "thing"] ["rows"] (zag zfl):=⟨rfl,rfl,rfl,by decide +kernel,rfl,by decide +kernel,by decide +kernel⟩
def ok_nonames{f fn:Nc}{fd fdn:No}(F:Fun K "refuse_no_names" "refuse_no_names" zfl f fd)(FN:Fun K "is_name" "is_name" zdy fn fdn)(bN:Binds K fdn ["thing"] [])(mN:mg "is_name" = some (.ref fn))(GN:FnOk P w K mg base CX0 1 fn fdn ["thing"] spIsName):FnOk P w K mg base CX0 2 f fd ["rows"] spNoNames:=by
 refine F.ok zea (λvs H Q E h=>?_) (λcdv A outer s H vs Q E hr h=>?_)
 ·obtain ⟨l,as,es,rfl,_⟩:=h
  rfl
 ·obtain ⟨l,as,es,rfl,R,hok,k⟩:=h
  have hu:=zb5 hr
  have aL:sizeLine=16777216:=sizeLine_eq
  refine⟨_,zah (zbn Zo rfl (za9 (pv 0)) (ze6 rfl (za6 (zal (i:=1) zea.nd rfl (Or.inl rfl)) (za6 (zal (i:=2) zea.nd rfl (Or.inl rfl)) zck)))
   (zah (zbn Zo rfl (za9 (zaw zds (zbc (zab (pv 1) zaf)) (pv 2))) (zal (i:=3) zea.nd rfl (Or.inl rfl))
    (zah (zbs (pt_not (pt_val (zaj GN hr rfl mN FN.kp bN .nil zav (zab (pv 3) zaf)))) (zah zgx) zay))))),?_⟩
  refine⟨_,rfl,l,rfl,⟨_,SqL.of R.ls⟩,zbt (xs:=as.map V.ref) (λi σ H'=>Aj2 (Keep [] H H') (Ex3 λx1 x2 x3=>σ=[some (.ref l),x1,x2,x3])) ⟨Keep.refl,none,none,none,rfl⟩ (λi σ H' _ hh=>SqL.of (hh.1 _ _ R.ls (by simp))) ?_ ?_⟩
  ·rintro i y σ H1 hx ⟨k1,x1,x2,x3,rfl⟩
   have hi:i<as.length:=by
    have:=(Qw.mp hx).1
    rwa[Qa]at this
   have gX:y=.ref as[i]:=by
    rw[Qs,Qd hi]at hx
    exact(Qk hx).symm
   subst gX
   obtain⟨aI,eT⟩:=zbh R.ts hi
   obtain⟨aZ,gE,bm⟩:=hok _ (Qz aI)
   have cI:=k1 _ _ (R.ro _ (Qz aI)) (by simp)
   refine⟨as[i],_,rfl,SqT.of (k1 _ _ eT (by simp)),rfl,_,_,rfl,_,_,rfl,rfl,?_⟩
   refine⟨_,rfl,(by show 1≤sizeLine;decide),λq hq=>?_⟩
   have nq:es[i].2.2≠q:=zaa cI hq
   refine⟨_,rfl,q,es[i].2.2,_,_,rfl,rfl,zac,(by rw[zad nq];exact cI),(by rw[Qa];show 1+_≤sizeLine;lia),λq2 cO=>?_⟩
   have k2:Keep [] H (upd (upd H1 q (.lst [.str es[i].1])) q2 (.lst ([V.str es[i].1]++es[i].2.1.map V.str))):=(k1.trans (Keep.new hq)).trans (Keep.new cO)
   have jI:(upd (upd H1 q (.lst [.str es[i].1])) q2 (.lst ([V.str es[i].1]++es[i].2.1.map V.str))) q2=some (.lst ((es[i].1::es[i].2.1).map V.str)):=zac
   generalize upd (upd H1 q (.lst [.str es[i].1])) q2 (.lst ([V.str es[i].1]++es[i].2.1.map V.str))=H2 at k2 jI
   refine⟨q2,rfl,⟨_,SqL.of jI⟩,zbt (xs:=(es[i].1::es[i].2.1).map V.str) (λj σ H'=>Aj2 (Keep [] H2 H') (Ex3 λx1 x2 x3=>σ=[some (.ref l),x1,x2,x3])) ⟨Keep.refl,_,_,_,rfl⟩ (λj σ H' _ hh=>SqL.of (hh.1 _ _ jI (by simp))) ?_ ?_⟩
   ·rintro j y σ H3 hy ⟨k3,y1,y2,y3,rfl⟩
    obtain⟨z,hz,rfl⟩:=Qh.mp (Yj hy)
    have cE:zfc z:=by
     rcases Qe.mp hz with e | e
     ·rw[e];exact gE
     ·exact bm z e
    refine⟨_,rfl,z,rfl,cE,λH4 k4=>⟨_,rfl,zcn rfl ?_⟩⟩
    exact⟨k3.trans k4,_,_,_,rfl⟩
   ·rintro σ H3 ⟨k3,y1,y2,y3,rfl⟩
    exact⟨k2.trans k3,_,_,_,rfl⟩
  ·rintro σ H1 ⟨k1,x1,x2,x3,rfl⟩
   exact k H1 k1
abbrev csTwA:Scope:=scOf (eOf (sAt zdq 0))
abbrev csTwB:Scope:=scOf (aOf 1 (eOf (sAt zdq 1)))
def csTwA_k:csTwA.kind=.function:=by rfl
def csTwA_c:∀y∈csTwA.names,y.2≠.cell:=by decide +kernel
def csTwA_n:∀y∈csTwA.names,y.2=.local→csTwA.names.lookup y.1=some .local:=by decide +kernel
def csTwA_f:∀y∈csTwA.names,y.2=.free→(zag zdq).names.lookup y.1=some .cell∨(zag zdq).names.lookup y.1=some .free:=by decide +kernel
def csTwB_k:csTwB.kind=.function:=by rfl
def csTwB_c:∀y∈csTwB.names,y.2≠.cell:=by decide +kernel
def csTwB_n:∀y∈csTwB.names,y.2=.local→csTwB.names.lookup y.1=some .local:=by decide +kernel
def csTwB_f:∀y∈csTwB.names,y.2=.free→(zag zdq).names.lookup y.1=some .cell∨(zag zdq).names.lookup y.1=some .free:=by decide +kernel
def ndPA:(["place", "around"]:List Str).Nodup:=by decide +kernel
def scTwice:zau ["rows", "places", "names"] ["rows"] (zag zdq):=⟨rfl,rfl,rfl,by decide +kernel,rfl,by decide +kernel,by decide +kernel⟩
def noB{X:Cx}{sc:Scope}{M:Nf}{n:Nat}(h1:sc.kind=.function)(h2:∀y∈sc.names,y.2≠.cell)(h3:∀y∈sc.names,y.2=.local→sc.names.lookup y.1=some .local)(h4:∀y∈sc.names,y.2=.free→X.env.scope.names.lookup y.1=some .cell∨X.env.scope.names.lookup y.1=some .free)(h5:n=M.length)(h6:M.Nodup):Blk X sc M (List.replicate n none):=⟨h1,h2,h3,h4,by rw [Jk,h5],h6,fun j i x _ h=>by
   have:=Yj h
   have:=(List.mem_replicate.mp this).2
   cases this⟩
def zh2{X:Cx}{K:Nb}(hK:X.K=K){es:Np}{k:Nat}{pos:Pos}{t:TGs}{n:Nat}(hc:X.calm=true)(h:PGs X es t)(hn:(assignEach es X.env).length=n:=by rfl)(aq:(assignEach es X.env).findIdx? (·.1)=none:=by rfl):PG X (.Tuple es k pos) (gTup K n t):=hK▸ze6 hc h hn aq
def ok_twice{f:Nc}{fd:No}(F:Fun K "refuse_twice" "refuse_twice" zdq f fd)(af:mg "len" = none)(rp:mg "set" = none):FnOk P w K mg base CX0 1 f fd ["rows"] spTwice:=by
 refine F.ok scTwice (λvs H Q E h=>?_) (λcdv A outer s H vs Q E hr h=>?_)
 ·obtain ⟨l,as,es,rfl,_⟩:=h
  rfl
 ·obtain ⟨l,as,es,rfl,R,nH,aD,hok,k⟩:=h
  have hu:=zb5 hr
  have aL:sizeLine=16777216:=sizeLine_eq
  refine⟨_,zae (ps_lc (i:=1) (M:=["place", "around"]) (ix:=[none,none]) scTwice.nd rfl rfl (noB (n:=2) csTwA_k csTwA_c csTwA_n csTwA_f rfl ndPA) rfl (za9 (pv 0))
    (λC a7 ex s H=>zh2 (K:=K) (n:=2) rfl rfl (za6 (zal (i:=0) ndPA rfl (Or.inl rfl) (Or.inr rfl)) (za6 (zal (i:=1) ndPA rfl (Or.inl rfl) (Or.inr rfl)) zck)))
    (λC a7 ex s H=>zct) (λC a7 ex s H=>pv 0) rfl)
   (zah (zbn Zo rfl (za9 (zaw zds (zbc (zab (pv 1) zaf)) (zh4 (M:=["place", "around"]) (ix:=[none,none]) (noB (n:=2) csTwB_k csTwB_c csTwB_n csTwB_f rfl ndPA) rfl (za9 (pv 0))
    (λC a7 ex s H=>zh2 (K:=K) (n:=2) rfl rfl (za6 (zal (i:=0) ndPA rfl (Or.inl rfl) (Or.inr rfl)) (za6 (zal (i:=1) ndPA rfl (Or.inl rfl) (Or.inr rfl)) zck)))
    (λC a7 ex s H=>zct) (λC a7 ex s H=>pv 1)))) (zal (i:=2) scTwice.nd rfl (Or.inl rfl))
    (zah (zbs (zar op_lt (zam zis (by rfl) af Zv (zab (zbo (zio rfl) (by rfl) rp PyProof.Rows.boot_set (zab (pv 2) zaf)) zaf))
     (zam zas (by rfl) af Zv (zab (pv 2) zaf)) (zbd _)) (zah zgx) zay)))),?_⟩
  have cV:as.length=es.length:=Yr R.ts
  refine⟨_,rfl,l,rfl,⟨_,SqL.of R.ls⟩,lc_at (xs:=as.map V.ref) (λ τ=>∃x0 x1,τ=[x0,x1]) ((es.map (·.1)).map V.str) (by rw[Qa,Qa,Qa,cV]) (SqL.of R.ls) (by rw[Qa];lia) ⟨none,none,rfl⟩ ?_ (λD hD=>?_)⟩
  ·rintro i hi du τ ⟨x0,x1,rfl⟩ kk hk
   rw[Qa]at hi
   obtain⟨aI,eT⟩:=zbh R.ts hi
   rw[Zm]
   refine⟨as[i],_,rfl,SqT.of eT,rfl,_,_,rfl,_,_,rfl,rfl,_,rfl,?_⟩
   have e:((es.map (·.1)).map V.str)[i]=V.str es[i].1:=by rw[Zm,Zm]
   rw[e]at hk
   exact hk _ ⟨_,_,rfl⟩
  ·have k1:Keep [] H (upd H D (.lst ((es.map (·.1)).map V.str))):=Keep.new hD
   have hD1:(upd H D (.lst ((es.map (·.1)).map V.str))) D=some (.lst ((es.map (·.1)).map V.str)):=zac
   generalize upd H D (.lst ((es.map (·.1)).map V.str))=H1 at k1 hD1
   have R1:=R.keep k1
   refine⟨_,rfl,(by show 1≤sizeLine;decide),λq hq=>?_⟩
   have k2:Keep [] H1 (upd H1 q (.lst [.ref D])):=Keep.new hq
   have cO:(upd H1 q (.lst [.ref D])) q=some (.lst [.ref D]):=zac
   generalize upd H1 q (.lst [.ref D])=H2 at k2 cO
   have R2:=R1.keep k2
   refine⟨_,rfl,l,rfl,⟨_,SqL.of R2.ls⟩,lc_at (xs:=as.map V.ref) (λ τ=>∃x0 x1,τ=[x0,x1]) (es.map λe=>V.ref e.2.2) (by rw[Qa,Qa,cV]) (SqL.of R2.ls) (by rw[Qa];lia) ⟨none,none,rfl⟩ ?_ (λD2 dw=>?_)⟩
   ·rintro i hi du τ ⟨x0,x1,rfl⟩ kk hk
    rw[Qa]at hi
    obtain⟨aI,eT⟩:=zbh R2.ts hi
    rw[Zm]
    refine⟨as[i],_,rfl,SqT.of eT,rfl,_,_,rfl,_,_,rfl,rfl,_,rfl,?_⟩
    rw[Zm]at hk
    exact hk _ ⟨_,_,rfl⟩
   ·have k3:Keep [] H2 (upd H2 D2 (.lst (es.map fun e=>V.ref e.2.2))):=Keep.new dw
    have gp:(upd H2 D2 (.lst (es.map λe=>V.ref e.2.2))) D2=some (.lst (es.map λe=>V.ref e.2.2)):=zac
    generalize upd H2 D2 (.lst (es.map λe=>V.ref e.2.2))=H3 at k3 gp
    refine⟨q,D2,_,_,rfl,rfl,k3 _ _ cO (by simp),gp,(by rw[Qa];show 1+_≤sizeLine;lia),λq4 hq4=>?_⟩
    have k4:Keep [] H3 (upd H3 q4 (.lst ([V.ref D]++es.map λe=>V.ref e.2.2))):=Keep.new hq4
    have jH:(upd H3 q4 (.lst ([V.ref D]++es.map λe=>V.ref e.2.2))) q4=some (.lst ([V.ref D]++es.map λe=>V.ref e.2.2)):=zac
    generalize upd H3 q4 (.lst ([V.ref D]++es.map λe=>V.ref e.2.2))=H4 at k4 jH
    have iM:Keep [] H H4:=((k1.trans k2).trans k3).trans k4
    refine⟨q4,rfl,⟨_,SqL.of jH⟩,zbt (xs:=[V.ref D]++es.map λe=>V.ref e.2.2) (λi σ H'=>Aj2 (Keep [] H4 H') (Ex2 λx1 x2=>σ=[some (.ref l),x1,x2])) ⟨Keep.refl,_,_,rfl⟩ (λi σ H' _ hh=>SqL.of (hh.1 _ _ jH (by simp))) ?_ ?_⟩
    ·rintro i y σ H5 hy ⟨k5,x1,x2,rfl⟩
     obtain⟨a,zs,rfl,ha,cE,dB⟩:∃(a:Nc) (zs:Nf),y=V.ref a∧H5 a=some (.lst (zs.map V.str))∧zs.Nodup∧zs.length≤100:=by
      rcases Qf.mp (Yj hy) with z | z
      ·refine ⟨D,es.map (·.1),Qb.mp z,?_,aD,by rw [Qa];exact Zn nH (by decide)⟩
       exact k5 _ _ (k4 _ _ (k3 _ _ (k2 _ _ hD1 (by simp)) (by simp)) (by simp)) (by simp)
      ·obtain ⟨e,he,rfl⟩:=Qh.mp z
       exact⟨e.2.2,e.2.1,rfl,k5 _ _ (iM _ _ (R.ro e he) (by simp)) (by simp),(hok e he).2,(hok e he).1⟩
     refine⟨_,rfl,a,zs,rfl,SqL.of ha,cE,by lia,λt ht=>?_⟩
     have qt:a≠t:=zaa ha ht
     refine⟨t,zs,rfl,zac,by lia,_,rfl,a,_,rfl,.inl (SqL.of (by rw[zad qt];exact ha)),_,_,rfl,rfl,_,rfl,zcn (decide_eq_false (by rw[Qa];lia)) ?_⟩
     exact⟨k5.trans (Keep.new ht),_,_,rfl⟩
    ·rintro σ H5 ⟨k5,x1,x2,rfl⟩
     exact k H5 (iM.trans k5)
end
end K21
end
section
namespace K21
open PySem L2 Wb
abbrev sLeast:Stmt:=top 23
inductive IspLeast(vs:List V)(H:Hp)(Q:VK):Prop
 |mk (a:Nc) (zs:Nf) (h0:vs=[.ref a]) (h1:H a=some (.lst (zs.map V.str))) (h2:zs.length≤100) (h3:∀(t:Nc) (j:Nat) (H':Hp),j≤zs.length→H' t=some (.tup ((zs.drop j++zs.take j).map V.str))→H t=none→Keep [] H H'→Q (.ref t) H'):IspLeast vs H Q
def spLeast:Sp:=λvs H Q _=>IspLeast vs H Q
def paired_map{α β γ:Type}{R:α→γ→Prop}{f:β→γ}:∀{as:List α} {bs:List β},Paired (λa b=>R a (f b)) as bs→Paired R as (bs.map f):=by
 intro as bs r
 induction r with
 |nil=>exact .nil
 |cons h t ih=>exact .cons h ih
section
variable{P:Nj}{w:Nl}{K:Nb}{mg:Ng}{base:Nm}
def zd9:zau ["rows", "rounds", "one", "around", "other"] ["rows"] (zag zhu):=⟨rfl,rfl,rfl,by decide +kernel,rfl,by decide +kernel,by decide +kernel⟩
def ok_oneway{f:Nc}{fd:No}(F:Fun K "refuse_one_way" "refuse_one_way" zhu f fd)(gk:mg "dict" = none):FnOk P w K mg base CX0 1 f fd ["rows"] spOneWay:=by
 refine F.ok zd9 (λvs H Q E h=>?_) (λcdv A outer s H vs Q E hr h=>?_)
 ·obtain ⟨l,as,es,rfl,_⟩:=h
  rfl
 ·obtain ⟨l,as,es,rfl,R,aD,hok,k⟩:=h
  have hu:=zb5 hr
  have aL:sizeLine=16777216:=sizeLine_eq
  refine⟨_,zae (zak (i:=1) zd9.nd rfl (Or.inl rfl) (zbo (zgz rfl) (by rfl) gk PyProof.Rows.boot_dict (zab (pv 0) zaf)))
   (zah (zbn Zo rfl (za9 (pv 0)) (ze6 rfl (za6 (zal (i:=2) zd9.nd rfl (Or.inl rfl)) (za6 (zal (i:=3) zd9.nd rfl (Or.inl rfl)) zck)))
    (zah (zbn Zo rfl (za9 (pv 3)) (zal (i:=4) zd9.nd rfl (Or.inl rfl))
     (zah (zbs (PW.pt (pw_or (zar op_eq (pv 4) (pv 2) (zbd _)) (pw_or1 (zar zce (pv 2) (pe_dget2 hu (pv 1) (pv 4) (zbc zaf) ⟨rfl,rfl,rfl,rfl⟩) rfl)))) (zah zgx) zay)))))),?_⟩
  have pi:(es.map λe:Ent=>(e.1,V.ref e.2.2)).map (·.1)=es.map (·.1):=by rw[Zi];rfl
  refine⟨_,rfl,l,as,es.map λe=>(e.1,V.ref e.2.2),rfl,R.ls,paired_map R.ts,by rw[pi];exact aD,λd hd=>?_⟩
  have hpd:((es.map λe:Ent=>(e.1,V.ref e.2.2)).map λp=>((Sum.inr p.1:Key),p.2))=es.map λe=>((Sum.inr e.1:Key),V.ref e.2.2):=by rw[Zi];rfl
  rw[hpd]
  have k1:Keep [] H (upd H d (.dK (es.map λe=>((Sum.inr e.1:Key),V.ref e.2.2)))):=Keep.new hd
  have km:(upd H d (.dK (es.map λe=>((Sum.inr e.1:Key),V.ref e.2.2)))) d=some (.dK (es.map λe=>((Sum.inr e.1:Key),V.ref e.2.2))):=zac
  generalize upd H d (.dK (es.map λe=>((Sum.inr e.1:Key),V.ref e.2.2)))=H1 at k1 km
  have R1:=R.keep k1
  refine⟨_,rfl,l,rfl,⟨_,SqL.of R1.ls⟩,zbt (xs:=as.map V.ref) (λi σ H'=>Aj2 (Keep [] H1 H') (Ex3 λx2 x3 x4=>σ=[some (.ref l),some (.ref d),x2,x3,x4])) ⟨Keep.refl,none,none,none,rfl⟩ (λi σ H' _ hh=>SqL.of (hh.1 _ _ R1.ls (by simp))) ?_ ?_⟩
  ·rintro i y σ H2 hx ⟨k2,x2,x3,x4,rfl⟩
   have hi:i<as.length:=by
    have:=(Qw.mp hx).1
    rwa[Qa]at this
   have gX:y=.ref as[i]:=by
    rw[Qs,Qd hi]at hx
    exact(Qk hx).symm
   subst gX
   obtain⟨aI,eT⟩:=zbh R1.ts hi
   obtain⟨gE,bm⟩:=hok _ (Qz aI)
   have cI:=k2 _ _ (R1.ro _ (Qz aI)) (by simp)
   refine⟨as[i],_,rfl,SqT.of (k2 _ _ eT (by simp)),rfl,_,_,rfl,_,_,rfl,rfl,?_⟩
   refine⟨_,rfl,es[i].2.2,rfl,⟨_,SqL.of cI⟩,zbt (xs:=es[i].2.1.map V.str) (λj σ H'=>Aj2 (Keep [] H2 H') (Ex1 λx4=>σ=[some (.ref l),some (.ref d),some (.str es[i].1),some (.ref es[i].2.2),x4])) ⟨Keep.refl,_,rfl⟩ (λj σ H' _ hh=>SqL.of (hh.1 _ _ cI (by simp))) ?_ ?_⟩
   ·rintro j y σ H3 hy ⟨k3,y4,rfl⟩
    obtain⟨z,hz,rfl⟩:=Qh.mp (Yj hy)
    obtain⟨e',aS,pG,ar⟩:=bm z hz
    have az:z≠es[i].1:=λq=>gE (q▸hz)
    have nN:=k3 _ _ (k2 _ _ km (by simp)) (by simp)
    refine⟨_,rfl,_,rfl,rfl,_,rfl,zcn (decide_eq_false (λq=>az (by injection q))) ?_⟩
    refine⟨_,rfl,_,rfl,d,rfl,.inl ⟨_,.inl nN⟩,_,rfl,(by show 0≤sizeLine;decide),λq hq=>?_⟩
    have ndq:d≠q:=zaa nN hq
    have tF:(upd H3 q (.lst [])) d=some (.dK (es.map λe=>((Sum.inr e.1:Key),V.ref e.2.2))):=by rw[zad ndq];exact nN
    have gC:(upd H3 q (.lst [])) e'.2.2=some (.lst (e'.2.1.map V.str)):=by
     have h3:=k3 _ _ (k2 _ _ (R1.ro e' aS) (by simp)) (by simp)
     rw[zad (zaa h3 hq)];exact h3
    have dg:=DGet.k (k:=Sum.inr z) tF
    rw[←pG,zbu aD aS,pG]at dg
    refine⟨_,dg,e'.2.2,_,rfl,.inl (SqL.of gC),rfl,zbw _,_,rfl,?_⟩
    refine zcn (by rw[if_pos rfl,zdd,decide_eq_true ar];rfl) ?_
    exact⟨k3.trans (Keep.new hq),_,rfl⟩
   ·rintro σ H3 ⟨k3,y4,rfl⟩
    exact⟨k2.trans k3,_,_,_,rfl⟩
  ·rintro σ H2 ⟨k2,x2,x3,x4,rfl⟩
   exact k H2 (k1.trans k2)
def scLeast:zau ["around", "at"] ["around"] (zag sLeast):=⟨rfl,rfl,rfl,by decide +kernel,rfl,by decide +kernel,by decide +kernel⟩
def ok_least{f:Nc}{fd:No}(F:Fun K "from_least" "from_least" sLeast f fd)(fQ:mg "min" = none)(qW:mg "tuple" = none):FnOk P w K mg base CX0 1 f fd ["around"] spLeast:=by
 refine F.ok scLeast (λvs H Q E h=>?_) (λcdv A outer s H vs Q E hr h=>?_)
 ·obtain ⟨a,zs,rfl,_⟩:=h
  rfl
 ·obtain ⟨a,zs,rfl,ha,hz,k⟩:=h
  have aL:sizeLine=16777216:=sizeLine_eq
  refine⟨_,zae (zak (i:=1) scLeast.nd rfl (Or.inl rfl) (pe_ifExp (zef (pv 0) (by intro _;rfl)) (zdo Zk Kq Kp zia (pv 0) (zab (zam (ziq rfl) (by rfl) fQ Xc (zab (pv 0) zaf)) zaf)) zai))
   (zah (zbm (zbo zim (by rfl) qW PyProof.Rows.boot_tuple (zab (zaw zds (zcr zc7 (pv 0) (zcx (pv 1)) zd1) (zcr zc7 (pv 0) zd1 (zcx (pv 1)))) zaf)))),?_⟩
  have aO:(zs.map V.str).length=zs.length:=Qa ..
  refine⟨_,rfl,_,.inl ⟨_,SqL.of ha,rfl⟩,?_⟩
  by_cases qL:zs=[]
  ·refine zcn (by rw [qL];rfl) ?_
   have h0:0≤zs.length:=Zf _
   refine⟨_,rfl,_,rfl,_,rfl,a,_,rfl,SqL.of ha,λp1 h1=>?_⟩
   have n1:a≠p1:=zaa ha h1
   refine⟨_,rfl,_,rfl,_,rfl,a,_,rfl,SqL.of (by rw[zad n1];exact ha),λp2 h2=>?_⟩
   have cY:p1≠p2:=zaa (o:=_) zac h2
   refine⟨p1,p2,_,_,rfl,rfl,(by rw[zad cY];exact zac),zac,?_,λp3 h3=>?_⟩
   ·have q1:=zby (zs.map V.str) (some (0:Int)) none
    have q2:=zby (zs.map V.str) none (some (0:Int))
    rw[aO]at q1 q2
    show _+_≤sizeLine
    lia
   have ecut:cutV (zs.map V.str) (some (0:Int)) none++cutV (zs.map V.str) none (some (0:Int))=(zs.drop (0:Nat)++zs.take (0:Nat)).map V.str:=by
    show cutV (zs.map V.str) (some (((0:Nat)):Int)) none++cutV (zs.map V.str) none (some (((0:Nat)):Int))=_
    rw[zfp (by rw[aO];exact h0),cut_to (by rw[aO];exact h0),Qp,Jp,Uh]
   rw[ecut]
   refine⟨p3,_,rfl,.inl ⟨SqL.of zac,λt ht=>?_⟩⟩
   have kk:Keep [] H _:=(((Keep.new h1).trans (Keep.new h2)).trans (Keep.new h3)).trans (Keep.new (o:=.tup ((zs.drop (0:Nat)++zs.take (0:Nat)).map V.str)) ht)
   exact k t (0:Nat) _ h0 zac (zan (xs:=[]) (((Keep.new h1).trans (Keep.new h2)).trans (Keep.new h3)) ht (by simp)) kk
  ·refine zdc (by cases hh:zs with
    |nil=>exact absurd hh qL
    |cons _ _=>rfl) ?_
   refine⟨_,rfl,.inl ⟨rfl,_,SqL.of ha⟩,_,rfl,a,zs,rfl,SqL.of ha,qL,λz dA _=>?_⟩
   obtain⟨i1,i2⟩:=zie dA
   have hj:zs.idxOf z≤zs.length:=Ug (idx_lt dA)
   refine⟨a,_,_,_,rfl,rfl,ha,rfl,zbw _,i1,i2,?_⟩
   refine⟨_,rfl,_,rfl,_,rfl,a,_,rfl,SqL.of ha,λp1 h1=>?_⟩
   have n1:a≠p1:=zaa ha h1
   refine⟨_,rfl,_,rfl,_,rfl,a,_,rfl,SqL.of (by rw[zad n1];exact ha),λp2 h2=>?_⟩
   have cY:p1≠p2:=zaa (o:=_) zac h2
   refine⟨p1,p2,_,_,rfl,rfl,(by rw[zad cY];exact zac),zac,?_,λp3 h3=>?_⟩
   ·have q1:=zby (zs.map V.str) (some ((zs.idxOf z):Int)) none
    have q2:=zby (zs.map V.str) none (some ((zs.idxOf z):Int))
    rw[aO]at q1 q2
    show _+_≤sizeLine
    lia
   have ecut:cutV (zs.map V.str) (some ((zs.idxOf z):Int)) none++cutV (zs.map V.str) none (some ((zs.idxOf z):Int))=(zs.drop (zs.idxOf z)++zs.take (zs.idxOf z)).map V.str:=by
    rw[zfp (by rw[aO];exact hj),cut_to (by rw[aO];exact hj),Qp,Jp,Uh]
   rw[ecut]
   refine⟨p3,_,rfl,.inl ⟨SqL.of zac,λt ht=>?_⟩⟩
   have kk:Keep [] H _:=(((Keep.new h1).trans (Keep.new h2)).trans (Keep.new h3)).trans (Keep.new (o:=.tup ((zs.drop (zs.idxOf z)++zs.take (zs.idxOf z)).map V.str)) ht)
   exact k t (zs.idxOf z) _ hj zac (zan (xs:=[]) (((Keep.new h1).trans (Keep.new h2)).trans (Keep.new h3)) ht (by simp)) kk
end
end K21
end
section
namespace Wb
section lk
variable{β:Type}
def Lk(f:β→β):β→List β→β→Prop
 |s,[],e=>f s=e
 |s,x::t,e=>f s=x∧Lk f x t e
def lk_app{f:β→β}{x e:β}{B:List β}:∀{A:List β} {s:β},Lk f s (A++x::B) e↔Lk f s A x∧Lk f x B e:=by
 intro A
 induction A with
 |nil=>intro s;exact Iff.rfl
 |cons a t ih =>
  intro s
  show f s=a∧Lk f a (t++x::B) e↔(f s=a∧Lk f a t x)∧Lk f x B e
  rw[ih,and_assoc]
def lk_congr{f g:β→β}{e:β}:∀{t:List β} {s:β},(∀y,y=s∨y∈t→g y=f y)→Lk f s t e→Lk g s t e:=by
 intro t
 induction t with
 |nil=>intro s h k;exact(h s (.inl rfl)).trans k
 |cons a t ih =>
  intro s h k
  refine⟨(h s (.inl rfl)).trans k.1,ih (λy hy=>h y (.inr ?_)) k.2⟩
  rcases hy with z | z
  ·rw[z];exact Qc
  ·exact Qg _ z
def Cyc(f:β→β)(c:List β):Prop:=∃s t,c=s::t∧Lk f s t s
def zc1{f:β→β}{A B:List β}{x:β}(h:Cyc f (A++x::B)):Lk f x (B++A) x:=by
 obtain⟨s,t,e,k⟩:=h
 cases A with
 |nil =>
  cases e
  rw[Zt];exact k
 |cons a A' =>
  cases e
  obtain⟨k1,k2⟩:=lk_app.mp k
  exact lk_app.mpr ⟨k2,k1⟩
def zem{f g:β→β}{c:List β}(h:∀y∈c,g y=f y)(k:Cyc f c):Cyc g c:=by
 obtain⟨s,t,e,k⟩:=k
 subst e
 exact⟨s,t,rfl,lk_congr (λy hy=>h y (Qe.mpr hy)) k⟩
end lk
section nx
variable{α:Type}[DecidableEq α]
def zba{A B:List α}{w:α}(h:w∉A):(B++A++[w]).head?=some (nxt (A++w::B) w):=by
 have hi:(A++w::B).idxOf w=A.length:=by
  rw[List.idxOf_append,if_neg h,List.idxOf_cons_self];lia
 unfold nxt
 rw[hi,Qq,Qx]
 cases B with
 |nil =>
  have e:(A.length+1)%(A.length+(([]:List α).length+1))=0:=by simp
  rw[e]
  cases A with
  |nil=>rfl
  |cons a t=>rfl
 | cons b t =>
  have e:(A.length+1)%(A.length+((b::t).length+1))=A.length+1:=Nat.mod_eq_of_lt (by rw[Qx];lia)
  rw[e]
  have:(A++w::b::t).getD (A.length+1) w=b:=by
   rw[Zs,Wz (by exact Yh _ _)]
   have:A.length+1-A.length=1:=by lia
   rw[this];rfl
  rw[this];rfl
def zbr{zs:List α}{c:α}(h:c∈zs)(nd:zs.Nodup):∃A B,zs=A++c::B∧c∉A∧c∉B:=by
 obtain⟨A,B,e⟩:=Yp h
 refine⟨A,B,e,?_,?_⟩
 ·rw [e,Za] at nd
  exact λz=>nd.2.2 _ z _ Qc rfl
 ·rw [e,Za,Qr] at nd
  exact nd.2.1.1
def zcv{A B:List α}{c n:α}(h:c∉A):ins (A++c::B) (some c) n=A++c::n::B:=by
 have hi:(A++c::B).idxOf c=A.length:=by
  rw[List.idxOf_append,if_neg h,List.idxOf_cons_self];lia
 show(A++c::B).take ((A++c::B).idxOf c+1)++n::(A++c::B).drop ((A++c::B).idxOf c+1)=_
 rw[hi]
 have e1:(A++c::B).take (A.length+1)=A++[c]:=by
  rw[List.take_append,Qv (by exact Yh _ _)]
  have:A.length+1-A.length=1:=by lia
  rw[this];rfl
 have e2:(A++c::B).drop (A.length+1)=B:=by
  rw[List.drop_append,List.drop_of_length_le (by exact Yh _ _)]
  have:A.length+1-A.length=1:=by lia
  rw[this];rfl
 rw[e1,e2,Qu];rfl
variable{zs:List α}{c n:α}
def zd3(hc:c∈zs)(nd:zs.Nodup){w:α}:w∈ins zs (some c) n↔w=n∨w∈zs:=by
 obtain⟨A,B,rfl,h1,h2⟩:=zbr hc nd
 rw[zcv h1]
 simp only[Qf,Qe]
 constructor
 ·rintro (h | h | h | h)
  ·exact .inr (.inl h)
  ·exact .inr (.inr (.inl h))
  ·exact .inl h
  ·exact .inr (.inr (.inr h))
 ·rintro (h | h | h | h)
  ·exact .inr (.inr (.inl h))
  ·exact .inl h
  ·exact .inr (.inl h)
  ·exact .inr (.inr (.inr h))
def zic(hc:c∈zs)(nd:zs.Nodup):(ins zs (some c) n).length=zs.length+1:=by
 obtain⟨A,B,rfl,h1,h2⟩:=zbr hc nd
 rw[zcv h1]
 simp only[Qq,Qx];lia
def nd_ins(hc:c∈zs)(nd:zs.Nodup)(hn:n∉zs):(ins zs (some c) n).Nodup:=by
 obtain⟨A,B,rfl,h1,h2⟩:=zbr hc nd
 rw[zcv h1]
 rw[Za,Qr]at nd
 rw[Qf,Qe,not_or,not_or]at hn
 obtain⟨nA,⟨ncB,nB⟩,nAB⟩:=nd
 rw[Za,Qr,Qr]
 refine⟨nA,⟨?_,hn.2.2,nB⟩,λa ha b hb=>?_⟩
 ·rw[Qe,not_or];exact⟨λe=>hn.2.1 e.symm,ncB⟩
 ·rcases Qe.mp hb with z | z
  ·rw[z];exact nAB a ha c Qc
  ·rcases Qe.mp z with y | y
   ·rw[y];exact λe=>hn.1 (e▸ha)
   ·exact nAB a ha b (Qg _ y)
def zeh(hc:c∈zs)(nd:zs.Nodup):nxt (ins zs (some c) n) c=n:=by
 obtain⟨A,B,rfl,h1,h2⟩:=zbr hc nd
 rw[zcv h1]
 have k:=zba (B:=n::B) h1
 exact(Qk k).symm
def zf5(hc:c∈zs)(nd:zs.Nodup)(hn:n∉zs):nxt (ins zs (some c) n) n=nxt zs c:=by
 obtain⟨A,B,rfl,h1,h2⟩:=zbr hc nd
 rw[zcv h1]
 rw[Qf,Qe,not_or,not_or]at hn
 have e:A++c::n::B=(A++[c])++n::B:=by rw[Qu];rfl
 have rY:n∉A++[c]:=by
  rw[Qf,not_or,Qb];exact⟨hn.1,hn.2.1⟩
 have k1:=zba (B:=B) rY
 have k2:=zba (B:=B) h1
 rw[←e]at k1
 refine Qk (k1.symm.trans (Eq.trans ?_ k2))
 cases B with
 |cons b t=>rfl
 |nil=>cases A with
  |nil=>rfl
  |cons a t=>rfl
def zda(hc:c∈zs)(nd:zs.Nodup)(hn:n∉zs){w:α}(hw:w∈zs)(qR:w≠c):nxt (ins zs (some c) n) w=nxt zs w:=by
 obtain⟨A,B,rfl,h1,h2⟩:=zbr hc nd
 rw[zcv h1]
 rw[Za,Qr]at nd
 obtain⟨nA,⟨ncB,nB⟩,nAB⟩:=nd
 rw[Qf,Qe,not_or,not_or]at hn
 rcases Qf.mp hw with h | h
 ·obtain ⟨A1,A2,rfl,g1,g2⟩:=zbr h nA
  have k1:=zba (A:=A1) (B:=A2++c::n::B) g1
  have k2:=zba (A:=A1) (B:=A2++c::B) g1
  rw[Qu,Uu,Qu,Uu]
  refine Qk (k1.symm.trans (Eq.trans ?_ k2))
  cases A2<;>rfl
 ·rcases Qe.mp h with z | z
  ·exact absurd z qR
  ·obtain ⟨B1,B2,rfl,g1,g2⟩:=zbr z nB
   have hwA:w∉A:=λq=>nAB _ q _ (Qg _ z) rfl
   have cF:w≠n:=λq=>hn.2.2 (q▸z)
   have m1:w∉A++c::n::B1:=by
    simp only[Qf,Qe,not_or];exact⟨hwA,qR,cF,g1⟩
   have m2:w∉A++c::B1:=by
    simp only[Qf,Qe,not_or];exact⟨hwA,qR,g1⟩
   have k1:=zba (B:=B2) m1
   have k2:=zba (B:=B2) m2
   have e1:A++c::n::(B1++w::B2)=(A++c::n::B1)++w::B2:=by rw[Qu];rfl
   have e2:A++c::(B1++w::B2)=(A++c::B1)++w::B2:=by rw[Qu];rfl
   rw[e1,e2]
   refine Qk (k1.symm.trans (Eq.trans ?_ k2))
   cases B2 with
   |cons b t=>rfl
   |nil=>cases A<;>rfl
def nxt_rot(nd:zs.Nodup)(k:Nat){w:α}(hw:w∈zs):nxt (zs.drop k++zs.take k) w=nxt zs w:=by
 obtain⟨A,B,rfl,h1,h2⟩:=zbr hw nd
 have k2:=zba (B:=B) h1
 by_cases hk:k≤A.length
 ·have e:(A++w::B).drop k++(A++w::B).take k=A.drop k++w::(B++A.take k):=by
   rw[List.drop_append,List.take_append]
   have:k-A.length=0:=by lia
   rw[this,List.drop_zero,List.take_zero,Zt,Qu];rfl
  have k1:=zba (A:=A.drop k) (B:=B++A.take k) (λz=>h1 (List.mem_of_mem_drop z))
  rw[e]
  refine Qk (k1.symm.trans (Eq.trans ?_ k2))
  rw[Qu B,Wa]
 ·have e:(A++w::B).drop k++(A++w::B).take k=(B.drop (k - A.length - 1)++A)++w::B.take (k - A.length - 1):=by
   rw[List.drop_append,List.take_append,List.drop_of_length_le (by lia),Qv (by lia)]
   have:k-A.length=(k-A.length-1)+1:=by lia
   conv=>lhs;rw[this]
   rw[List.drop_succ_cons,List.take_succ_cons,Jv,Qu]
  have k1:=zba (A:=B.drop (k-A.length-1)++A) (B:=B.take (k-A.length-1)) (λz=>by
   rcases Qf.mp z with y | y
   ·exact h2 (List.mem_of_mem_drop y)
   ·exact h1 y)
  rw[e]
  refine Qk (k1.symm.trans (Eq.trans ?_ k2))
  rw[←Qu,Wa]
end nx
section
variable{α:Type}[DecidableEq α]
def st(r:α→List α)(s:α×α):α×α:=(s.2,nxt (r s.2) s.1)
inductive Conn(r:α→List α)(x:α):α→Prop
 |refl:Conn r x x
 |step {y z:α}:Conn r x y→z∈r y→Conn r x z
def Conn.trans{r:α→List α}{x y z:α}(a:Conn r x y)(b:Conn r y z):Conn r x z:=by
 induction b with
 |refl=>exact a
 |step _ h ih=>exact .step ih h
def Conn.mono{r r':α→List α}(h:∀x y,y∈r x→y∈r' x){x y:α}(a:Conn r x y):Conn r' x y:=by
 induction a with
 |refl=>exact .refl
 |step _ hz ih=>exact .step ih (h _ _ hz)
def wt(ns:List α)(r:α→List α)(aa:α→α)(t:α):Int:=(ns.map λx=>if aa x=t then 2+(if r x=[] then 2 else 0)-((r x).length:Int) else 0).sum
def ct(cs:List (List (α×α)))(aa:α→α)(t:α):Int:=(cs.map λc=>if(c.any λs=>decide (aa s.1=t))=true then(2:Int) else 0).sum
structure Cert(ns:List α)(r:α→List α)(cs:List (List (α×α)))(aa:α→α):Prop where
 nd:ns.Nodup
 ro:∀x,x∉ns→r x=[]
 rn:∀x,(r x).Nodup
 ir:∀x,x∉r x
 sy:∀x y,y∈r x→x∈r y
 cf:cs.flatten.Nodup
 cm:∀s,s∈cs.flatten↔s.1∈r s.2
 cy:∀c∈cs,Cyc (st r) c
 ln:∀x∈ns,aa x∈ns
 la:∀x y,y∈r x→aa y=aa x
 co:∀x∈ns,∀y∈ns,aa x=aa y→Conn r x y
 eu:∀x∈ns,wt ns r aa (aa x)+ct cs aa (aa x)=4
variable{ns:List α}{r r':α→List α}{cs:List (List (α×α))}{aa:α→α}
def Cert.inn(C:Cert ns r cs aa){x y:α}(h:y∈r x):x∈ns:=Kf λz=>by rw[C.ro x z]at h;cases h
def Cert.inn'(C:Cert ns r cs aa){x y:α}(h:y∈r x):y∈ns:=C.inn (C.sy x y h)
def zer{g g':α→Int}{a:α}:∀ {l:List α},l.Nodup→a∈l→(∀ x∈l,x≠a→g' x=g x)→(l.map g').sum=(l.map g).sum+(g' a - g a):=by
 intro l
 induction l with
 |nil=>intro _ h;cases h
 | cons b t ih =>
  intro nd h e
  rw[Qr]at nd
  rw[Ql,Ql,Zl,Zl]
  by_cases hb:b=a
  ·have:(t.map g').sum=(t.map g).sum:=by
    congr 1
    exact Wi λx hx=>e x (Qg _ hx) λz=>nd.1 (by rw[hb,←z];exact hx)
   rw[this,hb];lia
  ·have h':a∈t:=by
    rcases Qe.mp h with z | z
    ·exact absurd z.symm hb
    ·exact z
   rw[ih nd.2 h' λx hx=>e x (Qg _ hx),e b Qc hb];lia
def zcc{β:Type}{g g':β→Int}{l:List β}(h:∀x∈l,g' x=g x):(l.map g').sum=(l.map g).sum:=by
 congr 1;exact Wi h
def zik(C:Cert ns r cs aa){N R:List (List (α×α))}{c0 news:List (α×α)}(hR:∀c∈R,c∈cs)(cc:cs.flatten.Perm (c0++R.flatten))(hN:N.flatten.Perm (news++c0))(aD:news.Nodup)(bQ:∀s∈news,s.1∉r s.2)(hmem:∀s:α×α,s.1∈r' s.2↔s∈news∨s.1∈r s.2)(nO:∀c∈N,Cyc (st r') c)(aq:∀s:α×α,s.1∈r s.2→s∉c0→st r' s=st r s) :
  (N++R).flatten.Nodup∧(∀s,s∈(N++R).flatten↔s.1∈r' s.2)∧∀c∈N++R,Cyc (st r') c:=by
 have hp:(N++R).flatten.Perm (news++cs.flatten):=by
  rw[Wj]
  refine(List.Perm.append_right _ hN).trans ?_
  rw[Qu]
  exact Ya _ cc.symm
 refine⟨?_,λs=>?_,λc hc=>?_⟩
 ·rw [hp.nodup_iff,Za]
  exact⟨aD,C.cf,λa ha b hb e=>bQ a ha (by rw[e];exact(C.cm b).mp hb)⟩
 ·rw[hp.mem_iff,Qf,hmem,C.cm]
 ·rcases Qf.mp hc with z | z
  ·exact nO c z
  ·refine zem (fun y hy=>?_) (C.cy c (hR c z))
   have hyR:y∈R.flatten:=Zu.mpr ⟨c,z,hy⟩
   refine aq y ((C.cm y).mp (cc.mem_iff.mpr (Qo _ hyR))) λoS=>?_
   have:=cc.nodup_iff.mp C.cf
   rw[Za]at this
   exact this.2.2 y oS y hyR rfl
def zdi{β:Type}{g:β→Int}:∀{l:List β},(∀x∈l,g x=0)→(l.map g).sum=0:=by
 intro l
 induction l with
 |nil=>intro _;rfl
 |cons a t ih =>
  intro h
  rw[Ql,Zl,h a Qc,ih λx hx=>h x (Qg _ hx)];rfl
def Cert.inc(C:Cert ns r cs aa){c:List (α×α)}(hc:c∈cs){s:α×α}(hs:s∈c):s.1∈r s.2:=(C.cm s).mp (Zu.mpr ⟨c,hc,hs⟩)
def ct_lab{ah:α→α}{t:α}(h:∀c∈cs,∀s∈c,ah s.1=aa s.1):ct cs ah t=ct cs aa t:=by
 refine zcc λc hc=>?_
 have:(c.any λs=>decide (ah s.1=t))=c.any λs=>decide (aa s.1=t):=by
  rw[Wl,Yz,Yz]
  constructor
  ·rintro⟨s,hs,e⟩;exact⟨s,hs,by rwa[h c hc s hs]at e⟩
  ·rintro⟨s,hs,e⟩;exact⟨s,hs,by rw[h c hc s hs];exact e⟩
 rw[this]
def cert_new(C:Cert ns r cs aa){x:α}(hx:x∉ns){ah:α→α}(hl:∀y∈ns,ah y=aa y)(br:ah x=x):Cert (ns++[x]) r cs ah:=by
 have pd:r x=[]:=C.ro x hx
 have ne:∀{y},y∈ns→y≠x:=λ{y} hy e=>hx (e▸hy)
 have ar:∀c∈cs,∀s∈c,s.1∈ns:=λc hc s hs=>C.inn' (C.inc hc hs)
 have lh:∀t,ct cs ah t=ct cs aa t:=λt=>ct_lab λc hc s hs=>hl _ (ar c hc s hs)
 have lx:∀y∈ns,aa y≠x:=λy hy e=>hx (e▸C.ln y hy)
 have tG:ct cs aa x=0:=zdi λc hc=>if_neg λz=>by
  obtain⟨s,hs,e⟩:=Yz.mp z
  exact lx _ (ar c hc s hs) (of_decide_eq_true e)
 have hw:∀t,wt (ns++[x]) r ah t=wt ns r aa t+if x=t then 4 else 0:=λt=>by
  unfold wt
  rw[Qp,List.sum_append,Ql,Ji,Zl,List.sum_nil]
  congr 1
  ·exact zcc λz hz=>by rw[hl z hz]
  ·rw[br,pd];simp
 refine⟨?_,λy hy=>C.ro y λz=>hy (Qn _ z),C.rn,C.ir,C.sy,C.cf,C.cm,C.cy,λy hy=>?_,λy z hz=>?_,λy hy z hz e=>?_,λy hy=>?_⟩
 ·rw [Za]
  exact⟨C.nd,Qr.mpr ⟨by simp,Zh⟩,λa ha b hb=>by rw[Qb.mp hb];exact ne ha⟩
 ·rcases Qf.mp hy with h | h
  ·rw[hl y h];exact Qn _ (C.ln y h)
  ·rw[Qb.mp h,br];exact Qo _ Qc
 ·rw[hl _ (C.inn' hz),hl _ (C.inn hz)];exact C.la y z hz
 ·rcases Qf.mp hy with h | h <;> rcases Qf.mp hz with g | g
  ·rw[hl _ h,hl _ g]at e;exact C.co y h z g e
  ·rw [hl _ h,Qb.mp g,br] at e
   exact absurd e (lx y h)
  ·rw [hl _ g,Qb.mp h,br] at e
   exact absurd e.symm (lx z g)
  ·rw[Qb.mp h,Qb.mp g];exact .refl
 ·rw [lh,hw]
  rcases Qf.mp hy with h | h
  ·rw [hl _ h,if_neg (fun z=>lx y h z.symm)]
   have:=C.eu y h;lia
  ·rw [Qb.mp h,br,if_pos rfl,tG]
   have:wt ns r aa x=0:=zdi λz hz=>if_neg (lx z hz)
   rw[this];rfl
end
section
variable{β:Type}
def zib{f g:β→β}{e s s':β}:∀{t:List β},g s'=f s→(∀y∈t,g y=f y)→Lk f s t e→Lk g s' t e:=by
 intro t
 cases t with
 |nil=>intro h _ k;exact h.trans k
 |cons a t =>
  intro h hh k
  exact⟨h.trans k.1,lk_congr (λy hy=>hh y (Qe.mpr hy)) k.2⟩
def lk_lab{γ:Type}{f:β→β}{lb:β→γ}{e:β}:∀{t:List β} {s:β},(∀y,y=s∨y∈t→lb (f y)=lb y)→Lk f s t e→∀y∈t,lb y=lb s:=by
 intro t
 induction t with
 |nil=>intro s _ _ y hy;cases hy
 | cons a t ih =>
  intro s h k y hy
  have ha:lb a=lb s:=by rw[←k.1];exact h s (.inl rfl)
  rcases Qe.mp hy with z | z
  ·rw[z];exact ha
  ·rw [← ha]
   exact ih (λy hy=>h y (.inr (Qe.mpr hy))) k.2 y z
def zh3{l m:List Int}(h:l.Perm m):l.sum=m.sum:=by
 induction h with
 |nil=>rfl
 |cons x _ ih=>rw[Zl,Zl,ih]
 |swap x y l=>rw[Zl,Zl,Zl,Zl];omega
 |trans _ _ a b=>exact a.trans b
end
section
variable{α:Type}[DecidableEq α]{ns:List α}{r r':α→List α}{cs:List (List (α×α))}{aa ah:α→α}
def ct_perm{cs':List (List (α×α))}(h:cs.Perm cs')(t:α):ct cs aa t=ct cs' aa t:=zh3 (h.map _)
def zde(c:List (α×α))(t:α):ct (c::cs) aa t=(if(c.any λs=>decide (aa s.1=t))=true then(2:Int) else 0)+ct cs aa t:=by
 unfold ct;rw[List.map_cons,List.sum_cons]
def Cert.one_lab(C:Cert ns r cs aa){c:List (α×α)}(hc:c∈cs){s u:α×α}(hs:s∈c)(hu:u∈c):aa u.1=aa s.1:=by
 obtain⟨A,B,rfl⟩:=Yp hs
 have k:=zc1 (C.cy _ hc)
 have hl:∀y,y=s∨y∈B++A→aa (st r y).1=aa y.1:=λy hy=>by
  have fB:y∈A++s::B:=by
   rcases hy with z | z
   ·rw[z];exact hs
   ·rcases Qf.mp z with q | q
    ·exact Qo _ (Qg _ q)
    ·exact Qn _ q
  exact(C.la _ _ (C.inc hc fB)).symm
 rcases Qf.mp hu with z | z
 ·exact lk_lab (lb:=λy:α×α=>aa y.1) hl k u (Qo _ z)
 ·rcases Qe.mp z with q | q
  ·rw[q]
  ·exact lk_lab (lb:=λy:α×α=>aa y.1) hl k u (Qn _ q)
def zdg{c:List (α×α)}{t u:α}(h:∀s∈c,aa s.1=u)(az:c≠[]):(c.any λs=>decide (aa s.1=t))=decide (u=t):=by
 rw[Wl,Yz,decide_eq_true_iff]
 constructor
 ·rintro⟨s,hs,e⟩;rw[←h s hs];exact of_decide_eq_true e
 ·intro e
  cases c with
  |nil=>exact absurd rfl az
  |cons s _=>exact⟨s,Qc,decide_eq_true ((h s Qc).trans e)⟩
def zb1{c:List (α×α)}(hc:c∈cs):cs.flatten.Perm (c++(cs.erase c).flatten):=by
 have:=List.Perm.flatten (Jq hc)
 rwa[Yy]at this
def zfb(C:Cert ns r cs aa){p x:α}(hp:p∈ns)(hx:x∉ns){cs':List (List (α×α))}(h1:r' x=[p])(h3:∀ y,y≠x→y≠p→r' y=r y)(hm:∀ w,w∈r' p↔w=x∨w∈r p)(hn:(r' p).Nodup)(af:(r' p).length=(r p).length+1)(hl:∀y∈ns,ah y=aa y)(br:ah x=aa p)(hc:cs'.flatten.Nodup∧(∀s,s∈cs'.flatten↔s.1∈r' s.2)∧∀c∈cs',Cyc (st r') c)(lh:∀t,ct cs' ah t=ct cs aa t+if aa p=t then(if r p=[] then 2 else 0) else 0):Cert (ns++[x]) r' cs' ah:=by
 have eG:p≠x:=λe=>hx (e▸hp)
 have pd:r x=[]:=C.ro x hx
 have ne:∀{y},y∈ns→y≠x:=λ{y} hy e=>hx (e▸hy)
 have sub:∀z y,y∈r z→y∈r' z:=λz y hy=>by
  by_cases hz:z=p
  ·rw[hz]at hy ⊢;exact(hm y).mpr (.inr hy)
  ·rw[h3 z (ne (C.inn hy)) hz];exact hy
 have hw:∀t,wt (ns++[x]) r' ah t=wt ns r aa t-if aa p=t then(if r p=[] then 2 else 0) else 0:=λt=>by
  unfold wt
  rw[Qp,List.sum_append,Ql,Ji,Zl,List.sum_nil,br,h1]
  have e1:(ns.map λy=>if ah y=t then(2:Int)+(if r' y=[] then 2 else 0)-((r' y).length:Int) else 0).sum=(ns.map λy=>if aa y=t then(2:Int)+(if r' y=[] then 2 else 0)-((r' y).length:Int) else 0).sum :=
   zcc λy hy=>by rw[hl y hy]
  rw[e1,zer (g:=λy=>if aa y=t then(2:Int)+(if r y=[] then 2 else 0)-((r y).length:Int) else 0) C.nd hp (λy hy aX=>by rw[h3 y (ne hy) aX])]
  have az:r' p≠[]:=λe=>by rw[e]at af;simp at af
  by_cases ht:aa p=t
  ·simp only [ht,if_true,az,if_false,af]
   by_cases gD:r p=[]
   ·simp[gD];omega
   ·simp[gD];omega
  ·simp only[ht,if_false];omega
 refine⟨?_,λy hy=>?_,λy=>?_,λy=>?_,λy z hz=>?_,hc.1,hc.2.1,hc.2.2,λy hy=>?_,λy z hz=>?_,λy hy z hz e=>?_,λy hy=>?_⟩
 ·rw [Za]
  exact⟨C.nd,Qr.mpr ⟨by simp,Zh⟩,λa ha b hb=>by rw[Qb.mp hb];exact ne ha⟩
 ·rw [Qf,not_or,Qb] at hy
  rw[h3 y hy.2 (λe=>hy.1 (e▸hp))];exact C.ro y hy.1
 ·by_cases dM:y=x
  ·rw[dM,h1];exact Qr.mpr ⟨by simp,Zh⟩
  ·by_cases aX:y=p
   ·rw[aX];exact hn
   ·rw[h3 y dM aX];exact C.rn y
 ·by_cases dM:y=x
  ·rw[dM,h1,Qb];exact Zb eG
  ·by_cases aX:y=p
   ·rw[aX,hm,not_or];exact⟨eG,C.ir p⟩
   ·rw[h3 y dM aX];exact C.ir y
 ·by_cases dM:y=x
  ·rw [dM,h1,Qb] at hz
   rw[hz,dM];exact(hm x).mpr (.inl rfl)
  ·by_cases aX:y=p
   ·rw [aX] at hz ⊢
    rcases(hm z).mp hz with q | q
    ·rw[q,h1];exact Qc
    ·exact sub z p (C.sy p z q)
   ·rw [h3 y dM aX] at hz
    exact sub z y (C.sy y z hz)
 ·rcases Qf.mp hy with h | h
  ·rw[hl y h];exact Qn _ (C.ln y h)
  ·rw[Qb.mp h,br];exact Qn _ (C.ln p hp)
 ·by_cases dM:y=x
  ·rw [dM,h1,Qb] at hz
   rw[hz,dM,br,hl p hp]
  ·by_cases aX:y=p
   ·rw [aX] at hz ⊢
    rcases(hm z).mp hz with q | q
    ·rw[q,br,hl p hp]
    ·rw[hl _ (C.inn' q),hl p hp];exact C.la p z q
   ·rw [h3 y dM aX] at hz
    rw[hl _ (C.inn' hz),hl _ (C.inn hz)];exact C.la y z hz
 ·have xp:Conn r' x p:=.step .refl (by rw [h1];exact Qc)
  rcases Qf.mp hy with h | h<;>rcases Qf.mp hz with g | g
  ·rw[hl _ h,hl _ g]at e;exact(C.co y h z g e).mono sub
  ·rw [hl _ h,Qb.mp g,br] at e
   rw[Qb.mp g]
   exact .step ((C.co y h p hp e).mono sub) ((hm x).mpr (.inl rfl))
  ·rw [hl _ g,Qb.mp h,br] at e
   rw[Qb.mp h]
   exact xp.trans ((C.co p hp z g e).mono sub)
  ·rw[Qb.mp h,Qb.mp g];exact .refl
 ·have key:∀ u∈ns,wt (ns++[x]) r' ah (aa u)+ct cs' ah (aa u)=4:=fun u hu=>by
   rw[hw,lh]
   have:=C.eu u hu;omega
  rcases Qf.mp hy with h | h
  ·rw[hl _ h];exact key y h
  ·rw[Qb.mp h,br];exact key p hp
end
section
variable{α:Type}[DecidableEq α]{ns:List α}{r r':α→List α}{cs:List (List (α×α))}{aa ah:α→α}
def zh8(p:α):nxt [p] p=p:=by
 unfold nxt
 simp
def leaf_mem(C:Cert ns r cs aa){p x:α}(hp:p∈ns)(hx:x∉ns)(h1:r' x=[p])(h3:∀ y,y≠x→y≠p→r' y=r y)(hm:∀ w,w∈r' p↔w=x∨w∈r p) :
  ∀s:α×α,s.1∈r' s.2↔s∈[(x,p),(p,x)]∨s.1∈r s.2:=λs=>by
 obtain⟨a,b⟩:=s
 have eG:p≠x:=λe=>hx (e▸hp)
 show a∈r' b↔(a,b)∈[(x,p),(p,x)]∨a∈r b
 rw[Qe,Qb,Prod.mk.injEq,Prod.mk.injEq]
 by_cases pI:b=x
 ·subst pI
  rw[h1,C.ro b hx,Qb]
  constructor
  ·intro e;exact .inl (.inr ⟨e,rfl⟩)
  ·rintro ((⟨_,e⟩ | ⟨e,_⟩) | e)
   ·exact absurd e.symm eG
   ·exact e
   ·cases e
 ·by_cases jb:b=p
  ·subst jb
   rw[hm]
   constructor
   ·rintro (e | e)
    ·exact .inl (.inl ⟨e,rfl⟩)
    ·exact .inr e
   ·rintro ((⟨e,_⟩ | ⟨_,e⟩) | e)
    ·exact .inl e
    ·exact absurd e pI
    ·exact .inr e
  ·rw [h3 b pI jb]
   constructor
   ·exact .inr
   ·rintro ((⟨_,e⟩ | ⟨_,e⟩) | e)
    ·exact absurd e jb
    ·exact absurd e pI
    ·exact e
def leaf_nd{p x:α}(eG:p≠x):([(x,p),(p,x)]:List (α×α)).Nodup:=by
 rw[Qr,Qb]
 exact⟨λe=>eG (Uq e).1.symm,Qr.mpr ⟨by simp,Zh⟩⟩
def leaf_no(C:Cert ns r cs aa){p x:α}(hx:x∉ns):∀s∈([(x,p),(p,x)]:List (α×α)),s.1∉r s.2:=λs hs h=>by
 rcases Qe.mp hs with e | e
 ·rw[e]at h;exact hx (C.inn' h)
 ·rw[Qb.mp e]at h;exact hx (C.inn h)
def cert_leaf0(C:Cert ns r cs aa){p x:α}(hp:p∈ns)(hx:x∉ns)(pe:r p=[])(h1:r' x=[p])(h2:r' p=[x])(h3:∀ y,y≠x→y≠p→r' y=r y)(hl:∀ y∈ns,ah y=aa y)(br:ah x=aa p) :
  Cert (ns++[x]) r' ([(x,p),(p,x)]::cs) ah:=by
 have eG:p≠x:=λe=>hx (e▸hp)
 have hm:∀w,w∈r' p↔w=x∨w∈r p:=λw=>by rw[h2,pe,Qb];simp
 refine zfb C hp hx h1 h3 hm (by rw[h2];exact Qr.mpr ⟨by simp,Zh⟩) (by rw[h2,pe];rfl) hl br ?_ λt=>?_
 ·refine zik (N:=[[(x,p),(p,x)]]) (R:=cs) (c0:=[]) (news:=[(x,p),(p,x)]) C (fun c h=>h) (by rw [Jv]) (by simp) (leaf_nd eG) (leaf_no C hx) (leaf_mem C hp hx h1 h3 hm) (fun c hc=>?_) fun s hs _=>?_
  ·rw [Qb.mp hc]
   refine⟨(x,p),[(p,x)],rfl,?_,?_⟩
   ·show (p,nxt (r' p) x)=(p,x)
    rw[h2,zh8]
   ·show (x,nxt (r' x) p)=(x,p)
    rw[h1,zh8]
  ·have r6:s.2≠x:=fun e=>hx (e ▸ C.inn hs)
   have c8:s.2≠p:=λe=>by rw[e,pe]at hs;cases hs
   unfold st;rw[h3 s.2 r6 c8]
 ·rw [zde,zdg (u:=aa p) (fun s hs=>?_) (by simp)]
  ·have:ct cs ah t=ct cs aa t:=ct_lab fun c hc s hs=>hl _ (C.inn' (C.inc hc hs))
   rw[this]
   simp only[decide_eq_true_eq,pe,if_true]
   lia
  ·rcases Qe.mp hs with e | e
   ·rw[e];exact br
   ·rw[Qb.mp e];exact hl p hp
def cert_leaf(C:Cert ns r cs aa){p x c:α}(hp:p∈ns)(hx:x∉ns)(hc:c∈r p)(h1:r' x=[p])(h2:r' p=ins (r p) (some c) x)(h3:∀ y,y≠x→y≠p→r' y=r y)(hl:∀ y∈ns,ah y=aa y)(br:ah x=aa p) :
  ∃cs',Cert (ns++[x]) r' cs' ah:=by
 have eG:p≠x:=λe=>hx (e▸hp)
 have iP:x∉r p:=λh=>hx (C.inn' h)
 have hm:∀w,w∈r' p↔w=x∨w∈r p:=λw=>by rw[h2];exact zd3 hc (C.rn p)
 obtain⟨c1,bv,dE⟩:=Zu.mp ((C.cm (c,p)).mpr hc)
 obtain⟨A,B,gP⟩:=Yp dE
 have k:=zc1 (gP▸C.cy c1 bv)
 have old:∀y∈c1,y.1∈r y.2:=λy hy=>C.inc bv hy
 have nd1:c1.Nodup:=by
  have:=(zb1 bv).nodup_iff.mp C.cf
  rw[Za]at this
  exact this.1
 have aq:∀s:α×α,s.1∈r s.2→s≠(c,p)→st r' s=st r s:=λs hs az=>by
  have r6:s.2≠x:=λe=>hx (e▸C.inn hs)
  by_cases c8:s.2=p
  ·unfold st
   rw[c8,h2]
   rw[c8]at hs
   rw[zda hc (C.rn p) iP hs (λe=>az (Ux e c8))]
  ·unfold st;rw[h3 s.2 r6 c8]
 have inBA:∀y∈B++A,y∈c1∧y≠(c,p):=λy hy=>by
  rw[gP]at nd1 ⊢
  rw[Za,Qr]at nd1
  rcases Qf.mp hy with z | z
  ·exact⟨Qo _ (Qg _ z),λe=>nd1.2.1.1 (e▸z)⟩
  ·exact⟨Qn _ z,λe=>nd1.2.2 y z (c,p) Qc e⟩
 refine⟨[(c,p)::(p,x)::(x,p)::(B++A)]++cs.erase c1,zfb C hp hx h1 h3 hm (by rw[h2];exact nd_ins hc (C.rn p) iP) (by rw[h2];exact zic hc (C.rn p)) hl br ?_ λt=>?_⟩
 ·refine zik (c0:=c1) (news:=[(x,p),(p,x)]) C (fun c h=>Uc h) (zb1 bv) ?_ (leaf_nd eG) (leaf_no C hx) (leaf_mem C hp hx h1 h3 hm) (fun c' bV=>?_) fun s hs hn=>aq s hs fun e=>hn (e ▸ dE)
  ·rw [gP]
   refine Jy.mpr λa=>?_
   simp only[Yy,List.flatten_nil,Zt,Ki,Ky,List.count_nil]
   lia
  ·rw [Qb.mp bV]
   refine⟨(c,p),_,rfl,?_,?_,zib (f:=st r) (s:=(c,p)) ?_ (λy hy=>aq y (old y (inBA y hy).1) (inBA y hy).2) k⟩
   ·show (p,nxt (r' p) c)=(p,x)
    rw[h2,zeh hc (C.rn p)]
   ·show (x,nxt (r' x) p)=(x,p)
    rw[h1,zh8]
   ·show (p,nxt (r' p) x)=(p,nxt (r p) c)
    rw[h2,zf5 hc (C.rn p) iP]
 ·have az:r p≠[]:=Jd hc
  have e2:ct cs aa t=ct (c1::cs.erase c1) aa t:=ct_perm (Jq bv) t
  have e3:ct (cs.erase c1) ah t=ct (cs.erase c1) aa t:=ct_lab λc h s hs=>hl _ (C.inn' (C.inc (Uc h) hs))
  have lc:∀s∈c1,aa s.1=aa p:=λs hs=>(C.one_lab bv dE hs).trans (C.la p c hc)
  rw[e2,zde,Xd,zde,e3,zdg (u:=aa p) lc (Jd dE),zdg (u:=aa p) (λs hs=>?_) (by simp),if_neg az]
  ·simp
  ·rcases Qe.mp hs with e | hs
   ·rw[e];exact(hl _ (C.inn' hc)).trans (C.la p c hc)
   ·rcases Qe.mp hs with e | hs
    ·rw[e];exact hl p hp
    ·rcases Qe.mp hs with e | hs
     ·rw[e];exact br
     ·rw[hl _ (C.inn' (old s (inBA s hs).1))];exact lc s (inBA s hs).1
def cert_tie(C:Cert ns r cs aa){p c a o:α}{c1:List (α×α)}(bv:c1∈cs)(dE:(c,p)∈c1)(dP:(a,o)∈c1)(l9:o≠p)(bQ:o∉r p)(h1:r' p=ins (r p) (some c) o)(h2:r' o=ins (r o) (some a) p)(h3:∀ y,y≠p→y≠o→r' y=r y) :
  ∃cs',Cert ns r' cs' aa:=by
 have hc:c∈r p:=C.inc bv dE
 have ha:a∈r o:=C.inc bv dP
 have hp:p∈ns:=C.inn hc
 have ho:o∈ns:=C.inn ha
 have pj:p∉r o:=λh=>bQ (C.sy o p h)
 have lf:∀w,w∈r' p↔w=o∨w∈r p:=λw=>by rw[h1];exact zd3 hc (C.rn p)
 have cx:∀w,w∈r' o↔w=p∨w∈r o:=λw=>by rw[h2];exact zd3 ha (C.rn o)
 have fT:aa o=aa p:=by
  rw[←C.la o a ha,←C.la p c hc];exact C.one_lab bv dE dP
 obtain⟨A,B,gP⟩:=Yp dE
 have k:=zc1 (gP▸C.cy c1 bv)
 have old:∀y∈c1,y.1∈r y.2:=λy hy=>C.inc bv hy
 have nd1:c1.Nodup:=by
  have:=(zb1 bv).nodup_iff.mp C.cf
  rw[Za]at this
  exact this.1
 have rC:(a,o)∈B++A:=by
  rw[gP]at dP
  rcases Qf.mp dP with z | z
  ·exact Qo _ z
  ·rcases Qe.mp z with q | q
   ·exact absurd (Uq q).2 l9
   ·exact Qn _ q
 obtain⟨A2,B2,om⟩:=Yp rC
 rw[om]at k
 obtain⟨k1,k2⟩:=lk_app.mp k
 have pm:c1.Perm ((c,p)::(A2++(a,o)::B2)):=by
  rw[gP,←om]
  refine Jy.mpr λa=>?_
  simp only[Ki,Ky]
  lia
 have eZ:=pm.nodup_iff.mp nd1
 rw[Qr,Za,Qr]at eZ
 obtain⟨n1,n2,⟨n3,n4⟩,n5⟩:=eZ
 have inA:∀y∈A2,y∈c1∧y≠(c,p)∧y≠(a,o):=λy hy=>⟨pm.mem_iff.mpr (Qg _ (Qn _ hy)),λe=>n1 (e▸Qn _ hy),λe=>n5 y hy (a,o) Qc e⟩
 have inB:∀y∈B2,y∈c1∧y≠(c,p)∧y≠(a,o):=λy hy=>⟨pm.mem_iff.mpr (Qg _ (Qo _ (Qg _ hy))),λe=>n1 (e▸Qo _ (Qg _ hy)),λe=>n3 (e▸hy)⟩
 have aq:∀s:α×α,s.1∈r s.2→s≠(c,p)→s≠(a,o)→st r' s=st r s:=λs hs gE bm=>by
  by_cases c8:s.2=p
  ·unfold st
   rw[c8,h1]
   rw[c8]at hs
   rw[zda hc (C.rn p) bQ hs (λe=>gE (Ux e c8))]
  ·by_cases iR:s.2=o
   ·unfold st
    rw[iR,h2]
    rw[iR]at hs
    rw[zda ha (C.rn o) pj hs (λe=>bm (Ux e iR))]
   ·unfold st;rw[h3 s.2 c8 iR]
 have sub:∀z y,y∈r z→y∈r' z:=λz y hy=>by
  by_cases hz:z=p
  ·rw[hz]at hy ⊢;exact(lf y).mpr (.inr hy)
  ·by_cases fk:z=o
   ·rw[fk]at hy ⊢;exact(cx y).mpr (.inr hy)
   ·rw[h3 z hz fk];exact hy
 have hmem:∀s:α×α,s.1∈r' s.2↔s∈[(o,p),(p,o)]∨s.1∈r s.2:=λs=>by
  obtain⟨u,b⟩:=s
  show u∈r' b↔(u,b)∈[(o,p),(p,o)]∨u∈r b
  rw[Qe,Qb,Prod.mk.injEq,Prod.mk.injEq]
  by_cases jb:b=p
  ·subst jb
   rw[lf]
   constructor
   ·rintro (e | e)
    ·exact .inl (.inl ⟨e,rfl⟩)
    ·exact .inr e
   ·rintro ((⟨e,_⟩ | ⟨_,e⟩) | e)
    ·exact .inl e
    ·exact absurd e.symm l9
    ·exact .inr e
  ·by_cases tJ:b=o
   ·subst tJ
    rw[cx]
    constructor
    ·rintro (e | e)
     ·exact .inl (.inr ⟨e,rfl⟩)
     ·exact .inr e
    ·rintro ((⟨_,e⟩ | ⟨e,_⟩) | e)
     ·exact absurd e jb
     ·exact .inl e
     ·exact .inr e
   ·rw [h3 b jb tJ]
    constructor
    ·exact .inr
    ·rintro ((⟨_,e⟩ | ⟨_,e⟩) | e)
     ·exact absurd e jb
     ·exact absurd e tJ
     ·exact e
 have nnd:([(o,p),(p,o)]:List (α×α)).Nodup:=by
  rw[Qr,Qb]
  exact⟨λe=>l9 (Uq e).1,Qr.mpr ⟨by simp,Zh⟩⟩
 have dY:=zik (N:=[(c,p)::(p,o)::B2,(a,o)::(o,p)::A2]) (R:=cs.erase c1) (c0:=c1) (news:=[(o,p),(p,o)]) (r':=r') C (λc h=>Uc h) (zb1 bv) (by
   refine List.Perm.trans ?_ (Ya _ pm.symm)
   refine Jy.mpr λa=>?_
   simp only[Yy,List.flatten_nil,Zt,Ki,Ky,List.count_nil]
   lia) nnd (λs hs h=>by
    rcases Qe.mp hs with e | e
    ·rw[e]at h;exact bQ h
    ·rw[Qb.mp e]at h;exact pj h) hmem (λc' bV=>by
   rcases Qe.mp bV with e | e
   ·rw [e]
    refine⟨(c,p),_,rfl,?_,zib (f:=st r) (s:=(a,o)) ?_ (λy hy=>aq y (old y (inB y hy).1) (inB y hy).2.1 (inB y hy).2.2) k2⟩
    ·show (p,nxt (r' p) c)=(p,o)
     rw[h1,zeh hc (C.rn p)]
    ·show (o,nxt (r' o) p)=(o,nxt (r o) a)
     rw[h2,zf5 ha (C.rn o) pj]
   ·rw [Qb.mp e]
    refine⟨(a,o),_,rfl,?_,zib (f:=st r) (s:=(c,p)) ?_ (λy hy=>aq y (old y (inA y hy).1) (inA y hy).2.1 (inA y hy).2.2) k1⟩
    ·show (o,nxt (r' o) a)=(o,p)
     rw[h2,zeh ha (C.rn o)]
    ·show (p,nxt (r' p) o)=(p,nxt (r p) c)
     rw[h1,zf5 hc (C.rn p) bQ]) λs hs hn=>aq s hs (λe=>hn (e▸dE)) λe=>hn (e▸dP)
 refine⟨_,C.nd,λy hy=>?_,λy=>?_,λy=>?_,λy z hz=>?_,dY.1,dY.2.1,dY.2.2,C.ln,λy z hz=>?_,λy hy z hz e=>(C.co y hy z hz e).mono sub,λy hy=>?_⟩
 ·rw[h3 y (λe=>hy (e▸hp)) (λe=>hy (e▸ho))];exact C.ro y hy
 ·by_cases aX:y=p
  ·rw[aX,h1];exact nd_ins hc (C.rn p) bQ
  ·by_cases fA:y=o
   ·rw[fA,h2];exact nd_ins ha (C.rn o) pj
   ·rw[h3 y aX fA];exact C.rn y
 ·by_cases aX:y=p
  ·rw[aX,lf,not_or];exact⟨Zb l9,C.ir p⟩
  ·by_cases fA:y=o
   ·rw[fA,cx,not_or];exact⟨l9,C.ir o⟩
   ·rw[h3 y aX fA];exact C.ir y
 ·by_cases aX:y=p
  ·rw [aX] at hz ⊢
   rcases(lf z).mp hz with q | q
   ·rw[q];exact(cx p).mpr (.inl rfl)
   ·exact sub z p (C.sy p z q)
  ·by_cases fA:y=o
   ·rw [fA] at hz ⊢
    rcases(cx z).mp hz with q | q
    ·rw[q];exact(lf o).mpr (.inl rfl)
    ·exact sub z o (C.sy o z q)
   ·rw [h3 y aX fA] at hz
    exact sub z y (C.sy y z hz)
 ·by_cases aX:y=p
  ·rw [aX] at hz ⊢
   rcases(lf z).mp hz with q | q
   ·rw[q];exact fT
   ·exact C.la p z q
  ·by_cases fA:y=o
   ·rw [fA] at hz ⊢
    rcases(cx z).mp hz with q | q
    ·rw[q];exact fT.symm
    ·exact C.la o z q
   ·rw [h3 y aX fA] at hz
    exact C.la y z hz
 ·have e2:ct cs aa (aa y)=ct (c1::cs.erase c1) aa (aa y):=ct_perm (Jq bv) _
  have lc:∀s∈c1,aa s.1=aa p:=λs hs=>(C.one_lab bv dE hs).trans (C.la p c hc)
  have l1:∀s∈(c,p)::(p,o)::B2,aa s.1=aa p:=λs hs=>by
   rcases Qe.mp hs with e | hs
   ·rw[e];exact C.la p c hc
   ·rcases Qe.mp hs with e | hs
    ·rw[e]
    ·exact lc s (inB s hs).1
  have l2:∀s∈(a,o)::(o,p)::A2,aa s.1=aa p:=λs hs=>by
   rcases Qe.mp hs with e | hs
   ·rw[e];exact(C.la o a ha).trans fT
   ·rcases Qe.mp hs with e | hs
    ·rw[e];exact fT
    ·exact lc s (inA s hs).1
  have lh:ct ([(c,p)::(p,o)::B2,(a,o)::(o,p)::A2]++cs.erase c1) aa (aa y)=ct cs aa (aa y)+if aa p=aa y then 2 else 0:=by
   rw[e2,zde,Uu,zde,Uu,zde,Jv,zdg lc (Jd dE),zdg l1 (by simp),zdg l2 (by simp)]
   simp only[decide_eq_true_eq]
   split<;>lia
  have hw:wt ns r' aa (aa y)=wt ns r aa (aa y)-if aa p=aa y then 2 else 0:=by
   have aE:∀{zs:List α} {w n:α},w∈zs→zs.Nodup→ins zs (some w) n≠[]:=λ{zs w n} hw nd e=>by
    have:=zic (n:=n) hw nd
    rw[e]at this;simp at this
   unfold wt
   have s1:=zer (g:=λx=>if aa x=aa y then(2:Int)+(if r x=[] then 2 else 0)-((r x).length:Int) else 0)
    (g':=λx=>if x=p then(if aa p=aa y then(2:Int)+(if r' p=[] then 2 else 0)-((r' p).length:Int) else 0) else if aa x=aa y then(2:Int)+(if r x=[] then 2 else 0)-((r x).length:Int) else 0) C.nd hp (λx _ hx=>if_neg hx)
   have s2:=zer (g:=λx=>if x=p then(if aa p=aa y then(2:Int)+(if r' p=[] then 2 else 0)-((r' p).length:Int) else 0) else if aa x=aa y then(2:Int)+(if r x=[] then 2 else 0)-((r x).length:Int) else 0)
    (g':=fun x=>if aa x=aa y then (2:Int)+(if r' x=[] then 2 else 0) - ((r' x).length:Int) else 0) C.nd ho (fun x _ hx=>by
     by_cases iP:x=p
     ·rw[if_pos iP,iP]
     ·rw[if_neg iP,h3 x iP hx])
   rw[s2,s1]
   simp only[if_true,l9,if_false,fT,h1,h2,aE hc (C.rn p),aE ha (C.rn o),zic hc (C.rn p),zic ha (C.rn o),Jd hc,Jd ha]
   by_cases ht:aa p=aa y
   ·simp only[ht,if_true];lia
   ·simp only[ht,if_false];lia
  rw[lh,hw]
  have:=C.eu y hy
  lia
end
section
variable{α:Type}[DecidableEq α]
def Good(rs:Rs α):Prop:=∃cs aa,Cert (rs.map (·.1)) (row rs) cs aa
def zih{β:Type}{f:β→β}{c:List β}(h:Cyc f c){s:β}(hs:s∈c):f s∈c:=by
 obtain⟨A,B,rfl⟩:=Yp hs
 have k:=zc1 h
 cases e:B++A with
 |nil =>
  rw[e]at k
  rw[show f s=s from k];exact hs
 |cons a t =>
  rw[e]at k
  rw[k.1]
  have:a∈B++A:=by rw[e];exact Qc
  rcases Qf.mp this with z | z
  ·exact Qo _ (Qg _ z)
  ·exact Qn _ z
variable{rs:Rs α}
def zc9(nd:(rs.map (·.1)).Nodup){p:α×List α}(h:p∈rs):row rs p.1=p.2:=by
 unfold row
 induction rs with
 |nil=>cases h
 | cons a t ih =>
  rw[Ql,Qr]at nd
  rcases Qe.mp h with z | z
  ·subst z;rw[We (by simp)];rfl
  ·rw [Wf]
   ·exact ih nd.2 z
   ·intro q
    exact nd.1 (by rw[of_decide_eq_true q];exact Qh.mpr ⟨p,z,rfl⟩)
def zeu{x:α}(h:x∉rs.map (·.1)):row rs x=[]:=by
 unfold row
 rw[List.find?_eq_none.mpr]
 ·rfl
 ·intro p hp q
  exact h (of_decide_eq_true q▸Qh.mpr ⟨p,hp,rfl⟩)
def zbx(nd:(rs.map (·.1)).Nodup){s:α×α}:IsSt rs s↔s.1∈row rs s.2:=by
 constructor
 ·rintro ⟨p,hp,e,h⟩
  rw[←e,zc9 nd hp];exact h
 ·intro h
  by_cases hx:s.2∈rs.map (·.1)
  ·obtain ⟨p,hp,e⟩:=Qh.mp hx
   have e':p.1=s.2:=e
   rw[←e',zc9 nd hp]at h
   exact⟨p,hp,e',h⟩
  ·rw[zeu hx]at h;cases h
def zbb(x:α)(rr:List α):(za0 rs x rr).map (·.1)=rs.map (·.1):=by
 unfold za0
 rw[Zi]
 refine Wi λp _=>?_
 show(if p.1=x then(p.1,rr) else p).1=p.1
 split<;>rfl
def za8{x:α}{rr:List α}(h:x∈rs.map (·.1)):row (za0 rs x rr) x=rr:=by
 unfold row za0
 induction rs with
 |nil=>cases h
 | cons a t ih =>
  rw[Ql]
  by_cases hx:a.1=x
  ·rw[if_pos hx,We (by simpa using hx)];rfl
  ·rw [if_neg hx,Wf (by simpa using hx)]
   refine ih ?_
   rw[Ql]at h
   rcases Qe.mp h with z | z
   ·exact absurd z.symm hx
   ·exact z
def za7{x y:α}{rr:List α}(h:y≠x):row (za0 rs x rr) y=row rs y:=by
 unfold row za0
 induction rs with
 |nil=>rfl
 | cons a t ih =>
  rw[Ql]
  by_cases hy:a.1=y
  ·have hx:a.1≠x:=fun e=>h (hy ▸ e)
   rw[if_neg hx,We (by simpa using hy),We (by simpa using hy)]
  ·have h1:(if a.1=x then (a.1,rr) else a).1=a.1:=by split <;> rfl
   rw[Wf (by rw[h1];simpa using hy),Wf (by simpa using hy)]
   exact ih
def zhy{x:α}(h:x∉rs.map (·.1)):row (rs++[(x,[])])=row rs:=by
 funext y
 unfold row
 rw[List.find?_append]
 cases e:rs.find? λp=>decide (p.1=y) with
 |some p=>rfl
 |none =>
  rw[Option.none_or]
  by_cases hy:x=y
  ·rw[We (by simpa using hy)];rfl
  ·rw[Wf (by simpa using hy)];rfl
theorem za4:Gen (Good (α:=α)) where
 clo:=λrs ⟨cs,aa,C⟩ s hs=>by
  obtain⟨c,hc,h⟩:=Zu.mp ((C.cm s).mpr ((zbx C.nd).mp hs))
  exact(zbx C.nd).mpr ((C.cm _).mp (Zu.mpr ⟨c,hc,zih (C.cy c hc) h⟩))
 nd:=λrs ⟨cs,aa,C⟩=>C.nd
 sub:=λrs ⟨cs,aa,C⟩ p hp=>by
  have e:=zc9 C.nd hp
  exact⟨e▸C.rn p.1,λx hx=>C.inn' (x:=p.1) (by rw[e];exact hx)⟩
 sy:=λrs ⟨cs,aa,C⟩ p hp x hx=>C.sy p.1 x (by rw[zc9 C.nd hp];exact hx)
 nil:=by
  refine⟨[],id,⟨Zh,λ_ _=>rfl,λ_=>Zh,λ_ h=>?_,λ_ _ h=>?_,Zh,λs=>⟨λh=>?_,λh=>?_⟩,λc h=>?_,λ_ h=>?_,λ_ _ h=>?_,λ_ h=>?_,λ_ h=>?_⟩⟩
  ·exact absurd h (by simp[row])
  ·exact absurd h (by simp[row])
  ·cases h
  ·exact absurd h (by simp[row])
  ·cases h
  ·cases h
  ·exact absurd h (by simp[row])
  ·cases h
  ·cases h
 new:=λrs x ⟨cs,aa,C⟩ hx=>by
  refine⟨cs,λy=>if y=x then x else aa y,?_⟩
  rw[zhy hx,Qp]
  exact cert_new C hx (λy hy=>if_neg (λe:y=x=>hx (e▸hy))) (if_pos rfl)
 leaf:=λrs x p c ⟨cs,aa,C⟩ hx hp hc eS=>by
  have eI:p.1∈rs.map (·.1):=Qh.mpr ⟨p,hp,rfl⟩
  have eG:p.1≠x:=λe=>hx (e▸eI)
  have e0:(za0 (za0 (rs++[(x,[])]) p.1 (ins p.2 c x)) x [p.1]).map (·.1)=rs.map (·.1)++[x]:=by rw[zbb,zbb,Qp];rfl
  have qO:x∈(za0 (rs++[(x,[])]) p.1 (ins p.2 c x)).map (·.1):=by rw[zbb,Qp];exact Qo _ Qc
  have rN:p.1∈(rs++[(x,([]:List α))]).map (·.1):=by rw[Qp];exact Qn _ eI
  have r1:row (za0 (za0 (rs++[(x,[])]) p.1 (ins p.2 c x)) x [p.1]) x=[p.1]:=za8 qO
  have r2:row (za0 (za0 (rs++[(x,[])]) p.1 (ins p.2 c x)) x [p.1]) p.1=ins p.2 c x:=by rw[za7 eG,za8 rN]
  have r3:∀y,y≠x→y≠p.1→row (za0 (za0 (rs++[(x,[])]) p.1 (ins p.2 c x)) x [p.1]) y=row rs y:=λy h1 h2=>by rw[za7 h1,za7 h2,zhy hx]
  have er:=zc9 C.nd hp
  have hl:∀y∈rs.map (·.1),(λy=>if y=x then aa p.1 else aa y) y=aa y:=λy hy=>if_neg (λe:y=x=>hx (e▸hy))
  have br:(λy=>if y=x then aa p.1 else aa y) x=aa p.1:=if_pos rfl
  unfold Good
  rw[e0]
  cases c with
  |none =>
   have h0:=eS rfl
   refine⟨_,_,cert_leaf0 C eI hx (er.trans h0) r1 ?_ r3 hl br⟩
   rw[r2,h0];rfl
  |some y =>
   have hy:=hc y rfl
   obtain⟨cs',C'⟩:=cert_leaf C eI hx (c:=y) (by rw[er];exact hy) r1 (by rw[r2,er]) r3 hl br
   exact⟨cs',_,C'⟩
 tie:=λrs c p n ⟨cs,aa,C⟩ hp hc h1 h2=>by
  have er:=zc9 C.nd hp
  obtain⟨c1,bv,dE⟩:=Zu.mp ((C.cm (c,p.1)).mpr (by rw[er];exact hc))
  have dP:∀n,itr rs (c,p.1) n∈c1:=λn=>by
   induction n with
   |zero=>exact dE
   |succ n ih=>exact zih (C.cy c1 bv) ih
  have hV:=dP n
  generalize itr rs (c,p.1) n=q at h1 h2 hV
  have eI:p.1∈rs.map (·.1):=Qh.mpr ⟨p,hp,rfl⟩
  have hX:q.2∈rs.map (·.1):=C.inn (C.inc bv hV)
  unfold Good
  rw[zbb,zbb]
  obtain⟨cs',C'⟩:=cert_tie (r':=row (za0 (za0 rs p.1 (ins p.2 (some c) q.2)) q.2 (ins (row rs q.2) (some q.1) p.1))) C bv dE (a:=q.1) (o:=q.2) hV h1 (by rw[er];exact h2)
   (by rw[za7 (Zb h1),za8 eI,er]) (by rw[za8 (by rw[zbb];exact hX)]) (λy h3 h4=>by rw[za7 h4,za7 h3])
  exact⟨cs',aa,C'⟩
end
section
variable{α:Type}[DecidableEq α]{ns qq:List α}{r r':α→List α}{cs:List (List (α×α))}{aa:α→α}
def zfm(zs:List α)(k:Nat):(zs.drop k++zs.take k).Perm zs:=by
 refine Yx.trans ?_
 rw[Wa]
def cert_turn(C:Cert ns r cs aa)(hn:qq.Perm ns)(hr:∀x,∃k,r' x=(r x).drop k++(r x).take k):Cert qq r' cs aa:=by
 have hp:∀x,(r' x).Perm (r x):=λx=>by obtain⟨k,e⟩:=hr x;rw[e];exact zfm _ k
 have hm:∀{x y},y∈r' x↔y∈r x:=λ{x y}=>(hp x).mem_iff
 have aq:∀s:α×α,s.1∈r s.2→st r' s=st r s:=λs hs=>by
  obtain⟨k,e⟩:=hr s.2
  unfold st;rw[e,nxt_rot (C.rn _) k hs]
 have hw:∀t,wt qq r' aa t=wt ns r aa t:=λt=>by
  unfold wt
  rw[zh3 (hn.map _)]
  refine zcc λx _=>?_
  have h1:=(hp x).length_eq
  have h2:(r' x=[])=(r x=[]):=propext ⟨λe=>by rw[e]at h1;exact List.eq_nil_of_length_eq_zero h1.symm,λe=>by rw[e]at h1;exact List.eq_nil_of_length_eq_zero h1⟩
  simp only[h1,h2]
 refine⟨hn.nodup_iff.mpr C.nd,λx hx=>?_,λx=>(hp x).nodup_iff.mpr (C.rn x),λx h=>C.ir x (hm.mp h),λx y h=>hm.mpr (C.sy x y (hm.mp h)),C.cf,λs=>(C.cm s).trans hm.symm,λc hc=>?_,λx hx=>hn.mem_iff.mpr (C.ln x (hn.mem_iff.mp hx)),λx y h=>C.la x y (hm.mp h),λx hx y hy e=>?_,λx hx=>?_⟩
 ·have:=hp x
  rw[C.ro x (λz=>hx (hn.mem_iff.mpr z))]at this
  exact List.Perm.eq_nil this
 ·exact zem (λy hy=>aq y (C.inc hc hy)) (C.cy c hc)
 ·exact(C.co x (hn.mem_iff.mp hx) y (hn.mem_iff.mp hy) e).mono λ_ _ h=>hm.mpr h
 ·rw[hw];exact C.eu x (hn.mem_iff.mp hx)
end
end Wb
end
section
namespace K21
open PySem L2 Wb
abbrev sSteps:Stmt:=top 10
structure BAt(H:Hp)(b:Nc)(bs:List ((Str×Str)×Addr))(r:Str→List Str):Prop where
 dc:H b=some (.dT (bs.map λe=>(kP e.1,V.ref e.2)))
 tp:∀e∈bs,H e.2=some (.tup [.str (st r e.1).1,.str (st r e.1).2])
 nd:(bs.map (·.1)).Nodup
def BAt.keep{H H':Hp}{b:Nc}{bs:List ((Str×Str)×Addr)}{r:Str→List Str}{xs:Nk}(h:BAt H b bs r)(k:Keep xs H H')(hb:b∉xs)(ht:∀e∈bs,e.2∉xs):BAt H' b bs r :=
 ⟨k _ _ h.dc hb,λe he=>k _ _ (h.tp e he) (ht e he),h.nd⟩
def kP_inj{s u:Str×Str}(h:kP s=kP u):s=u:=by
 unfold kP at h
 injection h with h1 h2
 injection h2 with h2 _
 exact Ux (Wo h1) (Wo h2)
def valT_out{bs:List ((Str×Str)×Addr)}{s:Str×Str}(h:s∉bs.map (·.1)):valV (bs.map λe=>(kP e.1,V.ref e.2)) (kP s)=none:=by
 induction bs with
 |nil=>rfl
 |cons a t ih =>
  rw[Ql,Qe,not_or]at h
  rw[Ql,zbl]
  ·exact ih h.2
  ·intro q;exact h.1 (kP_inj q).symm
def valT_in{bs:List ((Str×Str)×Addr)}(nd:(bs.map (·.1)).Nodup){e:(Str×Str)×Addr}(h:e∈bs):valV (bs.map fun e=>(kP e.1,V.ref e.2)) (kP e.1)=some (.ref e.2):=by
 induction bs with
 |nil=>cases h
 | cons a t ih =>
  rw[Ql,Qr]at nd
  rw[Ql]
  rcases Qe.mp h with z | z
  ·subst z;exact zcb rfl
  ·rw [zbl]
   ·exact ih nd.2 z
   ·intro q
    exact nd.1 (by rw[kP_inj q];exact Qh.mpr ⟨e,z,rfl⟩)
inductive IspSteps(vs:List V)(H:Hp)(Q:VK):Prop
 |mk (d:Nc) (es:List Ent) (h0:vs=[.ref d]) (h1:TAt H d es) (h2:es.length≤60) (h3:(∀e∈es,e.2.1.Nodup∧e.2.1.length≤100)) (h4:∀(b:Nc) (bs:List ((Str×Str)×Addr)) (H':Hp),BAt H' b bs (row (rsOf es))→(∀s,s∈bs.map (·.1)↔s.1∈row (rsOf es) s.2)→bs.length≤10000→H b=none→Keep [] H H'→Q (.ref b) H'):IspSteps vs H Q
def spSteps:Sp:=λvs H Q _=>IspSteps vs H Q
def pidx(n j:Nat):Nat:=if j=0 then n-1 else j-1
def ziv{zs:List V}{j:Nat}(hj:j<zs.length):atI zs ((j:Int)-1)=zs[pidx zs.length j]?:=by
 unfold pidx
 by_cases h:j=0
 ·subst h
  rw[if_pos rfl]
  unfold atI ixN
  have e1:¬(0:Int)≤((0:Nat):Int)-1:=by lia
  have e2:-(zs.length:Int)≤((0:Nat):Int)-1:=by lia
  rw[if_neg e1,if_pos e2]
  show zs[(((0:Nat):Int)-1+(zs.length:Int)).toNat]?=_
  congr 1;lia
 ·rw [if_neg h]
  have e:(j:Int)-1=((j-1:Nat):Int):=by lia
  rw[e,zaq (Qd (by lia)),Qd (by lia)]
def idx_at{zs:Nf}(nd:zs.Nodup){i:Nat}(hi:i<zs.length):zs.idxOf zs[i]=i:=by
 have h1:zs.idxOf zs[i]<zs.length:=idx_lt (Qz hi)
 have h2:zs[zs.idxOf zs[i]]=zs[i]:=List.getElem_idxOf h1
 exact(Yi nd).mp h2
def nxt_idx{zs:Nf}(nd:zs.Nodup){j:Nat}(hj:j<zs.length)(hp:pidx zs.length j<zs.length):nxt zs zs[pidx zs.length j]=zs[j]:=by
 unfold nxt
 rw[idx_at nd hp]
 have e:(pidx zs.length j+1)%zs.length=j:=by
  unfold pidx
  by_cases h:j=0
  ·rw [if_pos h,h]
   have:zs.length-1+1=zs.length:=by lia
   rw[this,Nat.mod_self]
  ·rw [if_neg h]
   have:j-1+1=j:=by lia
   rw[this,Nat.mod_eq_of_lt hj]
 rw[e,Zs,Qd hj];rfl
section
variable{P:Nj}{w:Nl}{K:Nb}{mg:Ng}{base:Nm}
def zet:zau ["rounds", "behind", "place", "around", "at", "to"] ["rounds"] (zag sSteps):=⟨rfl,rfl,rfl,by decide +kernel,rfl,by decide +kernel,by decide +kernel⟩
def ok_steps{f:Nc}{fd:No}(F:Fun K "steps_behind" "steps_behind" sSteps f fd)(nE:mg "enumerate" = none):FnOk P w K mg base CX0 1 f fd ["rounds"] spSteps:=by
 refine F.ok zet (λvs H Q E h=>?_) (λcdv A outer s H vs Q E hr h=>?_)
 ·obtain ⟨d,es,rfl,_⟩:=h
  rfl
 ·obtain ⟨d,es,rfl,T,ba,hok,k⟩:=h
  have hu:=zb5 hr
  have aL:sizeLine=16777216:=sizeLine_eq
  refine⟨_,zae (zak (i:=1) zet.nd rfl (Or.inl rfl) pe_dnewT)
   (zae (zew (zbn Zo rfl (zex (pv 0)) (zal (i:=2) zet.nd rfl (Or.inl rfl))
    (zae (zak (i:=3) zet.nd rfl (Or.inl rfl) (zaz hu (pv 0) (pv 2) (λ_ _=>rfl)))
    (zah (zbn Zo rfl (pi_enum rfl nE (zab (pv 3) zaf)) (ze6 rfl (za6 (zal (i:=4) zet.nd rfl (Or.inl rfl)) (za6 (zal (i:=5) zet.nd rfl (Or.inl rfl)) zck)))
     (zah (zcu hu (pv 1) (ze7 (zab (za1 zcf (pv 3) (zaw ze8 (pv 4) zai) (λ_ _=>rfl)) (zab (pv 2) zaf))) (ze7 (zab (pv 2) (zab (pv 5) zaf))) rfl)))))))
   (zah (zbm (pv 1)))),?_⟩
  refine λb hb=>?_
  have nfz:∀o' u',H d≠some (.frz o' u'):=λo' u' z=>by rw[T.dc]at z;cases z
  have nbd:d≠b:=zaa T.dc hb
  have k1:Keep [] H (upd H b (.dT [])):=Keep.new hb
  have gL:BAt (upd H b (.dT [])) b [] (row (rsOf es)):=⟨zac,λe he=>(by cases he),Zh⟩
  have T1:TAt (upd H b (.dT [])) d es:=T.keep k1 (by simp) (λ_ _=>by simp)
  generalize upd H b (.dT [])=H1 at k1 gL T1
  have hbm:∀{H':Hp} {bs:List ((Str×Str)×Addr)},BAt H' b bs (row (rsOf es))→b≠d:=λ_=>Zb nbd
  refine⟨_,rfl,d,_,rfl,T1.dc,λo=>zfn (λi σ H'=>Aj4 (Ex4 λx2 x3 x4 x5=>σ=[some (.ref d),some (.ref b),x2,x3,x4,x5]) (H' d=some (.frz o (.dK (es.map λe=>((Sum.inr e.1:Key),V.ref e.2.2))))) (Keep [d,b] H1 H') (Ex1 λbs=>Aj3 (BAt H' b bs (row (rsOf es))) (bs.length≤100*i) (∀s,s∈bs.map (·.1)↔s.2∈(es.take i).map (·.1)∧s.1∈row (rsOf es) s.2)))
   ⟨⟨_,_,_,_,rfl⟩,zac,Keep.wr (by simp),[],gL.keep (xs:=[d]) (Keep.wr (by simp)) (by simpa using Zb nbd) (λe he=>by cases he),Zf _,λs=>⟨λh=>(by cases h),λh=>(by cases h.1)⟩⟩
   (λi σ H' _ hh=>hh.2) ?_ ?_⟩
  ·rintro i pr σ H2 dj ⟨⟨x2,x3,x4,x5,rfl⟩,hz,k2,bs,bY,li,fV⟩
   have hi:i<es.length:=by
    have:=(Qw.mp dj).1
    rwa[Qa]at this
   have g1:pr=((Sum.inr es[i].1:Key),V.ref es[i].2.2):=by
    rw[Qs,Qd hi]at dj
    exact(Qk dj).symm
   subst g1
   have bg:es[i]∈es:=Qz hi
   obtain⟨aD,hln⟩:=hok _ bg
   have rE:row (rsOf es) es[i].1=es[i].2.1:=zbk T.nd bg
   have bJ:=T1.ro _ bg
   have nrd:es[i].2.2≠d:=za5 bJ T1.dc (by intro z;cases z)
   have nrb:es[i].2.2≠b:=za5 bJ gL.dc (by intro z;cases z)
   have dh:=k2 _ _ bJ (by simp[nrd,nrb])
   refine⟨_,rfl,_,rfl,d,.ref es[i].2.2,rfl,.inl ⟨_,Sum.inr es[i].1,.inr ⟨o,hz⟩,rfl,(zbu T.nd bg).symm⟩,?_⟩
   have bi:es[i].1∉(es.take i).map (·.1):=by
    have h1:(es.map (·.1)).take (i+1)=(es.map (·.1)).take i++[es[i].1]:=by
     rw[Qm (by rw[Qa];exact hi),Zm]
    have h2:((es.map (·.1)).take (i+1)).Nodup:=Ys (Ul _ _) T.nd
    rw[h1,Za,←Uh]at h2
    exact λz=>h2.2.2 _ z _ (Qb.mpr rfl) rfl
   refine⟨_,rfl,es[i].2.2,rfl,⟨_,SqT.of dh⟩,for_enum (xs:=es[i].2.1.map V.str) (λj σ H'=>Aj4 (Ex2 λx4 x5=>σ=[some (.ref d),some (.ref b),some (.str es[i].1),some (.ref es[i].2.2),x4,x5]) (H' d=some (.frz o (.dK (es.map λe=>((Sum.inr e.1:Key),V.ref e.2.2))))) (Keep [d,b] H1 H') (Ex1 λbs=>Aj3 (BAt H' b bs (row (rsOf es))) (bs.length≤100*i+j) (∀s,s∈bs.map (·.1)↔(s.2∈(es.take i).map (·.1)∧s.1∈row (rsOf es) s.2)∨∃(m:Nat) (hm:m<j) (hp:pidx es[i].2.1.length m<es[i].2.1.length),s=(es[i].2.1[pidx es[i].2.1.length m],es[i].1))))
    ⟨⟨_,_,rfl⟩,hz,k2,bs,bY,li,fun s=>(fV s).trans ⟨.inl,fun h=>by
     rcases h with z | ⟨m,hm,_⟩
     ·exact z
     ·exact absurd hm (Nat.not_lt_zero m)⟩⟩ (λj σ H' _ hh=>hh.3 _ _ bJ (by simp[nrd,nrb])) ?_ ?_⟩
   ·rintro j y t σ H3 hy ⟨⟨y4,y5,rfl⟩,fj,k3,lC,kE,nV,fU⟩ ht
    have hj:j<es[i].2.1.length:=by
     have:=(Qw.mp hy).1
     rwa[Qa]at this
    have gU:y=.str es[i].2.1[j]:=by
     rw[Qs,Qd hj]at hy
     exact(Qk hy).symm
    subst gU
    have rM:pidx es[i].2.1.length j<es[i].2.1.length:=by unfold pidx;split<;>lia
    have fM:=k3 _ _ bJ (by simp[nrd,nrb])
    have k4:Keep [] H3 (upd H3 t (.tup [.int j,.str es[i].2.1[j]])):=Keep.new ht
    refine⟨t,_,rfl,SqT.of zac,rfl,_,_,rfl,_,_,rfl,rfl,?_⟩
    generalize upd H3 t (.tup [.int j,.str es[i].2.1[j]])=H4 at k4
    refine⟨_,rfl,_,rfl,(by show 2≤sizeLine;decide),λv hv=>?_⟩
    have k5:Keep [] H4 (upd H4 v (.tup [.str es[i].1,.str es[i].2.1[j]])):=Keep.new hv
    have hv5:(upd H4 v (.tup [.str es[i].1,.str es[i].2.1[j]])) v=some (.tup [.str es[i].1,.str es[i].2.1[j]]):=zac
    generalize upd H4 v (.tup [.str es[i].1,.str es[i].2.1[j]])=H5 at k5 hv5
    have gt:Keep [] H3 H5:=k4.trans k5
    have rH:=gt _ _ fM (by simp)
    have iw:atI (es[i].2.1.map V.str) ((j:Int)-1)=some (.str es[i].2.1[pidx es[i].2.1.length j]):=by
     rw[ziv (by rw[Qa];exact hj),Qa,Qs,Qd rM];rfl
    refine⟨_,rfl,_,rfl,_,rfl,_,_,rfl,rfl,es[i].2.2,_,_,_,rfl,rfl,SqT.of rH,iw,_,rfl,(by show 2≤sizeLine;decide),λq hq=>?_⟩
    have k6:Keep [] H5 (upd H5 q (.tup [.str es[i].2.1[pidx es[i].2.1.length j],.str es[i].1])):=Keep.new hq
    have mo:(upd H5 q (.tup [.str es[i].2.1[pidx es[i].2.1.length j],.str es[i].1])) q=some (.tup ((kP (es[i].2.1[pidx es[i].2.1.length j],es[i].1)).map kV)):=zac
    generalize upd H5 q (.tup [.str es[i].2.1[pidx es[i].2.1.length j],.str es[i].1])=H6 at k6 mo
    have qC:Keep [] H3 H6:=gt.trans k6
    have lj:BAt H6 b lC (row (rsOf es)):=kE.keep qC (by simp) (λ_ _=>by simp)
    have hv6:=k6 _ _ hv5 (by simp)
    have hz6:=qC _ _ fj (by simp)
    refine⟨b,_,rfl,DPut.t lj.dc mo (by rw[Qa];lia),?_⟩
    have gb:(es[i].2.1[pidx es[i].2.1.length j],es[i].1)∉lC.map (·.1):=λz=>by
     rcases(fU _).mp z with⟨z1,_⟩ | ⟨m,hm,hpm,e⟩
     ·exact bi z1
     ·have e1:=(Uq e).1
      have e2:=(Yi aD).mp e1
      unfold pidx at e2
      by_cases ij:j=0
      ·lia
      ·rw [if_neg ij] at e2
       by_cases fR:m=0
       ·rw[if_pos fR]at e2;lia
       ·rw[if_neg fR]at e2;lia
    have jJ:putK (lC.map λe=>(kP e.1,V.ref e.2)) (kP (es[i].2.1[pidx es[i].2.1.length j],es[i].1)) (.ref v)=(lC++[((es[i].2.1[pidx es[i].2.1.length j],es[i].1),v)]).map λe=>(kP e.1,V.ref e.2):=by
     rw[zee _ (valT_out gb),Qp];rfl
    have aq:st (row (rsOf es)) (es[i].2.1[pidx es[i].2.1.length j],es[i].1)=(es[i].1,es[i].2.1[j]):=by
     show(es[i].1,nxt (row (rsOf es) es[i].1) es[i].2.1[pidx es[i].2.1.length j])=_
     rw[rE,nxt_idx aD hj rM]
    refine⟨⟨_,_,rfl⟩,by rw[zad nbd];exact hz6,(k3.trans (qC.sub (by simp))).trans (Keep.wr (by simp)),_,⟨by rw[zac,jJ],λe he=>?_,?_⟩,?_,λs=>?_⟩
    ·rcases Qf.mp he with z | z
     ·have:=lj.tp e z
      rw[zad (za5 this lj.dc (by intro z;cases z))];exact this
     ·rw[Qb.mp z,aq,zad (za5 hv6 lj.dc (by intro z;cases z))];exact hv6
    ·rw [Qp,Za]
     refine⟨kE.nd,Qr.mpr ⟨by simp,Zh⟩,λx hx y hy e=>?_⟩
     have fB:y=(es[i].2.1[pidx es[i].2.1.length j],es[i].1):=by simpa using hy
     exact gb (by rw[←fB,←e];exact hx)
    ·rw[Qq];show _+1≤_;exact zar4 ‹_›
    ·rw [Qp,Qf,fU]
     constructor
     ·rintro ((z | ⟨m,hm,hp,e⟩) | z)
      ·exact .inl z
      ·exact .inr ⟨m,by exact zar16 ‹_›,hp,e⟩
      ·exact .inr ⟨j,by exact Qi _,rM,by simpa using z⟩
     ·rintro (z | ⟨m,hm,hp,e⟩)
      ·exact .inl (.inl z)
      ·by_cases hmj:m < j
       ·exact .inl (.inr ⟨m,hmj,hp,e⟩)
       ·have:m=j:=by lia
        subst this
        exact .inr (by rw[e];exact Qc)
   ·rintro σ H3 ⟨⟨y4,y5,rfl⟩,fj,k3,lC,kE,nV,fU⟩
    rw[Qa]at fU nV
    refine⟨⟨_,_,_,_,rfl⟩,fj,k3,lC,kE,by lia,λs=>(fU s).trans ?_⟩
    have aT:(es.take (i+1)).map (·.1)=(es.take i).map (·.1)++[es[i].1]:=by rw[Qm hi,Qp];rfl
    rw[aT,Qf,Qb]
    constructor
    ·rintro (⟨z1,z2⟩ | ⟨m,hm,hp,e⟩)
     ·exact⟨.inl z1,z2⟩
     ·rw[e];exact⟨.inr rfl,by rw[rE];exact Qz hp⟩
    ·rintro ⟨z1 | z1,z2⟩
     ·exact .inl ⟨z1,z2⟩
     ·refine .inr ?_
      rw[z1,rE]at z2
      obtain⟨q,hq,e⟩:=Zr z2
      by_cases cQ:q+1<es[i].2.1.length
      ·have jO:pidx es[i].2.1.length (q+1) < es[i].2.1.length:=by unfold pidx;rw [if_neg (by lia)];assumption
       refine⟨q+1,cQ,jO,Ux ?_ z1⟩
       show s.1=es[i].2.1[pidx es[i].2.1.length (q+1)]
       rw[←e];congr 1
      ·have jO:pidx es[i].2.1.length 0 < es[i].2.1.length:=by unfold pidx;rw [if_pos rfl];lia
       refine⟨0,by lia,jO,Ux ?_ z1⟩
       show s.1=es[i].2.1[pidx es[i].2.1.length 0]
       rw[←e];congr 1
       unfold pidx;rw[if_pos rfl];lia
  ·rintro σ H2 ⟨⟨x2,x3,x4,x5,rfl⟩,hz,k2,bs,bY,li,fV⟩
   rw[Qa]at fV li
   rw[Qv (Qi _)]at fV
   refine⟨d,o,_,hz,nfz,?_⟩
   have kf:Keep [] H (upd H2 d (.dK (es.map λe=>((Sum.inr e.1:Key),V.ref e.2.2)))):=λc u ec _=>by
    have nc:c≠b:=zaa ec hb
    by_cases aB:c=d
    ·subst aB
     rw[zac,←T.dc];exact ec
    ·rw [zad aB]
     exact k2 c u (k1 c u ec (by simp)) (by simp[aB,nc])
   refine⟨_,rfl,k b bs _ (bY.keep (xs:=[d]) (Keep.wr (by simp)) (by simpa using Zb nbd) (λe he=>by simpa using za5 (bY.tp e he) hz (by intro z;cases z))) (λs=>?_) (by lia) hb kf⟩
   rw[fV]
   constructor
   ·exact λh=>h.2
   ·intro h
    refine⟨?_,h⟩
    obtain⟨p,hp,e,_⟩:=(zbx (rs:=rsOf es) (by unfold rsOf;rw[List.map_map];exact T.nd)).mpr h
    obtain⟨en,aJ,rfl⟩:=Qh.mp hp
    exact Qh.mpr ⟨en,aJ,e⟩
end
abbrev ze5:Stmt:=top 11
def zc6(H:Hp)(a:Nc)(h:Str):Prop:=∃t:List Str,H a=some (.lst ((h::t).map V.str))
def zez(es:List Ent):List Str:=(es.filter λe=>e.2.1.isEmpty).map (·.1)
inductive IspFaces(vs:List V)(H:Hp)(Q:VK):Prop
 |mk (d:Nc) (es:List Ent) (cs:List (List (Str×Str))) (aa:Nu) (h0:vs=[.ref d]) (h1:TAt H d es) (h2:es.length≤60) (h3:(∀e∈es,e.2.1.length≤100)) (h4:Cert (es.map (·.1)) (row (rsOf es)) cs aa) (h5:∀(l:Nc) (as:Nk) (hd hc:Nf) (cs':List (List (Str×Str))) (H':Hp),H' l=some (.lst (as.map V.ref))→as.length≤20000→Paired (zc6 H') as hd→hd.Perm (zez es++hc)→cs'.Perm cs→Paired (λh c=>∃s∈c,s.1=h) hc cs'→Keep [] H H'→Q (.ref l) H'):IspFaces vs H Q
def spFaces:Sp:=λvs H Q _=>IspFaces vs H Q
def pt_truthK{X:Cx}{K:Nb}{a:Expr}{ta:TE}(hK:X.K=K)(ha:PE X a ta)(he:∀whole,isTrue a X.env whole=(do let v ←whole;standAt a.pos;holding [v] (truthy v))) :
  PT X a (λ σ H Q=>ta σ H λx H'=>RTr K x H' Q):=hK▸zef ha he
abbrev ze1:Scope:=scOf (eOf (sAt ze5 1))
def csFaces_k:ze1.kind=.function:=by rfl
def csFaces_c:∀y∈ze1.names,y.2≠.cell:=by decide +kernel
def csFaces_n:∀y∈ze1.names,y.2=.local→ze1.names.lookup y.1=some .local:=by decide +kernel
def csFaces_f:∀y∈ze1.names,y.2=.free→(zag ze5).names.lookup y.1=some .cell∨(zag ze5).names.lookup y.1=some .free:=by decide +kernel
def csFaces_l:ze1.names.lookup ("rounds" : Str)=some NameKind.free:=by decide +kernel
def ndF:(["place", "rounds"]:List Str).Nodup:=by decide +kernel
def valG_out{gs:Nr}{s:Str×Str}(h:s∉gs):valV (gs.map λs=>(kP s,V.bl true)) (kP s)=none:=by
 induction gs with
 |nil=>rfl
 |cons a t ih =>
  rw[Qe,not_or]at h
  rw[Ql,zbl]
  ·exact ih h.2
  ·intro q;exact h.1 (kP_inj q).symm
def valG_in{gs:Nr}{s:Str×Str}(h:s∈gs):valV (gs.map λs=>(kP s,V.bl true)) (kP s)=some (.bl true):=by
 induction gs with
 |nil=>cases h
 | cons a t ih =>
  rw[Ql]
  by_cases e:a=s
  ·exact zcb (by rw[e])
  ·rw [zbl (fun q=>e (kP_inj q))]
   rcases Qe.mp h with z | z
   ·exact absurd z.symm e
   ·exact ih z
def lk_get{β:Type}{f:β→β}{e:β}:∀{t:List β} {s:β},Lk f s t e→∀k,k<(s::t).length→f ((s::t).getD k e)=(s::t).getD (k+1) e:=by
 intro t
 induction t with
 |nil =>
  intro s h k hk
  have:k=0:=by simp at hk;exact hk
  subst this;exact h
 | cons a t ih =>
  intro s h k hk
  cases k with
  |zero=>exact h.1
  |succ n =>
   have:=ih h.2 n (by simpa using hk)
   simpa using this
def zcw{H H':Hp}{D g:Nc}{fa:Nk}{hd:Nf}{xs:Nk}(k:Keep xs H H')(h:Paired (zc6 H) fa hd)(hx:∀a (h:Str) (t:Nf),H a=some (.lst ((h::t).map V.str))→a∉xs):Paired (zc6 H') fa hd :=
 Paired.imp' (λa h ⟨t,e⟩=>⟨t,k _ _ e (hx a h t e)⟩) h
def zbi{α β:Type}{R:α→β→Prop}:∀{as dy:List α} {bs lD:List β},Paired R as bs→Paired R dy lD→Paired R (as++dy) (bs++lD):=by
 intro as dy bs lD r r'
 induction r with
 |nil=>exact r'
 |cons h t ih=>exact .cons h ih
section
variable{P:Nj}{w:Nl}{K:Nb}{mg:Ng}{base:Nm}
def zc8:zau ["rounds", "behind", "found", "gone", "first", "face", "step"] ["rounds"] (zag ze5):=⟨rfl,rfl,rfl,by decide +kernel,rfl,by decide +kernel,by decide +kernel⟩
def ok_faces{f fs:Nc}{fd fds:No}(F:Fun K "faces_of" "faces_of" ze5 f fd)(FS:Fun K "steps_behind" "steps_behind" sSteps fs fds)(bS:Binds K fds ["rounds"] [])(mS:mg "steps_behind" = some (.ref fs))(GS:FnOk P w K mg base CX0 1 fs fds ["rounds"] spSteps)(aY:mg "sorted" = none):FnOk P w K mg base CX0 2 f fd ["rounds"] spFaces:=by
 refine F.ok zc8 (λvs H Q E h=>?_) (λcdv A outer s H vs Q E hr h=>?_)
 ·obtain ⟨d,es,cs,aa,rfl,_⟩:=h
  rfl
 ·obtain ⟨d,es,cs,aa,rfl,T,ba,aQ,C,k⟩:=h
  have hu:=zb5 hr
  have lR:(A.deeper (PyProof.Rows.envOfC "faces_of" (zag ze5) s.heap.objs.size f cdv)).units+8<cLine:=Nat.lt_of_le_of_lt (Nat.add_le_add_left (by decide:8≤64) _) hr.units
  have aL:sizeLine=16777216:=sizeLine_eq
  refine⟨_,zae (zak (i:=1) zc8.nd rfl (Or.inl rfl) (zaj GS hr rfl mS FS.kp bS .nil zav (zab (pv 0) zaf)))
   (zae (zew (ps_lc (i:=2) (M:=["place", "rounds"]) (ix:=[none,some 0]) zc8.nd rfl rfl ⟨csFaces_k,csFaces_c,csFaces_n,csFaces_f,rfl,by decide +kernel,λj i x h1 h2=>by
      match j,h1,h2 with
      |0,_,h2=>cases h2
      |1,h1,h2=>cases h1;cases h2;exact⟨rfl,csFaces_l⟩
      |n+2,h1,_=>cases h1⟩ rfl (zex (pv 0)) (λC a7 ex s H=>zal (i:=0) ndF rfl (Or.inl rfl) (Or.inr rfl))
     (λC a7 ex s H=>zdz (pt_not (pt_truthK (K:=K) rfl (zaz (by exact hu) (pv 1) (pv 0) (λ_ _=>rfl)) (by intro _;rfl)))) (λC a7 ex s H=>zbc (zab (pv 0) zaf)) rfl))
   (zae (zak (i:=3) zc8.nd rfl (Or.inl rfl) pe_dnewT)
   (zae (zbn Zo rfl (za9 (zam (zgy rfl) (by rfl) aY Wc (zab (pv 1) zaf))) (zal (i:=4) zc8.nd rfl (Or.inl rfl))
    (zae (zak (i:=5) zc8.nd rfl (Or.inl rfl) (zbc zaf))
    (zae (zak (i:=6) zc8.nd rfl (Or.inl rfl) (pv 4))
    (zae (zeg Zo (zc5 (zcl hu (pv 6) (pv 3)))
     (zae (zcu hu (pv 3) (pv 6) pe_bl rfl)
     (zae (za3 (zdo Zk Yn Ym zb4 (pv 5) (zab (za1 zcf (pv 6) zai (λ_ _=>rfl)) zaf)))
     (zah (zak (i:=6) zc8.nd rfl (Or.inl rfl) (zaz hu (pv 1) (pv 6) (λ_ _=>rfl)))))))
    (zah (zbs (zef (pv 5) (by intro _;rfl)) (zah (za3 (zdo Zk Yn Ym zb4 (pv 2) (zab (pv 5) zaf)))) zay))))))
   (zah (zbm (zam (ze2 lR) (by rfl) aY Wc (zab (pv 2) zaf))))))),?_⟩
  have ap:∀e∈es,row (rsOf es) e.1=e.2.1:=λe he=>zbk T.nd he
  refine⟨_,rfl,d,es,rfl,T,ba,λe he=>⟨ap e he▸C.rn e.1,aQ e he⟩,λb bs H1 gL fV li hbfr k1=>?_⟩
  have T1:TAt H1 d es:=T.keep k1 (by simp) (λ_ _=>by simp)
  have nfz:∀o' u',H d≠some (.frz o' u'):=λo' u' z=>by rw[T.dc]at z;cases z
  refine⟨_,rfl,d,_,rfl,T1.dc,λo=>⟨λi m ys τ H2=>Aj6 (m=es.length-i) (i≤es.length) (Ex1 λx0=>τ=[x0,some (.ref d)]) (H2 d=some (.frz o (.dK (es.map λe=>((Sum.inr e.1:Key),V.ref e.2.2))))) (Keep [d] H1 H2) (Ex1 λ(as:Nk)=>Aj3 (ys=as.map V.ref) (as.length≤i) (Paired (zc6 H2) as (zez (es.take i)))),
   ⟨es.length,rfl,Zf _,⟨none,rfl⟩,zac,Keep.wr Qc,[],rfl,Zf _,.nil⟩,?_⟩⟩
  rintro i m ys τ H2 ⟨rfl,hi,⟨x0,rfl⟩,hz,k2,fa,rfl,eO,iV⟩
  by_cases ag:i<es.length
  ·refine .inr ⟨⟨hz,by rw [Qa];exact ag⟩,by rw [Qa];lia,?_⟩
   rintro y H' ⟨rfl,pr,e1,rfl⟩
   have g1:pr=((Sum.inr es[i].1:Key),V.ref es[i].2.2):=by
    rw[Qs,Qd ag]at e1
    exact(Qk e1).symm
   subst g1
   have bg:es[i]∈es:=Qz ag
   have mi:=T1.ro _ bg
   have nri:es[i].2.2≠d:=za5 mi T1.dc (by intro z;cases z)
   have dh:=k2 _ _ mi (by simpa using nri)
   have aT:es.take (i+1)=es.take i++[es[i]]:=Qm ag
   refine⟨_,rfl,_,rfl,d,.ref es[i].2.2,rfl,.inl ⟨_,Sum.inr es[i].1,.inr ⟨o,hz⟩,rfl,(zbu T.nd bg).symm⟩,_,.inr (.inl ⟨_,SqT.of dh,rfl⟩),?_⟩
   have gG:(es[i].2.1.map V.str).isEmpty=es[i].2.1.isEmpty:=by cases es[i].2.1<;>rfl
   cases hb:es[i].2.1.isEmpty with
   | false =>
    refine zcn (by rw[gG,hb];rfl) ⟨_,?_,rfl,ag,⟨_,rfl⟩,hz,k2,fa,rfl,by exact zar16 ‹_›,?_⟩
    ·exact zar1 ‹_›
    ·unfold zez
     rw[aT,Ua,Zx (by rw[hb];decide),Ja,Zt];exact iV
   | true =>
    refine zdc (by rw[gG,hb];rfl) ⟨_,rfl,(by show 1≤sizeLine;decide),λq hq=>⟨_,?_,rfl,ag,⟨_,rfl⟩,?_,k2.trans (Keep.new hq),fa++[q],?_,?_,?_⟩⟩
    ·exact zar1 ‹_›
    ·rw[zad (zaa hz hq)];exact hz
    ·rw[Qp];rfl
    ·rw[Qq];show _+1≤_;exact zar4 ‹_›
    ·unfold zez
     rw[aT,Ua,Zw (by rw[hb]),Ja,Qp]
     exact zbi (zcw (D:=d) (g:=d) (xs:=[]) (Keep.new hq) iV (λ_ _ _ _=>by simp)) (.cons ⟨[],zac⟩ .nil)
  ·have jY:i=es.length:=by exact zar3 ‹_› ‹_›
   subst jY
   rw[Qv (Qi _)]at iV
   refine .inl ⟨⟨hz,by rw[Qa];exact Qi _⟩,λD hD=>?_⟩
   have ndD:d≠D:=zaa hz hD
   refine⟨d,o,_,(by rw[zad ndD];exact hz),nfz,?_⟩
   have k3:Keep [] H1 (upd (upd H2 D (.lst (fa.map V.ref))) d (.dK (es.map λe=>((Sum.inr e.1:Key),V.ref e.2.2)))):=λc u ec _=>by
    by_cases aB:c=d
    ·subst aB
     rw[zac,←T1.dc];exact ec
    ·have ox:=k2 c u ec (by simpa using aB)
     rw[zad aB,zad (zaa ox hD)];exact ox
   have gp:(upd (upd H2 D (.lst (fa.map V.ref))) d (.dK (es.map λe=>((Sum.inr e.1:Key),V.ref e.2.2)))) D=some (.lst (fa.map V.ref)):=by rw[zad (Zb ndD)];exact zac
   have dk:Paired (zc6 (upd (upd H2 D (.lst (fa.map V.ref))) d (.dK (es.map λe=>((Sum.inr e.1:Key),V.ref e.2.2))))) fa (zez es):=Paired.imp' (λa h ⟨t,e⟩=>⟨t,by
    rw[zad (za5 e hz (by intro z;cases z)),zad (zaa e hD)];exact e⟩) iV
   generalize upd (upd H2 D (.lst (fa.map V.ref))) d (.dK (es.map λe=>((Sum.inr e.1:Key),V.ref e.2.2)))=H3 at k3 gp dk
   have kE:BAt H3 b bs (row (rsOf es)):=gL.keep k3 (by simp) (λ_ _=>by simp)
   refine λg hg=>?_
   have k4:Keep [] H3 (upd H3 g (.dT [])):=Keep.new hg
   have hg4:(upd H3 g (.dT [])) g=some (.dT []):=zac
   generalize upd H3 g (.dT [])=H4 at k4 hg4
   have ll:BAt H4 b bs (row (rsOf es)):=kE.keep k4 (by simp) (λ_ _=>by simp)
   refine⟨_,rfl,b,_,bs.map (·.1),rfl,ll.dc,(by rw[Zi,Zi];rfl),λl as ws hl ak pa=>?_⟩
   have k5:Keep [] H4 (upd H4 l (.lst (as.map V.ref))):=Keep.new hl
   have cq:(upd H4 l (.lst (as.map V.ref))) l=some (.lst (as.map V.ref)):=zac
   have ql:zbp (upd H4 l (.lst (as.map V.ref))) as ws:=zbp.keep pa λc x y ec=>k5 _ _ ec (by simp)
   have nDl:D≠l:=zaa (k4 _ _ gp (by simp)) hl
   generalize upd H4 l (.lst (as.map V.ref))=H5 at k5 cq ql
   have gt:Keep [] H3 H5:=k4.trans k5
   have iF:=gt _ _ gp (by simp)
   have nn:=k5 _ _ hg4 (by simp)
   have tM:BAt H5 b bs (row (rsOf es)):=ll.keep k5 (by simp) (λ_ _=>by simp)
   have i8:Paired (zc6 H5) fa (zez es):=zcw (D:=d) (g:=d) gt dk (λ_ _ _ _=>by simp)
   have qA:Keep [] H H5:=(k1.trans k3).trans gt
   have nlg:l≠g:=za5 cq nn (by intro z;cases z)
   have nDg:D≠g:=za5 iF nn (by intro z;cases z)
   have nbg:b≠g:=zaa kE.dc hg
   have nbD:b≠D:=za5 tM.dc iF (by intro z;cases z)
   have cV:as.length=ws.length:=Yr ql
   have cv:ws.length≤10000:=by rw[ak.length_eq,Qa];exact li
   have notDg:∀{H':Hp} {pU:Nk} {gs:Nr},H' D=some (.lst (pU.map V.ref))→H' g=some (.dT (gs.map λs=>(kP s,V.bl true)))→∀a (h:Str) (t:Nf),H' a=some (.lst ((h::t).map V.str))→a≠D∧a≠g:=λ{H' pU gs} e1 e2 a h t e =>
    ⟨za5 e e1 (by
     intro z
     have z':(h::t).map V.str=pU.map V.ref:=by injection z
     cases pU with
     |nil=>cases z'
     |cons x u=>rw[Ql,Ql]at z';injection z' with z1 _;cases z1),za5 e e2 (by intro z;cases z)⟩
   refine⟨l,rfl,⟨_,SqL.of cq⟩,zbt (xs:=as.map V.ref) (λi σ H'=>Aj3 (Ex3 λx4 x5 x6=>σ=[some (.ref d),some (.ref b),some (.ref D),some (.ref g),x4,x5,x6]) (Keep [D,g] H5 H') (Ex5 λ(gs:Nr) (dn rem:List (List (Str×Str))) (fa:Nk) (hc:Nf)=>Aj9 (H' g=some (.dT (gs.map λs=>(kP s,V.bl true)))) gs.Nodup (∀s,s∈gs↔s∈dn.flatten) (cs.Perm (dn++rem)) (∀s∈ws.take i,s∈gs) (H' D=some (.lst (fa.map V.ref))) (Paired (zc6 H') fa (zez es++hc)) (Paired (λh c=>∃s∈c,s.1=h) hc dn) (fa.length≤100+i)))
    ⟨⟨_,_,_,rfl⟩,Keep.refl,[],[],cs,fa,[],nn,Zh,λs=>Iff.rfl,List.Perm.refl _,λs hs=>(by cases hs),iF,by rw[Zt];exact i8,.nil,by omega⟩
    (λi σ H' _ hh=>SqL.of (hh.2 _ _ cq (by simp[Zb nDl,nlg]))) ?_ ?_⟩
   ·rintro i y σ H6 hx ⟨⟨x4,x5,x6,rfl⟩,k6,gs,dn,rem,ou,nU,sF,sD,jZ,eR,oW,pN,i7,aB,nr⟩
    have hi:i<as.length:=by
     have:=(Qw.mp hx).1
     rwa[Qa]at this
    have gX:y=.ref as[i]:=by
     rw[Qs,Qd hi]at hx
     exact(Qk hx).symm
    subst gX
    obtain⟨aI,kG⟩:=zbh ql hi
    have nag:as[i]≠g:=za5 kG nn (by intro z;cases z)
    have naD:as[i]≠D:=za5 kG iF (by intro z;cases z)
    have o7:=k6 _ _ kG (by simp[nag,naD])
    have dC:ws[i]∈ws:=Qz aI
    have iS:ws[i].1∈row (rsOf es) ws[i].2:=(fV _).mp (ak.mem_iff.mp dC)
    have hwt:∀{pT:Nr},(∀s∈gs,s∈pT)→ws[i]∈pT→∀s∈ws.take (i+1),s∈pT:=λ{pT} h1 h2 s hs=>by
     rw[Qm aI]at hs
     rcases Qf.mp hs with z | z
     ·exact h1 s (oW s z)
     ·rw[Qb.mp z];exact h2
    refine⟨(by show 0≤sizeLine;decide),λfl gj=>?_⟩
    have k7:Keep [] H6 (upd H6 fl (.lst [])):=Keep.new gj
    have ce:(upd H6 fl (.lst [])) fl=some (.lst []):=zac
    have nfD:fl≠D:=Zb (zaa pN gj)
    have nfg:fl≠g:=Zb (zaa sF gj)
    have nafl:as[i]≠fl:=zaa o7 gj
    generalize upd H6 fl (.lst [])=H7 at k7 ce
    have nj:=k7 _ _ sF (by simp)
    have tT:=k7 _ _ pN (by simp)
    have o6:=k7 _ _ o7 (by simp)
    have qz:Keep [D,g] H5 H7:=k6.trans (k7.sub (by simp))
    have tL:BAt H7 b bs (row (rsOf es)):=tM.keep qz (by simp[nbD,nbg]) λe he=>by
     have h1:=tM.tp e he
     simp[za5 h1 iF (by intro z;cases z),za5 h1 nn (by intro z;cases z)]
    have nbfl:b≠fl:=za5 tL.dc ce (by intro z;cases z)
    have mt:Paired (zc6 H7) ou (zez es++nU):=zcw (D:=d) (g:=d) k7 i7 (λ_ _ _ _=>by simp)
    refine⟨_,rfl,?_⟩
    by_cases ga:ws[i]∈gs
    ·-- it is gone already
     refine⟨λm σ H'=>Aj2 (σ=[some (.ref d),some (.ref b),some (.ref D),some (.ref g),some (.ref as[i]),some (.ref fl),some (.ref as[i])]) (H'=H7),⟨0,rfl,rfl⟩,?_⟩
     rintro m σ H' ⟨rfl,rfl⟩
     have dg:=DGet.t (k:=kP ws[i]) nj o6
     rw[valG_in ga]at dg
     refine⟨_,rfl,_,rfl,g,_,rfl,dg,_,rfl,zcn rfl ?_⟩
     refine⟨_,rfl,_,.inl ⟨_,SqL.of ce,rfl⟩,zcn rfl ?_⟩
     exact⟨⟨_,_,_,rfl⟩,qz,gs,dn,rem,ou,nU,nj,sD,jZ,eR,hwt (λ_ h=>h) ga,tT,mt,aB,by exact zar16 ‹_›⟩
    ·-- a new cycle
     obtain⟨c,dY,rA⟩:=Zu.mp ((C.cm ws[i]).mpr iS)
     obtain⟨A1,B1,gP⟩:=Yp rA
     have hlk:=zc1 (gP▸C.cy c dY)
     generalize hL:ws[i]::(B1++A1)=L
     have pM:L.Perm c:=by
      rw[←hL,gP]
      refine Jy.mpr λa=>?_
      simp only[Ki,Ky];lia
     have cc:=(List.Perm.flatten eR).nodup_iff.mp C.cf
     rw[Wj,Za]at cc
     have j9:c∈rem:=by
      rcases Qf.mp (eR.mem_iff.mp dY) with z | z
      ·exact absurd ((jZ _).mpr (Zu.mpr ⟨c,z,rA⟩)) ga
      ·exact z
     have hLg:∀s∈L,s∉gs:=λs hs hg=>by
      exact absurd rfl (cc.2.2 s ((jZ s).mp hg) s (Zu.mpr ⟨c,j9,pM.mem_iff.mp hs⟩))
     have oi:L.Nodup:=by
      rw[pM.nodup_iff]
      have:=(zb1 dY).nodup_iff.mp C.cf
      rw[Za]at this
      exact this.1
     have oh:∀s∈L,s.1∈row (rsOf es) s.2:=λs hs=>C.inc dY (pM.mem_iff.mp hs)
     have hLpos:0<L.length:=by rw[←hL];simp
     have cU:gs++L |>.Nodup:=Za.mpr ⟨sD,oi,λa ha b' cT e=>hLg b' cT (e▸ha)⟩
     have hsz:(gs++L).length≤10000:=by
      refine Zn (zei cU (m:=bs.map (·.1)) λs hs=>?_) (by rw[Qa];exact li)
      rcases Qf.mp hs with z | z
      ·obtain ⟨c',bV,aU⟩:=Zu.mp ((jZ s).mp z)
       exact(fV s).mpr (C.inc (eR.mem_iff.mpr (Qn _ bV)) aU)
      ·exact(fV s).mpr (oh s z)
     rw[Qq]at hsz
     have sE:∀k (hk:k<L.length),st (row (rsOf es)) L[k]=L.getD (k+1) ws[i]:=λk hk=>by
      have:=lk_get hlk k (by rw[hL];exact hk)
      rw[hL,Zs,Qd hk]at this
      exact this
     refine⟨λm σ H'=>Ex2 λ(k:Nat) (t:Nc)=>Aj7 (m=L.length-k) (k≤L.length) (σ=[some (.ref d),some (.ref b),some (.ref D),some (.ref g),some (.ref as[i]),some (.ref fl),some (.ref t)]) (Keep [g,fl] H7 H') (H' g=some (.dT ((gs++L.take k).map λs=>(kP s,V.bl true)))) (H' fl=some (.lst (((L.take k).map (·.1)).map V.str))) (H' t=some (.tup [.str (L.getD k ws[i]).1,.str (L.getD k ws[i]).2])),
      ⟨_,0,as[i],rfl,Zf _,rfl,Keep.refl,by rw[List.take_zero,Zt];exact nj,ce,by rw[←hL];exact o6⟩,?_⟩
     rintro m σ H8 ⟨k8,t,rfl,hk8,rfl,kW,ni,gh,l4⟩
     have dg:=DGet.t (k:=kP (L.getD k8 ws[i])) ni l4
     by_cases dQ:k8<L.length
     ·have kn:L.getD k8 ws[i]=L[k8]:=by rw [Zs,Qd dQ];rfl
      have aT:L.take (k8+1)=L.take k8++[L[k8]]:=Qm dQ
      have bi:L[k8]∉gs++L.take k8:=λz=>by
       rcases Qf.mp z with q | q
       ·exact hLg _ (Qz dQ) q
       ·have:=Ys (Ul (k8+1) L) oi
        rw[aT,Za]at this
        exact this.2.2 _ q _ (Qb.mpr rfl) rfl
      rw[kn]at l4 dg
      rw[valG_out bi]at dg
      refine⟨_,rfl,_,rfl,g,_,rfl,dg,_,rfl,zdc rfl ?_⟩
      refine⟨_,λ σ' H' z=>z,?_⟩
      have mE:((gs++L.take k8).map λs=>(kP s,V.bl true)).length<sizeLine:=by
       rw[Qa,Qq,Zj];lia
      refine⟨_,rfl,_,rfl,g,_,rfl,DPut.t (k:=kP L[k8]) ni l4 mE,?_⟩
      have jJ:putK ((gs++L.take k8).map λs=>(kP s,V.bl true)) (kP L[k8]) (.bl true)=(gs++L.take (k8+1)).map λs=>(kP s,V.bl true):=by
       rw[zee _ (valG_out bi),aT,←Qu,Qp (l₂:=[L[k8]])];rfl
      rw[jJ]
      have ntg:t≠g:=za5 l4 ni (by intro z;cases z)
      have ntfl:t≠fl:=za5 l4 gh (by intro z;cases z)
      have k9:Keep [g,fl] H7 (upd H8 g (.dT ((gs++L.take (k8+1)).map λs=>(kP s,V.bl true)))):=kW.trans (Keep.wr (by simp))
      have hg9:(upd H8 g (.dT ((gs++L.take (k8+1)).map λs=>(kP s,V.bl true)))) g=some (.dT ((gs++L.take (k8+1)).map λs=>(kP s,V.bl true))):=zac
      have kj:(upd H8 g (.dT ((gs++L.take (k8+1)).map λs=>(kP s,V.bl true)))) fl=some (.lst (((L.take k8).map (·.1)).map V.str)):=by rw[zad nfg];exact gh
      have qY:(upd H8 g (.dT ((gs++L.take (k8+1)).map λs=>(kP s,V.bl true)))) t=some (.tup [.str L[k8].1,.str L[k8].2]):=by rw[zad ntg];exact l4
      generalize upd H8 g (.dT ((gs++L.take (k8+1)).map λs=>(kP s,V.bl true)))=H9 at k9 hg9 kj qY
      refine⟨_,rfl,.inl ⟨rfl,_,SqL.of kj⟩,_,rfl,t,_,_,_,rfl,rfl,SqT.of qY,zaq (j:=0) rfl,fl,_,_,rfl,rfl,kj,(by rw[Qa,Qa,Zj];lia),?_⟩
      have ny:((L.take k8).map (·.1)).map V.str++[V.str L[k8].1]=((L.take (k8+1)).map (·.1)).map V.str:=by rw[aT,Qp,Qp];rfl
      rw[ny]
      have dz:Keep [g,fl] H7 (upd H9 fl (.lst (((L.take (k8+1)).map (·.1)).map V.str))):=k9.trans (Keep.wr (by simp))
      have np:(upd H9 fl (.lst (((L.take (k8+1)).map (·.1)).map V.str))) g=some (.dT ((gs++L.take (k8+1)).map λs=>(kP s,V.bl true))):=by rw[zad (Zb nfg)];exact hg9
      have j6:(upd H9 fl (.lst (((L.take (k8+1)).map (·.1)).map V.str))) fl=some (.lst (((L.take (k8+1)).map (·.1)).map V.str)):=zac
      have lW:(upd H9 fl (.lst (((L.take (k8+1)).map (·.1)).map V.str))) t=some (.tup [.str L[k8].1,.str L[k8].2]):=by rw[zad ntfl];exact qY
      generalize upd H9 fl (.lst (((L.take (k8+1)).map (·.1)).map V.str))=cZ at dz np j6 lW
      have dZ:BAt cZ b bs (row (rsOf es)):=tL.keep dz (by simp[nbg,nbfl]) λe he=>by
       have h1:=tL.tp e he
       simp[za5 h1 nj (by intro z;cases z),za5 h1 ce (by intro z;cases z)]
      obtain⟨e,he,hee⟩:=Qh.mp ((fV L[k8]).mpr (oh _ (Qz dQ)))
      have dg2:=DGet.t (k:=kP L[k8]) dZ.dc lW
      rw[←hee,valT_in dZ.nd he]at dg2
      have hU:=dZ.tp e he
      rw[hee,sE k8 dQ]at hU
      refine⟨_,rfl,_,rfl,b,_,rfl,dg2,L.length-(k8+1),by exact zar1 ‹_›,k8+1,e.2,rfl,dQ,rfl,dz,np,j6,hU⟩
     ·have hk:k8=L.length:=by exact zar3 ‹_› ‹_›
      subst hk
      have kn:L.getD L.length ws[i]=ws[i]:=by rw[Zs,Xf (Qi _)];rfl
      rw[Qv (Qi _)]at ni gh dg
      have hwL:ws[i]∈L:=by rw[←hL];exact Qc
      rw[kn,valG_in (Qo _ hwL)]at dg
      refine⟨_,rfl,_,rfl,g,_,rfl,dg,_,rfl,zcn rfl ?_⟩
      have az:((L.map (·.1)).map V.str).isEmpty=false:=by rw[←hL];rfl
      refine⟨_,rfl,_,.inl ⟨_,SqL.of gh,rfl⟩,zdc (by rw[az];rfl) ?_⟩
      have hD8:=kW _ _ tT (by simp[nDg,Zb nfD])
      refine⟨_,rfl,.inl ⟨rfl,_,SqL.of hD8⟩,_,rfl,D,_,_,rfl,rfl,hD8,(by rw[Qa];lia),?_⟩
      have k9:Keep [D,g] H5 (upd H8 D (.lst (ou.map V.ref++[.ref fl]))):=by
       refine Keep.trans (λc' u' ec bV=>?_) (Keep.wr (by simp))
       have h7:=qz c' u' ec bV
       refine kW c' u' h7 ?_
       have ncg:c'≠g:=λz=>bV (by simp[z])
       have ncf:c'≠fl:=λz=>by
        have:=k6 c' u' ec bV
        rw[z,gj]at this;cases this
       simp[ncg,ncf]
      refine⟨⟨_,_,_,rfl⟩,k9,gs++L,dn++[c],rem.erase c,ou++[fl],nU++[ws[i].1],by rw[zad (Zb nDg)];exact ni,cU,λs=>?_,?_,hwt (λs hs=>Qn _ hs) (Qo _ hwL),by rw[zac,Qp];rfl,?_,zbi aB (.cons ⟨ws[i],rA,rfl⟩ .nil),by rw[Qq];show _+1≤_;exact zar4 ‹_›⟩
      ·rw[Qf,jZ,Wj,Qf,Yy,List.flatten_nil,Zt,pM.mem_iff]
      ·refine eR.trans ?_
       rw[Qu]
       exact Ya _ (Jq j9)
      ·rw [← Qu]
       refine zbi (Paired.imp' (λa h ⟨t,e⟩=>⟨t,?_⟩) mt) (.cons ⟨(B1++A1).map (·.1),?_⟩ .nil)
       ·have n1:=notDg tT nj a h t e
        have naf:a≠fl:=za5 e ce (by intro z;injection z with z;cases z)
        rw[zad n1.1]
        exact kW _ _ e (by simp[n1.2,naf])
       ·rw[zad nfD,gh,←hL];rfl
   ·rintro σ H6 ⟨⟨x4,x5,x6,rfl⟩,k6,gs,dn,rem,ou,nU,sF,sD,jZ,eR,oW,pN,i7,aB,nr⟩
    rw[Qa,cV,Qv (Qi _)]at oW
    have rK:rem=[]:=by
     cases rem with
     |nil=>rfl
     |cons c rem' =>
      have nQ:c∈cs:=eR.mem_iff.mpr (Qo _ Qc)
      obtain⟨s0,t0,eS,_⟩:=C.cy c nQ
      have aL:s0∈c:=by rw[eS];exact Qc
      have h1:s0∈ws:=ak.mem_iff.mpr ((fV s0).mpr (C.inc nQ aL))
      have h2:=(jZ s0).mp (oW s0 h1)
      have h3:=(List.Perm.flatten eR).nodup_iff.mp C.cf
      rw[Wj,Za]at h3
      exact absurd rfl (h3.2.2 s0 h2 s0 (Zu.mpr ⟨c,Qc,aL⟩))
    rw[rK,Zt]at eR
    refine⟨_,rfl,D,_,rfl,SqL.of pN,λv hv=>?_,λl7 ws7 pk jM=>?_⟩
    ·obtain ⟨a,ha,rfl⟩:=Qh.mp hv
     obtain⟨j,hj,rfl⟩:=Zr ha
     obtain⟨_,t,e⟩:=zbh i7 hj
     exact⟨_,_,rfl,e⟩
    ·obtain ⟨as7,rfl,i9⟩:=refs_perm jM
     obtain⟨hd7,eF,cO⟩:=zd2 i9 i7
     refine k l7 as7 hd7 nU dn _ zac (by rw[i9.length_eq];rw[Qa]at nr;lia) (Paired.imp' (λa h ⟨t,e⟩=>⟨t,by rw[zad (zaa e pk)];exact e⟩) cO) eF eR.symm aB ?_
     refine(λc u ec _=>?_)
     have nD:c≠D:=λz=>by
      by_cases zd:c=d
      ·exact ndD (zd▸z)
      ·have h2:=k2 c u (k1 c u ec (by simp)) (by simpa using zd)
       rw[z,hD]at h2;cases h2
     have nG:c≠g:=λz=>by
      have h1:=k3 c u (k1 c u ec (by simp)) (by simp)
      rw[z,hg]at h1;cases h1
     have:=k6 c u (qA c u ec (by simp)) (by simp[nD,nG])
     rw[zad (zaa this pk)];exact this
end
abbrev zg5:Stmt:=top 12
abbrev zht:Stmt:=top 13
def marks(ks:Nf):List (Key×V):=ks.map λz=>((Sum.inr z:Key),V.bl true)
def zfg{ks:Nf}{x:Str}(h:x∉ks):valV (marks ks) (Sum.inr x)=none:=by
 unfold marks
 induction ks with
 |nil=>rfl
 |cons a t ih =>
  rw[Qe,not_or]at h
  rw[Ql,zbl]
  ·exact ih h.2
  ·intro q;exact h.1 (Wo q).symm
def valM_in{ks:Nf}{x:Str}(h:x∈ks):valV (marks ks) (Sum.inr x)=some (.bl true):=by
 unfold marks
 induction ks with
 |nil=>cases h
 | cons a t ih =>
  rw[Ql]
  by_cases e:a=x
  ·exact zcb (by rw[e])
  ·rw [zbl (fun q=>e (Wo q))]
   rcases Qe.mp h with z | z
   ·exact absurd z.symm e
   ·exact ih z
def zh1{ks:Nf}{x:Str}(h:x∉ks):putK (marks ks) (Sum.inr x) (.bl true)=marks (ks++[x]):=by
 rw[zee _ (zfg h)];unfold marks;rw[List.map_append];rfl
def putM_old{ks:Nf}{x:Str}(h:x∈ks):putK (marks ks) (Sum.inr x) (.bl true)=marks ks:=by
 unfold putK marks
 rw[if_pos]
 ·rw [Zi]
  refine Wi λz _=>?_
  show(if(Sum.inr z:Key)=Sum.inr x then((Sum.inr z:Key),V.bl true) else(Sum.inr z,V.bl true))=_
  split<;>rfl
 ·exact Yz.mpr ⟨_,Qh.mpr ⟨x,h,rfl⟩,by simp⟩
def mkeys(ks:Nf):((marks ks).map λp=>kV p.1)=ks.map V.str:=by unfold marks;rw[List.map_map];rfl
inductive IspPiece(vs:List V)(H:Hp)(Q:VK):Prop
 |mk (d:Nc) (es:List Ent) (cs:List (List (Str×Str))) (aa:Nu) (x:Str) (h0:vs=[.ref d,.str x]) (h1:TAt H d es) (h2:es.length≤60) (h3:Cert (es.map (·.1)) (row (rsOf es)) cs aa) (h4:x∈es.map (·.1)) (h5:∀(l:Nc) (zs:Nf) (H':Hp),H' l=some (.lst (zs.map V.str))→zs.Nodup→zs.Pairwise leS→(∀y,y∈zs↔y∈es.map (·.1)∧aa y=aa x)→H l=none→Keep [] H H'→Q (.ref l) H'):IspPiece vs H Q
def spPiece:Sp:=λvs H Q _=>IspPiece vs H Q
section
variable{P:Nj}{w:Nl}{K:Nb}{mg:Ng}{base:Nm}
def zcs:zau ["rounds", "start", "reached", "waiting", "place", "other"] ["rounds", "start"] (zag zg5):=⟨rfl,rfl,rfl,by decide +kernel,rfl,by decide +kernel,by decide +kernel⟩
def ok_piece{f:Nc}{fd:No}(F:Fun K "piece_from" "piece_from" zg5 f fd)(aY:mg "sorted" = none):FnOk P w K mg base CX0 1 f fd ["rounds", "start"] spPiece:=by
 refine F.ok zcs (λvs H Q E h=>?_) (λcdv A outer s H vs Q E hr h=>?_)
 ·obtain ⟨d,es,cs,aa,x,rfl,_⟩:=h
  rfl
 ·obtain ⟨d,es,cs,aa,x,rfl,T,ba,C,hx,k⟩:=h
  have hu:=zb5 hr
  have aL:sizeLine=16777216:=sizeLine_eq
  refine⟨_,zae (zak (i:=2) zcs.nd rfl (Or.inl rfl) (zf0 (zdk (pv 1) pe_bl zfy) rfl rfl (by decide) (by decide)))
   (zae (zak (i:=3) zcs.nd rfl (Or.inl rfl) (zbc (zab (pv 1) zaf)))
   (zae (zeg Zo (zef (pv 3) (by intro _;rfl))
    (zae (zak (i:=4) zcs.nd rfl (Or.inl rfl) (pe_bm0 Zk PySem.F.slot_list_pop PySem.F.type_list_pop mt_pop (pv 3)))
    (zah (zbn Zo rfl (pi_tup (zaz hu (pv 0) (pv 4) (fun _ _=>rfl))) (zal (i:=5) zcs.nd rfl (Or.inl rfl))
     (zah (zbs (zc5 (zcl hu (pv 5) (pv 2)))
      (zae (zcu hu (pv 2) (pv 5) pe_bl rfl)
      (zah (za3 (zdo Zk Yn Ym zb4 (pv 3) (zab (pv 5) zaf))))) zay))))))
   (zah (zbm (zam (zcg rfl) (by rfl) aY Wc (zab (pv 2) zaf)))))),?_⟩
  have ap:∀e∈es,row (rsOf es) e.1=e.2.1:=λe he=>zbk T.nd he
  refine λre di=>⟨_,rfl,zac,[(Sum.inr x,.bl true)],rfl,(by show 1≤15;decide),?_⟩
  have fR:(zcm [] [((Sum.inr x:Key),V.bl true)])=marks [x]:=rfl
  rw[fR]
  have kre:Keep [] H (upd (upd H re (.dK [])) re (.dK (marks [x]))):=by rw[upd_upd];exact Keep.new di
  have bK:(upd (upd H re (.dK [])) re (.dK (marks [x]))) re=some (.dK (marks [x])):=zac
  generalize upd (upd H re (.dK [])) re (.dK (marks [x]))=H1 at kre bK
  refine⟨_,rfl,(by show 1≤sizeLine;decide),λwa jA=>?_⟩
  have k2:Keep [] H (upd H1 wa (.lst [.str x])):=kre.trans (Keep.new jA)
  have da:H wa=none:=zan (xs:=[]) kre jA (by simp)
  have fF:(upd H1 wa (.lst [.str x])) wa=some (.lst ([x].map V.str)):=zac
  have gR:re≠wa:=zaa bK jA
  have cL:(upd H1 wa (.lst [.str x])) re=some (.dK (marks [x])):=by rw[zad gR];exact bK
  generalize upd H1 wa (.lst [.str x])=H2 at k2 fF cL
  have T2:TAt H2 d es:=T.keep k2 (by simp) (λ_ _=>by simp)
  have cX:d≠re:=zaa T.dc di
  have ndw:d≠wa:=zaa T.dc da
  have rowne:∀e∈es,e.2.2≠re∧e.2.2≠wa:=λe he=>⟨zaa (T.ro e he) di,zaa (T.ro e he) da⟩
  refine⟨λm σ H'=>Aj3 (Ex2 λx4 x5=>σ=[some (.ref d),some (.str x),some (.ref re),some (.ref wa),x4,x5]) (Keep [re,wa] H2 H') (Ex2 λ(ks wl:Nf)=>Aj9 (H' re=some (.dK (marks ks))) (H' wa=some (.lst (wl.map V.str))) ks.Nodup wl.Nodup (∀z∈wl,z∈ks) (∀z∈ks,z∈es.map (·.1)∧aa z=aa x) (x∈ks) (∀z∈ks,z∉wl→∀y∈row (rsOf es) z,y∈ks) (m=es.length+wl.length-ks.length)),
   ⟨_,⟨none,none,rfl⟩,Keep.refl,[x],[x],cL,fF,Qr.mpr ⟨by simp,Zh⟩,Qr.mpr ⟨by simp,Zh⟩,λz h=>h,λz h=>(by rw[Qb.mp h];exact⟨hx,rfl⟩),Qc,λz h h'=>absurd h h',rfl⟩,?_⟩
  rintro m σ H3 ⟨⟨x4,x5,rfl⟩,k3,ks,wl,bh,de,dR,cF,gY,dq,lN,gI,rfl⟩
  have sq:ks.length≤es.length:=by
   have:=zci dR (m:=es.map (·.1)) λz hz=>(dq z hz).1
   rwa[Qa]at this
  have fC:wl.length≤ks.length:=zci cF gY
  refine⟨_,rfl,_,.inl ⟨_,SqL.of de,rfl⟩,?_⟩
  rcases List.eq_nil_or_concat wl with cv | ⟨ini,z,cv⟩
  ·-- all are reached
   subst cv
   refine zcn rfl ?_
   refine⟨_,rfl,re,_,ks,rfl,.inl bh,mkeys ks,λl zs hl ak aH=>?_⟩
   have kf:Keep [] H H3:=λc u ec _=>k3 c u (k2 c u ec (by simp)) (by simp[zaa ec di,zaa ec da])
   refine k l zs _ zac (ak.nodup_iff.mpr dR) (aH (by omega)) (λy=>?_) (zan kf hl (by simp)) (kf.trans (Keep.new hl))
   rw[ak.mem_iff]
   constructor
   ·exact dq y
   ·rintro ⟨h1,h2⟩
    have hc:Conn (row (rsOf es)) x y:=C.co x hx y h1 h2.symm
    clear h1 h2
    induction hc with
    |refl=>exact lN
    |step _ hz ih=>exact gI _ ih (by simp) _ hz
  ·rw [List.concat_eq_append] at cv
   subst cv
   refine zdc (by rw[Qp];cases ini<;>rfl) ?_
   refine⟨_,λ σ' H' zz=>zz,?_⟩
   have gv:z∈ks:=gY z (Qo _ Qc)
   obtain⟨en,aJ,cE⟩:=Qh.mp (dq z gv).1
   have cD:en.1=z:=cE
   rw[Za]at cF
   obtain⟨ar,_,kl⟩:=cF
   have iN:z∉ini:=λq=>kl z q z Qc rfl
   have cQ:((ini++[z]).map V.str)[((ini++[z]).map V.str).length-1]?=some (.str z):=by
    rw[Qp,Qq,Wz (by simp)]
    simp
   have j8:((ini++[z]).map V.str).dropLast=ini.map V.str:=by rw[Qp];exact List.dropLast_concat
   refine⟨_,rfl,.inl ⟨rfl,_,SqL.of de⟩,wa,_,_,rfl,rfl,de,cQ,?_⟩
   rw[j8]
   have k4:Keep [re,wa] H2 (upd H3 wa (.lst (ini.map V.str))):=k3.trans (Keep.wr (by simp))
   have fE:(upd H3 wa (.lst (ini.map V.str))) wa=some (.lst (ini.map V.str)):=zac
   have cK:(upd H3 wa (.lst (ini.map V.str))) re=some (.dK (marks ks)):=by rw[zad gR];exact bh
   generalize upd H3 wa (.lst (ini.map V.str))=H4 at k4 fE cK
   have T4:TAt H4 d es:=T2.keep k4 (by simp[cX,ndw]) λe he=>by simp[(rowne e he).1,(rowne e he).2]
   have dg:DGet H4 d (.str z) (some (.ref en.2.2)):=by
    have:=DGet.k (k:=Sum.inr en.1) T4.dc
    rw[zbu T4.nd aJ,cD]at this
    exact this
   have iT:row (rsOf es) z=en.2.1:=by rw[←cD];exact ap en aJ
   refine⟨_,rfl,_,rfl,d,_,rfl,dg,en.2.2,rfl,⟨_,SqT.of (T4.ro en aJ)⟩,for_tup (xs:=en.2.1.map V.str) (λj σ H'=>Aj3 (Ex1 λx5=>σ=[some (.ref d),some (.str x),some (.ref re),some (.ref wa),some (.str z),x5]) (Keep [re,wa] H2 H') (Ex1 λ(nw:Nf)=>Aj5 (H' re=some (.dK (marks (ks++nw)))) (H' wa=some (.lst ((ini++nw).map V.str))) ((ks++nw).Nodup) (∀y∈nw,y∈es.map (·.1)∧aa y=aa x) (∀y∈en.2.1.take j,y∈ks++nw)))
    ⟨⟨_,rfl⟩,k4,[],by rw[Zt];exact cK,by rw[Zt];exact fE,by rw[Zt];exact dR,λy hy=>(by cases hy),λy hy=>(by cases hy)⟩
    (λj σ H' _ hh=>SqT.of (hh.2 _ _ (T2.ro en aJ) (by simp[(rowne en aJ).1,(rowne en aJ).2]))) ?_ ?_⟩
   ·rintro j y σ H5 hy ⟨⟨y5,rfl⟩,k5,nw,aP,cj,au,aw,aG⟩
    have hj:j<en.2.1.length:=by
     have:=(Qw.mp hy).1
     rwa[Qa]at this
    have gU:y=.str en.2.1[j]:=by
     rw[Qs,Qd hj]at hy
     exact(Qk hy).symm
    subst gU
    have gW:en.2.1[j]∈row (rsOf es) z:=by rw[iT];exact Qz hj
    have aT:en.2.1.take (j+1)=en.2.1.take j++[en.2.1[j]]:=Qm hj
    have hsz:(ks++nw).length≤es.length:=by
     have:=zci au (m:=es.map (·.1)) λq hq=>by
      rcases Qf.mp hq with h | h
      ·exact(dq q h).1
      ·exact(aw q h).1
     rwa[Qa]at this
    have iH:=DGet.k (k:=Sum.inr en.2.1[j]) aP
    by_cases ar:en.2.1[j]∈ks++nw
    ·rw [valM_in ar] at iH
     refine⟨_,rfl,_,rfl,re,_,rfl,iH,_,rfl,zcn rfl ?_⟩
     refine⟨⟨_,rfl⟩,k5,nw,aP,cj,au,aw,λq hq=>?_⟩
     rw[aT]at hq
     rcases Qf.mp hq with h | h
     ·exact aG q h
     ·rw[Qb.mp h];exact ar
    ·rw [zfg ar] at iH
     refine⟨_,rfl,_,rfl,re,_,rfl,iH,_,rfl,zdc rfl ?_⟩
     refine⟨_,rfl,_,rfl,re,_,rfl,DPut.k (k:=Sum.inr en.2.1[j]) aP (by unfold marks;rw[List.length_map];lia),?_⟩
     rw[zh1 ar]
     have db:(upd H5 re (.dK (marks (ks++nw++[en.2.1[j]])))) wa=some (.lst ((ini++nw).map V.str)):=by rw[zad (Zb gR)];exact cj
     have cn:(upd H5 re (.dK (marks (ks++nw++[en.2.1[j]])))) re=some (.dK (marks (ks++nw++[en.2.1[j]]))):=zac
     have k6:Keep [re,wa] H2 (upd H5 re (.dK (marks (ks++nw++[en.2.1[j]])))):=k5.trans (Keep.wr (by simp))
     generalize upd H5 re (.dK (marks (ks++nw++[en.2.1[j]])))=H6 at db cn k6
     rw[Qq]at hsz
     rw[Qq,Qx,Wk]at fC
     refine⟨_,rfl,.inl ⟨rfl,_,SqL.of db⟩,_,rfl,wa,_,_,rfl,rfl,db,(by rw[Qa,Qq];lia),?_⟩
     refine⟨⟨_,rfl⟩,k6.trans (Keep.wr (by simp)),nw++[en.2.1[j]],by rw[zad gR,←Qu];exact cn,by rw[zac,←Qu,Qp (l₂:=[en.2.1[j]])];rfl,?_,λq hq=>?_,λq hq=>?_⟩
     ·rw [← Qu,Za]
      refine⟨au,Qr.mpr ⟨by simp,Zh⟩,λa ha b hb e=>?_⟩
      rw[Qb.mp hb]at e
      exact ar (e▸ha)
     ·rcases Qf.mp hq with h | h
      ·exact aw q h
      ·rw [Qb.mp h]
       exact⟨C.inn' gW,(C.la z _ gW).trans (dq z gv).2⟩
     ·rw [aT] at hq
      rw[←Qu]
      rcases Qf.mp hq with h | h
      ·exact Qn _ (aG q h)
      ·exact Qo _ h
   ·rintro σ H5 ⟨⟨y5,rfl⟩,k5,nw,aP,cj,au,aw,aG⟩
    rw[Qa,Qv (Qi _)]at aG
    have hsz:(ks++nw).length≤es.length:=by
     have:=zci au (m:=es.map (·.1)) λq hq=>by
      rcases Qf.mp hq with h | h
      ·exact(dq q h).1
      ·exact(aw q h).1
     rwa[Qa]at this
    have bj:=au
    rw[Za]at bj
    refine⟨es.length+(ini++nw).length-(ks++nw).length,?_,⟨_,_,rfl⟩,k5,ks++nw,ini++nw,aP,cj,au,?_,?_,?_,Qn _ lN,?_,rfl⟩
    ·rw [Qq] at hsz
     rw[Qq,Qq,Qq,Qx,Wk]
     rw[Qq,Qx,Wk]at fC
     lia
    ·rw [Za]
     refine⟨ar,bj.2.1,λa ha b hb e=>bj.2.2 a (gY a (Qn _ ha)) b hb e⟩
    ·intro q hq
     rcases Qf.mp hq with h | h
     ·exact Qn _ (gY q (Qn _ h))
     ·exact Qo _ h
    ·intro q hq
     rcases Qf.mp hq with h | h
     ·exact dq q h
     ·exact aw q h
    ·intro q hq hX y hy
     rw[Qf,not_or]at hX
     rcases Qf.mp hq with h | h
     ·by_cases ml:q=z
      ·rw[ml,iT]at hy;exact aG y hy
      ·exact Qn _ (gI q h (by rw[Qf,not_or,Qb];exact⟨hX.1,ml⟩) y hy)
     ·exact absurd h hX.2
end
def IsPiece(ns:Nf)(aa:Nu)(zs:Nf):Prop:=zs.Nodup∧∃s∈ns,∀y,y∈zs↔y∈ns∧aa y=aa s
structure InRow(ns:Nf)(zss:List (List Str)):Prop where
 so:∀zs∈zss,zs.Pairwise leS
 hd:zss.Pairwise λa b=>∀x∈a.head?,∀y∈b.head?,leS x y
 al:∀y∈ns,∃zs∈zss,y∈zs
def zgp(H:Hp)(a:Nc)(zs:Nf):Prop:=H a=some (.lst (zs.map V.str))
inductive IspPieces(vs:List V)(H:Hp)(Q:VK):Prop
 |mk (d:Nc) (es:List Ent) (cs:List (List (Str×Str))) (aa:Nu) (h0:vs=[.ref d]) (h1:TAt H d es) (h2:es.length≤60) (h3:Cert (es.map (·.1)) (row (rsOf es)) cs aa) (h4:∀(l:Nc) (as:Nk) (zss:List (List Str)) (H':Hp),H' l=some (.lst (as.map V.ref))→Paired (zgp H') as zss→(∀zs∈zss,IsPiece (es.map (·.1)) aa zs)→InRow (es.map (·.1)) zss→Keep [] H H'→Q (.ref l) H'):IspPieces vs H Q
def spPieces:Sp:=λvs H Q _=>IspPieces vs H Q
section
variable{P:Nj}{w:Nl}{K:Nb}{mg:Ng}{base:Nm}
def zdj:zau ["rounds", "found", "reached", "start", "piece", "place"] ["rounds"] (zag zht):=⟨rfl,rfl,rfl,by decide +kernel,rfl,by decide +kernel,by decide +kernel⟩
def ok_pieces{f fp:Nc}{fd fdp:No}(F:Fun K "pieces_of" "pieces_of" zht f fd)(FP:Fun K "piece_from" "piece_from" zg5 fp fdp)(bP:Binds K fdp ["rounds", "start"] [])(mP:mg "piece_from" = some (.ref fp))(GP:FnOk P w K mg base CX0 1 fp fdp ["rounds", "start"] spPiece)(aY:mg "sorted" = none):FnOk P w K mg base CX0 2 f fd ["rounds"] spPieces:=by
 refine F.ok zdj (λvs H Q E h=>?_) (λcdv A outer s H vs Q E hr h=>?_)
 ·obtain ⟨d,es,cs,aa,rfl,_⟩:=h
  rfl
 ·obtain ⟨d,es,cs,aa,rfl,T,ba,C,k⟩:=h
  have hu:=zb5 hr
  have aL:sizeLine=16777216:=sizeLine_eq
  refine⟨_,zae (zak (i:=1) zdj.nd rfl (Or.inl rfl) (zbc zaf))
   (zae (zak (i:=2) zdj.nd rfl (Or.inl rfl) pe_dnewK)
   (zae (zbn Zo rfl (za9 (zam (zcg rfl) (by rfl) aY Wc (zab (pv 0) zaf))) (zal (i:=3) zdj.nd rfl (Or.inl rfl))
    (zah (zbs (zc5 (zcl hu (pv 3) (pv 2)))
     (zae (zak (i:=4) zdj.nd rfl (Or.inl rfl) (zaj GP hr rfl mP FP.kp bP .nil zav (zab (pv 0) (zab (pv 3) zaf))))
     (zae (za3 (zdo Zk Yn Ym zb4 (pv 1) (zab (pv 4) zaf)))
     (zah (zbn Zo rfl (za9 (pv 4)) (zal (i:=5) zdj.nd rfl (Or.inl rfl))
      (zah (zcu hu (pv 2) (pv 5) pe_bl rfl)))))) zay)))
   (zah (zbm (pv 1))))),?_⟩
  refine⟨(by show 0≤sizeLine;decide),λfo eN re di=>?_⟩
  have fO:H re=none:=zan (xs:=[]) (Keep.new eN) di (by simp)
  have qr:fo≠re:=zaa (o:=_) zac di
  have k1:Keep [] H (upd (upd H fo (.lst [])) re (.dK [])):=(Keep.new eN).trans (Keep.new di)
  have cS:(upd (upd H fo (.lst [])) re (.dK [])) fo=some (.lst []):=by rw[zad qr];exact zac
  have bK:(upd (upd H fo (.lst [])) re (.dK [])) re=some (.dK []):=zac
  generalize upd (upd H fo (.lst [])) re (.dK [])=H1 at k1 cS bK
  have T1:TAt H1 d es:=T.keep k1 (by simp) (λ_ _=>by simp)
  refine⟨_,rfl,d,_,es.map (·.1),rfl,.inl T1.dc,zgc es,λl ws hl ak aH=>?_⟩
  replace aH:=aH (by rw[Qa];omega)
  have k2:Keep [] H1 (upd H1 l (.lst (ws.map V.str))):=Keep.new hl
  have aj:(upd H1 l (.lst (ws.map V.str))) l=some (.lst (ws.map V.str)):=zac
  have nlf:l≠fo:=Zb (zaa cS hl)
  generalize upd H1 l (.lst (ws.map V.str))=H2 at k2 aj
  have cR:=k2 _ _ cS (by simp)
  have cL:=k2 _ _ bK (by simp)
  have nlr:l≠re:=za5 aj cL (by intro z;cases z)
  have T2:TAt H2 d es:=T1.keep k2 (by simp) (λ_ _=>by simp)
  have kX:Keep [] H H2:=k1.trans k2
  have ndf:d≠fo:=zaa T.dc eN
  have cX:d≠re:=zaa T.dc fO
  have cv:ws.length=es.length:=by rw[ak.length_eq,Qa]
  refine⟨l,rfl,⟨_,SqL.of aj⟩,zbt (xs:=ws.map V.str) (λi σ H'=>Aj3 (Ex3 λx3 x4 x5=>σ=[some (.ref d),some (.ref fo),some (.ref re),x3,x4,x5]) (Keep [fo,re] H2 H') (Ex3 λ(as:Nk) (zss:List (List Str)) (ks:Nf)=>Aj8 (H' fo=some (.lst (as.map V.ref))) (H' re=some (.dK (marks ks))) (Paired (zgp H') as zss) (∀zs∈zss,IsPiece (es.map (·.1)) aa zs) (as.length≤i) ks.Nodup (∀z∈ks,z∈es.map (·.1)) (Aj7 (∀a∈as,a≠fo) (∀y∈ws.take i,y∈ks) (∀y∈ks,∃zs∈zss,y∈zs) (∀zs∈zss,∀y∈zs,y∈ks) (∀zs∈zss,∀x∈zs.head?,x∈ws.take i) (zss.Pairwise λa b=>∀x∈a.head?,∀y∈b.head?,leS x y) (∀zs∈zss,zs.Pairwise leS))))
   ⟨⟨_,_,_,rfl⟩,Keep.refl,[],[],[],cR,cL,.nil,λzs h=>(by cases h),Zf _,Zh,λz h=>(by cases h),λz h=>(by cases h),λz h=>(by cases h),λz h=>(by cases h),λz h=>(by cases h),λz h=>(by cases h),List.Pairwise.nil,λz h=>(by cases h)⟩ (λi σ H' _ hh=>SqL.of (hh.2 _ _ aj (by simp[nlf,nlr]))) ?_ ?_⟩
  ·rintro i y σ H3 hx ⟨⟨x3,x4,x5,rfl⟩,k3,as,zss,ks,gf,bh,dk,jN,tO,dR,pq,iz,c1,c2,c6,c3,c4,c5⟩
   have hi:i<ws.length:=by
    have:=(Qw.mp hx).1
    rwa[Qa]at this
   have gX:y=.str ws[i]:=by
    rw[Qs,Qd hi]at hx
    exact(Qk hx).symm
   subst gX
   have dg:=DGet.k (k:=Sum.inr ws[i]) bh
   have T3:TAt H3 d es:=T2.keep k3 (by simp[ndf,cX]) λe he=>by
    have h1:=T.ro e he
    simp[zaa h1 eN,zaa h1 fO]
   by_cases ar:ws[i]∈ks
   ·rw [valM_in ar] at dg
    refine⟨_,rfl,_,rfl,re,_,rfl,dg,_,rfl,zcn rfl ?_⟩
    refine⟨⟨_,_,_,rfl⟩,k3,as,zss,ks,gf,bh,dk,jN,by exact zar16 ‹_›,dR,pq,iz,λy hy=>?_,c2,c6,λzs h x hx=>Us (i:=i) (by rw[List.take_take,Nat.min_eq_left (Uf i)];exact c3 zs h x hx),c4,c5⟩
    rw[Qm hi]at hy
    rcases Qf.mp hy with h | h
    ·exact c1 y h
    ·rw[Qb.mp h];exact ar
   ·rw [zfg ar] at dg
    refine⟨_,rfl,_,rfl,re,_,rfl,dg,_,rfl,zdc rfl ?_⟩
    have gZ:=ak.mem_iff.mp (Qz hi)
    refine⟨_,rfl,_,rfl,d,es,cs,aa,ws[i],rfl,T3,ba,C,gZ,λp zs H4 ca cE qJ dA rO k4=>?_⟩
    obtain⟨jq,sn⟩:∃jq,jq=ks:=⟨_,rfl⟩
    rw[←sn]at bh dR pq ar c1 c2 c6
    have gc:=k4 _ _ gf (by simp)
    have cK:=k4 _ _ bh (by simp)
    have npf:p≠fo:=Zb (zaa gf rO)
    have npr:p≠re:=za5 ca cK (by intro z;cases z)
    refine⟨_,rfl,.inl ⟨rfl,_,SqL.of gc⟩,_,rfl,fo,_,_,rfl,rfl,gc,(by rw[Qa];lia),?_⟩
    have k5:Keep [fo,re] H2 (upd H4 fo (.lst (as.map V.ref++[.ref p]))):=(k3.trans (k4.sub (by simp))).trans (Keep.wr (by simp))
    have cr:(upd H4 fo (.lst (as.map V.ref++[.ref p]))) fo=some (.lst ((as++[p]).map V.ref)):=by rw[zac,Qp];rfl
    have aP:(upd H4 fo (.lst (as.map V.ref++[.ref p]))) re=some (.dK (marks jq)):=by rw[zad (Zb qr)];exact cK
    have bp:(upd H4 fo (.lst (as.map V.ref++[.ref p]))) p=some (.lst (zs.map V.str)):=by rw[zad npf];exact ca
    have i8:Paired (zgp (upd H4 fo (.lst (as.map V.ref++[.ref p])))) (as++[p]) (zss++[zs]):=by
     refine zbi ?_ (.cons bp .nil)
     have:∀{as:Nk} {zss:List (List Str)},Paired (zgp H3) as zss→(∀a∈as,a≠fo)→Paired (zgp (upd H4 fo (.lst (as.map V.ref++[.ref p])))) as zss:=λ{as zss} r ha=>by
      have h2:∀(L:List V),Paired (zgp (upd H4 fo (.lst L))) as zss:=λL=>by
       induction r with
       |nil=>exact .nil
       |cons h t ih=>exact .cons (by unfold zgp;rw[zad (ha _ List.mem_cons_self)];exact k4 _ _ h (by simp)) (ih λa h=>ha a (List.mem_cons_of_mem _ h))
      exact h2 _
     exact this dk iz
    have nY:∀a∈as++[p],a≠fo:=λa ha=>by
     rcases Qf.mp ha with h | h
     ·exact iz a h
     ·rw[Qb.mp h];exact npf
    generalize upd H4 fo (.lst (as.map V.ref++[.ref p]))=H5 at k5 cr aP bp i8
    refine⟨_,rfl,p,rfl,⟨_,SqL.of bp⟩,zbt (xs:=zs.map V.str) (λj σ H'=>Aj3 (Ex1 λx5=>σ=[some (.ref d),some (.ref fo),some (.ref re),some (.str ws[i]),some (.ref p),x5]) (Keep [re] H5 H') (Ex1 λ(ks:Nf)=>Aj4 (H' re=some (.dK (marks ks))) ks.Nodup (∀z∈ks,z∈es.map (·.1)) (∀z,z∈ks↔z∈jq∨z∈zs.take j)))
     ⟨⟨_,rfl⟩,Keep.refl,jq,aP,dR,pq,λz=>⟨.inl,λh=>h.elim id λh=>(by cases h)⟩⟩ (λj σ H' _ hh=>SqL.of (hh.2 _ _ bp (by simpa using npr))) ?_ ?_⟩
    ·rintro j y σ H6 hy ⟨⟨y5,rfl⟩,k6,jo,cn,fW,fX,cP⟩
     have hj:j<zs.length:=by
      have:=(Qw.mp hy).1
      rwa[Qa]at this
     obtain⟨z,hz,rfl,ez⟩:∃z,z∈zs∧y=V.str z∧z=zs[j]:=by
      rw[Qs,Qd hj]at hy
      exact⟨zs[j],Qz hj,(Qk hy).symm,rfl⟩
     have step:∀q,(q∈jo∨q=z)↔q∈jq∨q∈zs.take (j+1):=λq=>by
      rw[cP,Qm hj,Qf,Qb,ez,or_assoc]
     have hsz:jo.length≤es.length:=by
      have:=zci fW fX
      rwa[Qa]at this
     refine⟨_,rfl,_,rfl,re,_,rfl,DPut.k (k:=Sum.inr z) cn (by unfold marks;rw[List.length_map];lia),⟨_,rfl⟩,k6.trans (Keep.wr (by simp)),?_⟩
     by_cases gv:z∈jo
     ·exact⟨jo,by rw[zac,putM_old gv],fW,fX,λq=>by rw[←step q];exact⟨.inl,λh=>h.elim id λe=>e▸gv⟩⟩
     ·refine ⟨jo++[z],by rw [zac,zh1 gv],?_,fun q hq=>?_,fun q=>by rw [← step q,Qf,Qb]⟩
      ·rw [Za]
       refine⟨fW,Qr.mpr ⟨by simp,Zh⟩,λa ha b hb e=>?_⟩
       rw[Qb.mp hb]at e
       exact gv (e▸ha)
      ·rcases Qf.mp hq with h | h
       ·exact fX q h
       ·rw[Qb.mp h];exact((dA z).mp hz).1
    ·rintro σ H6 ⟨⟨y5,rfl⟩,k6,jo,cn,fW,fX,cP⟩
     rw[Qa,Qv (Qi _)]at cP
     have lO:ws[i]∈zs:=(dA _).mpr ⟨gZ,rfl⟩
     have iY:zs.head?=some ws[i]:=by
      cases qH:zs with
      |nil=>rw[qH]at lO;cases lO
      | cons m t =>
       have hmz:m∈zs:=by rw[qH];exact Qc
       obtain⟨jT,hml⟩:=(dA m).mp hmz
       obtain⟨j,hj,ej⟩:=Zr (ak.mem_iff.mpr jT)
       have h1:leS m ws[i]:=by
        rw[qH]at lO qJ
        rcases Qe.mp lO with q | q
        ·rw[q];exact λz=>Wy _ z
        ·exact(Jc.mp qJ).1 _ q
       have bf:i≤j:=Nat.le_of_not_lt λag=>by
        have fR:m∈jq:=c1 m (by rw[←ej,←Wr (j:=i) (h:=by rw[Zj];omega)];exact Qz _)
        obtain⟨jh,c7,sd⟩:=c2 m fR
        obtain⟨_,s,_,hs⟩:=jN jh c7
        exact ar (c6 jh c7 _ ((hs _).mpr ⟨gZ,hml.symm.trans ((hs m).mp sd).2⟩))
       have h2:leS ws[i] m:=by
        rcases Nat.lt_or_eq_of_le bf with q | q
        ·rw[←ej];exact Kc.mp aH i j hi hj q
        ·subst q;rw[ej];exact λz=>Wy _ z
       rw[leS_anti _ _ h1 h2];rfl
     have tk:ws.take (i+1)=ws.take i++[ws[i]]:=Qm hi
     refine⟨⟨_,_,_,rfl⟩,k5.trans (k6.sub (by simp)),as++[p],zss++[zs],jo,k6 _ _ cr (by simpa using qr),cn,Paired.imp' (λa zs h=>k6 _ _ h (by simpa using za5 h aP (by intro z;cases z))) i8,λq hq=>?_,by rw[Qq];show _+1≤_;exact zar4 ‹_›,fW,fX,nY,λy hy=>?_,λy hy=>?_,λq hq y hy=>?_,λq hq x hx=>?_,?_,λq hq=>?_⟩
     ·rcases Qf.mp hq with h | h
      ·exact jN q h
      ·rw[Qb.mp h];exact⟨cE,ws[i],gZ,dA⟩
     ·rw [tk] at hy
      rcases Qf.mp hy with h | h
      ·exact(cP y).mpr (.inl (c1 y h))
      ·rw[Qb.mp h];exact(cP _).mpr (.inr lO)
     ·rcases (cP y).mp hy with h | h
      ·obtain ⟨z,hz,gU⟩:=c2 y h
       exact⟨z,Qn _ hz,gU⟩
      ·exact⟨zs,Qo _ Qc,h⟩
     ·rcases Qf.mp hq with h | h
      ·exact(cP y).mpr (.inl (c6 q h y hy))
      ·rw[Qb.mp h]at hy;exact(cP y).mpr (.inr hy)
     ·rw [tk]
      rcases Qf.mp hq with h | h
      ·exact Qn _ (c3 q h x hx)
      ·rw [Qb.mp h,iY] at hx
       rw[←Qk hx];exact Qo _ Qc
     ·rw [List.pairwise_append]
      refine⟨c4,Wp _ _,λa ha b hb x hx y hy=>?_⟩
      rw[Qb.mp hb,iY]at hy
      rw[←Qk hy]
      obtain⟨j,hj,ej⟩:=Zr (c3 a ha x hx)
      rw[Zj]at hj
      rw[←ej,Wr]
      exact Kc.mp aH j i (by omega) hi (by omega)
     ·rcases Qf.mp hq with h | h
      ·exact c5 q h
      ·rw[Qb.mp h];exact qJ
  ·rintro σ H3 ⟨⟨x3,x4,x5,rfl⟩,k3,as,zss,ks,gf,bh,dk,jN,tO,dR,pq,iz,c1,c2,c6,c3,c4,c5⟩
   rw[Qa,Qv (Qi _)]at c1
   refine⟨_,rfl,k fo as zss H3 gf dk jN ⟨c5,c4,λy hy=>c2 y (c1 y (ak.mem_iff.mpr hy))⟩ λc u ec _=>k3 c u (kX c u ec (by simp)) (by simp[zaa ec eN,zaa ec fO])⟩
end
end K21
end
section
namespace L2
open PySem
def zgb{K:Nb}{g:TG}{tc:TT}{te:TE}{Q:VK}{a:Nc}{τ:St}{H:Hp}{xs:List V}(T:St→Prop)(q:V→Bool)(ha:SqL K H a xs)(hn:xs.length≤sizeLine)(h0:T τ)(hs:∀x∈xs,∀τ,T τ→∀(k1:V→St→Hp→Prop) (k0:St→Hp→Prop),(q x=true→∀τ2,T τ2→k1 x τ2 H)→(q x=false→∀τ2,T τ2→k0 τ2 H)→g x τ H λ τ2 H2=>tc τ2 H2 λb H3=>if b=true then te τ2 H3 λy H4=>k1 y τ2 H4 else k0 τ2 H3)(hq:∀D,H D=none→Q (.ref D) (upd H D (.lst (xs.filter q)))):rLC g tc te Q (Itl K a) τ H:=by
 refine⟨λi m ys τ H1=>Aj5 (H1=H) (T τ) (m=xs.length-i) (i≤xs.length) (ys=(xs.take i).filter q),⟨_,rfl,h0,rfl,Zf _,rfl⟩,?_⟩
 rintro i m ys τ H1 ⟨rfl,ht,rfl,hi,rfl⟩
 by_cases ag:i<xs.length
 ·have eO:((xs.take i).filter q).length≤i:=Zn (Jl _ _) (by rw [Zj];lia)
  refine .inr ⟨⟨xs,xs[i],ha,Qd ag⟩,by lia,?_⟩
  rintro x H' ⟨rfl,hx⟩
  have ci:=hx xs ha
  rw[Qd ag]at ci
  have jx:xs[i]=x:=Qk ci
  have aT:xs.take (i+1)=xs.take i++[x]:=by rw[Qm ag,jx]
  refine hs x (jx▸Qz ag) τ ht (λy τ2 H4=>∃m',m'<xs.length-i∧Aj5 (H4=H') (T τ2) (m'=xs.length-(i+1)) (i+1≤xs.length) ((xs.take i).filter q++[y]=(xs.take (i+1)).filter q))
   (λ τ2 H4=>∃m',m'<xs.length-i∧Aj5 (H4=H') (T τ2) (m'=xs.length-(i+1)) (i+1≤xs.length) ((xs.take i).filter q=(xs.take (i+1)).filter q)) (λiU τ2 h2=>?_) λiU τ2 h2=>?_
  ·exact⟨_,by exact zar1 ‹_›,rfl,h2,rfl,ag,by rw[aT,Ua,Zw iU,Ja]⟩
  ·exact⟨_,by exact zar1 ‹_›,rfl,h2,rfl,ag,by rw[aT,Ua,Zx (by rw[iU];decide),Ja,Zt]⟩
 ·have e:i=xs.length:=by exact zar3 ‹_› ‹_›
  subst e
  refine .inl ⟨⟨xs,ha,Qi _⟩,λD hD=>?_⟩
  rw[Qv (Qi _)]
  exact hq D hD
end L2
namespace K21
open PySem L2 Wb
def sum_filter{α:Type}{p:α→Bool}{f:α→Int}:∀l:List α,(l.map λx=>if p x=true then f x else 0).sum=((l.filter p).map f).sum:=by
 intro l
 induction l with
 |nil=>rfl
 |cons a t ih =>
  rw[Ql,Zl,ih]
  by_cases h:p a=true
  ·rw[if_pos h,Zw h,Ql,Zl]
  ·rw[if_neg h,Zx h];lia
def sum_parts{α:Type}{f:α→List Str}:∀l:List α,(l.map λx=>(2:Int)+(if f x=[] then 2 else 0)-((f x).length:Int)).sum=2*(l.length:Int)+2*((l.filter λx=>(f x).isEmpty).length:Int)-(((l.map λx=>(f x).length).sum:Nat):Int):=by
 intro l
 induction l with
 |nil=>rfl
 |cons a t ih =>
  rw[Ql,Zl,ih,Ql,Zl,Qx]
  by_cases h:f a=[]
  ·rw[Zw (by rw[h];rfl),Qx,if_pos h];lia
  ·rw[Zx (by rw[List.isEmpty_iff];exact h),if_neg h];lia
def sum_twos{α:Type}{p:α→Bool}:∀l:List α,(l.map λx=>if p x=true then(2:Int) else 0).sum=2*((l.filter p).length:Int):=by
 intro l
 induction l with
 |nil=>rfl
 |cons a t ih =>
  rw[Ql,Zl,ih]
  by_cases h:p a=true
  ·rw[if_pos h,Zw h,Qx];lia
  ·rw[if_neg h,Zx h];lia
def iso_eq{es:List Ent}(nd:(es.map (·.1)).Nodup):zez es=(es.map (·.1)).filter λx=>(row (rsOf es) x).isEmpty:=by
 unfold zez
 rw[Kx]
 congr 1
 exact List.filter_congr λe he=>by
  show e.2.1.isEmpty=(row (rsOf es) e.1).isEmpty
  rw[zbk nd he]
def piece_count{es:List Ent}{cs cs':List (List (Str×Str))}{aa:Nu}(C:Cert (es.map (·.1)) (row (rsOf es)) cs aa){zs hd hc:Nf}(hz:IsPiece (es.map (·.1)) aa zs)(hh:hd.Perm (zez es++hc))(ko:cs'.Perm cs)(hp:Paired (fun h c=>∃ s∈c,s.1=h) hc cs') :
  2*zs.length+2*(hd.filter λh=>decide (h∈zs)).length=(zs.map λx=>(row (rsOf es) x).length).sum+4:=by
 obtain⟨cE,s,hs,dA⟩:=hz
 have heu:=C.eu s hs
 have p1:((es.map (·.1)).filter λx=>decide (aa x=aa s)).Perm zs:=(List.perm_ext_iff_of_nodup (Ys Uw C.nd) cE).mpr λy=>by
  rw[Ze,decide_eq_true_iff,dA]
 have e1:wt (es.map (·.1)) (row (rsOf es)) aa (aa s)=2*(zs.length:Int)+2*((zs.filter λx=>(row (rsOf es) x).isEmpty).length:Int)-(((zs.map λx=>(row (rsOf es) x).length).sum:Nat):Int):=by
  unfold wt
  have:=sum_filter (p:=λx=>decide (aa x=aa s)) (f:=λx=>(2:Int)+(if row (rsOf es) x=[] then 2 else 0)-((row (rsOf es) x).length:Int)) (es.map (·.1))
  simp only[decide_eq_true_eq]at this
  rw[this,zh3 (p1.map _),sum_parts]
 have e2:ct cs aa (aa s)=2*((cs.filter λc=>c.any λu=>decide (aa u.1=aa s)).length:Int):=sum_twos _
 have e3:(hd.filter λh=>decide (h∈zs)).length=((zez es).filter λh=>decide (h∈zs)).length+(hc.filter λh=>decide (h∈zs)).length:=by
  rw[(hh.filter _).length_eq,Ua,Qq]
 have e4:((zez es).filter λh=>decide (h∈zs)).length=(zs.filter λx=>(row (rsOf es) x).isEmpty).length:=by
  refine List.Perm.length_eq ((List.perm_ext_iff_of_nodup ?_ (Ys Uw cE)).mpr λy=>?_)
  ·rw [iso_eq C.nd]
   exact Ys Uw (Ys Uw C.nd)
  ·rw [iso_eq C.nd,Ze,Ze,Ze,decide_eq_true_iff]
   exact⟨λ⟨⟨_,a⟩,b⟩=>⟨b,a⟩,λ⟨a,b⟩=>⟨⟨((dA y).mp a).1,b⟩,a⟩⟩
 have e5:(hc.filter λh=>decide (h∈zs)).length=(cs'.filter λc=>c.any λu=>decide (aa u.1=aa s)).length:=by
  have ar:∀c∈cs',c∈cs:=λc h=>ko.mem_iff.mp h
  clear ko e3 e4 hh
  induction hp with
  |nil=>rfl
  | cons h t ih =>
   rename_i h0 c0 _ _
   have iht:=ih λc hc=>ar c (Qg _ hc)
   obtain⟨u,hu,rfl⟩:=h
   have eS:=ar c0 Qc
   have hun:u.1∈es.map (·.1):=C.inn' (C.inc eS hu)
   by_cases hz:u.1∈zs
   ·have hl:=((dA _).mp hz).2
    have iC:(c0.any λu=>decide (aa u.1=aa s))=true:=Yz.mpr ⟨u,hu,decide_eq_true hl⟩
    rw[Zw (by simpa using hz),Zw (p:=λc:List (Str×Str)=>c.any λu=>decide (aa u.1=aa s)) iC,Qx,Qx,iht]
   ·rw [Zx (by simpa using hz),Zx,iht]
    intro q
    obtain⟨v,hv,e⟩:=Yz.mp q
    exact hz ((dA _).mpr ⟨hun,(C.one_lab eS hv hu).trans (of_decide_eq_true e)⟩)
 have e6:=(ko.filter λc=>c.any λu=>decide (aa u.1=aa s)).length_eq
 lia
def ix_listK{X:Cx}{K:Nb}(hK:X.K=K):IxR X (rIxL K):=hK▸zap
def zey{X:Cx}{K:Nb}(hK:X.K=K):OpR X (compareOp .In) (rIn K false):=hK▸op_in_seq
def zit{X:Cx}{K:Nb}(hK:X.K=K):zch X (.builtin "len") (λxs H Q=>Ex2 λp ys=>Aj3 (xs=[.ref p]) (SqL K H p ys∨SqT K H p ys) (Q (.int ys.length) H)):=hK▸zas
abbrev zgv:Stmt:=top 22
inductive IspFlat(vs:List V)(H:Hp)(Q:VK):Prop
 |mk (d:Nc) (es:List Ent) (cs:List (List (Str×Str))) (aa:Nu) (h0:vs=[.ref d]) (h1:TAt H d es) (h2:es.length≤60) (h3:(∀e∈es,e.2.1.length≤100)) (h4:Cert (es.map (·.1)) (row (rsOf es)) cs aa) (h5:∀H',Keep [] H H'→Q .non H'):IspFlat vs H Q
def spFlat:Sp:=λvs H Q _=>IspFlat vs H Q
abbrev csFlA:Scope:=scOf (aOf 0 (aOf 0 (eOf (bAt (sAt zgv 1) 1))))
abbrev csFlB:Scope:=scOf (aOf 0 (eOf (bAt (sAt zgv 1) 2)))
def csFlA_k:csFlA.kind=.function:=by rfl
def csFlA_c:∀y∈csFlA.names,y.2≠.cell:=by decide +kernel
def csFlA_n:∀y∈csFlA.names,y.2=.local→csFlA.names.lookup y.1=some .local:=by decide +kernel
def csFlA_f:∀y∈csFlA.names,y.2=.free→(zag zgv).names.lookup y.1=some .cell∨(zag zgv).names.lookup y.1=some .free:=by decide +kernel
def csFlA_l:csFlA.names.lookup ("rounds" : Str)=some NameKind.free:=by decide +kernel
def csFlB_k:csFlB.kind=.function:=by rfl
def csFlB_c:∀y∈csFlB.names,y.2≠.cell:=by decide +kernel
def csFlB_n:∀y∈csFlB.names,y.2=.local→csFlB.names.lookup y.1=some .local:=by decide +kernel
def csFlB_f:∀y∈csFlB.names,y.2=.free→(zag zgv).names.lookup y.1=some .cell∨(zag zgv).names.lookup y.1=some .free:=by decide +kernel
def csFlB_l:csFlB.names.lookup ("piece" : Str)=some NameKind.free:=by decide +kernel
def ndFB:(["face", "piece"]:List Str).Nodup:=by decide +kernel
def inPc(H:Hp)(zs:Nf):V→Bool
 |.ref a=>match H a with
  |some (.lst (.str h::_))=>decide (h∈zs)
  |_=>false
 |_=>false
def inPc_ref{H:Hp}{zs:Nf}{a:Nc}{h:Str}(e:zc6 H a h):inPc H zs (.ref a)=decide (h∈zs):=by
 obtain⟨t,e⟩:=e
 show(match H a with | some (.lst (.str h::_))=>decide (h∈zs) | _=>false)=_
 rw[e];rfl
def filt_len{H:Hp}{zs:Nf}{as:Nk}{hd:Nf}(r:Paired (zc6 H) as hd):((as.map V.ref).filter (inPc H zs)).length=(hd.filter λh=>decide (h∈zs)).length:=by
 induction r with
 |nil=>rfl
 |cons h t ih =>
  rename_i a b _ _
  rw[Ql]
  have e:=inPc_ref (zs:=zs) h
  by_cases hz:b∈zs
  ·rw[Zw (by rw[e];simpa using hz),Zw (by simpa using hz),Qx,Qx,ih]
  ·rw[Zx (by rw[e];simpa using hz),Zx (by simpa using hz),ih]
def sum_cast(ns:List Nat):(ns.map λn:Nat=>(n:Int)).sum=((ns.sum:Nat):Int):=by
 induction ns with
 |nil=>rfl
 |cons a t ih=>rw[Ql,Zl,Zl,ih];lia
section
variable{P:Nj}{w:Nl}{K:Nb}{mg:Ng}{base:Nm}
def zg4:zau ["rounds", "found", "piece", "many_places", "many_ties", "many_faces"] ["rounds"] (zag zgv):=⟨rfl,rfl,rfl,by decide +kernel,rfl,by decide +kernel,by decide +kernel⟩
def ok_flat{f ff fp:Nc}{fd fdf fdp:No}(F:Fun K "refuse_not_flat" "refuse_not_flat" zgv f fd)(FF:Fun K "faces_of" "faces_of" ze5 ff fdf)(bF:Binds K fdf ["rounds"] [])(mF:mg "faces_of" = some (.ref ff))(GF:FnOk P w K mg base CX0 2 ff fdf ["rounds"] spFaces)(FP:Fun K "pieces_of" "pieces_of" zht fp fdp)(bP:Binds K fdp ["rounds"] [])(mP:mg "pieces_of" = some (.ref fp))(GP:FnOk P w K mg base CX0 2 fp fdp ["rounds"] spPieces)(af:mg "len" = none)(r8:mg "sum" = none):FnOk P w K mg base CX0 3 f fd ["rounds"] spFlat:=by
 refine F.ok zg4 (λvs H Q E h=>?_) (λcdv A outer s H vs Q E hr h=>?_)
 ·obtain ⟨d,es,cs,aa,rfl,_⟩:=h
  rfl
 ·obtain ⟨d,es,cs,aa,rfl,T,ba,aQ,C,k⟩:=h
  have hu:=zb5 hr
  have aL:sizeLine=16777216:=sizeLine_eq
  refine⟨_,zae (zak (i:=1) zg4.nd rfl (Or.inl rfl) (zaj GF hr rfl mF FF.kp bF .nil zav (zab (pv 0) zaf)))
   (zah (zbn Zo rfl (za9 (zaj GP hr rfl mP FP.kp bP .nil zav (zab (pv 0) zaf))) (zal (i:=2) zg4.nd rfl (Or.inr rfl))
    (zae (zak (i:=3) zg4.nd rfl (Or.inl rfl) (zam zas (by rfl) af Zv (zab (pv 2) zaf)))
    (zae (zak (i:=4) zg4.nd rfl (Or.inl rfl) (zaw zh7 (zam (call_sum rfl) (by rfl) r8 PyProof.Rows.boot_sum (zab (zh4 (M:=["place", "rounds"]) (ix:=[none,some 0]) ⟨csFlA_k,csFlA_c,csFlA_n,csFlA_f,rfl,by decide +kernel,λj i x h1 h2=>by
       match j,h1,h2 with
       |0,_,h2=>cases h2
       |1,h1,h2=>cases h1;cases h2;exact⟨rfl,csFlA_l⟩
       |n+2,h1,_=>cases h1⟩ rfl (za9 (pv 2)) (λC a7 ex s H=>zal (i:=0) ndF rfl (Or.inl rfl) (Or.inr rfl)) (λC a7 ex s H=>zct)
       (λC a7 ex s H=>zam (zit (K:=K) rfl) (by rfl) (by exact af) Zv (zab (zaz (by exact hu) (pv 1) (pv 0) (λ_ _=>rfl)) zaf))) zaf)) zai))
    (zae (zak (i:=5) zg4.nd rfl (Or.inl rfl) (zam zas (by rfl) af Zv (zab (zh4 (M:=["face", "piece"]) (ix:=[none,some 2]) ⟨csFlB_k,csFlB_c,csFlB_n,csFlB_f,rfl,by decide +kernel,λj i x h1 h2=>by
       match j,h1,h2 with
       |0,_,h2=>cases h2
       |1,h1,h2=>cases h1;cases h2;exact⟨rfl,csFlB_l⟩
       |n+2,h1,_=>cases h1⟩ rfl (za9 (pv 1)) (λC a7 ex s H=>zal (i:=0) ndFB rfl (Or.inl rfl) (Or.inr rfl))
       (λC a7 ex s H=>zdz (zar (zey (K:=K) rfl) (za1 (ix_listK (K:=K) rfl) (pv 0) zai (λ_ _=>rfl)) (pv 1) rfl)) (λC a7 ex s H=>pv 0)) zaf)))
    (zah (zbs (zar op_ne (zaw zbv (pv 3) (pv 5)) (zaw zbv (pv 4) zai) (zbd _)) (zah zgx) zay)))))))  ,?_⟩
  refine⟨_,rfl,d,es,cs,aa,rfl,T,ba,aQ,C,λfo fas hd hc cs' H1 cS hfal hhd hhp ko eR k1=>?_⟩
  have T1:TAt H1 d es:=T.keep k1 (by simp) (λ_ _=>by simp)
  refine⟨_,rfl,d,es,cs,aa,rfl,T1,ba,C,λl as zss H2 aj iV jN _ k2=>?_⟩
  have T2:TAt H2 d es:=T1.keep k2 (by simp) (λ_ _=>by simp)
  have cR:=k2 _ _ cS (by simp)
  have sA:Paired (zc6 H2) fas hd:=zcw (D:=d) (g:=d) k2 hhd (λ_ _ _ _=>by simp)
  refine⟨l,rfl,⟨_,SqL.of aj⟩,zbt (xs:=as.map V.ref) (λi σ H'=>Aj2 (Keep [] H2 H') (Ex4 λx2 x3 x4 x5=>σ=[some (.ref d),some (.ref fo),x2,x3,x4,x5])) ⟨Keep.refl,_,_,_,_,rfl⟩ (λi σ H' _ hh=>SqL.of (hh.1 _ _ aj (by simp))) ?_ ?_⟩
  ·rintro i y σ H3 hx ⟨k3,x2,x3,x4,x5,rfl⟩
   have hi:i<as.length:=by
    have:=(Qw.mp hx).1
    rwa[Qa]at this
   have gX:y=.ref as[i]:=by
    rw[Qs,Qd hi]at hx
    exact(Qk hx).symm
   subst gX
   obtain⟨aI,eT⟩:=zbh iV hi
   have ph:=jN _ (Qz aI)
   have ku:=piece_count C ph hhp ko eR
   generalize zss[i]=zs at eT ph ku
   have iD:H3 as[i]=some (.lst (zs.map V.str)):=k3 _ _ eT (by simp)
   have jv:∀z∈zs,∃e∈es,e.1=z:=λz hz=>by
    obtain⟨_,s,_,hm⟩:=ph
    exact Qh.mp ((hm z).mp hz).1
   have dB:zs.length≤100:=by
    have:=zci ph.1 (m:=es.map (·.1)) λz hz=>by
     obtain⟨e,he,rfl⟩:=jv z hz
     exact Qh.mpr ⟨e,he,rfl⟩
    rw[Qa]at this
    omega
   refine⟨_,rfl,as[i],_,rfl,.inl (SqL.of iD),?_⟩
   have T3:TAt H3 d es:=T2.keep k3 (by simp) (λ_ _=>by simp)
   refine⟨_,rfl,as[i],rfl,⟨_,SqL.of iD⟩,lc_at (xs:=zs.map V.str) (λ τ=>∃x0,τ=[x0,some (.ref d)]) ((zs.map λx=>((row (rsOf es) x).length:Int)).map V.int) (by rw[Qa,Qa,Qa]) (SqL.of iD) (by rw[Qa];lia) ⟨none,rfl⟩ ?_ (λD hD=>?_)⟩
   ·rintro j hj n8 τ ⟨x0,rfl⟩ kk hk
    rw[Qa]at hj
    rw[Zm]
    obtain⟨en,aJ,dG⟩:=jv _ (Qz hj)
    have dg:DGet H3 d (.str zs[j]) (some (.ref en.2.2)):=by
     have:=DGet.k (k:=Sum.inr en.1) T3.dc
     rw[zbu T3.nd aJ,dG]at this
     exact this
    refine⟨_,rfl,_,rfl,d,_,rfl,dg,en.2.2,_,rfl,.inr (SqT.of (T3.ro en aJ)),?_⟩
    have e:((zs.map λx=>((row (rsOf es) x).length:Int)).map V.int)[j]=V.int ((en.2.1.map V.str).length:Int):=by
     rw[Zm,Zm,←dG,zbk T3.nd aJ,Qa]
    rw[e]at hk
    exact hk _ ⟨_,rfl⟩
   ·have k4:Keep [] H3 (upd H3 D (.lst ((zs.map fun x=>((row (rsOf es) x).length:Int)).map V.int))):=Keep.new hD
    have je:(upd H3 D (.lst ((zs.map λx=>((row (rsOf es) x).length:Int)).map V.int))) D=some (.lst ((zs.map λx=>((row (rsOf es) x).length:Int)).map V.int)):=zac
    generalize upd H3 D (.lst ((zs.map λx=>((row (rsOf es) x).length:Int)).map V.int))=H4 at k4 je
    refine⟨D,_,rfl,SqL.of je,by rw[Qa];lia,λn hn=>?_,?_⟩
    ·obtain ⟨z,hz,rfl⟩:=Qh.mp hn
     obtain⟨en,aJ,dG⟩:=jv z hz
     have h1:=aQ en aJ
     rw[←dG,zbk T3.nd aJ]
     lia
    ·have lY:(zs.map fun x=>((row (rsOf es) x).length:Int)).sum=(((zs.map fun x=>(row (rsOf es) x).length).sum:Nat):Int):=by
      rw[←sum_cast,Zi];rfl
     rw[lY]
     refine⟨_,_,rfl,rfl,⟨by decide,by decide⟩,?_⟩
     have gc:=k4 _ _ (k3 _ _ cR (by simp)) (by simp)
     have tQ:=k4 _ _ iD (by simp)
     have ng:Paired (zc6 H4) fas hd:=zcw (D:=d) (g:=d) (k3.trans k4) sA (λ_ _ _ _=>by simp)
     refine⟨_,rfl,fo,rfl,⟨_,SqL.of gc⟩,zgb (xs:=fas.map V.ref) (λ τ=>∃x0,τ=[x0,some (.ref as[i])]) (inPc H4 zs) (SqL.of gc) (by rw[Qa];lia) ⟨none,rfl⟩ ?_ (λD2 dw=>?_)⟩
     ·rintro x hx τ ⟨x0,rfl⟩ kk1 kk0 hk1 hk0
      obtain⟨a,ha,rfl⟩:=Qh.mp hx
      obtain⟨j,hj,rfl⟩:=Zr ha
      obtain⟨n6,iw⟩:=zbh ng hj
      have ar:=inPc_ref (zs:=zs) iw
      obtain⟨t,et⟩:=iw
      refine⟨_,rfl,fas[j],_,_,_,rfl,rfl,SqL.of et,zaq (j:=0) rfl,_,rfl,as[i],_,rfl,.inl (SqL.of tQ),rfl,zbw zs,_,rfl,?_⟩
      cases hb:decide (hd[j]∈zs) with
      |true=>exact zdc (show inV _ _=true by rw[zdd];exact hb) ⟨_,rfl,hk1 (ar.trans hb) _ ⟨_,rfl⟩⟩
      |false=>exact zcn (show inV _ _=false by rw[zdd];exact hb) (hk0 (ar.trans hb) _ ⟨_,rfl⟩)
     ·have k5:Keep [] H4 (upd H4 D2 (.lst ((fas.map V.ref).filter (inPc H4 zs)))):=Keep.new dw
      refine⟨D2,_,rfl,.inl (SqL.of zac),?_⟩
      rw[filt_len ng]
      refine⟨_,rfl,_,rfl,_,_,rfl,rfl,_,rfl,_,_,rfl,rfl,rfl,_,rfl,zcn ?_ ?_⟩
      ·rw [Bool.not_eq_false',decide_eq_true_iff]
       refine congrArg V.int ?_
       rw[Qa]
       lia
      ·exact⟨(k3.trans k4).trans k5,_,_,_,_,rfl⟩
  ·rintro σ H3 ⟨k3,x2,x3,x4,x5,rfl⟩
   exact k H3 ((k1.trans k2).trans k3)
end
end K21
end
section
namespace K21
open PySem L2 Wb
abbrev sInit:Stmt:=inClass sWeb 0
abbrev zgo:List Ent→List Ent→Prop:=Paired λt e=>t.1=e.1∧∃k,t.2.1=e.2.1.drop k++e.2.1.take k
inductive IspInit(C:Nc)(vs:List V)(H:Hp)(Q:VK):Prop
 |mk (x dx l:Nc) (as:Nk) (es:List Ent) (cs:List (List (Str×Str))) (aa:Nu) (h0:vs=[.ref x,.ref l]) (h1:H x=some (.ins C dx [])) (h2:RwAt H l as es) (h3:es.length≤40) (h4:(∀e∈es,zfc e.1)) (h5:Cert (es.map (·.1)) (row (rsOf es)) cs aa) (h6:∀(d:Addr) (ts aK:List Ent) (H':Hp),WAt H' C x dx d ts→aK.Perm es→zgo ts aK→Keep [x] H H'→Q .non H'):IspInit C vs H Q
def spInit(C:Nc):Sp:=λvs H Q _=>IspInit C vs H Q
def zbz{ts es:List Ent}(h:zgo ts es):ts.map (·.1)=es.map (·.1):=by
 induction h with
 |nil=>rfl
 |cons h t ih=>rw[Ql,Ql,h.1,ih]
def zeq{ts es:List Ent}(h:zgo ts es){t:Ent}(ht:t∈ts):∃e∈es,t.1=e.1∧∃k,t.2.1=e.2.1.drop k++e.2.1.take k:=by
 induction h with
 |nil=>cases ht
 | cons h _ ih =>
  rcases Qe.mp ht with z | z
  ·subst z;exact⟨_,Qc,h⟩
  ·obtain ⟨e,he,r⟩:=ih z
   exact⟨e,Qg _ he,r⟩
def zdh{ts aK es:List Ent}(h:zgo ts aK)(hp:aK.Perm es)(nd:(es.map (·.1)).Nodup):∀x,∃k,row (rsOf ts) x=(row (rsOf es) x).drop k++(row (rsOf es) x).take k:=λx=>by
 have eZ:(ts.map (·.1)).Nodup:=by rw[zbz h];exact(hp.map _).nodup_iff.mpr nd
 by_cases hx:x∈ts.map (·.1)
 ·obtain ⟨t,ht,rfl⟩:=Qh.mp hx
  obtain⟨e,he,e1,k,e2⟩:=zeq h ht
  refine⟨k,?_⟩
  rw[zbk eZ ht,e1,zbk nd (hp.mem_iff.mp he),e2]
 ·refine ⟨0,?_⟩
  have oU:x∉es.map (·.1):=λz=>hx (by rw[zbz h];exact(hp.map _).mem_iff.mpr z)
  have n1:x∉(rsOf ts).map (·.1):=by unfold rsOf;rw[List.map_map];exact hx
  have n2:x∉(rsOf es).map (·.1):=by unfold rsOf;rw[List.map_map];exact oU
  rw[zeu n1,zeu n2];rfl
abbrev csInit:Scope:=scOf (eOf (sAt sInit 3))
def csInit_k:csInit.kind=.function:=by rfl
def csInit_c:∀y∈csInit.names,y.2≠.cell:=by decide +kernel
def csInit_n:∀y∈csInit.names,y.2=.local→csInit.names.lookup y.1=some .local:=by decide +kernel
def csInit_f:∀y∈csInit.names,y.2=.free→(zag sInit).names.lookup y.1=some .cell∨(zag sInit).names.lookup y.1=some .free:=by decide +kernel
section
variable{P:Nj}{w:Nl}{K:Nb}{mg:Ng}{base:Nm}
def scInit:zau ["self", "rows", "rounds"] ["self", "rows"] (zag sInit):=⟨rfl,rfl,rfl,by decide +kernel,rfl,by decide +kernel,by decide +kernel⟩
def ok_init{C f fn ft fo fl ff:Nc}{fd fdn fdt fdo fdl fdf:No}(F:Fun K "__init__" "Web.__init__" sInit f fd)(cW:Cls K C)(nW:zdv K C "rounds")(FN:Fun K "refuse_no_names" "refuse_no_names" zfl fn fdn)(bN:Binds K fdn ["rows"] [])(mN:mg "refuse_no_names" = some (.ref fn))(GN:FnOk P w K mg base CX0 2 fn fdn ["rows"] spNoNames)(FT:Fun K "refuse_twice" "refuse_twice" zdq ft fdt)(bT:Binds K fdt ["rows"] [])(mT:mg "refuse_twice" = some (.ref ft))(GT:FnOk P w K mg base CX0 1 ft fdt ["rows"] spTwice)(FO:Fun K "refuse_one_way" "refuse_one_way" zhu fo fdo)(bO:Binds K fdo ["rows"] [])(mO:mg "refuse_one_way" = some (.ref fo))(GO:FnOk P w K mg base CX0 1 fo fdo ["rows"] spOneWay)(FL:Fun K "from_least" "from_least" sLeast fl fdl)(bL:Binds K fdl ["around"] [])(mL:mg "from_least" = some (.ref fl))(GL:FnOk P w K mg base CX0 1 fl fdl ["around"] spLeast)(FF:Fun K "refuse_not_flat" "refuse_not_flat" zgv ff fdf)(bF:Binds K fdf ["rounds"] [])(mF:mg "refuse_not_flat" = some (.ref ff))(GF:FnOk P w K mg base CX0 3 ff fdf ["rounds"] spFlat)(aY:mg "sorted" = none):FnOk P w K mg base CX0 4 f fd ["self", "rows"] (spInit C):=by
 refine F.ok scInit (λvs H Q E h=>?_) (λcdv A outer s H vs Q E hr h=>?_)
 ·obtain ⟨x,dx,l,as,es,cs,aa,rfl,_⟩:=h
  rfl
 ·obtain ⟨x,dx,l,as,es,cs,aa,rfl,hx,R,ba,hok,Ct,k⟩:=h
  have hu:=zb5 hr
  have aE:Room 1 _:=hr.mono (by decide)
  have cN:Room 2 _:=hr.mono (by decide)
  have aL:sizeLine=16777216:=sizeLine_eq
  refine⟨_,zae (za3 (zaj GN cN rfl mN FN.kp bN .nil zav (zab (pv 1) zaf)))
   (zae (za3 (zaj GT aE rfl mT FT.kp bT .nil zav (zab (pv 1) zaf)))
   (zae (za3 (zaj GO aE rfl mO FO.kp bO .nil zav (zab (pv 1) zaf)))
   (zae (ps_dc (i:=2) (M:=["place", "around"]) (ix:=[none,none]) scInit.nd rfl rfl (noB (n:=2) csInit_k csInit_c csInit_n csInit_f rfl ndPA) rfl
     (za9 (zam zfe (by rfl) aY Wc (zab (pv 1) zaf)))
     (λC a7 ex s H=>zh2 (K:=K) (n:=2) rfl rfl (za6 (zal (i:=0) ndPA rfl (Or.inl rfl) (Or.inr rfl)) (za6 (zal (i:=1) ndPA rfl (Or.inl rfl) (Or.inr rfl)) zck)))
     (λC a7 ex s H=>zct) (λC a7 ex s H=>pv 0) (λC a7 ex s H=>zaj GL (by exact aE) rfl (by exact mL) FL.kp bL .nil zav (zab (pv 1) zaf)) rfl)
   (zae (za3 (zaj GF hr rfl mF FF.kp bF .nil zav (zab (pv 2) zaf)))
   (zah (ps_fld (pv 0) (pv 2) rfl)))))),?_⟩
  have aD:(es.map (·.1)).Nodup:=Ct.nd
  have ap:∀e∈es,row (rsOf es) e.1=e.2.1:=λe he=>zbk aD he
  have hrn:∀e∈es,e.2.1.Nodup:=λe he=>ap e he▸Ct.rn e.1
  have fH:∀e∈es,∀y∈e.2.1,y∈es.map (·.1):=λe he y hy=>Ct.inn' (x:=e.1) (by rw[ap e he];exact hy)
  have aQ:∀e∈es,e.2.1.length≤40:=λe he=>by
   have:=zci (hrn e he) (fH e he)
   rw[Qa]at this
   exact Zn ‹_› ‹_›
  refine⟨_,rfl,l,as,es,rfl,R,λe he=>⟨Zn (aQ e he) (by decide),hok e he,λy hy=>?_⟩,λH1 k1=>?_⟩
  ·obtain ⟨e',aS,rfl⟩:=Qh.mp (fH e he y hy)
   exact hok e' aS
  have R1:=R.keep k1
  refine⟨_,rfl,l,as,es,rfl,R1,by lia,aD,λe he=>⟨Zn (aQ e he) (by decide),hrn e he⟩,λH2 k2=>?_⟩
  have R2:=R1.keep k2
  refine⟨_,rfl,l,as,es,rfl,R2,aD,λe he=>⟨?_,λy hy=>?_⟩,λH3 k3=>?_⟩
  ·rw[←ap e he];exact Ct.ir e.1
  ·obtain ⟨e',aS,fB⟩:=Qh.mp (fH e he y hy)
   have lM:e'.1=y:=fB
   refine⟨e',aS,lM,?_⟩
   rw[←ap e' aS,lM]
   exact Ct.sy e.1 y (by rw[ap e he];exact hy)
  have R3:=R2.keep k3
  have gu:Keep [] H H3:=(k1.trans k2).trans k3
  have cV:as.length=es.length:=Yr R3.ts
  refine⟨_,rfl,l,_,rfl,SqL.of R3.ls,λv hv=>?_,λv hv u hu e=>?_,λl2 wsV aj ak aH=>?_⟩
  ·obtain ⟨a,ha,rfl⟩:=Qh.mp hv
   obtain⟨i,hi,rfl⟩:=Zr ha
   obtain⟨aI,h⟩:=zbh R3.ts hi
   exact⟨_,_,_,rfl,h⟩
  ·obtain ⟨a,ha,rfl⟩:=Qh.mp hv
   obtain⟨b,hb,rfl⟩:=Qh.mp hu
   obtain⟨i,hi,rfl⟩:=Zr ha
   obtain⟨j,hj,rfl⟩:=Zr hb
   obtain⟨aI,h1⟩:=zbh R3.ts hi
   obtain⟨n6,h2⟩:=zbh R3.ts hj
   rw[zed h1,zed h2]at e
   have e':es[i].1=es[j].1:=by
    have q:es[i].1.cps.toList=es[j].1.cps.toList:=e
    generalize es[i].1=a1 at q ⊢
    generalize es[j].1=a2 at q ⊢
    cases a1;cases a2
    congr 1
    exact Jo.mp q
   have e2:(es.map (·.1))[i]'(by rw[Qa];exact aI)=(es.map (·.1))[j]'(by rw[Qa];exact n6):=by rw[Zm,Zm];exact e'
   have:=(Yi aD).mp e2
   subst this
   rfl
  ·obtain ⟨gQ,rfl,av⟩:=refs_perm ak
   obtain⟨aK,cp,dN⟩:=zd2 av R3.ts
   have k4:Keep [] H3 (upd H3 l2 (.lst (gQ.map V.ref))):=Keep.new aj
   have bu:(upd H3 l2 (.lst (gQ.map V.ref))) l2=some (.lst (gQ.map V.ref)):=zac
   generalize upd H3 l2 (.lst (gQ.map V.ref))=H4 at k4 bu
   have lU:Paired (λa (e:Ent)=>H4 a=some (.tup [.str e.1,.ref e.2.2])) gQ aK:=Paired.imp' (λ_ _ h=>k4 _ _ h (by simp)) dN
   have rF:∀e∈aK,H4 e.2.2=some (.lst (e.2.1.map V.str)):=λe he=>k4 _ _ (R3.ro e (cp.mem_iff.mp he)) (by simp)
   have mz:(aK.map (·.1)).Nodup:=(cp.map _).nodup_iff.mpr aD
   have nZ:gQ.length=aK.length:=Yr lU
   have hel2:aK.length=es.length:=cp.length_eq
   refine⟨l2,rfl,⟨_,SqL.of bu⟩,λi m ys τ H'=>Aj5 (m=aK.length-i) (i≤aK.length) (Ex2 λx0 x1=>τ=[x0,x1]) (Keep [] H4 H') (Ex1 λ(ts:List Ent)=>Aj3 (ys=(ts.map λe=>((Sum.inr e.1:Key),V.ref e.2.2))) (∀e∈ts,H' e.2.2=some (.tup (e.2.1.map V.str))) (zgo ts (aK.take i))),
    ⟨aK.length,rfl,Zf _,⟨none,none,rfl⟩,Keep.refl,[],rfl,λe he=>(by cases he),.nil⟩,?_⟩
   rintro i m ys τ H5 ⟨rfl,hi,⟨x0,x1,rfl⟩,k5,ts,rfl,hU,bo⟩
   by_cases ag:i<aK.length
   ·have gA:=zbz bo
    have lV:ts.length≤i:=by
     have:=congrArg List.length gA
     rw[Qa,Qa,Zj]at this
     lia
    refine .inr ⟨⟨_,.ref gQ[i],SqL.of (k5 _ _ bu (by simp)),by rw[Qs,Qd (by exact zar6 ‹_› ‹_›)];rfl⟩,by rw[Qa];lia,?_⟩
    rintro v H6 ⟨rfl,hv⟩
    have fG:=hv _ (SqL.of (k5 _ _ bu (by simp)))
    rw[Qs,Qd (by exact zar6 ‹_› ‹_›)]at fG
    obtain rfl:V.ref gQ[i]=v:=Qk fG
    obtain⟨aI,eT⟩:=zbh lU (by exact zar6 ‹_› ‹_›:i<gQ.length)
    have bg:aK[i]∈aK:=Qz ag
    have cI:=k5 _ _ (rF _ bg) (by simp)
    have my:aK[i].1∉ts.map (·.1):=by
     rw[gA]
     have h1:(aK.map (·.1)).take (i+1)=(aK.map (·.1)).take i++[aK[i].1]:=by
      rw[Qm (by rw[Qa];exact ag),Zm]
     have h2:((aK.map (·.1)).take (i+1)).Nodup:=Ys (Ul _ _) mz
     rw[h1,Za,←Uh]at h2
     exact λz=>h2.2.2 _ z _ (Qb.mpr rfl) rfl
    refine⟨gQ[i],_,rfl,SqT.of (k5 _ _ eT (by simp)),rfl,_,_,rfl,_,_,rfl,rfl,_,rfl,_,rfl,aK[i].2.2,aK[i].2.1,rfl,cI,Zn (aQ _ (cp.mem_iff.mp bg)) (by decide),λt j H7 hj oZ htfr k7=>?_⟩
    refine⟨Sum.inr aK[i].1,rfl,aK.length-(i+1),by exact zar1 ‹_›,rfl,ag,⟨_,_,rfl⟩,k5.trans k7,ts++[(aK[i].1,aK[i].2.1.drop j++aK[i].2.1.take j,t)],zh0 (r:=aK[i].2.1.drop j++aK[i].2.1.take j) my,λe he=>?_,?_⟩
    ·rcases Qf.mp he with z | z
     ·exact k7 _ _ (hU e z) (by simp)
     ·rw[Qb.mp z];exact oZ
    ·rw [Qm ag]
     exact zbi bo (.cons ⟨rfl,j,rfl⟩ .nil)
   ·have jY:i=aK.length:=by exact zar3 ‹_› ‹_›
    subst jY
    rw[Qv (Qi _)]at bo
    refine .inl ⟨⟨_,SqL.of (k5 _ _ bu (by simp)),by rw[Qa,nZ];exact Qi _⟩,λd hd=>?_⟩
    have k6:Keep [] H5 (upd H5 d (.dK (ts.map λe=>((Sum.inr e.1:Key),V.ref e.2.2)))):=Keep.new hd
    have nM:(upd H5 d (.dK (ts.map λe=>((Sum.inr e.1:Key),V.ref e.2.2)))) d=some (.dK (ts.map λe=>((Sum.inr e.1:Key),V.ref e.2.2))):=zac
    generalize upd H5 d (.dK (ts.map λe=>((Sum.inr e.1:Key),V.ref e.2.2)))=H6 at k6 nM
    have gA:=zbz bo
    have T6:TAt H6 d ts:=⟨nM,λe he=>k6 _ _ (hU e he) (by simp),by rw[gA];exact mz⟩
    have lV:ts.length=es.length:=by
     have:=congrArg List.length gA
     rw[Qa,Qa,cp.length_eq]at this
     exact this
    have C6:Cert (ts.map (·.1)) (row (rsOf ts)) cs aa:=cert_turn Ct (by rw[gA];exact cp.map _) (zdh bo cp aD)
    refine⟨_,rfl,d,ts,cs,aa,rfl,T6,by lia,λe he=>?_,C6,λH7 k7=>?_⟩
    ·obtain ⟨e',aS,_,kk,e2⟩:=zeq bo he
     rw[e2,(zfm _ kk).length_eq]
     exact Zn (aQ e' (cp.mem_iff.mp aS)) (by decide)
    ·have k07:Keep [] H H7:=(((gu.trans k4).trans k5).trans k6).trans k7
     have jy:=k07 _ _ hx (by simp)
     have T7:TAt H7 d ts:=T6.keep k7 (by simp) (λ_ _=>by simp)
     have nxd:d≠x:=za5 T7.dc jy (by intro z;cases z)
     refine⟨_,rfl,_,rfl,x,C,dx,[],rfl,jy,cW,nW,(by decide),?_⟩
     refine k d ts aK _ ⟨zac,T7.keep (xs:=[x]) (Keep.wr (by simp)) (by simpa using nxd) λe he=>by simpa using za5 (T7.ro e he) jy (by intro z;cases z)⟩ cp bo ((k07.sub (by simp)).trans (Keep.wr (by simp)))
end
section
variable{P:Nj}{w:Nl}{K:Nb}{mg:Ng}{base:Nm}
end
abbrev zgw:Stmt:=top 27
abbrev sPot:Stmt:=top 26
inductive IspPot(K:Nb)(vs:List V)(H:Hp)(Q:VK):Prop
 |mk (a:Nc) (ns:List Int) (j:Nat) (h0:vs=[.ref a,.int j]) (h1:SqL K H a (ns.map V.int)) (h2:j≤1000) (oq:ns.length≤1000) (h3:∀(l:Nc) (b m:Int) (H':Hp),H l=none→Pot H' l b m→Keep [] H H'→Q (.ref l) H'):IspPot K vs H Q
def spPot(K:Nb):Sp:=λvs H Q _=>IspPot K vs H Q
def zhn{K:Nb}{H H':Hp}{a:Nc}{xs:List V}(h:SqL K H a xs)(k:Keep [] H H'):SqL K H' a xs:=h.imp (λr=>r.imp (λe=>k _ _ e (by simp)) λ⟨o,e⟩=>⟨o,k _ _ e (by simp)⟩) id
section
variable{P:Nj}{w:Nl}{K:Nb}{mg:Ng}{base:Nm}
def scDraw:zau ["_law_pot_here", "_law_many", "_law_digit"] ["_law_pot_here", "_law_many"] (zag zgw):=⟨rfl,rfl,rfl,by decide +kernel,rfl,by decide +kernel,by decide +kernel⟩
def ok_draw{f:Nc}{fd:No}(F:Fun K "_law_draw" "_law_draw" zgw f fd):FnOk P w K mg base CX0 1 f fd ["_law_pot_here", "_law_many"] ze4:=by
 refine F.ok scDraw (λvs H Q E h=>?_) (λcdv A outer s H vs Q E hr h=>?_)
 ·obtain ⟨p,b,m,n,rfl,_⟩:=h
  rfl
 ·obtain ⟨p,b,m,n,rfl,⟨hp,hb,hm,cx⟩,hn,bm,k⟩:=h
  have i0:atI [V.int b,V.int m] ((0:Nat):Int)=some (.int b):=zaq rfl
  have i1:atI [V.int b,V.int m] ((1:Nat):Int)=some (.int m):=zaq rfl
  refine⟨_,zae (zbs (zar op_gt (za1 zap (pv 0) zai (λ_ _=>rfl)) zai (zbd _))
   (zae (zak (i:=2) scDraw.nd rfl (Or.inl rfl) (zaw ze9 (za1 zap (pv 0) zai (λ_ _=>rfl)) (pv 1)))
   (zae (ps_asg (zaw zh7 (za1 zap (pv 0) zai (fun _ _=>rfl)) (pv 1)) (pg_sub (pv 0) zai set_list))
    (zah (zbm (pv 2))))) zay)
   (zae (ps_asg (zaw ze9 (zaw zbv (zaw zf3 (za1 zap (pv 0) zai (λ_ _=>rfl)) zai) zai) zai) (pg_sub (pv 0) zai set_list))
   (zah (zbm (zaw ze9 (zaw zh7 (za1 zap (pv 0) zai (λ_ _=>rfl)) zai) (pv 1))))),?_⟩
  refine⟨_,rfl,p,_,_,_,rfl,rfl,SqL.of hp,i0,_,_,rfl,rfl,_,rfl,?_⟩
  refine ite2 (λi6=>?_) (λhneg=>?_)
  ·have lm:0 < b:=of_decide_eq_true i6
   refine⟨_,rfl,p,_,_,_,rfl,rfl,SqL.of hp,i0,_,rfl,_,_,rfl,rfl,hn,?_⟩
   refine⟨_,rfl,p,_,_,_,rfl,rfl,SqL.of hp,i0,_,rfl,_,_,rfl,rfl,⟨hn,bm⟩,_,rfl,p,_,0,0,rfl,rfl,hp,rfl,_,rfl,?_⟩
   refine k (b%n) (b/n) m _ (Jb _ (by lia)) (Uj _ hn) ⟨zac,Int.ediv_nonneg hb (by lia),hm,cx⟩ λc o e hc=>?_
   rw[zad hc]
   exact e
  ·have i1':∀ x:Int,atI [V.int b,V.int x] ((1:Nat):Int)=some (.int x):=fun x=>zaq rfl
   have r0:0≤(m*40692+6553)%2147483399:=Jb _ (by decide)
   have r1:(m*40692+6553)%2147483399<2147483399:=Uj _ (by decide)
   refine⟨_,rfl,p,_,_,_,rfl,rfl,SqL.of hp,i1,_,_,rfl,rfl,.inl ⟨by lia,by lia⟩,_,_,rfl,rfl,_,_,rfl,rfl,(by show(0:Int)<2147483399;decide),_,rfl,p,_,1,1,rfl,rfl,hp,rfl,?_⟩
   refine⟨_,rfl,p,_,_,_,rfl,rfl,SqL.of zac,i1' _,_,_,rfl,rfl,⟨by decide,by decide⟩,_,rfl,_,_,rfl,rfl,hn,?_⟩
   refine k _ b ((m*40692+6553)%2147483399) _ (Jb _ (by lia)) (Uj _ hn) ⟨zac,hb,r0,by lia⟩ λc o e hc=>?_
   rw[zad hc]
   exact e
def scPot:zau ["_law_script", "_law_k", "_law_cell"] ["_law_script", "_law_k"] (zag sPot):=⟨rfl,rfl,rfl,by decide +kernel,rfl,by decide +kernel,by decide +kernel⟩
def ok_pot{f:Nc}{fd:No}(F:Fun K "_law_pot" "_law_pot" sPot f fd)(af:mg "len" = none)(fQ:mg "min" = none)(aA:mg "list" = none)(hint:mg "int" = none):FnOk P w K mg base CX0 1 f fd ["_law_script", "_law_k"] (spPot K):=by
 refine F.ok scPot (λvs H Q E h=>?_) (λcdv A outer s H vs Q E hr h=>?_)
 ·obtain ⟨a,ns,j,rfl,_⟩:=h
  rfl
 ·obtain ⟨a,ns,j,rfl,hS,hj,dm,k⟩:=h
  have aL:sizeLine=16777216:=sizeLine_eq
  refine⟨_,zae (zak (i:=2) scPot.nd rfl (Or.inl rfl) (za1 zap (zaw zds (zbo zdf (by rfl) aA Wu (zab (pv 0) zaf)) (zbc (zab zai zaf)))
    (zam (call_min2 rfl) (by rfl) fQ Xc (zab (pv 1) (zab (zam zas (by rfl) af Zv (zab (pv 0) zaf)) zaf))) (λ_ _=>rfl)))
   (zah (zbm (zbc (zab (zaw zf3 (pv 2) (zbo call_int1 (by rfl) hint PyProof.Rows.boot_int (zab (pe_cmpR op_ge (pv 2) (zaw op_pow zai zai) (zbd _)) zaf)))
    (zab (zaw ze9 (zaw zbv (zaw zbv (zaw zf3 (zaw ze9 (pv 2) zai) zai) (zaw zf3 zai (pv 1))) zai) zai) zaf))))),?_⟩
  refine⟨_,rfl,a,_,rfl,.inl hS,λp1 h1=>?_⟩
  refine⟨(by show 1≤sizeLine;decide),λp2 h2=>?_⟩
  have cY:p1≠p2:=zaa (o:=_) zac h2
  refine⟨p1,p2,_,_,rfl,rfl,(by rw[zad cY];exact zac),zac,by rw[Qa];show _+1≤_;omega,λp3 h3=>?_⟩
  have k3:Keep [] H (upd (upd (upd H p1 (.lst (ns.map V.int))) p2 (.lst [.int 0])) p3 (.lst (ns.map V.int++[.int 0]))):=((Keep.new h1).trans (Keep.new h2)).trans (Keep.new h3)
  have S3:=zhn hS k3
  have l3:(upd (upd (upd H p1 (.lst (ns.map V.int))) p2 (.lst [.int 0])) p3 (.lst (ns.map V.int++[.int 0]))) p3=some (.lst ((ns++[0]).map V.int)):=by rw[zac,Qp];rfl
  refine⟨_,rfl,_,rfl,a,_,rfl,.inl S3,j,ns.length,by rw[Qa],?_⟩
  generalize upd (upd (upd H p1 (.lst (ns.map V.int))) p2 (.lst [.int 0])) p3 (.lst (ns.map V.int++[.int 0]))=H3 at S3 k3 l3
  obtain⟨i,hi,e⟩:∃i:Nat,i<(ns++[0]).length∧(if(ns.length:Int)<(j:Int) then(ns.length:Int) else(j:Int))=(i:Int):=by
   rw[Qq]
   split
   ·exact⟨ns.length,Yu _,rfl⟩
   ·exact⟨j,by show j<ns.length+1;omega,rfl⟩
  rw[e]
  have g:((ns++[0]).map V.int)[i]?=some (.int (ns++[0])[i]):=by rw[Qs,Qd hi];rfl
  refine⟨p3,_,_,_,rfl,rfl,SqL.of l3,zaq g,?_⟩
  generalize(ns++[0])[i]=c
  refine⟨_,rfl,_,rfl,_,_,rfl,rfl,⟨by decide,by decide,by decide⟩,_,_,rfl,rfl,.inr ⟨_,rfl,?_⟩⟩
  refine⟨_,_,rfl,rfl,.inr ⟨by split<;>decide,by split<;>decide⟩,?_⟩
  have q0:0≤c%2147483587:=Jb _ (by decide)
  have q1:c%2147483587<2147483587:=Uj _ (by decide)
  refine⟨_,rfl,_,_,rfl,rfl,(by show(0:Int)<2147483587;decide),_,_,rfl,rfl,.inl ⟨by lia,by lia⟩,_,rfl,_,_,rfl,rfl,.inl ⟨by decide,by decide⟩,_,_,rfl,rfl,_,_,rfl,rfl,_,_,rfl,rfl,(by show(0:Int)<2147483587;decide),(by show 2≤sizeLine;decide),λl hl=>?_⟩
  refine k l _ _ _ (zan k3 hl (by simp)) ⟨zac,?_,Jb _ (by decide),Int.lt_trans (Uj _ (by decide)) (by decide)⟩ (k3.trans (Keep.new hl))
  cases z:decide (c≥10 ^ (18:Int).toNat) with
  |true =>
   have:=of_decide_eq_true z
   have t:(0:Int)≤10 ^ (18:Int).toNat:=by decide
   show 0≤c*1
   lia
  |false=>show 0≤c*0;lia
end
end K21
end
section
namespace L2
open PySem PySem.Spec PyProof.Rows
def Itz(a b:Nc)(K:Nb):It :=
 ⟨fun i H=>∃ xs ys,SqL K H a xs∧SqL K H b ys∧i < xs.length∧i < ys.length,fun i H x H'=>∃ u v t,(∀ xs,SqL K H a xs→xs[i]?=some u)∧(∀ ys,SqL K H b ys→ys[i]?=some v)∧H t=none∧x=.ref t∧H'=upd H t (.tup [u,v]),
  λi H=>∃xs ys,SqL K H a xs∧SqL K H b ys∧(xs.length≤i∨ys.length≤i)⟩
theorem turn_zip{P:Nj}{w:Nl}{K:Nb}{elts:Np}{kk:Nat}{pos:Pos}(a b z TI TO i1 i2:Nc)(D:ZipApart z TI TO i1 i2 a b) :
  Turn P w K (.Tuple elts kk pos) (Itz a b K) [z,TI,TO,i1,i2] z (λi h=>IsZip h z TI TO .none∧IsPair h TI (.ref i1) (.ref i2)∧(∃u v,IsPair h TO u v)∧h.IsListIter i1 a i∧h.IsListIter i2 b i) where
 mem:=by simp
 obj:=λi h st c hc=>by
  obtain⟨q1,q2,⟨u,v,q3⟩,⟨o4,q4,_,d4⟩,⟨o5,q5,_,d5⟩⟩:=st
  simp only[Qe,Wd,or_false]at hc
  rcases hc with rfl | rfl | rfl | rfl | rfl
  ·exact⟨_,q1,λv z=>by cases z⟩
  ·exact⟨_,q2,λv z=>by cases z⟩
  ·exact⟨_,q3,λv z=>by cases z⟩
  ·exact⟨o4,q4,λv z=>by rw[d4]at z;cases z⟩
  ·exact⟨o5,q5,λv z=>by rw[d5]at z;cases z⟩
 keep:=λi h h' st k=>by
  obtain⟨q1,q2,⟨u,v,q3⟩,q4,q5⟩:=st
  exact⟨k z (by simp) _ q1,k TI (by simp) _ q2,⟨u,v,k TO (by simp) _ q3⟩,q4.at λo q=>k i1 (by simp) o q,q5.at λo q=>k i2 (by simp) o q⟩
 item:=by
  intro X hP hw hK hc i a7 s σ H E I hf st hg
  subst hP hw hK
  obtain⟨xs,ys,iU,pf,hix,hiy⟩:=hg
  obtain⟨ix,rx,px,_⟩:=I.list iU
  obtain⟨iy,ry,py,_⟩:=I.list pf
  obtain⟨hz,kI,⟨u0,v0,lq⟩,h1,h2⟩:=st
  obtain⟨u,hu,ru⟩:=rx.get (Qd hix)
  obtain⟨v,hv,rv⟩:=ry.get (Qd hiy)
  refine wpAny_pyNext_zip_item D hz kI lq h1 h2 px.isList py.isList (by simpa using hu) (by simpa using hv) λg a1 a2 a3 a4 a5 a6 hk=>⟨.ref s.heap.objs.size,rfl,?_⟩
  have bQ:∀c u,H c=some u→c≠z∧c≠TO∧c≠i1∧c≠i2:=λc u q=>by
   refine⟨λe=>?_,λe=>?_,λe=>?_,λe=>?_⟩<;>(rw[e,(hf _ (by simp)).1]at q;cases q)
  have fZ:∀c o,c∉[z,TO,i1,i2]→s.heap.get? c=some o→g.get? c=some o:=λc o hc q=>hk c o (λe=>hc (by simp[e])) (λe=>hc (by simp[e])) (λe=>hc (by simp[e])) (λe=>hc (by simp[e])) q
  have I1:Inv X a7 σ H {s with heap:=g}:=by
   refine I.step (g':=s.gens) (d':=s.drawn) (ch:=[z,TO,i1,i2]) (λc hc=>?_) (λc o _ _ hc q _=>fZ c o hc q) (λc o _ _ hc q _=>⟨o.slots,fZ c o hc q⟩) (λ_ _ _ _ n=>n)
    (λc o hc q=>⟨o,fZ c o hc q⟩) (λ_ _ q=>q) (λ_ _ _ q=>q) (λc ps q=>⟨#[],by rw[q];simp⟩) (λm hm=>?_) (λc u q=>?_) I.bare
   ·have bV:c∈[z,TI,TO,i1,i2]:=by
     simp only[Qe,Wd,or_false]at hc ⊢
     rcases hc with e | e | e | e<;>simp[e]
    obtain⟨e0,e1,e2,e3,e4,e5⟩:=hf c bV
    exact⟨e3,e1,e4,e5⟩
   ·obtain ⟨o,es,ep,q,r⟩:=hm
    exact⟨o,es,ep,hk _ o (Zb (hf z (by simp)).2.1) (Zb (hf TO (by simp)).2.1) (Zb (hf i1 (by simp)).2.1) (Zb (hf i2 (by simp)).2.1) q,r⟩
   ·refine (I.hok c u q).stay (fun c' v hc z=>?_) (fun _ z=>z) fun _ _ z=>z
    obtain⟨n1,n2,n3,n4⟩:c'≠_∧c'≠TO∧c'≠i1∧c'≠i2:=by
     rcases hc with rfl | hc
     ·exact bQ c' u q
     ·exact bQ c' _ hc
    exact hk c' v n1 n2 n3 n4 z
  obtain⟨e0,e1,e2,e3,e4,e5⟩:=hf z (by simp)
  have hN:H s.heap.objs.size=none:=I.hok.fresh (Qi _)
  refine wpAny_letOwnedTupleGo_zip a1 λg' aS aU=>?_
  have nT:s.heap.objs.size≠z:=Yc (Qt hz)
  have I2:Inv X a7 σ H {s with heap:=g'}:=Inv.turned (s:={s with heap:=g}) (t':=s.toks) (it:=z) I1 (λb o hb q=>(aU.2 b hb).trans q) e0 e1 e3 e4 e5
  have o8:g'.get? s.heap.objs.size=some {cls:=.type "tuple",data:=.seq #[u,v]}:=(aU.2 _ nT).trans a5
  have I3:Inv X a7 σ (upd H s.heap.objs.size (.tup [xs[i],ys[i]])) {s with heap:=g'}:=by
   refine⟨I2.ok,I2.os,I2.bare,⟨I2.base.keep,I2.base.slot,λb o q n hx=>?_,I2.base.there,λb zs q=>?_,λb o v q=>?_,λb ps q=>?_⟩,I2.loc,I2.cell,?_,λz c q=>?_,λpp hp=>?_,λb v' q=>?_,I2.len⟩
   ·have lt:b < s.heap.objs.size:=Zp (Qt q) I.sz
    rw[zad (Zc lt)];exact I2.base.free b o q n hx
   ·have:=I2.base.tups b zs q
    rw[zad (zaa this hN)];exact this
   ·have:=I2.base.frzs b o v q
    rw[zad (zaa this hN)];exact this
   ·obtain ⟨m,z⟩:=I2.base.tbls b ps q
    exact⟨m,by rw[zad (zaa z hN)];exact z⟩
   ·rw[zad (Zc I.lt)];exact I2.free
   ·rw[zad (Zc (I.cl_lt z c q))];exact I2.freeC z c q
   ·obtain ⟨h1,h2,h3⟩:=I2.pin pp hp
    exact⟨h1,by rw[zad (Zc (I.pin_lt pp hp))];exact h2,h3⟩
   ·by_cases hb:b=s.heap.objs.size
    ·subst hb
     rw[zac]at q
     cases q
     exact⟨by show 2≤sizeLine;decide,[u,v],.cons ru (.cons rv .nil),_,o8,rfl,_,rfl⟩
    ·rw [zad hb] at q
     exact(I2.hok b v' q).stay (λc v _ z=>z) (λc z=>by rw[zad (zaa z hN)];exact z) λc zs z=>by rw[zad (zaa z hN)];exact z
  refine⟨.ref s.heap.objs.size,_,I3,rfl,⟨xs[i],ys[i],_,λys' jw=>by rw[I.list_inj jw iU];exact Qd hix,λys' jw=>by rw[I.list_inj jw pf];exact Qd hiy,hN,rfl,rfl⟩,
   ⟨aS,(aU.2 TI D.TIz).trans (hk _ _ D.TIz D.TITO D.TIi1 D.TIi2 kI),⟨_,_,(aU.2 TO D.TOz).trans a2⟩,a3.at λo q=>(aU.2 _ D.i1z).trans q,a4.at λo q=>(aU.2 _ D.i2z).trans q⟩,λb hb=>?_⟩
  have lt:b<s.heap.objs.size:=by
   simp only[Qe,Wd,or_false]at hb
   obtain⟨o4,q4,_⟩:=h1
   obtain⟨o5,q5,_⟩:=h2
   rcases hb with rfl | rfl | rfl | rfl | rfl
   ·exact Qt hz
   ·exact Qt kI
   ·exact Qt lq
   ·exact Qt q4
   ·exact Qt q5
  rw[zad (Zc lt)]
  exact(hf b hb).1
 done:=by
  intro X hP hw hK hc i a7 s σ H E I hf st hg
  subst hP hw hK
  obtain⟨xs,ys,iU,pf,tD⟩:=hg
  obtain⟨ix,rx,px,_⟩:=I.list iU
  obtain⟨iy,ry,py,_⟩:=I.list pf
  have lx:=rx.length
  have ly:=ry.length
  obtain⟨hz,kI,⟨u0,v0,lq⟩,h1,h2⟩:=st
  refine wpAny_pyNext_zip_end (I.ok.hd hc) D hz kI lq h1 h2 px.isList py.isList (tD.imp (λh=>by simp;omega) λh=>by simp;omega) λg hk=>⟨rfl,?_⟩
  have bQ:∀c u,H c=some u→c≠z∧c≠TO∧c≠i1∧c≠i2:=λc u q=>by
   refine⟨λe=>?_,λe=>?_,λe=>?_,λe=>?_⟩<;>(rw[e,(hf _ (by simp)).1]at q;cases q)
  have fZ:∀c o,c∉[z,TO,i1,i2]→s.heap.get? c=some o→g.get? c=some o:=λc o hc q=>hk c o (λe=>hc (by simp[e])) (λe=>hc (by simp[e])) (λe=>hc (by simp[e])) (λe=>hc (by simp[e])) q
  refine I.step (g':=s.gens) (d':=s.drawn) (ch:=[z,TO,i1,i2]) (λc hc=>?_) (λc o _ _ hc q _=>fZ c o hc q) (λc o _ _ hc q _=>⟨o.slots,fZ c o hc q⟩) (λ_ _ _ _ n=>n)
   (λc o hc q=>⟨o,fZ c o hc q⟩) (λ_ _ q=>q) (λ_ _ _ q=>q) (λc ps q=>⟨#[],by rw[q];simp⟩) (λm hm=>?_) (λc u q=>?_) I.bare
  ·have bV:c∈[z,TI,TO,i1,i2]:=by
    simp only[Qe,Wd,or_false]at hc ⊢
    rcases hc with e | e | e | e<;>simp[e]
   obtain⟨e0,e1,e2,e3,e4,e5⟩:=hf c bV
   exact⟨e3,e1,e4,e5⟩
  ·obtain ⟨o,es,ep,q,r⟩:=hm
   exact⟨o,es,ep,hk _ o (Zb (hf z (by simp)).2.1) (Zb (hf TO (by simp)).2.1) (Zb (hf i1 (by simp)).2.1) (Zb (hf i2 (by simp)).2.1) q,r⟩
  ·refine (I.hok c u q).stay (fun c' v hc z=>?_) (fun _ z=>z) fun _ _ z=>z
   obtain⟨n1,n2,n3,n4⟩:c'≠_∧c'≠TO∧c'≠i1∧c'≠i2:=by
    rcases hc with rfl | hc
    ·exact bQ c' u q
    ·exact bQ c' _ hc
   exact hk c' v n1 n2 n3 n4 z
 self:=λA i s Q E st h=>wpAny_pyIter_zip st.1 h
section
variable{X:Cx}
def iZip(K:Nb)(ta:TA):TI:=λ σ H R=>ta σ H λvs H1=>∃a b,vs=[.ref a,.ref b]∧(∃xs,SqL K H1 a xs)∧(∃ys,SqL K H1 b ys)∧R (Itz a b K) H1
def pi_zip{elts:Np}{kk:Nat}{tpos:Pos}{a b:Expr}{ta:TA}{p pos:Pos}(hg:Gl X "zip")(hm:X.mg "zip" = none)(ha:PA X [a,b] ta)(hs:starEach [a,b] X.env=(false,eval a X.env)::starEach [b] X.env:=by rfl)(c9:(backTo pos (starEach [b] X.env)).any (·.1)=false:=by rfl) :
  PI X (.Tuple elts kk tpos) (.Call (.Name "zip" p) [a,b] [] pos) (iZip X.K ta):=by
 intro a7 s σ H R I h
 refine Call_ (zdt I hg hm boot_zip (Yq (thn (ha pos a7 s σ H _ I h) λus s1 ⟨vs,H1,I1,r1,q1⟩=>?_) hs c9))
 obtain⟨l1,l2,e,⟨xs,eF⟩,⟨ys,cO⟩,q⟩:=q1
 subst e
 obtain⟨u,v,rfl,ru,rv⟩:=vals2 r1
 cases ru
 cases rv
 obtain⟨ix,rx,px,_⟩:=I1.list eF
 obtain⟨iy,ry,py,_⟩:=I1.list cO
 have lt1:l1<s1.heap.objs.size:=by obtain⟨o,q,_⟩:=px.isList;exact Qt q
 have lt2:l2<s1.heap.objs.size:=by obtain⟨o,q,_⟩:=py.isList;exact Qt q
 refine call_zip_2 px.isList py.isList λg hz kI lq h1 h2 hsz k=>wpAny_pyIter_zip hz ?_
 have I2:Inv X a7 σ H1 {s1 with heap:=g}:=I1.kept (t':=s1.toks) k
 refine⟨s1.heap.objs.size+4,_,_,_,H1,rfl,I2,turn_zip l1 l2 _ _ _ _ _ (zipApart_new lt1 lt2),⟨hz,kI,⟨_,_,lq⟩,h1,h2⟩,λc hc=>?_,q⟩
 have cT:s1.heap.objs.size≤c:=by
  simp only[Qe,Wd,or_false]at hc
  rcases hc with e | e | e | e | e<;>rw[e]
  ·exact Yh _ _
  ·exact Yh _ _
  ·exact Yh _ _
  ·exact Qi _
  ·exact Yh _ _
 exact I1.fpOk cT (I1.hok.fresh cT)
end
end L2
end
section
namespace K21
open PySem L2 Wb
abbrev zdr:Stmt:=top 28
theorem mul_cps(c:Nat):∀n:Nat,n≤6→(Txt.mul (⟨#[c]⟩:Str) (n:Int)).cps.toList=List.replicate n c
 |0,_ | 1,_ | 2,_ | 3,_ | 4,_ | 5,_ | 6,_=>rfl
 |n+7,h=>by omega
inductive IspNames(vs:List V)(H:Hp)(Q:VK):Prop
 |mk (p:Nc) (b m:Int) (n:Nat) (h0:vs=[.ref p,.int n]) (h1:Pot H p b m) (h2:n≤60) (h3:∀(l:Nc) (zs:Nf) (b' m':Int) (H':Hp),H' l=some (.lst (zs.map V.str))→zs.length=n→zs.Nodup→(∀z∈zs,zfc z)→Pot H' p b' m'→H l=none→Keep [p] H H'→Q (.ref l) H'):IspNames vs H Q
def spNames:Sp:=λvs H Q _=>IspNames vs H Q
abbrev csNa:Scope:=scOf (eOf (sAt zdr 3))
def csNa_k:csNa.kind=.function:=by rfl
def csNa_c:∀y∈csNa.names,y.2≠.cell:=by decide +kernel
def csNa_n:∀y∈csNa.names,y.2=.local→csNa.names.lookup y.1=some .local:=by decide +kernel
def csNa_f:∀y∈csNa.names,y.2=.free→(zag zdr).names.lookup y.1=some .cell∨(zag zdr).names.lookup y.1=some .free:=by decide +kernel
def csNa_l:csNa.names.lookup ("_law_letters" : Str)=some NameKind.free:=by decide +kernel
def csNa_p:csNa.names.lookup ("_law_pot_here" : Str)=some NameKind.free:=by decide +kernel
def ndNa:(["_law_rank", "_law_letters", "_law_pot_here"]:List Str).Nodup:=by decide +kernel
abbrev csNb:Scope:=scOf (eOf (sAt zdr 4))
def csNb_k:csNb.kind=.function:=by rfl
def csNb_c:∀y∈csNb.names,y.2≠.cell:=by decide +kernel
def csNb_n:∀y∈csNb.names,y.2=.local→csNb.names.lookup y.1=some .local:=by decide +kernel
def csNb_f:∀y∈csNb.names,y.2=.free→(zag zdr).names.lookup y.1=some .cell∨(zag zdr).names.lookup y.1=some .free:=by decide +kernel
def csNb_l:csNb.names.lookup ("_law_letters" : Str)=some NameKind.free:=by decide +kernel
def ndNb:(["_law_rank", "_law_tail", "_law_letters"]:List Str).Nodup:=by decide +kernel
abbrev intsV(rs:List Nat):List V:=rs.map λ(r:Nat)=>V.int (r:Int)
section
variable{P:Nj}{w:Nl}{K:Nb}{mg:Ng}{base:Nm}
def zfv:zau ["_law_pot_here", "_law_many", "_law_letters", "_law_ranks", "_law_k", "_law_tails"] ["_law_pot_here", "_law_many"] (zag zdr):=⟨rfl,rfl,rfl,by decide +kernel,rfl,by decide +kernel,by decide +kernel⟩
def ok_names{f ft:Nc}{fd fdt:No}(F:Fun K "_law_names" "_law_names" zdr f fd)(FT:Fun K "_law_draw" "_law_draw" zgw ft fdt)(bT:Binds K fdt ["_law_pot_here", "_law_many"] [])(mT:mg "_law_draw" = some (.ref ft))(GT:FnOk P w K mg base CX0 1 ft fdt ["_law_pot_here", "_law_many"] ze4)(cM:mg "range" = none)(qK:mg "zip" = none):FnOk P w K mg base CX0 2 f fd ["_law_pot_here", "_law_many"] spNames:=by
 refine F.ok zfv (λvs H Q E h=>?_) (λcdv A outer s H vs Q E hr h=>?_)
 ·obtain ⟨p,b,m,n,rfl,_⟩:=h
  rfl
 ·obtain ⟨p,b,m,n,rfl,hp,hn,k⟩:=h
  have hu:=zb5 hr
  refine⟨_,zae (zak (i:=2) zfv.nd rfl (Or.inr rfl) pe_str)
   (zae (zak (i:=3) zfv.nd rfl (Or.inl rfl) (zbc zaf))
   (zae (zbn Zo rfl (zfz rfl cM (zab (pv 1) zaf)) (zal (i:=4) zfv.nd rfl (Or.inl rfl))
    (zah (za3 (zdo Zk PySem.F.slot_list_insert PySem.F.type_list_insert mt_insert (pv 3) (zab (zaj GT hr rfl mT FT.kp bT .nil zav (zab (pv 0) (zab (zaw zbv (pv 4) zai) zaf))) (zab (pv 4) zaf))))))
   (zae (ps_lc (i:=5) (M:=["_law_rank", "_law_letters", "_law_pot_here"]) (ix:=[none,some 2,some 0]) zfv.nd rfl rfl ⟨csNa_k,csNa_c,csNa_n,csNa_f,rfl,ndNa,λj i x h1 h2=>by
      match j,h1,h2 with
      |0,_,h2=>cases h2
      |1,h1,h2=>cases h1;cases h2;exact⟨rfl,csNa_l⟩
      |2,h1,h2=>cases h1;cases h2;exact⟨rfl,csNa_p⟩
      |n+3,h1,_=>cases h1⟩ rfl (za9 (pv 3))
      (λC a7 ex s H=>zal (i:=0) ndNa rfl (Or.inl rfl) (Or.inr rfl))
      (fun C a7 ex s H=>zct) (fun C a7 ex s H=>zaw op_mul_str (za1 ix_str (pv 1) (zaj GT (by exact hr) rfl (by exact mT) FT.kp bT .nil zav (zab (pv 2) (zab zai zaf))) (fun _ _=>rfl))
       (zaj GT (by exact hr) rfl (by exact mT) FT.kp bT .nil zav (zab (pv 2) (zab zai zaf)))) rfl)
   (zah (zbm (zh4 (M:=["_law_rank", "_law_tail", "_law_letters"]) (ix:=[none,none,some 2]) ⟨csNb_k,csNb_c,csNb_n,csNb_f,rfl,ndNb,λj i x h1 h2=>by
      match j,h1,h2 with
      |0,_,h2=>cases h2
      |1,_,h2=>cases h2
      |2,h1,h2=>cases h1;cases h2;exact⟨rfl,csNb_l⟩
      |n+3,h1,_=>cases h1⟩ rfl (pi_zip (by rfl) qK (zab (pv 3) (zab (pv 5) zaf)))
      (λC a7 ex s H=>zh2 (K:=K) (n:=2) rfl rfl (za6 (zal (i:=0) ndNb rfl (Or.inl rfl) (Or.inr rfl)) (za6 (zal (i:=1) ndNb rfl (Or.inl rfl) (Or.inr rfl)) zck)))
      (λC a7 ex s H=>zct) (λC a7 ex s H=>zaw zha (zaw zha (za1 ix_str (pv 2) (zaw ze9 (pv 0) zai) (λ_ _=>rfl)) (za1 ix_str (pv 2) (zaw zh7 (pv 0) zai) (λ_ _=>rfl))) (pv 1)))))))),?_⟩
  have aL:sizeLine=16777216:=sizeLine_eq
  refine⟨(by show 0≤sizeLine;decide),λl hl=>?_⟩
  have npl:p≠l:=zaa hp.1 hl
  refine⟨_,rfl,(n:Int),rfl,by omega,by omega,?_⟩
  rw[Um]
  refine zel (λi σ H2=>Ex4 λ(rs:List Nat) (bb mm:Int) (x4:Option V)=>Aj5 (σ=[some (.ref p),some (.int n),some (.str zdb),some (.ref l),x4,none]) (H2 l=some (.lst (intsV rs))) (rs.Perm (List.range i)) (Pot H2 p bb mm) (Keep [p,l] H H2))
   ⟨[],b,m,none,rfl,zac,List.Perm.refl _,hp.keep (xs:=[]) (Keep.new hl) (by simp),Keep.new hl⟩ ?_ ?_
  ·rintro i σ H2 hi ⟨rs,bb,mm,x4,rfl,aj,bE,av,k2⟩
   have aQ:rs.length=i:=by rw[bE.length_eq,Yd]
   refine⟨_,rfl,.inl ⟨rfl,_,SqL.of aj⟩,_,rfl,_,rfl,_,_,rfl,rfl,p,bb,mm,_,rfl,av,by omega,by omega,λd3 b3 m3 H3 lv pR ay fe=>?_⟩
   have aZ:H3 l=some (.lst (intsV rs)):=fe _ _ aj (Zb npl)
   obtain⟨d,rfl⟩:=Zy lv
   have hd:d≤rs.length:=by omega
   refine⟨_,rfl,l,_,_,d,rfl,rfl,aZ,by rw[Qa];omega,by rw[Qa];exact hd,?_⟩
   refine⟨rs.take d++i::rs.drop d,b3,m3,_,rfl,?_,?_,ay.keep (xs:=[l]) (Keep.wr Qc) (by simpa using npl),(k2.trans ((zbg fe).sub (by simp))).trans (Keep.wr (by simp))⟩
   ·rw[zac,intsV,intsV,Qp,Ql,Uh,Jp,Int.zero_add]
   ·rw [List.range_succ]
    refine List.Perm.trans ?_ (bE.append_right [i])
    refine List.Perm.trans Jm ?_
    rw[Wa]
    exact(List.perm_append_singleton i rs).symm
  ·rintro σ H2 ⟨rs,bb,mm,x4,rfl,aj,bE,av,k2⟩
   have aQ:rs.length=n:=by rw[bE.length_eq,Yd]
   have ag:∀r∈rs,r<n:=λr hr=>Ur.mp (bE.mem_iff.mp hr)
   refine⟨_,rfl,l,rfl,⟨_,SqL.of aj⟩,λi m' ys τ H3=>Ex4 λ(ts:Nf) (b4 m4:Int) (x0:Option V)=>Aj8 (m'=n-i) (i≤n) (ys=ts.map V.str) (ts.length=i) (∀t∈ts,t.cps.toList.length≤6∧∀c∈t.cps.toList,97≤c∧c≤122) (τ=[x0,some (.str zdb),some (.ref p)]) (Pot H3 p b4 m4) (Keep [p] H2 H3),
    ⟨n,[],bb,mm,none,rfl,Zf _,rfl,rfl,by simp,rfl,av,Keep.refl⟩,?_⟩
   rintro i m' ys τ H3 ⟨ts,b4,m4,x0,rfl,hi,rfl,lV,aT,rfl,ay,k3⟩
   have aZ:H3 l=some (.lst (intsV rs)):=k3 _ _ aj (by simpa using Zb npl)
   by_cases ar:i<n
   ·have hir:i < rs.length:=by omega
    refine .inr ⟨⟨_,_,SqL.of aZ,by rw[Qs,Qd hir];rfl⟩,by rw[Qa];omega,?_⟩
    rintro x H5 ⟨rfl,_⟩
    refine⟨_,rfl,_,rfl,p,b4,m4,26,rfl,ay,by decide,by decide,λd6 b6 m6 H6 lu oo eJ dL=>?_⟩
    refine⟨_,_,_,rfl,rfl,zd4,zf9 lu oo,?_⟩
    refine⟨_,rfl,p,b6,m6,7,rfl,eJ,by decide,by decide,λd7 b7 m7 H7 h70 h71 i9 kp7=>?_⟩
    obtain⟨d,rfl⟩:=Zy h70
    have nM:d≤6:=by omega
    have e:=mul_cps (97+d6.toNat) d nM
    refine⟨_,d,rfl,rfl,by show 1≤1000;decide,by omega,_,?_,ts++[Txt.mul (⟨#[97+d6.toNat]⟩:Str) (d:Int)],b7,m7,_,rfl,ar,?_,?_,?_,rfl,i9,(k3.trans (zbg dL)).trans (zbg kp7)⟩
    ·omega
    ·rw[Qp];rfl
    ·rw[Qq];show _+1=_;omega
    ·intro t ht
     rcases Qf.mp ht with z | z
     ·exact aT t z
     ·rw [Qb.mp z,e]
      refine⟨by rw[Jk];exact nM,λc hc=>?_⟩
      rw[(List.mem_replicate.mp hc).2];omega
   ·have jY:i=n:=by omega
    subst jY
    refine .inl ⟨⟨_,SqL.of aZ,by rw[Qa];omega⟩,λD hD=>?_⟩
    have nlD:l≠D:=zaa aZ hD
    have bu:(upd H3 D (.lst (ts.map V.str))) l=some (.lst (intsV rs)):=by rw[zad nlD];exact aZ
    have k4:Keep [p,l] H (upd H3 D (.lst (ts.map V.str))):=(k2.trans (k3.sub (by simp))).trans (Keep.new hD)
    have ca:Pot (upd H3 D (.lst (ts.map V.str))) p b4 m4:=ay.keep (xs:=[]) (Keep.new hD) (by simp)
    have je:(upd H3 D (.lst (ts.map V.str))) D=some (.lst (ts.map V.str)):=zac
    generalize upd H3 D (.lst (ts.map V.str))=H4 at bu k4 ca je
    refine⟨_,rfl,_,rfl,l,D,rfl,⟨_,SqL.of bu⟩,⟨_,SqL.of je⟩,λj m' ys τ H5=>Ex3 λ(zs:Nf) (x0 x1:Option V)=>Aj7 (m'=i-j) (j≤i) (ys=zs.map V.str) (zs.map (λz=>z.cps.toList.take 2)=(rs.take j).map λr=>[97+r%26,97+r/26]) (∀z∈zs,zfc z) (τ=[x0,x1,some (.str zdb)]) (Keep [] H4 H5),
     ⟨i,[],none,none,rfl,Zf _,rfl,rfl,by simp,rfl,Keep.refl⟩,?_⟩
    rintro j m' ys τ H5 ⟨zs,x0,x1,rfl,hj,rfl,fk,hok,rfl,k5⟩
    have dB:zs.length=j:=by
     have:=congrArg List.length fk
     rw[Qa,Qa,Zj]at this
     omega
    have cq:=k5 _ _ bu (by simp)
    have iF:=k5 _ _ je (by simp)
    by_cases pA:j<i
    ·have pz:j < rs.length:=by omega
     have sr:j<ts.length:=by omega
     refine .inr ⟨⟨_,_,SqL.of cq,SqL.of iF,by rw[Qa];exact pz,by rw[Qa];exact sr⟩,by rw[Qa];omega,?_⟩
     rintro y H' ⟨u,v,t',e1,e2,lX,rfl,rfl⟩
     have e7:=e1 _ (SqL.of cq)
     have kJ:=e2 _ (SqL.of iF)
     rw[Qs,Qd pz]at e7
     rw[Qs,Qd sr]at kJ
     obtain rfl:V.int (rs[j]:Int)=u:=Qk e7
     obtain rfl:V.str ts[j]=v:=Qk kJ
     have aE:=ag _ (Qz pz)
     obtain⟨t1,t2⟩:=aT _ (Qz sr)
     have tk:rs.take (j+1)=rs.take j++[rs[j]]:=Qm pz
     generalize rs[j]=r at aE tk
     generalize ts[j]=t at t1 t2
     have c1:atI zdb.cps.toList ((r:Int)%26)=some (97+r%26):=by
      rw[zf9 (Jb _ (by decide)) (Uj _ (by decide)),show((r:Int)%26).toNat=r%26 by omega]
     have c2:atI zdb.cps.toList ((r:Int)/26)=some (97+r/26):=by
      rw[zf9 (by omega) (by omega),show((r:Int)/26).toNat=r/26 by omega]
     have ez:((⟨#[97+r%26]⟩:Str)++(⟨#[97+r/26]⟩:Str)++t).cps.toList=(97+r%26)::(97+r/26)::t.cps.toList:=by
      show(((#[97+r%26]:Array Nat)++(#[97+r/26]:Array Nat))++t.cps).toList=_
      rw[Yb,Yb];rfl
     have cE:((⟨#[97+r%26]⟩:Str)++(⟨#[97+r/26]⟩:Str)++t).length=t.cps.toList.length+2:=by
      show Array.size _=_
      rw[←Yw]
      exact congrArg List.length ez
     have bo:t.length=t.cps.toList.length:=by show t.cps.size=_;rw[Yw]
     refine⟨t',_,rfl,SqT.of zac,rfl,_,_,rfl,_,_,rfl,rfl,?_⟩
     refine⟨_,rfl,_,rfl,_,_,rfl,rfl,(by show(0:Int)<26;decide),_,_,_,rfl,rfl,zd4,c1,_,rfl,_,rfl,_,_,rfl,rfl,⟨by decide,by decide⟩,_,_,_,rfl,rfl,zd4,c2,_,_,rfl,rfl,(by show 1+1≤sizeLine;decide),_,rfl,_,_,rfl,rfl,?_,i-(j+1),by omega,zs++[(⟨#[97+r%26]⟩:Str)++(⟨#[97+r/26]⟩:Str)++t],_,_,rfl,pA,?_,?_,?_,rfl,k5.trans (Keep.new lX)⟩
     ·rw[bo];show 2+_≤_;omega
     ·rw[Qp];rfl
     ·rw[Qp,fk,tk,Qp,Ql,Ql,Ji,Ji,ez];rfl
     ·intro z hz
      rcases Qf.mp hz with h | h
      ·exact hok z h
      ·rw [Qb.mp h]
       refine⟨by omega,by omega,λc hc=>?_⟩
       rw[ez]at hc
       rcases Qe.mp hc with h2 | h2
       ·rw[h2];omega
       ·rcases Qe.mp h2 with h3 | h3
        ·rw[h3];omega
        ·exact t2 c h3
    ·have hje:j=i:=by omega
     subst hje
     refine .inl ⟨⟨_,_,SqL.of cq,SqL.of iF,.inl (by rw[Qa];omega)⟩,λD2 dw=>?_⟩
     have hl0:H l=none:=hl
     have kF:Keep [p,l] H (upd H5 D2 (.lst (zs.map V.str))):=(k4.trans (k5.sub (by simp))).trans (Keep.new dw)
     refine k D2 zs b4 m4 _ zac dB ?_ hok (ca.keep (xs:=[]) (k5.trans (Keep.new dw)) (by simp)) ?_ ?_
     ·have hnr:rs.Nodup:=bE.nodup_iff.mpr List.nodup_range
      have:(zs.map λz=>z.cps.toList.take 2).Nodup:=by
       rw[fk,Qv (by omega)]
       refine zh9 hnr λa ha c hc e=>?_
       injection e with e1 e2
       injection e2 with e2 _
       omega
      exact nodup_of_map this
     ·have nD:D2≠p:=Zb (zaa (ca.keep (xs:=[]) k5 (by simp)).1 dw)
      have nl:D2≠l:=Zb (zaa cq dw)
      exact zan (k4.trans (k5.sub (by simp))) dw (by simp;exact⟨nD,nl⟩)
     ·exact λc o ec hc=>kF c o ec (by simp at hc ⊢;exact⟨hc,zaa ec hl0⟩)
end
end K21
end
section
namespace L2
open PySem PySem.Spec PyProof.Rows
section
variable{X:Cx}
def op_ne_pairs(hu:X.A.units<cLine):OpR X (compareOp .NotEq) (λx y H Q=>Ex4 λ(a b:Nc) (q r:Str×Str)=>Aj5 (x=.ref a) (y=.ref b) (H a=some (.tup [.str q.1,.str q.2])) (H b=some (.tup [.str r.1,.str r.2])) (Q (.bl (!decide (q=r))) H)):=by
 intro a7 s σ H x y v u Q I rx ry h
 obtain⟨a,b,q,r,rfl,rfl,ha,hb,k⟩:=h
 cases rx;cases ry
 obtain⟨_,a8,r1,p⟩:=I.hok a _ ha
 obtain⟨_,d8,r2,p2⟩:=I.hok b _ hb
 obtain⟨u1,u2,rfl,⟨t1,rfl⟩,⟨t2,rfl⟩⟩:=vals2 r1
 obtain⟨w1,w2,rfl,⟨t3,rfl⟩,⟨t4,rfl⟩⟩:=vals2 r2
 refine SeqAt.RcNeAt.tuples (e:=λj=>if j=0 then q.1==r.1 else q.2==r.2) p p2 hu (λj j1 j2=>?_) _ _ _ _ ⟨.bl (!decide (q=r)),H,I,?_,k⟩
 ·have j1':j < 2:=by simpa using j1
  match j,j1' with
  |0,_=>exact Ko q.1 t1 r.1 t3
  |1,_=>exact Ko q.2 t2 r.2 t4
 ·show Value.bool _=Value.bool _
  congr 1
  have:decide (q=r)=((q.1==r.1)&&(q.2==r.2)):=by
   rw[Wl]
   simp[Prod.ext_iff]
  rw[this]
  show(!((List.range 2).all (λj=>if j=0 then q.1==r.1 else q.2==r.2)&&true))=_
  rw[show List.range 2=[0,1] from rfl]
  simp
end
end L2
namespace Wb
section
variable{α:Type}[DecidableEq α]
theorem zgg(rs:Rs α)(s:α×α):∀n,itr rs s (n+1)=itr rs (stp rs s) n
 |0=>rfl
 |n+1=>congrArg (stp rs) (zgg rs s n)
theorem lk_itr{rs:Rs α}{e:α×α}:∀{t:List (α×α)} {s:α×α},Lk (st (row rs)) s t e→run rs s (t.length+1)=s::t∧itr rs s (t.length+1)=e
 |[],s,k=>⟨rfl,k⟩
 |y::t,s,k=>by
  obtain⟨h1,h2⟩:=lk_itr k.2
  have hs:stp rs s=y:=k.1
  refine⟨?_,by rw[Qx,zgg,hs];exact h2⟩
  unfold run at h1 ⊢
  rw[Qx,List.range_succ_eq_map,Ql,Zi,←h1]
  refine congrArg (s::·) (Wi λn _=>?_)
  show itr rs s (n+1)=_
  rw[zgg,hs]
def good_round{rs:Rs α}(h:Good rs){s:α×α}(hs:IsSt rs s):∃L,itr rs s (L+1)=s∧(run rs s (L+1)).Nodup:=by
 obtain⟨cs,aa,C⟩:=h
 obtain⟨c,hc,h⟩:=Zu.mp ((C.cm s).mpr ((zbx C.nd).mp hs))
 obtain⟨A,B,e⟩:=Yp h
 have k:=C.cy c hc
 rw[e]at k
 obtain⟨h1,h2⟩:=lk_itr (zc1 k)
 refine⟨_,h2,?_⟩
 rw[h1]
 have hn:c.Nodup:=(List.pairwise_flatten.mp C.cf).1 c hc
 rw[e]at hn
 have:=(Yx (l₁:=A) (l₂:=s::B)).nodup_iff.mp hn
 exact this
def round_ne{rs:Rs α}{s:α×α}{L n:Nat}(nd:(run rs s (L+1)).Nodup)(h0:0<n)(h:n≤L):itr rs s n≠s:=λe=>by
 unfold run at nd
 have:=(Yi (i:=n) (j:=0) (h₀:=by rw[Qa,Yd];omega) (h₁:=by rw[Qa,Yd];omega) nd).mp (by
  rw[Zm,Zm,Ui,Ui];exact e)
 omega
end
end Wb
namespace K21
open PySem L2 Wb
abbrev zhw:Stmt:=top 29
abbrev sFace:Stmt:=top 30
abbrev sPut:Stmt:=top 31
abbrev sTie:Stmt:=top 32
structure RN(H:Hp)(d:Nc)(es:List Ent):Prop extends RAt H d es where
 an:(es.map (·.2.2)).Nodup
def RN.keep{H H':Hp}{d:Nc}{es:List Ent}{xs:Nk}(r:RN H d es)(k:Keep xs H H')(hd:d∉xs)(h:∀e∈es,e.2.2∉xs):RN H' d es:=⟨r.toRAt.keep k hd h,r.an⟩
def RN.pot{H H':Hp}{d p:Nc}{b m:Int}{es:List Ent}(r:RN H d es)(h:Pot H p b m)(k:Keep [p] H H'):RN H' d es:=⟨r.toRAt.pot h k,r.an⟩
def RN.k0{H H':Hp}{d:Nc}{es:List Ent}(r:RN H d es)(k:Keep [] H H'):RN H' d es:=r.keep k (by simp) λ_ _=>by simp
def ent_eq{es:List Ent}(nd:(es.map (·.1)).Nodup){e e':Ent}(h:e∈es)(h':e'∈es)(q:e.1=e'.1):e=e':=by
 obtain⟨i,hi,rfl⟩:=Zr h
 obtain⟨j,hj,rfl⟩:=Zr h'
 have:i=j:=(Yi (h₀:=by rw[Qa];exact hi) (h₁:=by rw[Qa];exact hj) nd).mp (by rw[Zm,Zm];exact q)
 subst this;rfl
def ent_ad{es:List Ent}(nd:(es.map (·.2.2)).Nodup){e e':Ent}(h:e∈es)(h':e'∈es)(q:e.2.2=e'.2.2):e=e':=by
 obtain⟨i,hi,rfl⟩:=Zr h
 obtain⟨j,hj,rfl⟩:=Zr h'
 have:i=j:=(Yi (h₀:=by rw[Qa];exact hi) (h₁:=by rw[Qa];exact hj) nd).mp (by rw[Zm,Zm];exact q)
 subst this;rfl
def setE_ad{es:List Ent}(nd:(es.map (·.1)).Nodup){e:Ent}(h:e∈es)(r:Nf):(setE es e.1 r e.2.2).map (λe=>(e.1,e.2.2))=es.map λe=>(e.1,e.2.2):=by
 unfold setE
 rw[Zi]
 refine Wi λe' h'=>?_
 show(λe:Ent=>(e.1,e.2.2)) (if e'.1=e.1 then(e'.1,r,e.2.2) else e')=_
 split
 ·rename_i q
  rw[ent_eq nd h' h q]
 ·rfl
def RN.set{H:Hp}{d:Nc}{es:List Ent}(R:RN H d es){e:Ent}(he:e∈es)(r:Nf):RN (upd H e.2.2 (.lst (r.map V.str))) d (setE es e.1 r e.2.2):=by
 have q:=setE_ad R.nd he r
 have nd':d≠e.2.2:=za5 R.dc (R.ro e he) (by intro z;cases z)
 have q2:(setE es e.1 r e.2.2).map (·.2.2)=es.map (·.2.2):=by
  have:=congrArg (List.map (·.2)) q
  rwa[Zi,Zi]at this
 refine⟨⟨?_,λe' h'=>?_,by rw[zax];exact R.nd⟩,by rw[q2];exact R.an⟩
 ·rw [zad nd',R.dc]
  have:=congrArg (List.map λp:Str×Addr=>((Sum.inr p.1:Key),V.ref p.2)) q
  rw[Zi,Zi]at this
  exact congrArg (λz=>some (HO.dK z)) this.symm
 ·unfold setE at h'
  obtain⟨e0,h0,rfl⟩:=Qh.mp h'
  by_cases z:e0.1=e.1
  ·rw[if_pos z];exact zac
  ·rw [if_neg z,zad (fun y=>z (congrArg (·.1) (ent_ad R.an h0 he y)))]
   exact R.ro e0 h0
def zcy{es:List Ent}{x:Str}{r:Nf}{a:Nc}{e:Ent}(h:e∈es)(n:e.1≠x):e∈setE es x r a:=by
 unfold setE
 exact Qh.mpr ⟨e,h,if_neg n⟩
inductive IspBehind(vs:List V)(H:Hp)(Q:VK):Prop
 |mk (d:Nc) (es:List Ent) (s:Str×Str) (h0:vs=[.ref d,.str s.1,.str s.2]) (h1:RAt H d es) (h2:IsSt (rsOf es) s) (h3:∀e∈es,e.2.1.length≤900) (h4:∀t,H t=none→Q (.ref t) (upd H t (.tup [.str (stp (rsOf es) s).1,.str (stp (rsOf es) s).2]))):IspBehind vs H Q
def spBehind:Sp:=λvs H Q _=>IspBehind vs H Q
inductive IspFace(vs:List V)(H:Hp)(Q:VK):Prop
 |mk (d t0:Nc) (es:List Ent) (s:Str×Str) (h0:vs=[.ref d,.ref t0]) (h1:RAt H d es) (h2:IsSt (rsOf es) s) (h3:Good (rsOf es)) (h4:es.length≤40) (ht:H t0=some (.tup [.str s.1,.str s.2])) (h6:∀(l:Nc) (as:Nk) (n:Nat) (H':Hp),H l=none→H' l=some (.lst (as.map V.ref))→zbp H' as (run (rsOf es) s (n+1))→(run (rsOf es) s (n+1)).Nodup→itr (rsOf es) s (n+1)=s→Keep [] H H'→Q (.ref l) H'):IspFace vs H Q
def spFace:Sp:=λvs H Q _=>IspFace vs H Q
inductive IspPut(vs:List V)(H:Hp)(Q:VK):Prop
 |mk (d:Nc) (es:List Ent) (e:Ent) (c:Option Str) (n:Str) (h0:vs=[.ref d,.str e.1,zgk c,.str n]) (h1:RN H d es) (h2:e∈es) (h3:(∀x,c=some x→x∈e.2.1)) (h4:e.2.1.length≤1000) (h6:∀(H':Hp),RN H' d (setE es e.1 (ins e.2.1 c n) e.2.2)→Keep [e.2.2] H H'→Q .non H'):IspPut vs H Q
def spPut:Sp:=λvs H Q _=>IspPut vs H Q
inductive IspTie(vs:List V)(H:Hp)(Q:VK):Prop
 |mk (d:Nc) (es:List Ent) (e1 e2:Ent) (c1 c2:Option Str) (h0:vs=[.ref d,.str e1.1,zgk c1,.str e2.1,zgk c2]) (h1:RN H d es) (h2:e1∈es) (oq:e2∈es) (az:e1.1≠e2.1) (h3:(∀x,c1=some x→x∈e1.2.1)) (h3':(∀x,c2=some x→x∈e2.2.1)) (h4:e1.2.1.length≤1000) (h4':e2.2.1.length≤1000)
  (h6:∀(H':Hp),RN H' d (setE (setE es e1.1 (ins e1.2.1 c1 e2.1) e1.2.2) e2.1 (ins e2.2.1 c2 e1.1) e2.2.2)→Keep [e1.2.2,e2.2.2] H H'→Q .non H'):IspTie vs H Q
def spTie:Sp:=λvs H Q _=>IspTie vs H Q
section
variable{P:Nj}{w:Nl}{K:Nb}{mg:Ng}{base:Nm}
def scBehind:zau ["_law_rounds_here", "_law_p", "_law_q", "_law_row"] ["_law_rounds_here", "_law_p", "_law_q"] (zag zhw):=⟨rfl,rfl,rfl,by decide +kernel,rfl,by decide +kernel,by decide +kernel⟩
def ok_behind{f:Nc}{fd:No}(F:Fun K "_law_behind" "_law_behind" zhw f fd)(af:mg "len" = none):FnOk P w K mg base CX0 1 f fd ["_law_rounds_here", "_law_p", "_law_q"] spBehind:=by
 refine F.ok scBehind (λvs H Q E h=>?_) (λcdv A outer s H vs Q E hr h=>?_)
 ·obtain ⟨d,es,s,rfl,_⟩:=h
  rfl
 ·obtain ⟨d,es,st,rfl,R,aq,aQ,k⟩:=h
  have hu:=zb5 hr
  refine⟨_,zae (zak (i:=3) scBehind.nd rfl (Or.inl rfl) (zaz hu (pv 0) (pv 2) (λ_ _=>rfl)))
   (zah (zbm (ze7 (zab (pv 2) (zab (za1 zap (pv 3) (zaw ze9 (zaw zbv (zdo Zk Kq Kp zia (pv 3) (zab (pv 1) zaf)) zai)
   (zam zas (by rfl) af Zv (zab (pv 3) zaf))) (λ_ _=>rfl)) zaf))))),?_⟩
  obtain⟨p,hp,ep,hx⟩:=aq
  obtain⟨e,he,rfl⟩:=Qh.mp hp
  have ep':e.1=st.2:=ep
  have ci:st.1∈e.2.1:=hx
  have ha:=R.ro e he
  have g0:=DGet.k (k:=Sum.inr e.1) R.dc
  rw[zbu R.nd he,ep']at g0
  refine⟨_,rfl,_,rfl,d,_,rfl,g0,?_⟩
  have hz:=aQ e he
  have ap:row (rsOf es) st.2=e.2.1:=by rw[←ep'];exact zbk R.nd he
  unfold stp at k
  rw[ap]at k
  generalize e.2.1=zs at ci ha hz k
  obtain⟨i1,i2⟩:=zie ci
  have i6:0<zs.length:=Yl ci
  have hm:(zs.idxOf st.1+1)%zs.length<zs.length:=Nat.mod_lt _ i6
  have g:(zs.map V.str)[(zs.idxOf st.1+1)%zs.length]?=some (.str (nxt zs st.1)):=by
   rw[Qs,Qd hm]
   unfold nxt
   simp[List.getD,hm]
  have e1:((zs.idxOf st.1:Nat):Int)+1=((zs.idxOf st.1+1:Nat):Int):=by lia
  have g2:atI (zs.map V.str) ((((zs.idxOf st.1:Nat):Int)+1)%((zs.map V.str).length:Int))=some (.str (nxt zs st.1)):=by
   rw[e1,Qa,←Int.natCast_emod]
   exact zaq g
  refine⟨_,rfl,_,rfl,_,rfl,.inl ⟨rfl,_,SqL.of ha⟩,_,rfl,e.2.2,_,_,_,rfl,rfl,ha,rfl,zbw zs,i1,i2,_,_,rfl,rfl,_,rfl,e.2.2,_,rfl,.inl (SqL.of ha),_,_,rfl,rfl,?_,e.2.2,_,_,_,rfl,rfl,SqL.of ha,g2,(by show 2≤sizeLine;decide),λt ht=>k t ht⟩
  rw[Qa];exact zar9 ‹_›
def scFace:zau ["_law_rounds_here", "_law_step_here", "_law_found", "_law_here"] ["_law_rounds_here", "_law_step_here"] (zag sFace):=⟨rfl,rfl,rfl,by decide +kernel,rfl,by decide +kernel,by decide +kernel⟩
def ok_face{f fb:Nc}{fd fdb:No}(F:Fun K "_law_face" "_law_face" sFace f fd)(FB:Fun K "_law_behind" "_law_behind" zhw fb fdb)(bB:Binds K fdb ["_law_rounds_here", "_law_p", "_law_q"] [])(mB:mg "_law_behind" = some (.ref fb))(GB:FnOk P w K mg base CX0 1 fb fdb ["_law_rounds_here", "_law_p", "_law_q"] spBehind) :
  FnOk P w K mg base CX0 2 f fd ["_law_rounds_here", "_law_step_here"] spFace:=by
 refine F.ok scFace (λvs H Q E h=>?_) (λcdv A outer s H vs Q E hr h=>?_)
 ·obtain ⟨d,t0,es,s,rfl,_⟩:=h
  rfl
 ·obtain ⟨d,t0,es,st,rfl,R,aq,hG,ba,p9,k⟩:=h
  have hu:=zb5 hr
  refine⟨_,zae (zak (i:=2) scFace.nd rfl (Or.inl rfl) (zbc (zab (pv 1) zaf)))
   (zae (zak (i:=3) scFace.nd rfl (Or.inl rfl) (zaj GB hr rfl mB FB.kp bB .nil zav (zab (pv 0) (zab (za1 zcf (pv 1) zai (λ_ _=>rfl)) (zab (za1 zcf (pv 1) zai (λ_ _=>rfl)) zaf)))))
   (zae (zeg Zo (zar (op_ne_pairs (Wn (Yu _) hu)) (pv 3) (pv 1) rfl)
    (zae (za3 (zdo Zk Yn Ym zb4 (pv 2) (zab (pv 3) zaf)))
    (zah (zak (i:=3) scFace.nd rfl (Or.inl rfl) (zaj GB hr rfl mB FB.kp bB .nil zav (zab (pv 0) (zab (za1 zcf (pv 3) zai (λ_ _=>rfl)) (zab (za1 zcf (pv 3) zai (λ_ _=>rfl)) zaf))))))))
   (zah (zbm (pv 2))))),?_⟩
  obtain⟨L,hL,nd⟩:=good_round hG aq
  have aV:=za4.clo _ hG
  have aQ:∀e∈es,e.2.1.length≤900:=λe he=>by
   have:=za4.rows hG (e.1,e.2.1) (Qh.mpr ⟨e,he,rfl⟩)
   rw[show(rsOf es).length=es.length from Qa ..]at this
   exact Zn this (by omega)
  have hLb:L+1≤1600:=by
   have:=zei nd (m:=ziw (rsOf es)) λx hx=>by
    obtain⟨i,_,rfl⟩:=Qh.mp hx
    exact zf7.mpr (zgf aV aq i)
   unfold Wb.run at this
   rw[Qa,Yd]at this
   exact Zn this (za4.steps hG (by rw[show(rsOf es).length=es.length from Qa ..];exact ba))
  have i0:∀x y:V,atI [x,y] ((0:Nat):Int)=some x:=λx y=>zaq rfl
  have i1:∀x y:V,atI [x,y] ((1:Nat):Int)=some y:=λx y=>zaq rfl
  have aL:sizeLine=16777216:=sizeLine_eq
  refine⟨_,rfl,(by show 1≤sizeLine;decide),λl hl=>?_⟩
  have ntl:t0≠l:=zaa p9 hl
  have k1:Keep [] H (upd H l (.lst [.ref t0])):=Keep.new hl
  have cG:=k1 _ _ p9 (by simp)
  have R1:RAt (upd H l (.lst [.ref t0])) d es:=R.keep k1 (by simp) λ_ _=>by simp
  refine⟨_,rfl,_,rfl,t0,_,_,_,rfl,rfl,SqT.of cG,i0 _ _,_,rfl,t0,_,_,_,rfl,rfl,SqT.of cG,i1 _ _,d,es,st,rfl,R1,aq,aQ,λt ht=>?_⟩
  have nlt:l≠t:=zaa (o:=_) zac ht
  refine⟨λm σ H1=>Ex3 λ(n:Nat) (t:Nc) (as:Nk)=>Aj8 (m=L-n) (n≤L) (σ=[some (.ref d),some (.ref t0),some (.ref l),some (.ref t)]) (Keep [l] H H1) (H1 l=some (.lst (as.map V.ref))) (zbp H1 as (run (rsOf es) st (n+1))) (H1 t=some (.tup [.str (itr (rsOf es) st (n+1)).1,.str (itr (rsOf es) st (n+1)).2])) (as.length=n+1),
   ⟨_,0,t,[t0],rfl,Zf _,rfl,(k1.trans (Keep.new ht)).sub (by simp),by rw[zad nlt];exact zac,.cons ((k1.trans (Keep.new ht)) _ _ p9 (by simp)) .nil,zac,rfl⟩,?_⟩
  rintro m σ H1 ⟨n,t,as,rfl,hn,rfl,k2,aj,pa,df,cV⟩
  have qZ:=k2 _ _ p9 (by simpa using ntl)
  refine⟨_,rfl,_,rfl,t,t0,itr (rsOf es) st (n+1),st,rfl,rfl,df,qZ,_,rfl,?_⟩
  by_cases he:n=L
  ·subst he
   refine zcn (by rw[decide_eq_true hL];rfl) ?_
   exact⟨_,rfl,k l as n H1 hl aj pa nd hL λc o ec _=>k2 c o ec (by simpa using zaa ec hl)⟩
  ·refine zdc (by rw [decide_eq_false (round_ne nd (Nat.succ_pos n) (by omega))];rfl) ?_
   have ndl:d≠l:=zaa R.dc hl
   have qp:t≠l:=za5 df aj (by intro z;cases z)
   refine⟨_,λ σ' H' z=>z,?_⟩
   refine⟨_,rfl,.inl ⟨rfl,_,SqL.of aj⟩,_,rfl,l,_,_,rfl,rfl,aj,by rw[Qa];omega,?_⟩
   have k3:Keep [l] H (upd H1 l (.lst (as.map V.ref++[V.ref t]))):=k2.trans (Keep.wr Qc)
   have dD:(upd H1 l (.lst (as.map V.ref++[V.ref t]))) t=some (.tup [.str (itr (rsOf es) st (n+1)).1,.str (itr (rsOf es) st (n+1)).2]):=by rw[zad qp];exact df
   have aZ:(upd H1 l (.lst (as.map V.ref++[V.ref t]))) l=some (.lst ((as++[t]).map V.ref)):=by rw[zac,Qp];rfl
   have pa3:zbp (upd H1 l (.lst (as.map V.ref++[V.ref t]))) (as++[t]) (run (rsOf es) st (n+1+1)):=by
    rw[run_succ]
    refine zbp.snoc (zbp.keep pa λb x y eb=>?_) dD
    rw[zad (za5 eb aj (by intro z;cases z))];exact eb
   generalize upd H1 l (.lst (as.map V.ref++[V.ref t]))=H3 at k3 dD aZ pa3
   have R3:RAt H3 d es:=R.keep k3 (by simpa using ndl) λe he=>by simpa using zaa (R.ro e he) hl
   refine⟨_,rfl,_,rfl,t,_,_,_,rfl,rfl,SqT.of dD,i0 _ _,_,rfl,t,_,_,_,rfl,rfl,SqT.of dD,i1 _ _,d,es,itr (rsOf es) st (n+1),rfl,R3,zgf aV aq _,aQ,λt' lX=>?_⟩
   have nl':l≠t':=zaa aZ lX
   exact⟨L-(n+1),by omega,n+1,t',as++[t],rfl,by omega,rfl,k3.trans (Keep.new lX),by rw[zad nl'];exact aZ,zbp.keep pa3 λb x y eb=>by rw[zad (zaa eb lX)];exact eb,zac,by rw[Qq,cV];rfl⟩
def scPut:zau ["_law_rounds_here", "_law_one", "_law_beside", "_law_other", "_law_at"] ["_law_rounds_here", "_law_one", "_law_beside", "_law_other"] (zag sPut):=⟨rfl,rfl,rfl,by decide +kernel,rfl,by decide +kernel,by decide +kernel⟩
def ok_put{f:Nc}{fd:No}(F:Fun K "_law_put" "_law_put" sPut f fd):FnOk P w K mg base CX0 1 f fd ["_law_rounds_here", "_law_one", "_law_beside", "_law_other"] spPut:=by
 refine F.ok scPut (λvs H Q E h=>?_) (λcdv A outer s H vs Q E hr h=>?_)
 ·obtain ⟨d,es,e,c,n,rfl,_⟩:=h
  rfl
 ·obtain ⟨d,es,e,c,n,rfl,R,he,hc,hl,k⟩:=h
  have hu:=zb5 hr
  have ap:=R.ro e he
  have g0:DGet H d (.str e.1) (some (.ref e.2.2)):=(zbu R.nd he▸DGet.k (k:=Sum.inr e.1) R.dc)
  have aL:sizeLine=16777216:=sizeLine_eq
  refine⟨_,zae (zak (i:=4) scPut.nd rfl (Or.inl rfl) zai)
   (zae (zbs (zc5 (zh5 (pv 2))) (zah (zak (i:=4) scPut.nd rfl (Or.inl rfl) (zaw zbv (zdo Zk Kq Kp zia (zaz hu (pv 0) (pv 1) (λ_ _=>rfl)) (zab (pv 2) zaf)) zai))) zay)
   (zah (za3 (zdo Zk PySem.F.slot_list_insert PySem.F.type_list_insert mt_insert (zaz hu (pv 0) (pv 1) (λ_ _=>rfl)) (zab (pv 4) (zab (pv 3) zaf)))))),?_⟩
  have fin:∀j:Nat,j≤e.2.1.length→ins e.2.1 c n=e.2.1.take j++n::e.2.1.drop j→Q .non (upd H e.2.2 (.lst ((e.2.1.map V.str).take j++V.str n::(e.2.1.map V.str).drop j))):=λj hj ei=>by
   rw[←Uh,←Jp,←Ql,←Qp,←ei]
   exact k _ (R.set he _) (Keep.wr Qc)
  cases c with
  |none =>
   refine⟨_,rfl,_,rfl,?_⟩
   refine iteF ?_
   exact⟨_,rfl,_,rfl,d,_,rfl,g0,.inl ⟨rfl,_,SqL.of ap⟩,_,rfl,_,rfl,e.2.2,_,_,0,rfl,rfl,ap,by rw[Qa];omega,Zf _,fin 0 (Zf _) rfl⟩
  |some x =>
   have hx:=hc x rfl
   obtain⟨i1,i2⟩:=zie hx
   have hi:=idx_lt hx
   refine⟨_,rfl,_,rfl,?_⟩
   refine iteT ?_
   refine⟨_,rfl,_,rfl,d,_,rfl,g0,.inl ⟨rfl,_,SqL.of ap⟩,_,rfl,e.2.2,_,_,_,rfl,rfl,ap,rfl,zbw _,i1,i2,_,_,rfl,rfl,?_⟩
   exact⟨_,rfl,_,rfl,d,_,rfl,g0,.inl ⟨rfl,_,SqL.of ap⟩,_,rfl,_,rfl,e.2.2,_,_,e.2.1.idxOf x+1,rfl,by rw[show((e.2.1.idxOf x+1:Nat):Int)=(e.2.1.idxOf x:Int)+1 by lia],ap,by rw[Qa];omega,by rw[Qa];omega,fin _ hi rfl⟩
def scTie:zau ["_law_rounds_here", "_law_one", "_law_beside", "_law_other", "_law_after"] ["_law_rounds_here", "_law_one", "_law_beside", "_law_other", "_law_after"] (zag sTie):=⟨rfl,rfl,rfl,by decide +kernel,rfl,by decide +kernel,by decide +kernel⟩
def ok_tie{f fp:Nc}{fd fdp:No}(F:Fun K "_law_tie" "_law_tie" sTie f fd)(FP:Fun K "_law_put" "_law_put" sPut fp fdp)(bP:Binds K fdp ["_law_rounds_here", "_law_one", "_law_beside", "_law_other"] [])(mP:mg "_law_put" = some (.ref fp))(GP:FnOk P w K mg base CX0 1 fp fdp ["_law_rounds_here", "_law_one", "_law_beside", "_law_other"] spPut):FnOk P w K mg base CX0 2 f fd ["_law_rounds_here", "_law_one", "_law_beside", "_law_other", "_law_after"] spTie:=by
 refine F.ok scTie (λvs H Q E h=>?_) (λcdv A outer s H vs Q E hr h=>?_)
 ·obtain ⟨d,es,e1,e2,c1,c2,rfl,_⟩:=h
  rfl
 ·obtain ⟨d,es,e1,e2,c1,c2,rfl,R,h1,h2,az,bv,pH,cb,aj,k⟩:=h
  refine⟨_,zae (za3 (zaj GP hr rfl mP FP.kp bP .nil zav (zab (pv 0) (zab (pv 1) (zab (pv 2) (zab (pv 3) zaf))))))
   (zah (za3 (zaj GP hr rfl mP FP.kp bP .nil zav (zab (pv 0) (zab (pv 3) (zab (pv 4) (zab (pv 1) zaf))))))),?_⟩
  refine⟨_,rfl,_,rfl,_,rfl,_,rfl,d,es,e1,c1,e2.1,rfl,R,h1,bv,cb,λH1 R1 k1=>?_⟩
  refine⟨_,rfl,_,rfl,_,rfl,_,rfl,d,_,e2,c2,e1.1,rfl,R1,zcy h2 (Zb az),pH,aj,λH2 R2 k2=>?_⟩
  exact k H2 R2 ((k1.sub (by simp)).trans (k2.sub (by simp)))
end
end K21
end
section
namespace K21
open PySem L2 Wb
abbrev zhq:Stmt:=top 33
structure Dr(H:Hp)(d:Nc)(es:List Ent):Prop where
 rn:RN H d es
 gd:Good (rsOf es)
 few:es.length≤40
def Dr.k0{H H':Hp}{d:Nc}{es:List Ent}(r:Dr H d es)(k:Keep [] H H'):Dr H' d es:=⟨r.rn.k0 k,r.gd,r.few⟩
def Dr.pot{H H':Hp}{d p:Nc}{b m:Int}{es:List Ent}(r:Dr H d es)(h:Pot H p b m)(k:Keep [p] H H'):Dr H' d es:=⟨r.rn.pot h k,r.gd,r.few⟩
def Dr.row{H:Hp}{d:Nc}{es:List Ent}(r:Dr H d es):∀e∈es,e.2.1.length≤40:=λe he=>by
 have:=za4.rows r.gd (e.1,e.2.1) (Qh.mpr ⟨e,he,rfl⟩)
 rw[show(rsOf es).length=es.length from Qa ..]at this
 exact Zn this r.few
def zbf(es:List Ent):(rsOf es).map (·.1)=es.map (·.1):=by
 unfold rsOf;rw[List.map_map];rfl
def zhm{es:List Ent}(G:Good (rsOf es)){s:Str×Str}(h:IsSt (rsOf es) s):∃e1∈es,∃e2∈es,e1.1=s.1∧e2.1=s.2∧s.2∈e1.2.1∧s.1∈e2.2.1∧e1.1≠e2.1:=by
 obtain⟨cs,aa,C⟩:=G
 have h1:=(zbx C.nd).mp h
 have h2:=C.sy _ _ h1
 have n1:=C.inn h1
 have n2:=C.inn h2
 rw[zbf]at n1 n2
 obtain⟨e2,cg,q2⟩:=Qh.mp n1
 obtain⟨e1,dX,q1⟩:=Qh.mp n2
 have kR:e2.1=s.2:=q2
 have qj:e1.1=s.1:=q1
 have nd:(es.map (·.1)).Nodup:=by rw[←zbf];exact C.nd
 refine⟨e1,dX,e2,cg,qj,kR,by rw[←zbk nd dX,qj];exact h2,by rw[←zbk nd cg,kR];exact h1,λe=>?_⟩
 rw[qj,kR]at e
 rw[e]at h1
 exact C.ir _ h1
inductive IspStep(vs:List V)(H:Hp)(Q:VK):Prop
 |mk (p d:Nc) (b m:Int) (es:List Ent) (h0:vs=[.ref d,.ref p]) (h1:Pot H p b m) (h2:Dr H d es) (h3:∀(b' m':Int) (H':Hp),Pot H' p b' m'→Keep [p] H H'→Q .non H')
  (h4:∀(t:Nc) (s:Str×Str) (b' m':Int) (H':Hp),H t=none→H' t=some (.tup [.str s.1,.str s.2])→IsSt (rsOf es) s→Pot H' p b' m'→Keep [p] H H'→Q (.ref t) H'):IspStep vs H Q
def spStep:Sp:=λvs H Q _=>IspStep vs H Q
abbrev zhe:Scope:=scOf (eOf (sAt zhq 0))
def csStep_k:zhe.kind=.function:=by rfl
def csStep_c:∀y∈zhe.names,y.2≠.cell:=by decide +kernel
def csStep_n:∀y∈zhe.names,y.2=.local→zhe.names.lookup y.1=some .local:=by decide +kernel
def csStep_f:∀y∈zhe.names,y.2=.free→(zag zhq).names.lookup y.1=some .cell∨(zag zhq).names.lookup y.1=some .free:=by decide +kernel
def csStep_l:zhe.names.lookup ("_law_rounds_here" : Str)=some NameKind.free:=by decide +kernel
def ndStep:(["_law_place", "_law_rounds_here"]:List Str).Nodup:=by decide +kernel
section
variable{P:Nj}{w:Nl}{K:Nb}{mg:Ng}{base:Nm}
def scStep:zau ["_law_rounds_here", "_law_pot_here", "_law_tied", "_law_place"] ["_law_rounds_here", "_law_pot_here"] (zag zhq):=⟨rfl,rfl,rfl,by decide +kernel,rfl,by decide +kernel,by decide +kernel⟩
def ok_step{f ft:Nc}{fd fdt:No}(F:Fun K "_law_step" "_law_step" zhq f fd)(FT:Fun K "_law_draw" "_law_draw" zgw ft fdt)(bT:Binds K fdt ["_law_pot_here", "_law_many"] [])(mT:mg "_law_draw" = some (.ref ft))(GT:FnOk P w K mg base CX0 1 ft fdt ["_law_pot_here", "_law_many"] ze4)(af:mg "len" = none):FnOk P w K mg base CX0 2 f fd ["_law_rounds_here", "_law_pot_here"] spStep:=by
 refine F.ok scStep (λvs H Q E h=>?_) (λcdv A outer s0 H0 vs Q E hr h=>?_)
 ·obtain ⟨p,d,b,m,es,rfl,_⟩:=h
  rfl
 ·obtain ⟨p,d,b,m,es,rfl,hp,D0,kN,kT⟩:=h
  have R:=D0.rn.toRAt
  have ba:=D0.few
  have hu:=zb5 hr
  have gy:=Jg hu
  refine⟨_,zae (zew (ps_lc (i:=2) (M:=["_law_place", "_law_rounds_here"]) (ix:=[none,some 0]) scStep.nd rfl rfl ⟨csStep_k,csStep_c,csStep_n,csStep_f,rfl,ndStep,λj i x h1 h2=>by
      match j,h1,h2 with
      |0,_,h2=>cases h2
      |1,h1,h2=>cases h1;cases h2;exact⟨rfl,csStep_l⟩
      |n+2,h1,_=>cases h1⟩ rfl (zex (pv 0)) (λC a7 ex s H=>zal (i:=0) ndStep rfl (Or.inl rfl) (Or.inr rfl))
     (λC a7 ex s H=>zdz (zar (op_ne_nilK (K:=K) rfl gy) (zaz (by exact hu) (pv 1) (pv 0) (λ_ _=>rfl)) (zbc zaf) (zbd _))) (λC a7 ex s H=>pv 0) rfl))
   (zae (zbs (zar (op_eq_nil gy) (pv 2) (zbc zaf) (zbd _)) (zah (zbm zg8)) zay)
   (zae (zak (i:=3) scStep.nd rfl (Or.inl rfl) (za1 zap (pv 2) (zaj GT hr rfl mT FT.kp bT .nil zav (zab (pv 1) (zab (zam zas (by rfl) af Zv (zab (pv 2) zaf)) zaf))) (λ_ _=>rfl)))
   (zah (zbm (ze7 (zab (pv 3) (zab (za1 zap (zaz hu (pv 0) (pv 3) (λ_ _=>rfl)) (zaj GT hr rfl mT FT.kp bT .nil zav (zab (pv 1) (zab (zam zas (by rfl) af Zv (zab (zaz hu (pv 0) (pv 3) (λ_ _=>rfl)) zaf)) zaf))) (λ_ _=>rfl)) zaf))))))),?_⟩
  have nfz:∀o' u',H0 d≠some (.frz o' u'):=λo' u' z=>by rw[R.dc]at z;cases z
  have aL:sizeLine=16777216:=sizeLine_eq
  refine⟨_,rfl,d,_,rfl,R.dc,λo=>⟨λi m ys τ H1=>Aj6 (m=es.length-i) (i≤es.length) (ys=((es.take i).filter λe=>!e.2.1.isEmpty).map (λe=>V.str e.1)) (Ex1 λx=>τ=[x,some (.ref d)]) (H1 d=some (.frz o (.dK (es.map λe=>((Sum.inr e.1:Key),V.ref e.2.2))))) (Keep [d] H0 H1),
   ⟨es.length,by simp,Zf _,rfl,⟨none,rfl⟩,zac,Keep.wr Qc⟩,?_⟩⟩
  rintro i m1 ys τ H1 ⟨rfl,hi,rfl,⟨x0,rfl⟩,hz,k1⟩
  by_cases ag:i<es.length
  ·refine .inr ⟨⟨hz,by rw [Qa];exact ag⟩,?_,?_⟩
   ·have h1:(((es.take i).filter fun e=>!e.2.1.isEmpty).map (fun e=>V.str e.1)).length≤es.length:=by
     rw[Qa]
     exact Zn (Jl _ _) (by rw[Zj];lia)
    lia
   ·rintro x H' ⟨rfl,pr,e1,rfl⟩
    have g1:pr=((Sum.inr es[i].1:Key),V.ref es[i].2.2):=by
     rw[Qs,Qd ag]at e1
     exact(Qk e1).symm
    subst g1
    have bg:es[i]∈es:=Qz ag
    have mi:=R.ro _ bg
    have nri:es[i].2.2≠d:=za5 mi R.dc (by intro z;cases z)
    have bJ:=k1 _ _ mi (by simpa using nri)
    refine⟨_,rfl,_,rfl,d,.ref es[i].2.2,rfl,.inl ⟨_,Sum.inr es[i].1,.inr ⟨o,hz⟩,rfl,(zbu R.nd bg).symm⟩,(by show 0≤sizeLine;decide),λq hq=>?_⟩
    have nq:es[i].2.2≠q:=zaa bJ hq
    have nqd:d≠q:=zaa hz hq
    refine⟨es[i].2.2,q,_,rfl,rfl,SqL.of (by rw[zad nq];exact bJ),SqL.of zac,_,rfl,?_⟩
    have hk2:Keep [d] H0 (upd H' q (.lst [])):=k1.trans (Keep.new hq)
    have fk:(upd H' q (.lst [])) d=some (.frz o (.dK (es.map λe=>((Sum.inr e.1:Key),V.ref e.2.2)))):=by rw[zad nqd];exact hz
    have aT:es.take (i+1)=es.take i++[es[i]]:=Qm ag
    have gG:(es[i].2.1.map V.str).isEmpty=es[i].2.1.isEmpty:=by cases es[i].2.1<;>rfl
    rw[if_pos rfl,gG]
    by_cases hb:es[i].2.1.isEmpty=true
    ·rw [hb]
     refine iteF ⟨_,?_,rfl,ag,?_,⟨_,rfl⟩,fk,hk2⟩
     ·exact zar1 ‹_›
     ·rw[aT,Ua,Zx (by rw[hb];decide),Ja,Zt]
    ·have cT:es[i].2.1.isEmpty=false:=by simpa using hb
     rw[cT]
     refine iteT ⟨_,rfl,_,?_,rfl,ag,?_,⟨_,rfl⟩,fk,hk2⟩
     ·exact zar1 ‹_›
     ·rw [aT,Ua,Zw (by rw [cT];decide),Ja,Qp]
      rfl
  ·have jY:i=es.length:=by exact zar3 ‹_› ‹_›
   subst jY
   refine .inl ⟨⟨hz,by rw[Qa];exact Qi _⟩,λD hD=>?_⟩
   have ndD:d≠D:=zaa hz hD
   rw[Qv (Qi _)]
   refine⟨d,o,_,(by rw[zad ndD];exact hz),nfz,?_⟩
   have hDm:((es.filter λe=>!e.2.1.isEmpty).map λe=>V.str e.1)=((es.filter λe=>!e.2.1.isEmpty).map (·.1)).map V.str:=by rw[Zi];rfl
   have k2:Keep [] H0 (upd (upd H1 D (.lst ((es.filter λe=>!e.2.1.isEmpty).map λe=>V.str e.1))) d (.dK (es.map λe=>((Sum.inr e.1:Key),V.ref e.2.2)))):=λc u ec _=>by
    by_cases aB:c=d
    ·subst aB
     rw[zac,←R.dc];exact ec
    ·have ox:=k1 c u ec (by simpa using aB)
     rw[zad aB,zad (zaa ox hD)];exact ox
   have dw:(upd (upd H1 D (.lst ((es.filter λe=>!e.2.1.isEmpty).map λe=>V.str e.1))) d (.dK (es.map λe=>((Sum.inr e.1:Key),V.ref e.2.2)))) D=some (.lst (((es.filter λe=>!e.2.1.isEmpty).map (·.1)).map V.str)):=by rw[zad (Zb ndD),hDm];exact zac
   generalize upd (upd H1 D (.lst ((es.filter λe=>!e.2.1.isEmpty).map λe=>V.str e.1))) d (.dK (es.map λe=>((Sum.inr e.1:Key),V.ref e.2.2)))=H2 at k2 dw
   have lP:∀z∈(es.filter λe=>!e.2.1.isEmpty).map (·.1),∃e∈es,e.1=z∧e.2.1≠[]:=λz h=>by
    obtain⟨e,he,rfl⟩:=Qh.mp h
    obtain⟨h1,h2⟩:=Ze.mp he
    refine⟨e,h1,rfl,λq=>?_⟩
    rw[q]at h2;cases h2
   have cv:((es.filter λe=>!e.2.1.isEmpty).map (·.1)).length≤40:=by
    rw[Qa]
    exact Zn (Jl _ _) ba
   generalize(es.filter λe=>!e.2.1.isEmpty).map (·.1)=ws at dw lP cv
   refine⟨_,rfl,(by show 0≤sizeLine;decide),λq hq=>?_⟩
   have nDq:D≠q:=zaa dw hq
   refine⟨D,q,_,rfl,rfl,SqL.of (by rw[zad nDq];exact dw),SqL.of zac,_,rfl,?_⟩
   have k3:Keep [] H0 (upd H2 q (.lst [])):=k2.trans (Keep.new hq)
   have gp:(upd H2 q (.lst [])) D=some (.lst (ws.map V.str)):=by rw[zad nDq];exact dw
   generalize upd H2 q (.lst [])=H3 at k3 gp
   have R3:RAt H3 d es:=R.keep k3 (by simp) (λ_ _=>by simp)
   have ay:Pot H3 p b m:=hp.keep k3 (by simp)
   by_cases dC:ws=[]
   ·subst dC
    refine iteT ?_
    exact kN b m H3 ay (k3.sub (by simp))
   ·have gG:(ws.map V.str).isEmpty=false:=by
     cases ws with
     |nil=>exact absurd rfl dC
     |cons _ _=>rfl
    refine zcn gG ?_
    have hw0:0<ws.length:=Ws.mpr dC
    have aO:(ws.map V.str).length=ws.length:=Qa ..
    refine⟨_,rfl,_,rfl,_,rfl,D,_,rfl,.inl (SqL.of gp),p,b,m,_,rfl,ay,by rw[aO];omega,by rw[aO];omega,λj1 b4 m4 H4 pQ pP ca iL=>?_⟩
    obtain⟨j,rfl⟩:=Zy pQ
    have hj:j<ws.length:=by rw[aO]at pP;omega
    have k4:=zbg iL
    have nDp:D≠p:=zb3 ay gp
    have je:=k4 _ _ gp (by simpa using nDp)
    refine⟨D,_,_,_,rfl,rfl,SqL.of je,zaq (by rw[Qs,Qd hj];rfl),?_⟩
    obtain⟨e,he,ez,az⟩:=lP _ (Qz hj)
    rw[←ez]
    have R4:=R3.pot ay k4
    have g4:=DGet.k (k:=Sum.inr e.1) R4.dc
    rw[zbu R4.nd he]at g4
    have gC:=R4.ro e he
    have aQ:=D0.row e he
    have gD:0<e.2.1.length:=Ws.mpr az
    have jG:(e.2.1.map V.str).length=e.2.1.length:=Qa ..
    refine⟨_,rfl,_,rfl,_,rfl,d,_,rfl,g4,_,rfl,_,rfl,_,rfl,d,_,rfl,g4,e.2.2,_,rfl,.inl (SqL.of gC),p,b4,m4,_,rfl,ca,by rw[jG];omega,by rw[jG];omega,λi1 b5 m5 H5 tV h51 bp qy=>?_⟩
    obtain⟨i,rfl⟩:=Zy tV
    have hi5:i<e.2.1.length:=by rw[jG]at h51;omega
    have k5:=zbg qy
    have mj:=k5 _ _ gC (by simpa using zb3 ca gC)
    refine⟨e.2.2,_,_,_,rfl,rfl,SqL.of mj,zaq (by rw[Qs,Qd hi5];rfl),(by show 2≤sizeLine;decide),λt ht=>?_⟩
    have kZ:Keep [p] H0 H5:=((k3.sub (by simp)).trans k4).trans k5
    have ntp:t≠p:=Zb (zaa bp.1 ht)
    refine kT t (e.1,e.2.1[i]) b5 m5 _ (zan kZ ht (by simpa using ntp)) zac ?_ (bp.keep (xs:=[]) (Keep.new ht) (by simp)) (kZ.trans (Keep.new ht))
    obtain⟨cs,aa,C⟩:=D0.gd
    refine(zbx C.nd).mpr (C.sy e.1 _ ?_)
    rw[zbk R.nd he]
    exact Qz hi5
end
abbrev sMore:Stmt:=top 34
abbrev zhx:Stmt:=top 35
def zb7{es:List Ent}(nd:(es.map (·.1)).Nodup){e:Ent}(h:e∈es)(r:Nf):(setE es e.1 r e.2.2).map (·.2.2)=es.map (·.2.2):=by
 have:=congrArg (List.map (·.2)) (setE_ad nd h r)
 rwa[Zi,Zi]at this
structure Deed(p d:Nc)(H:Hp)(es:List Ent)(ex:Nf)(ao:List Ent)(H':Hp):Prop where
 dr:Dr H' d ao
 nm:ao.map (·.1)=es.map (·.1)++ex
 ad:∀c∈ao.map (·.2.2),c∈es.map (·.2.2)∨H c=none
 kp:Keep (p::d::es.map (·.2.2)) H H'
def RN.new{H H1:Hp}{d a:Nc}{es:List Ent}{x:Str}(R:RN H d es)(k:Keep [] H H1)(hn:H a=none)(hx:x∉es.map (·.1))(ha:H1 a=some (.lst (([]:List Str).map V.str))) :
  RN (upd H1 d (.dK (putK (es.map λe=>((Sum.inr e.1:Key),V.ref e.2.2)) (Sum.inr x) (.ref a)))) d (es++[(x,[],a)]):=by
 refine⟨rat_new (R.k0 k).toRAt hx ha,?_⟩
 rw[Qp,Za]
 refine⟨R.an,Qr.mpr ⟨by simp,Zh⟩,λy hy z hz e=>?_⟩
 have c7:z=a:=by simpa using hz
 obtain⟨e0,h0,rfl⟩:=Qh.mp hy
 have:=R.ro e0 h0
 rw[show e0.2.2=a from e.trans c7,hn]at this
 cases this
def out3{c p d:Nc}{es:List Ent}{e:Ent}(hc:c∉p::d::es.map (·.2.2))(he:e∈es):c≠e.2.2:=λz=>hc (Qg _ (Qg _ (Qh.mpr ⟨e,he,z.symm⟩)))
inductive IspMore(vs:List V)(H:Hp)(Q:VK):Prop
 |mk (p d:Nc) (b m:Int) (es:List Ent) (x:Str) (h0:vs=[.ref d,.ref p,.str x]) (h1:Pot H p b m) (h2:Dr H d es) (oq:es.length<40) (az:es≠[]) (hx:x∉es.map (·.1)) (h3:∀(b' m':Int) (ao:List Ent) (H':Hp),Pot H' p b' m'→Deed p d H es [x] ao H'→Q .non H'):IspMore vs H Q
def spMore:Sp:=λvs H Q _=>IspMore vs H Q
inductive IspAcross(vs:List V)(H:Hp)(Q:VK):Prop
 |mk (p d:Nc) (b m:Int) (es:List Ent) (h0:vs=[.ref d,.ref p]) (h1:Pot H p b m) (h2:Dr H d es) (h3:∀(b' m':Int) (ao:List Ent) (H':Hp),Pot H' p b' m'→Deed p d H es [] ao H'→Q .non H'):IspAcross vs H Q
def zfk:Sp:=λvs H Q _=>IspAcross vs H Q
section
variable{P:Nj}{w:Nl}{K:Nb}{mg:Ng}{base:Nm}
def scMore:zau ["_law_rounds_here", "_law_pot_here", "_law_name", "_law_old", "_law_one", "_law_beside"] ["_law_rounds_here", "_law_pot_here", "_law_name"] (zag sMore):=⟨rfl,rfl,rfl,by decide +kernel,rfl,by decide +kernel,by decide +kernel⟩
def ok_more{f ft fi:Nc}{fd fdt fdi:No}(F:Fun K "_law_more" "_law_more" sMore f fd)(FT:Fun K "_law_draw" "_law_draw" zgw ft fdt)(bT:Binds K fdt ["_law_pot_here", "_law_many"] [])(mT:mg "_law_draw" = some (.ref ft))(GT:FnOk P w K mg base CX0 1 ft fdt ["_law_pot_here", "_law_many"] ze4)(FI:Fun K "_law_tie" "_law_tie" sTie fi fdi)(bI:Binds K fdi ["_law_rounds_here", "_law_one", "_law_beside", "_law_other", "_law_after"] [])(mI:mg "_law_tie" = some (.ref fi))(GI:FnOk P w K mg base CX0 2 fi fdi ["_law_rounds_here", "_law_one", "_law_beside", "_law_other", "_law_after"] spTie)(af:mg "len" = none)(aA:mg "list" = none):FnOk P w K mg base CX0 3 f fd ["_law_rounds_here", "_law_pot_here", "_law_name"] spMore:=by
 refine F.ok scMore (λvs H Q E h=>?_) (λcdv A outer s0 H vs Q E hr h=>?_)
 ·obtain ⟨p,d,b,m,es,x,rfl,_⟩:=h
  rfl
 ·obtain ⟨p,d,b,m,es,x,rfl,hp,D0,ba,az,hx,k⟩:=h
  have R:=D0.rn.toRAt
  have hu:=zb5 hr
  have gy:=Jg hu
  have aE:Room 1 _:=hr.mono (by decide)
  have aL:sizeLine=16777216:=sizeLine_eq
  refine⟨_,zae (zak (i:=3) scMore.nd rfl (Or.inl rfl) (zbo (zdu rfl) (by rfl) aA Wu (zab (pv 0) zaf)))
   (zae (zcu hu (pv 0) (pv 2) (zbc zaf) rfl)
   (zah (zbs (zar op_gt (zaj GT aE rfl mT FT.kp bT .nil zav (zab (pv 1) (zab zai zaf))) zai (zbd _))
    (zae (zak (i:=4) scMore.nd rfl (Or.inl rfl) (za1 zap (pv 3) (zaj GT aE rfl mT FT.kp bT .nil zav (zab (pv 1) (zab (zam zas (by rfl) af Zv (zab (pv 3) zaf)) zaf))) (λ_ _=>rfl)))
    (zae (zak (i:=5) scMore.nd rfl (Or.inl rfl) zg8)
    (zae (zbs (zar (zf1 gy) (zaz hu (pv 0) (pv 4) (fun _ _=>rfl)) (zbc zaf) (zbd _))
     (zah (zak (i:=5) scMore.nd rfl (Or.inl rfl) (za1 zap (zaz hu (pv 0) (pv 4) (λ_ _=>rfl)) (zaj GT aE rfl mT FT.kp bT .nil zav (zab (pv 1) (zab (zam zas (by rfl) af Zv (zab (zaz hu (pv 0) (pv 4) (λ_ _=>rfl)) zaf)) zaf))) (λ_ _=>rfl)))) zay)
    (zah (za3 (zaj GI hr rfl mI FI.kp bI .nil zav (zab (pv 0) (zab (pv 4) (zab (pv 5) (zab (pv 2) (zab zg8 zaf)))))))))))
    zay))),?_⟩
  refine⟨_,rfl,d,_,rfl,.inl R.dc,λl hl=>?_⟩
  rw[zgc]
  refine⟨(by show 0≤sizeLine;decide),λa ha=>?_⟩
  have nla:l≠a:=zaa (o:=_) zac ha
  have cb:(upd (upd H l (.lst ((es.map (·.1)).map V.str))) a (.lst [])) l=some (.lst ((es.map (·.1)).map V.str)):=by rw[zad nla];exact zac
  have ha1:(upd (upd H l (.lst ((es.map (·.1)).map V.str))) a (.lst [])) a=some (.lst (([]:List Str).map V.str)):=zac
  have k1:Keep [] H (upd (upd H l (.lst ((es.map (·.1)).map V.str))) a (.lst [])):=(Keep.new hl).trans (Keep.new ha)
  have cz:H a=none:=zan (xs:=[]) (Keep.new hl) ha (by simp)
  generalize upd (upd H l (.lst ((es.map (·.1)).map V.str))) a (.lst [])=H1 at cb ha1 k1
  have R1:RAt H1 d es:=R.keep k1 (by simp) (λ_ _=>by simp)
  have aR:Pot H1 p b m:=hp.keep k1 (by simp)
  refine⟨_,rfl,_,rfl,d,_,rfl,DPut.k (k:=Sum.inr x) R1.dc (by rw[Qa];omega),?_⟩
  have R2:=D0.rn.new k1 cz hx ha1
  have k2:Keep [d] H (upd H1 d (.dK (putK (es.map λe=>((Sum.inr e.1:Key),V.ref e.2.2)) (Sum.inr x) (.ref a)))):=(k1.sub (by simp)).trans (Keep.wr Qc)
  have nld:l≠d:=za5 cb R1.dc (by intro z;cases z)
  have npd:p≠d:=Zb (zg7 aR R1.dc)
  have aj:(upd H1 d (.dK (putK (es.map λe=>((Sum.inr e.1:Key),V.ref e.2.2)) (Sum.inr x) (.ref a)))) l=some (.lst ((es.map (·.1)).map V.str)):=by rw[zad nld];exact cb
  have av:Pot (upd H1 d (.dK (putK (es.map λe=>((Sum.inr e.1:Key),V.ref e.2.2)) (Sum.inr x) (.ref a)))) p b m:=aR.keep (Keep.wr (xs:=[d]) Qc) (by simpa using npd)
  generalize upd H1 d (.dK (putK (es.map λe=>((Sum.inr e.1:Key),V.ref e.2.2)) (Sum.inr x) (.ref a)))=H2 at R2 k2 aj av
  have bE:rsOf (es++[(x,[],a)])=rsOf es++[(x,[])]:=by unfold rsOf;rw[List.map_append];rfl
  have iO:x∉(rsOf es).map (·.1):=by rw[zbf];exact hx
  have D2:Dr H2 d (es++[(x,[],a)]):=⟨R2,by rw[bE];exact za4.new _ _ D0.gd iO,by rw[Qq];show _+1≤40;omega⟩
  refine⟨_,rfl,p,b,m,8,rfl,av,by decide,by decide,λd3 b3 m3 H3 lv pR ay fe=>?_⟩
  have k3:=zbg fe
  have D3:=D2.pot av k3
  have gu:Keep [p,d] H H3:=(k2.sub (by simp)).trans (k3.sub (by simp))
  have eV:∀y∈[p,d],y∈p::d::es.map (·.2.2):=λy hy=>by
   rcases Qe.mp hy with z | z
   ·rw[z];exact Qc
   ·rw[Qb.mp z];exact Qg _ Qc
  have ad2:∀c∈(es++[(x,([]:List Str),a)]).map (·.2.2),c∈es.map (·.2.2)∨H c=none:=λc hc=>by
   rw[Qp]at hc
   rcases Qf.mp hc with z | z
   ·exact .inl z
   ·rw[Qb.mp z];exact .inr cz
  refine⟨_,_,rfl,rfl,_,rfl,?_⟩
  refine ite2 (λ_=>?_) (λ_=>?_)
  ·have aZ:=k3 _ _ aj (by simpa using zb3 av aj)
   have rZ:0<es.length:=Ws.mpr az
   have aO:((es.map (·.1)).map V.str).length=es.length:=by rw[Qa,Qa]
   refine⟨_,rfl,_,rfl,_,rfl,l,_,rfl,.inl (SqL.of aZ),p,b3,m3,_,rfl,ay,by rw[aO];omega,by rw[aO];omega,λj1 b4 m4 H4 pQ pP ca iL=>?_⟩
   obtain⟨j,rfl⟩:=Zy pQ
   have hj:j<es.length:=by rw[aO]at pP;omega
   have k4:=zbg iL
   have bu:=k4 _ _ aZ (by simpa using zb3 ay aZ)
   refine⟨l,_,_,_,rfl,rfl,SqL.of bu,zaq (by rw[Qs,Qs,Qd hj];rfl),?_⟩
   have D4:=D3.pot ay k4
   have dW:es[j]∈es:=Qz hj
   generalize es[j]=e at dW
   have j7:e∈es++[(x,([]:List Str),a)]:=Qn _ dW
   have eB:(x,([]:List Str),a)∈es++[(x,([]:List Str),a)]:=Qo _ Qc
   have nex:e.1≠x:=λq=>hx (q▸Qh.mpr ⟨e,dW,rfl⟩)
   have g4:=DGet.k (k:=Sum.inr e.1) D4.rn.dc
   rw[zbu D4.rn.nd j7]at g4
   have gC:=D4.rn.ro e j7
   have aQ:=D4.row e j7
   have jG:(e.2.1.map V.str).length=e.2.1.length:=Qa ..
   refine⟨_,rfl,_,rfl,d,_,rfl,g4,(by show 0≤sizeLine;decide),λq hq=>?_⟩
   have nq:e.2.2≠q:=zaa gC hq
   refine⟨e.2.2,q,_,rfl,rfl,SqL.of (by rw[zad nq];exact gC),SqL.of zac,_,rfl,?_⟩
   have k5:Keep [] H4 (upd H4 q (.lst [])):=Keep.new hq
   have D5:=D4.k0 k5
   have bp:Pot (upd H4 q (.lst [])) p b4 m4:=ca.keep k5 (by simp)
   have kZ:Keep [p,d] H (upd H4 q (.lst [])):=(gu.trans (k4.sub (by simp))).trans (k5.sub (by simp))
   generalize upd H4 q (.lst [])=H5 at D5 bp kZ
   have fin:∀(c:Option Str) (b6 m6:Int) (H6:Hp),(∀y,c=some y→y∈e.2.1)→(c=none→e.2.1=[])→Pot H6 p b6 m6→Dr H6 d (es++[(x,[],a)])→Keep [p,d] H H6 →
     IspTie [.ref d,.str e.1,zgk c,.str x,.non] H6 (λ_ H'=>Q .non H'):=λc b6 m6 H6 hc eS eJ D6 k06=>by
    refine⟨d,_,e,(x,[],a),c,none,rfl,D6.rn,j7,eB,nex,hc,λy z=>(by cases z),Zn aQ (by decide),Zf _,λH7 R7 k7=>?_⟩
    have jy:(x,([]:List Str),a)∈setE (es++[(x,[],a)]) e.1 (ins e.2.1 c x) e.2.2:=zcy eB (Zb nex)
    have eI:p∉[e.2.2,a]:=by
     have q1:=zb3 eJ (D6.rn.ro e j7)
     have q2:a≠p:=zb3 eJ (zs:=[]) (D6.rn.ro _ eB)
     simp
     exact⟨Zb q1,Zb q2⟩
    have nd6:((es++[(x,([]:List Str),a)]).map (·.1)).Nodup:=D6.rn.nd
    refine k b6 m6 _ H7 (eJ.keep k7 eI) ⟨⟨R7,?_,?_⟩,?_,λc hc=>?_,?_⟩
    ·rw [zb2,zb2,bE]
     exact za4.leaf (rsOf es) x (e.1,e.2.1) c D0.gd iO (Qh.mpr ⟨e,dW,rfl⟩) hc eS
    ·unfold setE
     rw[Qa,Qa]
     exact D6.few
    ·rw[zax,zax,Qp];rfl
    ·rw [zb7 (e:=(x,([]:List Str),a)) (by rw [zax];exact nd6) jy,zb7 nd6 j7] at hc
     exact ad2 c hc
    ·refine fun c o ec hc=>k7 c o (k06 c o ec fun z=>hc (eV c z)) ?_
     simp
     exact⟨out3 hc dW,zaa ec cz⟩
   have gG:(e.2.1.map V.str).isEmpty=e.2.1.isEmpty:=by cases e.2.1<;>rfl
   rw[if_pos rfl,gG]
   by_cases hb:e.2.1=[]
   ·rw [hb]
    refine iteF ?_
    exact⟨_,rfl,_,rfl,_,rfl,_,rfl,fin none b4 m4 H5 (λy z=>by cases z) (λ_=>hb) bp D5 kZ⟩
   ·have cT:e.2.1.isEmpty=false:=by simpa using hb
    rw[cT]
    refine iteT ?_
    have g5:=DGet.k (k:=Sum.inr e.1) D5.rn.dc
    rw[zbu D5.rn.nd j7]at g5
    have mj:=D5.rn.ro e j7
    have h0:0<e.2.1.length:=Ws.mpr hb
    refine⟨_,rfl,_,rfl,d,_,rfl,g5,_,rfl,_,rfl,_,rfl,d,_,rfl,g5,e.2.2,_,rfl,.inl (SqL.of mj),p,b4,m4,_,rfl,bp,by rw[jG];omega,by rw[jG];omega,λi1 b6 m6 H6 lu oo eJ dL=>?_⟩
    obtain⟨i,rfl⟩:=Zy lu
    have hi:i<e.2.1.length:=by rw[jG]at oo;omega
    have k6:=zbg dL
    have hr6:=k6 _ _ mj (by simpa using zb3 bp mj)
    refine⟨e.2.2,_,_,_,rfl,rfl,SqL.of hr6,zaq (by rw[Qs,Qd hi];rfl),?_⟩
    exact⟨_,rfl,_,rfl,_,rfl,_,rfl,fin (some e.2.1[i]) b6 m6 H6 (λy z=>by rw[←Qk z];exact Qz hi) (λz=>by cases z) eJ (D5.pot bp k6) (kZ.trans (k6.sub (by simp)))⟩
  ·exact k b3 m3 _ H3 ay ⟨D3,by rw[Qp];rfl,ad2,gu.sub eV⟩
def zec:zau ["_law_rounds_here", "_law_pot_here", "_law_step_here", "_law_row", "_law_after", "_law_other"] ["_law_rounds_here", "_law_pot_here"] (zag zhx):=⟨rfl,rfl,rfl,by decide +kernel,rfl,by decide +kernel,by decide +kernel⟩
def ok_across{f ft fi fs ff:Nc}{fd fdt fdi fds fdf:No}(F:Fun K "_law_across" "_law_across" zhx f fd)(FT:Fun K "_law_draw" "_law_draw" zgw ft fdt)(bT:Binds K fdt ["_law_pot_here", "_law_many"] [])(mT:mg "_law_draw" = some (.ref ft))(GT:FnOk P w K mg base CX0 1 ft fdt ["_law_pot_here", "_law_many"] ze4)(FI:Fun K "_law_tie" "_law_tie" sTie fi fdi)(bI:Binds K fdi ["_law_rounds_here", "_law_one", "_law_beside", "_law_other", "_law_after"] [])(mI:mg "_law_tie" = some (.ref fi))(GI:FnOk P w K mg base CX0 2 fi fdi ["_law_rounds_here", "_law_one", "_law_beside", "_law_other", "_law_after"] spTie)(FS:Fun K "_law_step" "_law_step" zhq fs fds)(bS:Binds K fds ["_law_rounds_here", "_law_pot_here"] [])(mS:mg "_law_step" = some (.ref fs))(GS:FnOk P w K mg base CX0 2 fs fds ["_law_rounds_here", "_law_pot_here"] spStep)(FF:Fun K "_law_face" "_law_face" sFace ff fdf)(bF:Binds K fdf ["_law_rounds_here", "_law_step_here"] [])(mF:mg "_law_face" = some (.ref ff))(GF:FnOk P w K mg base CX0 2 ff fdf ["_law_rounds_here", "_law_step_here"] spFace)(af:mg "len" = none):FnOk P w K mg base CX0 3 f fd ["_law_rounds_here", "_law_pot_here"] zfk:=by
 refine F.ok zec (λvs H Q E h=>?_) (λcdv A outer s0 H vs Q E hr h=>?_)
 ·obtain ⟨p,d,b,m,es,rfl,_⟩:=h
  rfl
 ·obtain ⟨p,d,b,m,es,rfl,hp,D0,k⟩:=h
  have R:=D0.rn.toRAt
  have hu:=zb5 hr
  have aE:Room 1 _:=hr.mono (by decide)
  have aL:sizeLine=16777216:=sizeLine_eq
  have i0:∀x y:V,atI [x,y] ((0:Nat):Int)=some x:=λx y=>zaq rfl
  have i1:∀x y:V,atI [x,y] ((1:Nat):Int)=some y:=λx y=>zaq rfl
  refine⟨_,zae (zak (i:=2) zec.nd rfl (Or.inl rfl) (zaj GS hr rfl mS FS.kp bS .nil zav (zab (pv 0) (zab (pv 1) zaf))))
   (zah (zbs (zc5 (zh5 (pv 2)))
    (zae (zak (i:=3) zec.nd rfl (Or.inl rfl) (zaj GF hr rfl mF FF.kp bF .nil zav (zab (pv 0) (zab (pv 2) zaf))))
    (zae (ps_asg (za1 zap (pv 3) (zaj GT aE rfl mT FT.kp bT .nil zav (zab (pv 1) (zab (zam zas (by rfl) af Zv (zab (pv 3) zaf)) zaf))) (fun _ _=>rfl))
     (ze6 rfl (za6 (zal (i:=4) zec.nd rfl (Or.inl rfl)) (za6 (zal (i:=5) zec.nd rfl (Or.inl rfl)) zck))))
    (zah (zbs (PW.pt (zg6 (zar op_ne (pv 5) (za1 zcf (pv 2) zai (fun _ _=>rfl)) (zbd _)) (zev (zar zce (pv 5) (zaz hu (pv 0) (za1 zcf (pv 2) zai (fun _ _=>rfl)) (fun _ _=>rfl)) rfl))))
     (zah (za3 (zaj GI hr rfl mI FI.kp bI .nil zav (zab (pv 0) (zab (za1 zcf (pv 2) zai (λ_ _=>rfl)) (zab (za1 zcf (pv 2) zai (λ_ _=>rfl)) (zab (pv 5) (zab (pv 4) zaf)))))))) zay))))
    zay)),?_⟩
  have eY:∀y∈[p],y∈p::d::es.map (·.2.2):=λy hy=>by rw[Qb.mp hy];exact Qc
  have none':∀(b1 m1:Int) (H1:Hp),Pot H1 p b1 m1→Dr H1 d es→Keep [p] H H1→Q .non H1:=λb1 m1 H1 aR D1 k1 =>
   k b1 m1 es H1 aR ⟨D1,(Zt _).symm,λc hc=>.inl hc,k1.sub eY⟩
  refine⟨_,rfl,_,rfl,p,d,b,m,es,rfl,hp,D0,λb1 m1 H1 aR k1=>?_,λt s b1 m1 H1 hft cG aq aR k1=>?_⟩
  ·refine ⟨_,rfl,_,rfl,iteF ?_⟩
   exact none' b1 m1 H1 aR (D0.pot hp k1) k1
  ·refine ⟨_,rfl,_,rfl,iteT ?_⟩
   have D1:=D0.pot hp k1
   refine⟨_,rfl,_,rfl,d,t,es,s,rfl,D1.rn.toRAt,aq,D0.gd,D0.few,cG,λl as n H2 eO aj pa nd hL k2=>?_⟩
   have av:Pot H2 p b1 m1:=aR.keep k2 (by simp)
   have cV:as.length=n+1:=by
    have:=Yr pa
    unfold Wb.run at this
    rw[Qa,Yd]at this
    exact this
   have aO:(as.map V.ref).length=n+1:=by rw[Qa,cV]
   have hnb:n+1≤1600:=by
    have:=zei nd (m:=ziw (rsOf es)) λx hx=>by
     obtain⟨i,_,rfl⟩:=Qh.mp hx
     exact zf7.mpr (zgf (za4.clo _ D0.gd) aq i)
    unfold Wb.run at this
    rw[Qa,Yd]at this
    exact Zn this (za4.steps D0.gd (by rw[show(rsOf es).length=es.length from Qa ..];exact D0.few))
   refine⟨_,rfl,_,rfl,_,rfl,l,_,rfl,.inl (SqL.of aj),p,b1,m1,_,rfl,av,by rw[aO];omega,by rw[aO];omega,λj1 b3 m3 H3 lv pR ay fe=>?_⟩
   obtain⟨j,rfl⟩:=Zy lv
   have hj:j<n+1:=by rw[aO]at pR;omega
   have hja:j<as.length:=by omega
   have k3:=zbg fe
   have nlp:l≠p:=za5 aj av.1 (by
    intro z
    injection z with z
    rcases as with _ | ⟨_,_⟩<;>cases z)
   have aZ:H3 l=some (.lst (as.map V.ref)):=k3 _ _ aj (by simpa using nlp)
   obtain⟨n6,gM⟩:=zbh pa hja
   have df:=k2 _ _ cG (by simp)
   have ntp:∀{c:Nc} {u v:V},H2 c=some (.tup [u,v])→c≠p:=λhc=>za5 hc av.1 (by intro z;cases z)
   have o0:=k3 _ _ gM (by simpa using ntp gM)
   have dD:=k3 _ _ df (by simpa using ntp df)
   have eq:(run (rsOf es) s (n+1))[j]=itr (rsOf es) s j:=by simp[Wb.run]
   rw[eq]at o0
   refine⟨l,_,_,_,rfl,rfl,SqL.of aZ,zaq (by rw[Qs,Qd hja];rfl),as[j],_,rfl,SqT.of o0,rfl,_,_,rfl,_,_,rfl,rfl,?_⟩
   have D3:=(D1.k0 k2).pot av k3
   have gu:Keep [p] H H3:=(k1.trans (k2.sub (by simp))).trans k3
   have hqs:=zgf (za4.clo _ D0.gd) aq j
   obtain⟨e1,dX,e2,cg,q1,q2,oP,kU,cY⟩:=zhm D0.gd aq
   obtain⟨f1,hf1,f2,gF,p1,p2,m3',m4',n34⟩:=zhm D0.gd hqs
   refine⟨_,rfl,_,rfl,t,_,_,_,rfl,rfl,SqT.of dD,i1 _ _,rfl,_,rfl,?_⟩
   by_cases c1:(itr (rsOf es) s j).2=s.2
   ·refine zcn (by show (!decide (V.str (itr (rsOf es) s j).2=V.str s.2))=false;rw [c1,decide_eq_true rfl];rfl) ?_
    exact none' b3 m3 H3 ay D3 gu
   ·refine zdc (by show (!decide (V.str (itr (rsOf es) s j).2=V.str s.2))=true;rw [decide_eq_false (fun z=>c1 (by injection z))];rfl) ?_
    have g3:=DGet.k (k:=Sum.inr e2.1) D3.rn.dc
    rw[zbu D3.rn.nd cg,q2]at g3
    have hr3:=D3.rn.ro e2 cg
    refine⟨_,rfl,_,rfl,_,rfl,t,_,_,_,rfl,rfl,SqT.of dD,i1 _ _,d,_,rfl,g3,e2.2.2,_,rfl,.inl (SqL.of hr3),rfl,zbw _,_,rfl,?_⟩
    rw[zdd]
    by_cases c2:(itr (rsOf es) s j).2∈e2.2.1
    ·refine zcn (by rw [decide_eq_true c2];rfl) ?_
     exact none' b3 m3 H3 ay D3 gu
    ·refine zdc (by rw [decide_eq_false c2];rfl) ?_
     have nef:e2.1≠f2.1:=λz=>c1 (by rw[←p2,←z,q2])
     refine⟨_,rfl,_,rfl,t,_,_,_,rfl,rfl,SqT.of dD,i1 _ _,_,rfl,t,_,_,_,rfl,rfl,SqT.of dD,i0 _ _,_,rfl,_,rfl,d,es,e2,f2,some s.1,some (itr (rsOf es) s j).1,by rw[q2,p2];rfl,D3.rn,cg,gF,nef,λy z=>by rw[←Qk z];exact kU,λy z=>by rw[←Qk z];exact m4',Zn (D3.row e2 cg) (by decide),Zn (D3.row f2 gF) (by decide),λH4 R4 k4=>?_⟩
     have sU:f2∈setE es e2.1 (ins e2.2.1 (some s.1) f2.1) e2.2.2:=zcy gF (Zb nef)
     have eI:p∉[e2.2.2,f2.2.2]:=by
      have z1:=zb3 ay hr3
      have z2:=zb3 ay (D3.rn.ro f2 gF)
      simp
      exact⟨Zb z1,Zb z2⟩
     refine k b3 m3 _ H4 (ay.keep k4 eI) ⟨⟨R4,?_,?_⟩,?_,λc hc=>.inl ?_,?_⟩
     ·rw [zb2,zb2]
      have hs:s=(s.1,e2.1):=Ux rfl q2.symm
      have:=za4.tie (rsOf es) s.1 (e2.1,e2.2.1) j D0.gd (Qh.mpr ⟨e2,cg,rfl⟩) kU (by show(itr (rsOf es) (s.1,e2.1) j).2≠e2.1;rw[←hs];exact λz=>nef (by rw[p2];exact z.symm)) (by show(itr (rsOf es) (s.1,e2.1) j).2∉e2.2.1;rw[←hs];exact c2)
      simp only[←hs]at this
      rw[←p2,zbk R.nd gF]at this
      exact this
     ·unfold setE
      rw[Qa,Qa]
      exact D0.few
     ·rw[zax,zax,Zt]
     ·rw [zb7 (by rw [zax];exact R.nd) sU,zb7 R.nd cg] at hc
      exact hc
     ·refine fun c o ec hc=>k4 c o (gu c o ec fun z=>hc (eY c z)) ?_
      simp
      exact⟨out3 hc cg,out3 hc gF⟩
end
end K21
end
section
namespace Wb
section
variable{α:Type}[DecidableEq α]
def zgj{A B:List α}{n:α}(h:n∉A):(A++n::B).erase n=A++B:=by
 rw[List.erase_append_right _ h,List.erase_cons_head]
def nxt_erase{zs:List α}(nd:zs.Nodup){n w:α}(hn:n∈zs)(hw:w∈zs)(cF:w≠n):nxt (zs.erase n) w=if nxt zs w=n then nxt zs n else nxt zs w:=by
 obtain⟨A,B,rfl,hA,hB⟩:=zbr hw nd
 have k1:=zba (B:=B) hA
 rw[Za,Qr]at nd
 obtain⟨nA,⟨_,nB⟩,nAB⟩:=nd
 rcases Qf.mp hn with h | h
 ·obtain ⟨A1,A2,rfl,h1,h2⟩:=zbr h nA
  have e0:(A1++n::A2)++w::B=A1++n::(A2++w::B):=by rw[Qu];rfl
  have hw':w∉A1++A2:=λz=>hA (by
   rcases Qf.mp z with q | q
   ·exact Qn _ q
   ·exact Qo _ (Qg _ q))
  have k2:=zba (B:=B) hw'
  have e1:((A1++n::A2)++w::B).erase n=(A1++A2)++w::B:=by rw[e0,zgj h1,Qu]
  have k3:=zba (B:=A2++w::B) h1
  rw[←e0]at k3
  rw[e1]
  cases B with
  |cons b t =>
   have q1:=Qk k1;have q2:=Qk k2
   rw[if_neg (λz=>nAB n h n (Qg _ (by rw[q1.trans z];exact Qc)) rfl)]
   exact q2.symm.trans q1
  | nil =>
   cases A1 with
   |cons a t =>
    have q1:=Qk k1;have q2:=Qk k2
    rw[if_neg (λz=>h1 (by rw[q1.trans z];exact Qc))]
    exact q2.symm.trans q1
   |nil =>
    have q1:=Qk k1
    rw[if_pos q1.symm]
    refine Qk (k2.symm.trans (Eq.trans ?_ k3))
    cases A2<;>rfl
 ·have h':n∈B:=by
   rcases Qe.mp h with z | z
   ·exact absurd z.symm cF
   ·exact z
  obtain⟨B1,B2,rfl,h1,h2⟩:=zbr h' nB
  have rY:n∉A:=λz=>nAB n z n h rfl
  have hm:n∉A++w::B1:=by
   simp only[Qf,Qe,not_or];exact⟨rY,λz=>cF z.symm,h1⟩
  have e0:A++w::(B1++n::B2)=(A++w::B1)++n::B2:=by rw[Qu];rfl
  have e1:(A++w::(B1++n::B2)).erase n=A++w::(B1++B2):=by rw[e0,zgj hm,Qu];rfl
  have k2:=zba (B:=B1++B2) hA
  have k3:=zba (B:=B2) hm
  rw[←e0]at k3
  rw[e1]
  cases B1 with
  |cons b t =>
   have q1:=Qk k1;have q2:=Qk k2
   rw[if_neg (λz=>h1 (by rw[q1.trans z];exact Qc))]
   exact q2.symm.trans q1
  |nil =>
   have q1:=Qk k1
   rw[if_pos q1.symm]
   refine Qk (k2.symm.trans (Eq.trans ?_ k3))
   cases B2 with
   |cons b t=>rfl
   |nil=>cases A<;>rfl
def nxt_self{zs:List α}(nd:zs.Nodup){w:α}(hw:w∈zs)(h:nxt zs w=w):zs=[w]:=by
 obtain⟨A,B,rfl,hA,hB⟩:=zbr hw nd
 have k:=zba (B:=B) hA
 rw[h]at k
 cases B with
 |cons b t=>exact absurd (by rw[←Qk k];exact Qc) hB
 |nil =>
  cases A with
  |nil=>rfl
  |cons a t=>exact absurd (by rw[←Qk k];exact Qc) hA
structure Web(ns:List α)(r:α→List α)(cs:List (List (α×α))):Prop where
 nd:ns.Nodup
 ro:∀x,x∉ns→r x=[]
 rn:∀x,(r x).Nodup
 ir:∀x,x∉r x
 sy:∀x y,y∈r x→x∈r y
 cf:cs.flatten.Nodup
 cm:∀s,s∈cs.flatten↔s.1∈r s.2
 cy:∀c∈cs,Cyc (st r) c
def vl(r:α→List α)(x:α):Int:=2+(if r x=[] then 2 else 0)-((r x).length:Int)
def tot(ns:List α)(r:α→List α)(cs:List (List (α×α))):Int:=(ns.map (vl r)).sum+2*(cs.length:Int)
structure Flat(ns:List α)(r:α→List α)(cs:List (List (α×α))):Prop extends Web ns r cs where
 fl:∀T:List α,(∀t∈T,t∈ns)→T.Pairwise (λx y=>¬Conn r x y)→4*(T.length:Int)≤tot ns r cs
def Conn.symm{r:α→List α}(sy:∀x y,y∈r x→x∈r y){x y:α}(h:Conn r x y):Conn r y x:=by
 induction h with
 |refl=>exact .refl
 |step a hz ih=>exact Conn.trans (.step .refl (sy _ _ hz)) ih
variable{ns:List α}{r r':α→List α}{cs:List (List (α×α))}
def Web.inn(C:Web ns r cs){x y:α}(h:y∈r x):x∈ns:=Kf λz=>by rw[C.ro x z]at h;cases h
structure Less(r r':α→List α)(v u:α):Prop where
 tie:u∈r v
 one:r' v=(r v).erase u
 two:r' u=(r u).erase v
 els:∀x,x≠v→x≠u→r' x=r x
section del
variable{v u:α}(C:Web ns r cs)(L:Less r r' v u)
include C L
theorem del_ne:v≠u:=λe=>C.ir u (by have:=L.tie;rwa[e]at this)
theorem zb6(s:α×α):s.1∈r' s.2↔s.1∈r s.2∧s≠(v,u)∧s≠(u,v):=by
 obtain⟨a,b⟩:=s
 have eD:=del_ne C L
 by_cases hb:b=v
 ·subst hb
  show a∈r' b↔a∈r b∧_
  rw[L.one,(C.rn b).mem_erase_iff]
  constructor
  ·rintro ⟨h1,h2⟩
   exact⟨h2,λe=>eD (congrArg Prod.snd e),λe=>h1 (congrArg Prod.fst e)⟩
  ·rintro ⟨h1,h2,h3⟩
   exact⟨λe=>h3 (by rw[e]),h1⟩
 ·by_cases bY:b=u
  ·subst bY
   show a∈r' b↔a∈r b∧_
   rw[L.two,(C.rn b).mem_erase_iff]
   constructor
   ·rintro ⟨h1,h2⟩
    exact⟨h2,λe=>h1 (congrArg Prod.fst e),λe=>hb (congrArg Prod.snd e)⟩
   ·rintro ⟨h1,h2,h3⟩
    exact⟨λe=>h2 (by rw[e]),h1⟩
  ·show a∈r' b↔a∈r b∧_
   rw[L.els b hb bY]
   exact⟨λh=>⟨h,λe=>bY (congrArg Prod.snd e),λe=>hb (congrArg Prod.snd e)⟩,λh=>h.1⟩
theorem del_st{s:α×α}(hs:s.1∈r' s.2):st r' s=if st r s=(v,u) then st r (u,v) else if st r s=(u,v) then st r (v,u) else st r s:=by
 have hm:=(zb6 C L s).mp hs
 obtain⟨a,b⟩:=s
 have eD:=del_ne C L
 obtain⟨ha,gE,bm⟩:=hm
 by_cases hb:b=v
 ·subst hb
  have tN:a≠u:=λe=>bm (by rw[e])
  have k:=nxt_erase (C.rn b) L.tie ha tN
  show(b,nxt (r' b) a)=if(b,nxt (r b) a)=(b,u) then(b,nxt (r b) u) else if(b,nxt (r b) a)=(u,b) then _ else(b,nxt (r b) a)
  rw[L.one,k]
  by_cases h:nxt (r b) a=u
  ·rw[if_pos h,if_pos (by rw[h])]
  ·rw[if_neg h,if_neg (λe=>h (congrArg Prod.snd e)),if_neg (λe=>eD (congrArg Prod.fst e))]
 ·by_cases bY:b=u
  ·subst bY
   have tN:a≠v:=λe=>gE (by rw[e])
   have k:=nxt_erase (C.rn b) (C.sy _ _ L.tie) ha tN
   show(b,nxt (r' b) a)=if(b,nxt (r b) a)=(v,b) then _ else if(b,nxt (r b) a)=(b,v) then(b,nxt (r b) v) else(b,nxt (r b) a)
   rw[L.two,k,if_neg (λe=>hb (congrArg Prod.fst e))]
   by_cases h:nxt (r b) a=v
   ·rw[if_pos h,if_pos (by rw[h])]
   ·rw[if_neg h,if_neg (λe=>h (congrArg Prod.snd e))]
  ·show (b,nxt (r' b) a)=if (b,nxt (r b) a)=(v,u) then _ else if (b,nxt (r b) a)=(u,v) then _ else (b,nxt (r b) a)
   rw[if_neg (λe=>hb (congrArg Prod.fst e)),if_neg (λe=>bY (congrArg Prod.fst e)),L.els b hb bY]
theorem del_web{cs':List (List (α×α))}(hp:cs.flatten.Perm ((v,u)::(u,v)::cs'.flatten))(hc:∀c∈cs',Cyc (st r') c):Web ns r' cs':=by
 have eD:=del_ne C L
 have nd:=hp.nodup_iff.mp C.cf
 rw[Qr,Qr,Qe,not_or]at nd
 refine⟨C.nd,λx hx=>?_,λx=>?_,λx h=>?_,λx y h=>?_,nd.2.2,λs=>?_,hc⟩
 ·have hv:x≠v:=fun e=>hx (by rw [e];exact C.inn L.tie)
  have hu:x≠u:=λe=>hx (by rw[e];exact C.inn (C.sy _ _ L.tie))
  rw[L.els x hv hu,C.ro x hx]
 ·by_cases h1:x=v
  ·rw[h1,L.one];exact(C.rn v).erase _
  ·by_cases h2:x=u
   ·rw[h2,L.two];exact(C.rn u).erase _
   ·rw[L.els x h1 h2];exact C.rn x
 ·exact C.ir x ((zb6 C L (x,x)).mp h).1
 ·obtain ⟨h1,h2,h3⟩:=(zb6 C L (y,x)).mp h
  exact(zb6 C L (x,y)).mpr ⟨C.sy x y h1,λe=>h3 (by cases e;rfl),λe=>h2 (by cases e;rfl)⟩
 ·rw [zb6 C L,← C.cm,hp.mem_iff,Qe,Qe]
  constructor
  ·intro h
   exact⟨.inr (.inr h),λe=>nd.1.2 (e▸h),λe=>nd.2.1 (e▸h)⟩
  ·rintro ⟨h | h | h,h2,h3⟩
   ·exact absurd h h2
   ·exact absurd h h3
   ·exact h
theorem del_tot{cs':List (List (α×α))}:tot ns r' cs'=tot ns r cs+2+(if r' v=[] then 2 else 0)+(if r' u=[] then 2 else 0)+2*((cs'.length:Int)-(cs.length:Int)):=by
 have eD:=del_ne C L
 have hv:=C.inn L.tie
 have hu:=C.inn (C.sy _ _ L.tie)
 have e1:=zer (g:=vl r) (g':=λx=>if x=v then vl r' v else vl r x) C.nd hv λx _ h=>if_neg h
 have e2:=zer (g:=λx=>if x=v then vl r' v else vl r x) (g':=vl r') C.nd hu λx _ h=>by
  show vl r' x=if x=v then vl r' v else vl r x
  by_cases hx:x=v
  ·rw[if_pos hx,hx]
  ·rw[if_neg hx];unfold vl;rw[L.els x hx h]
 have a1:(if v=v then vl r' v else vl r v)=vl r' v:=if_pos rfl
 have a2:(if u=v then vl r' v else vl r u)=vl r u:=if_neg λe=>eD e.symm
 have l1:=Yo L.tie
 have l2:=Yo (C.sy _ _ L.tie)
 have p1:=Yl L.tie
 have p2:=Yl (C.sy _ _ L.tie)
 have n1:r v≠[]:=λe=>by have:=L.tie;rw[e]at this;cases this
 have n2:r u≠[]:=λe=>by have:=C.sy _ _ L.tie;rw[e]at this;cases this
 have b1:vl r' v=vl r v+1+(if r' v=[] then 2 else 0):=by
  unfold vl;rw[if_neg n1];rw[←L.one]at l1;rw[l1];omega
 have b2:vl r' u=vl r u+1+(if r' u=[] then 2 else 0):=by
  unfold vl;rw[if_neg n2];rw[←L.two]at l2;rw[l2];omega
 unfold tot
 rw[e2,e1]
 show(_+((if v=v then vl r' v else vl r v)-vl r v))+(vl r' u-(if u=v then vl r' v else vl r u))+_=_
 rw[a1,a2,b1,b2];omega
theorem del_conn{x y:α}(h:Conn r x y):Conn r' x y∨(Conn r' x v∧Conn r' u y)∨(Conn r' x u∧Conn r' v y):=by
 induction h with
 |refl=>exact .inl .refl
 | @step y z a hz ih =>
  by_cases h1:(z,y)=(v,u)
  ·cases h1
   rcases ih with h | ⟨h,_⟩ | ⟨h,_⟩
   ·exact .inr (.inr ⟨h,.refl⟩)
   ·exact .inl h
   ·exact .inr (.inr ⟨h,.refl⟩)
  ·by_cases h2:(z,y)=(u,v)
   ·cases h2
    rcases ih with h | ⟨h,_⟩ | ⟨h,_⟩
    ·exact .inr (.inl ⟨h,.refl⟩)
    ·exact .inr (.inl ⟨h,.refl⟩)
    ·exact .inl h
   ·have c7:z∈r' y:=(zb6 C L (z,y)).mpr ⟨hz,h1,h2⟩
    rcases ih with h | ⟨h,k⟩ | ⟨h,k⟩
    ·exact .inl (.step h c7)
    ·exact .inr (.inl ⟨h,.step k c7⟩)
    ·exact .inr (.inr ⟨h,.step k c7⟩)
end del
end
section
variable{α:Type}[DecidableEq α]{ns:List α}{r r':α→List α}{cs:List (List (α×α))}
def Web.iso(C:Web ns r cs){p q:α}(h:p∈r q):(r q).erase p=[]↔st r (p,q)=(q,p):=by
 constructor
 ·intro e
  have l:=Yo h
  rw[e]at l
  have p1:=Yl h
  obtain⟨a,ha⟩:=List.length_eq_one_iff.mp (show(r q).length=1 by simp at l;omega)
  rw[ha]at h
  have:p=a:=Qb.mp h
  show(q,nxt (r q) p)=_
  rw[ha,this,zh8]
 ·intro e
  have:=nxt_self (C.rn q) h (congrArg Prod.snd e)
  rw[this,List.erase_cons_head]
section del
variable{v u:α}(C:Web ns r cs)(L:Less r r' v u)
include C L
theorem lk_del{x:α×α}:∀{t:List (α×α)} {s:α×α},Lk (st r) s t x→(∀y,y=s∨y∈t→y.1∈r' y.2)→Lk (st r') s t (if x=(v,u) then st r (u,v) else if x=(u,v) then st r (v,u) else x):=by
 intro t
 induction t with
 |nil=>intro s k h;rw[←show st r s=x from k];exact del_st C L (h s (.inl rfl))
 |cons a t ih =>
  intro s k h
  refine⟨?_,ih k.2 λy hy=>h y (.inr (Qe.mpr hy))⟩
  have ha:=((zb6 C L a).mp (h a (.inr Qc))).2
  rw[del_st C L (h s (.inl rfl)),k.1,if_neg ha.1,if_neg ha.2]
theorem rest_cyc{c:List (α×α)}(hc:c∈cs)(h1:(v,u)∉c)(h2:(u,v)∉c):Cyc (st r') c:=by
 refine zem (λy hy=>?_) (C.cy c hc)
 have hn:=zih (C.cy c hc) hy
 have fB:y.1∈r' y.2:=(zb6 C L y).mpr ⟨(C.cm y).mp (Zu.mpr ⟨c,hc,hy⟩),λe=>h1 (e▸hy),λe=>h2 (e▸hy)⟩
 rw[del_st C L fB,if_neg (show st r y≠(v,u) from λe=>h1 (by rw[←e];exact hn)),if_neg (show st r y≠(u,v) from λe=>h2 (by rw[←e];exact hn))]
theorem lk_conn(sy:∀x y,y∈r' x→x∈r' y){x:α×α}:∀{t:List (α×α)} {s:α×α},Lk (st r) s t x→(∀y,y=s∨y∈t→y.1∈r' y.2)→Conn r' s.1 x.1:=by
 intro t
 induction t with
 |nil=>intro s k h;rw[←show st r s=x from k];exact .step .refl (sy _ _ (h s (.inl rfl)))
 |cons a t ih =>
  intro s k h
  refine Conn.trans (.step .refl (sy _ _ (h s (.inl rfl)))) ?_
  have:=ih k.2 λy hy=>h y (.inr (Qe.mpr hy))
  rwa[show a.1=s.2 by rw[←k.1];rfl]at this
end del
def filter_one{T:List α}{R:α→α→Prop}{P:α→Bool}(h:T.Pairwise fun x y=>¬ R x y)(hR:∀ x y,P x=false→P y=false→R x y):T.length≤(T.filter P).length+1:=by
 induction T with
 |nil=>exact Zf _
 | cons a t ih =>
  rw[Jc]at h
  by_cases ha:P a=true
  ·rw [Zw ha]
   have:=ih h.2
   rw[Qx,Qx];omega
  ·rw [Zx ha]
   have:t.filter P=t:=List.filter_eq_self.mpr λy hy=>by
    cases e:P y with
    |true=>rfl
    |false=>exact absurd (hR a y (by simpa using ha) e) (h.1 y hy)
   rw[this];exact Qi _
def web_less{v u:α}(C:Web ns r cs)(L:Less r r' v u):∃ cs',Web ns r' cs'∧(tot ns r' cs'=tot ns r cs∧Conn r' u v∨tot ns r' cs'=tot ns r cs+4):=by
 have eD:=del_ne C L
 have sf:v∈r u:=C.sy _ _ L.tie
 have az:((u,v):α×α)≠(v,u):=λe=>eD (congrArg Prod.snd e)
 obtain⟨c,hc,hec⟩:=Zu.mp ((C.cm (v,u)).mpr sf)
 obtain⟨P,Q,ecq⟩:=Yp hec
 have k0:Lk (st r) (v,u) (Q++P) (v,u):=zc1 (ecq▸C.cy c hc)
 have pc:c.Perm ((v,u)::(Q++P)):=by
  rw[ecq];exact Jm.trans ((Yx).cons _)
 by_cases hb:(u,v)∈c
 ·have cT:(u,v)∈Q++P:=by
   rcases Qe.mp (pc.mem_iff.mp hb) with z | z
   ·exact absurd z az
   ·exact z
  obtain⟨A,B,eAB⟩:=Yp cT
  rw[eAB]at k0 pc
  obtain⟨kA,kB⟩:=lk_app.mp k0
  have oN:c.Perm ((v,u)::(u,v)::(A++B)):=pc.trans (Jm.cons _)
  let N:List (List (α×α)):=(if A=[] then[] else[A])++(if B=[] then[] else[B])
  have hN:N.flatten=A++B:=by
   show((if A=[] then[] else[A])++(if B=[] then[] else[B])).flatten=_
   rw[Wj]
   congr 1
   ·by_cases h:A=[]
    ·rw[if_pos h,h];rfl
    ·rw[if_neg h];simp
   ·by_cases h:B=[]
    ·rw[if_pos h,h];rfl
    ·rw[if_neg h];simp
  have hp:cs.flatten.Perm ((v,u)::(u,v)::(N++cs.erase c).flatten):=by
   rw[Wj,hN]
   refine(zb1 hc).trans ((oN.append_right _).trans ?_)
   exact List.Perm.refl _
  have nd:=hp.nodup_iff.mp C.cf
  have ar:∀y,y∈(N++cs.erase c).flatten→y.1∈r' y.2:=λy hy=>by
   rw[Qr,Qr,Qe,not_or]at nd
   exact(zb6 C L y).mpr ⟨(C.cm y).mp (hp.mem_iff.mpr (Qg _ (Qg _ hy))),λe=>nd.1.2 (e▸hy),λe=>nd.2.1 (e▸hy)⟩
  have dS:∀y∈A,y.1∈r' y.2:=λy hy=>ar y (by rw[Wj,hN];exact Qn _ (Qn _ hy))
  have g7:∀y∈B,y.1∈r' y.2:=λy hy=>ar y (by rw[Wj,hN];exact Qn _ (Qo _ hy))
  have cA:∀a t,A=a::t→Cyc (st r') A:=λa t e=>by
   subst e
   have k:=lk_del C L kA.2 λy hy=>dS y (Qe.mpr hy)
   rw[if_neg az,if_pos rfl,kA.1]at k
   exact⟨a,t,rfl,k⟩
  have cB:∀a t,B=a::t→Cyc (st r') B:=λa t e=>by
   subst e
   have k:=lk_del C L kB.2 λy hy=>g7 y (Qe.mpr hy)
   rw[if_pos rfl,kB.1]at k
   exact⟨a,t,rfl,k⟩
  have nO:∀d∈N++cs.erase c,Cyc (st r') d:=λd hd=>by
   rcases Qf.mp hd with z | z
   ·rcases Qf.mp z with y | y
    ·cases A with
     |nil=>rw[if_pos rfl]at y;cases y
     |cons a t =>
      rw[if_neg (Kt _ _)]at y
      rw[Qb.mp y];exact cA a t rfl
    ·cases B with
     |nil=>rw[if_pos rfl]at y;cases y
     |cons a t =>
      rw[if_neg (Kt _ _)]at y
      rw[Qb.mp y];exact cB a t rfl
   ·rw [Qr,Qr,Qe,not_or] at nd
    have hf:∀y∈d,y∈(N++cs.erase c).flatten:=λy hy=>Zu.mpr ⟨d,hd,hy⟩
    exact rest_cyc C L (Uc z) (λy=>nd.1.2 (hf _ y)) (λy=>nd.2.1 (hf _ y))
  have W:=del_web C L hp nO
  have iA:r' u=[]↔A=[]:=by
   rw[L.two,C.iso sf]
   constructor
   ·intro e
    cases A with
    |nil=>rfl
    |cons a t =>
     have ha:a=(u,v):=kA.1.symm.trans e
     have:=((zb6 C L a).mp (dS a Qc)).2.2
     exact absurd ha this
   ·intro e;subst e;exact kA
  have iB:r' v=[]↔B=[]:=by
   rw[L.one,C.iso L.tie]
   constructor
   ·intro e
    cases B with
    |nil=>rfl
    |cons a t =>
     have ha:a=(v,u):=kB.1.symm.trans e
     have:=((zb6 C L a).mp (g7 a Qc)).2.1
     exact absurd ha this
   ·intro e;subst e;exact kB
  have ht:tot ns r' (N++cs.erase c)=tot ns r cs+4:=by
   rw[del_tot C L (cs':=N++cs.erase c)]
   have lc:=Yo hc
   have lp:=Yl hc
   have ln:N.length=(if A=[] then 0 else 1)+(if B=[] then 0 else 1):=by
    show((if A=[] then[] else[A])++(if B=[] then[] else[B])).length=_
    rw[Qq]
    congr 1
    ·by_cases h:A=[]
     ·rw[if_pos h,if_pos h];rfl
     ·rw[if_neg h,if_neg h];rfl
    ·by_cases h:B=[]
     ·rw[if_pos h,if_pos h];rfl
     ·rw[if_neg h,if_neg h];rfl
   rw[Qq,ln,lc]
   by_cases hA:A=[]
   ·by_cases hB:B=[]
    ·rw[if_pos (iA.mpr hA),if_pos (iB.mpr hB),if_pos hA,if_pos hB];omega
    ·rw[if_pos (iA.mpr hA),if_neg (λz=>hB (iB.mp z)),if_pos hA,if_neg hB];omega
   ·by_cases hB:B=[]
    ·rw[if_neg (λz=>hA (iA.mp z)),if_pos (iB.mpr hB),if_neg hA,if_pos hB];omega
    ·rw[if_neg (λz=>hA (iA.mp z)),if_neg (λz=>hB (iB.mp z)),if_neg hA,if_neg hB];omega
  exact⟨N++cs.erase c,W,.inr ht⟩
 ·obtain ⟨c2,pH,nI⟩:=Zu.mp ((C.cm (u,v)).mpr L.tie)
  have dY:c2≠c:=λe=>hb (e▸nI)
  have kD:c2∈cs.erase c:=(List.mem_erase_of_ne dY).mpr pH
  obtain⟨P2,Q2,ow⟩:=Yp nI
  have k2:Lk (st r) (u,v) (Q2++P2) (u,v):=zc1 (ow▸C.cy c2 pH)
  have oN:c2.Perm ((u,v)::(Q2++P2)):=by
   rw[ow];exact Jm.trans ((Yx).cons _)
  generalize hA:Q++P=A at k0 pc
  generalize hB:Q2++P2=B at k2 oN
  have hp:cs.flatten.Perm ((v,u)::(u,v)::((A++B)::(cs.erase c).erase c2).flatten):=by
   rw[Yy]
   refine(zb1 hc).trans ((pc.append_right _).trans ?_)
   rw[Uu]
   refine List.Perm.cons _ ?_
   refine((zb1 kD).append_left A).trans ?_
   refine((oN.append_right _).append_left A).trans ?_
   rw[Uu]
   refine Jm.trans ?_
   rw[Qu]
  have nd:=hp.nodup_iff.mp C.cf
  have ar:∀y,y∈((A++B)::(cs.erase c).erase c2).flatten→y.1∈r' y.2:=λy hy=>by
   rw[Qr,Qr,Qe,not_or]at nd
   exact(zb6 C L y).mpr ⟨(C.cm y).mp (hp.mem_iff.mpr (Qg _ (Qg _ hy))),λe=>nd.1.2 (e▸hy),λe=>nd.2.1 (e▸hy)⟩
  have dS:∀y∈A,y.1∈r' y.2:=λy hy=>ar y (by rw[Yy];exact Qn _ (Qn _ hy))
  have g7:∀y∈B,y.1∈r' y.2:=λy hy=>ar y (by rw[Yy];exact Qn _ (Qo _ hy))
  have nA:∃a t,A=a::t:=by
   cases A with
   |nil =>
    have:=congrArg Prod.fst (show st r (v,u)=(v,u) from k0)
    exact absurd this.symm eD
   |cons a t=>exact⟨a,t,rfl⟩
  have nB:∃a t,B=a::t:=by
   cases B with
   |nil =>
    have:=congrArg Prod.fst (show st r (u,v)=(u,v) from k2)
    exact absurd this eD
   |cons a t=>exact⟨a,t,rfl⟩
  obtain⟨a,tA,rfl⟩:=nA
  obtain⟨b,tB,rfl⟩:=nB
  have nO:∀d∈((a::tA)++(b::tB))::(cs.erase c).erase c2,Cyc (st r') d:=λd hd=>by
   rcases Qe.mp hd with z | z
   ·have k:=lk_del C L k0.2 fun y hy=>dS y (Qe.mpr hy)
    have k':=lk_del C L k2.2 λy hy=>g7 y (Qe.mpr hy)
    rw[if_pos rfl,k2.1]at k
    rw[if_neg az,if_pos rfl,k0.1]at k'
    rw[z]
    exact⟨a,tA++b::tB,rfl,lk_app.mpr ⟨k,k'⟩⟩
   ·rw [Qr,Qr,Qe,not_or] at nd
    have hf:∀y∈d,y∈(((a::tA)++(b::tB))::(cs.erase c).erase c2).flatten:=λy hy=>Zu.mpr ⟨d,hd,hy⟩
    exact rest_cyc C L (Uc (Uc z)) (λy=>nd.1.2 (hf _ y)) (λy=>nd.2.1 (hf _ y))
  have W:=del_web C L hp nO
  have nu:r' u≠[]:=λe=>by
   rw[L.two,C.iso sf]at e
   have ha:a=(u,v):=k0.1.symm.trans e
   exact((zb6 C L a).mp (dS a Qc)).2.2 ha
  have nv:r' v≠[]:=λe=>by
   rw[L.one,C.iso L.tie]at e
   have ha:b=(v,u):=k2.1.symm.trans e
   exact((zb6 C L b).mp (g7 b Qc)).2.1 ha
  have gl:Conn r' u v:=by
   have:=lk_conn C L W.sy k0.2 λy hy=>dS y (Qe.mpr hy)
   rwa[←k0.1]at this
  refine⟨_,W,.inl ⟨?_,gl⟩⟩
  rw[del_tot C L,if_neg nu,if_neg nv]
  have lc:=Yo hc
  have lc2:=Yo kD
  have lp:=Yl hc
  have lp2:=Yl kD
  rw[Qx,lc2,lc]
  omega
def zhg{v u:α}(C:Web ns r cs)(L:Less r r' v u)(sy:∀x y,y∈r' x→x∈r' y){T:List α}(l8:T.Pairwise λx y=>¬Conn r' x y):∃T':List α,(∀t∈T',t∈T)∧T'.Pairwise (λx y=>¬Conn r x y)∧T.length≤T'.length+1:=by
 let P:α→Bool:=λx=>@decide (¬Conn r' x v) (Classical.propDecidable _)
 have hP:∀x,P x=false→Conn r' x v:=λx e=>by
  have:=@of_decide_eq_false _ (Classical.propDecidable _) e
  exact Classical.not_not.mp this
 refine⟨T.filter P,λt ht=>(Ze.mp ht).1,?_,filter_one (P:=P) l8 λx y hx hy=>Conn.trans (hP x hx) (Conn.symm sy (hP y hy))⟩
 refine Km ?_ (l8.filter P)
 intro x y hx hy qM hc
 have px:¬Conn r' x v:=@of_decide_eq_true _ (Classical.propDecidable _) (Ze.mp hx).2
 have py:¬Conn r' y v:=@of_decide_eq_true _ (Classical.propDecidable _) (Ze.mp hy).2
 rcases del_conn C L hc with h | ⟨h,_⟩ | ⟨_,h⟩
 ·exact qM h
 ·exact px h
 ·exact py (Conn.symm sy h)
def back_less{v u:α}(C:Web ns r cs)(L:Less r r' v u)(sy:∀x y,y∈r' x→x∈r' y)(h:Conn r' u v){x y:α}(hc:Conn r x y):Conn r' x y:=by
 rcases del_conn C L hc with z | ⟨z1,z2⟩ | ⟨z1,z2⟩
 ·exact z
 ·exact(z1.trans (Conn.symm sy h)).trans z2
 ·exact(z1.trans h).trans z2
def flat_less{v u:α}(F:Flat ns r cs)(L:Less r r' v u):∃cs',Flat ns r' cs':=by
 obtain⟨cs',W,⟨ht,gl⟩ | ht⟩:=web_less F.toWeb L
 ·refine ⟨cs',W,fun T hT l8=>?_⟩
  rw[ht]
  exact F.fl T hT (l8.imp λ{x y} h hc=>h (back_less F.toWeb L W.sy gl hc))
 ·refine ⟨cs',W,fun T hT l8=>?_⟩
  obtain⟨T',h1,h2,h3⟩:=zhg F.toWeb L W.sy l8
  have:=F.fl T' (λt ht=>hT t (h1 t ht)) h2
  rw[ht]
  omega
end
section
variable{α:Type}[DecidableEq α]{ns:List α}{r r':α→List α}{cs:List (List (α×α))}
def conn_iso{x y:α}(hr:r x=[])(h:Conn r x y):y=x:=by
 induction h with
 |refl=>rfl
 |step _ hz ih=>rw[ih,hr]at hz;cases hz
def sum_one{L:List α}(nd:L.Nodup){a:α}(h:a∈L)(k:Int):(L.map λl=>if a=l then k else 0).sum=k:=by
 have:=zer (g:=λ_=>(0:Int)) (g':=λl=>if a=l then k else 0) nd h λx _ hx=>if_neg λe=>hx e.symm
 rw[this,zdi λ_ _=>rfl,if_pos rfl];omega
def zfs{β:Type}(f g:β→Int):∀l:List β,(l.map λx=>f x+g x).sum=(l.map f).sum+(l.map g).sum:=by
 intro l
 induction l with
 |nil=>rfl
 |cons a t ih=>rw[Ql,Ql,Ql,Zl,Zl,Zl,ih];omega
def sum_exch{β:Type}{L:List α}(nd:L.Nodup)(f:β→α)(g:β→Int):∀{xs:List β},(∀x∈xs,f x∈L)→(L.map λl=>(xs.map λx=>if f x=l then g x else 0).sum).sum=(xs.map g).sum:=by
 intro xs
 induction xs with
 |nil=>intro _;exact zdi λ_ _=>rfl
 |cons a t ih =>
  intro h
  rw[Ql,Zl,←ih λx hx=>h x (Qg _ hx),←sum_one nd (h a Qc) (g a),←zfs]
  refine zcc λl _=>?_
  rw[Ql,Zl]
def labels(aa:α→α):∀ ns:List α,∃ L:List α,L.Nodup∧(∀ x∈ns,aa x∈L)∧∀ l∈L,∃ x∈ns,aa x=l:=by
 intro ns
 induction ns with
 |nil=>exact⟨[],Zh,(by intro x h;cases h),(by intro x h;cases h)⟩
 | cons a t ih =>
  obtain⟨L,h1,h2,h3⟩:=ih
  by_cases h:aa a∈L
  ·refine ⟨L,h1,fun x hx=>?_,fun l hl=>?_⟩
   ·rcases Qe.mp hx with z | z
    ·rw[z];exact h
    ·exact h2 x z
   ·obtain ⟨x,hx,e⟩:=h3 l hl
    exact⟨x,Qg _ hx,e⟩
  ·refine ⟨aa a::L,Qr.mpr ⟨h,h1⟩,fun x hx=>?_,fun l hl=>?_⟩
   ·rcases Qe.mp hx with z | z
    ·rw[z];exact Qc
    ·exact Qg _ (h2 x z)
   ·rcases Qe.mp hl with z | z
    ·exact⟨a,Qc,z.symm⟩
    ·obtain ⟨x,hx,e⟩:=h3 l z
     exact⟨x,Qg _ hx,e⟩
def cert_flat{aa:α→α}(C:Cert ns r cs aa):Flat ns r cs:=by
 refine⟨⟨C.nd,C.ro,C.rn,C.ir,C.sy,C.cf,C.cm,C.cy⟩,λT hT hp=>?_⟩
 obtain⟨L,h1,h2,h3⟩:=labels aa ns
 have e1:(L.map λl=>wt ns r aa l).sum=(ns.map (vl r)).sum:=sum_exch h1 aa (vl r) h2
 have e2:(L.map λl=>ct cs aa l).sum=2*(cs.length:Int):=by
  have key:∀D:List (List (α×α)),(∀c∈D,c∈cs)→(L.map λl=>ct D aa l).sum=2*(D.length:Int):=by
   intro D
   induction D with
   |nil=>intro _;exact zdi λ_ _=>rfl
   | cons c D ih =>
    intro h
    have hc:=h c Qc
    obtain⟨s,t,rfl,_⟩:=C.cy c hc
    have ha:aa s.1∈L:=h2 _ (C.inn' (C.inc hc Qc))
    have hs:∀l∈L,ct ((s::t)::D) aa l=(if aa s.1=l then 2 else 0)+ct D aa l:=λl _=>by
     rw[zde,zdg (λu hu=>C.one_lab hc Qc hu) (Kt _ _)]
     congr 1
     by_cases e:aa s.1=l
     ·rw[if_pos e,if_pos (decide_eq_true e)]
     ·rw[if_neg e,if_neg (λz=>e (of_decide_eq_true z))]
    rw[zcc hs,zfs,sum_one h1 ha,ih λd hd=>h d (Qg _ hd),Qx];omega
  exact key cs λ_ h=>h
 have e3:(L.map λl=>wt ns r aa l+ct cs aa l).sum=4*(L.length:Int):=by
  have:∀M:List α,(∀l∈M,l∈L)→(M.map λl=>wt ns r aa l+ct cs aa l).sum=4*(M.length:Int):=by
   intro M
   induction M with
   |nil=>intro _;rfl
   |cons a t ih =>
    intro h
    obtain⟨x,hx,e⟩:=h3 a (h a Qc)
    rw[Ql,Zl,ih λl hl=>h l (Qg _ hl),←e,C.eu x hx,Qx];omega
  exact this L λ_ h=>h
 rw[zfs,e1,e2]at e3
 have nd:(T.map aa).Nodup:=Wq.mpr (Km (λ{x y} hx hy h e=>h (C.co x (hT x hx) y (hT y hy) e)) hp)
 have:=nd.length_le_of_subset (l₂:=L) λl hl=>by
  obtain⟨x,hx,rfl⟩:=Qh.mp hl
  exact h2 x (hT x hx)
 rw[Qa]at this
 unfold tot
 omega
end
section
variable{α:Type}[DecidableEq α]{ns:List α}{r r':α→List α}{cs:List (List (α×α))}
end
section
variable{α:Type}[DecidableEq α]{ns:List α}{r r':α→List α}{cs:List (List (α×α))}{aa:α→α}
def cutR(r:α→List α)(v u:α):α→List α:=λx=>if x=v then(r v).erase u else if x=u then(r u).erase v else r x
def cut_less(C:Web ns r cs){v u:α}(h:u∈r v):Less r (cutR r v u) v u :=
 have eD:v≠u:=λe=>C.ir u (by rw[e]at h;exact h)
 ⟨h,if_pos rfl,(if_neg (Zb eD)).trans (if_pos rfl),λx h1 h2=>(if_neg h1).trans (if_neg h2)⟩
def sum_lt{f g:α→Nat}:∀ {l:List α},(∀ x∈l,f x≤g x)→(∃ a∈l,f a < g a)→(l.map f).sum < (l.map g).sum:=by
 intro l
 induction l with
 |nil=>rintro _ ⟨a,h,_⟩;cases h
 | cons b t ih =>
  rintro h ⟨a,ha,hl⟩
  rw[Ql,Ql,Zl,Zl]
  have h1:=h b Qc
  have h2:(t.map f).sum≤(t.map g).sum:=by
   clear ih hl ha
   induction t with
   |nil=>exact Qi _
   |cons c t ih2 =>
    rw[Ql,Ql,Zl,Zl]
    have:=h c (by simp)
    have:=ih2 (λx hx=>h x (by rcases Qe.mp hx with z | z<;>simp[z]))
    omega
  rcases Qe.mp ha with z | z
  ·subst z;omega
  ·have:=ih (fun x hx=>h x (Qg _ hx)) ⟨a,z,hl⟩
   omega
def genus:∀ (n:Nat) {r:α→List α} {cs:List (List (α×α))},Web ns r cs→(ns.map fun x=>(r x).length).sum=n→∃ T:List α,(∀ t∈T,t∈ns)∧T.Pairwise (fun x y=>¬ Conn r x y)∧tot ns r cs≤4*(T.length:Int):=by
 intro n
 induction n using Nat.strongRecOn with
 | ind n ih =>
  intro r cs C hn
  by_cases h:∃v u,u∈r v
  ·obtain ⟨v,u,h⟩:=h
   have L:=cut_less C h
   obtain⟨cs',W,hh⟩:=web_less C L
   have sm:∀x∈ns,(cutR r v u x).length≤(r x).length:=λx _=>by
    unfold cutR
    by_cases e1:x=v
    ·rw[if_pos e1,e1];exact List.length_erase_le ..
    ·rw [if_neg e1]
     by_cases e2:x=u
     ·rw[if_pos e2,e2];exact List.length_erase_le ..
     ·rw[if_neg e2];exact Qi _
   have ag:(ns.map λx=>(cutR r v u x).length).sum<n:=by
    rw[←hn]
    refine sum_lt sm ⟨v,C.inn h,?_⟩
    rw[L.one,Yo h]
    have:=Yl h
    omega
   obtain⟨T,h1,h2,h3⟩:=ih _ ag W rfl
   rcases hh with⟨ht,gl⟩ | ht
   ·exact⟨T,h1,h2.imp λ{x y} h hc=>h (back_less C L W.sy gl hc),by rw[←ht];exact h3⟩
   ·obtain ⟨T',g1,g2,g3⟩:=zhg C L W.sy h2
    exact⟨T',λt ht=>h1 t (g1 t ht),g2,by omega⟩
  ·have hr:∀ x,r x=[]:=fun x=>by
    cases e:r x with
    |nil=>rfl
    |cons a t=>exact absurd ⟨x,a,by rw[e];exact Qc⟩ h
   have ko:cs=[]:=by
    cases cs with
    |nil=>rfl
    |cons c t =>
     obtain⟨s,t',rfl,_⟩:=C.cy c Qc
     have:=(C.cm s).mp (by rw[Yy];exact Qn _ Qc)
     rw[hr]at this
     cases this
   refine⟨ns,λt h=>h,C.nd.imp λ{x y} h hc=>h (conn_iso (hr x) hc).symm,?_⟩
   have:∀l:List α,(l.map (vl r)).sum=4*(l.length:Int):=by
    intro l
    induction l with
    |nil=>rfl
    |cons a t ih2 =>
     rw[Ql,Zl,ih2,Qx]
     unfold vl
     rw[if_pos (hr a),hr a,Wk]
     omega
   unfold tot
   rw[ko,this,Wk]
   omega
def Web.inc(C:Web ns r cs){c:List (α×α)}(hc:c∈cs){s:α×α}(hs:s∈c):s.1∈r s.2:=(C.cm s).mp (Zu.mpr ⟨c,hc,hs⟩)
def Web.one_lab(C:Web ns r cs)(la:∀ x y,y∈r x→aa y=aa x){c:List (α×α)}(hc:c∈cs){s u:α×α}(hs:s∈c)(hu:u∈c):aa u.1=aa s.1:=by
 obtain⟨A,B,rfl⟩:=Yp hs
 have k:=zc1 (C.cy _ hc)
 have hl:∀y,y=s∨y∈B++A→aa (st r y).1=aa y.1:=λy hy=>by
  have fB:y∈A++s::B:=by
   rcases hy with z | z
   ·rw[z];exact hs
   ·rcases Qf.mp z with q | q
    ·exact Qo _ (Qg _ q)
    ·exact Qn _ q
  exact(la _ _ (C.inc hc fB)).symm
 rcases Qf.mp hu with z | z
 ·exact lk_lab (lb:=λy:α×α=>aa y.1) hl k u (Qo _ z)
 ·rcases Qe.mp z with q | q
  ·rw[q]
  ·exact lk_lab (lb:=λy:α×α=>aa y.1) hl k u (Qn _ q)
def sum_filter{β:Type}(p:β→Bool)(f:β→Int):∀l:List β,((l.filter p).map f).sum=(l.map λx=>if p x=true then f x else 0).sum:=by
 intro l
 induction l with
 |nil=>rfl
 |cons a t ih =>
  rw[Ql,Zl]
  by_cases h:p a=true
  ·rw[Zw h,if_pos h,Ql,Zl,ih]
  ·rw[Zx h,if_neg h,ih];omega
theorem zif{β:Type}(p:List β→Bool):∀cs:List (List β),(cs.filter p).flatten.Sublist cs.flatten
 |[]=>List.Sublist.refl _
 | c::t=>by
  by_cases h:p c=true
  ·rw [Zw h,Yy,Yy]
   exact List.Sublist.append (List.Sublist.refl _) (zif p t)
  ·rw [Zx h,Yy]
   exact(zif p t).trans (List.sublist_append_right _ _)
def sum_two{β:Type}(p:β→Bool)(l:List β):(l.map λc=>if p c=true then(2:Int) else 0).sum=2*((l.filter p).length:Int):=by
 rw[←sum_filter p λ_=>2]
 induction l.filter p with
 |nil=>rfl
 |cons a t ih=>rw[Ql,Zl,ih,Qx];omega
def piece_le(C:Web ns r cs)(la:∀ x y,y∈r x→aa y=aa x)(co:∀ x∈ns,∀ y∈ns,aa x=aa y→Conn r x y)(t:α):wt ns r aa t+ct cs aa t≤4:=by
 let rt:α→List α:=λx=>if aa x=t then r x else[]
 have r1:∀{x},aa x=t→rt x=r x:=λh=>if_pos h
 have r0:∀{x},¬aa x=t→rt x=[]:=λh=>if_neg h
 have rm:∀{x y},y∈rt x↔y∈r x∧aa x=t:=λ{x y}=>by
  by_cases h:aa x=t
  ·rw[r1 h];exact⟨λz=>⟨z,h⟩,λz=>z.1⟩
  ·rw[r0 h];exact⟨λz=>(by cases z),λz=>absurd z.2 h⟩
 have iC:∀{c},c∈cs→(c.any λs=>decide (aa s.1=t))=true→∀s∈c,aa s.2=t:=λ{c} hc h s hs=>by
  obtain⟨q,hq,e⟩:=Yz.mp h
  rw[←la _ _ (C.inc hc hs),C.one_lab la hc hq hs]
  exact of_decide_eq_true e
 have W:Web (ns.filter λx=>decide (aa x=t)) rt (cs.filter λc=>c.any λs=>decide (aa s.1=t)):=by
  refine⟨C.nd.filter _,λx hx=>?_,λx=>?_,λx h=>C.ir x (rm.mp h).1,λx y h=>?_,Ys (zif _ cs) C.cf,λs=>?_,λc hc=>?_⟩
  ·by_cases h:aa x=t
   ·rw [r1 h]
    exact C.ro x λz=>hx (Ze.mpr ⟨z,decide_eq_true h⟩)
   ·exact r0 h
  ·by_cases h:aa x=t
   ·rw[r1 h];exact C.rn x
   ·rw[r0 h];exact Zh
  ·obtain ⟨h1,h2⟩:=rm.mp h
   exact rm.mpr ⟨C.sy _ _ h1,(la _ _ h1).trans h2⟩
  ·rw [rm]
   constructor
   ·intro h
    obtain⟨c,hc,hs⟩:=Zu.mp h
    obtain⟨h1,h2⟩:=Ze.mp hc
    exact⟨C.inc h1 hs,iC h1 h2 s hs⟩
   ·rintro ⟨h1,h2⟩
    obtain⟨c,hc,hs⟩:=Zu.mp ((C.cm s).mpr h1)
    exact Zu.mpr ⟨c,Ze.mpr ⟨hc,Yz.mpr ⟨s,hs,decide_eq_true ((la _ _ h1).trans h2)⟩⟩,hs⟩
  ·obtain ⟨h1,h2⟩:=Ze.mp hc
   refine zem (λy hy=>?_) (C.cy c h1)
   show(y.2,nxt (rt y.2) y.1)=(y.2,nxt (r y.2) y.1)
   rw[r1 (iC h1 h2 y hy)]
 have e1:((ns.filter λx=>decide (aa x=t)).map (vl rt)).sum=wt ns r aa t:=by
  rw[sum_filter]
  refine zcc λx _=>?_
  by_cases h:aa x=t
  ·rw [if_pos (decide_eq_true h),if_pos h]
   unfold vl
   rw[r1 h]
  ·rw[if_neg (by simpa using h),if_neg h]
 have e2:=sum_two (λc:List (α×α)=>c.any λs=>decide (aa s.1=t)) cs
 obtain⟨T,h1,h2,h3⟩:=genus _ W rfl
 unfold tot at h3
 rw[e1,←e2]at h3
 have hl:T.length≤1:=by
  match T,h1,h2 with
  |[],_,_=>exact Zf _
  |[_],_,_=>exact Qi _
  | a::b::T',h1,h2 =>
   obtain⟨a1,a2⟩:=Ze.mp (h1 a Qc)
   obtain⟨b1,b2⟩:=Ze.mp (h1 b (by simp))
   have a2:=of_decide_eq_true a2
   have b2:=of_decide_eq_true b2
   have key:∀{y},Conn r a y→Conn rt a y∧aa y=t:=λ{y} h=>by
    induction h with
    |refl=>exact⟨.refl,a2⟩
    |step _ hz ih=>exact⟨.step ih.1 (rm.mpr ⟨hz,ih.2⟩),(la _ _ hz).trans ih.2⟩
   exact absurd (key (co a a1 b b1 (a2.trans b2.symm))).1 ((Jc.mp h2).1 b Qc)
 have:wt ns r aa t+ct cs aa t≤4*(T.length:Int):=h3
 omega
def tot_sum(C:Web ns r cs)(la:∀ x y,y∈r x→aa y=aa x){L:List α}(h1:L.Nodup)(h2:∀ x∈ns,aa x∈L):(L.map fun l=>wt ns r aa l+ct cs aa l).sum=tot ns r cs:=by
 have e1:(L.map λl=>wt ns r aa l).sum=(ns.map (vl r)).sum:=sum_exch h1 aa (vl r) h2
 have e2:(L.map λl=>ct cs aa l).sum=2*(cs.length:Int):=by
  have key:∀D:List (List (α×α)),(∀c∈D,c∈cs)→(L.map λl=>ct D aa l).sum=2*(D.length:Int):=by
   intro D
   induction D with
   |nil=>intro _;exact zdi λ_ _=>rfl
   | cons c D ih =>
    intro h
    have hc:=h c Qc
    obtain⟨s,t,rfl,_⟩:=C.cy c hc
    have ha:aa s.1∈L:=h2 _ (C.inn (C.sy _ _ (C.inc hc Qc)))
    have hs:∀l∈L,ct ((s::t)::D) aa l=(if aa s.1=l then 2 else 0)+ct D aa l:=λl _=>by
     rw[zde,zdg (λu hu=>C.one_lab la hc Qc hu) (Kt _ _)]
     congr 1
     by_cases e:aa s.1=l
     ·rw[if_pos e,if_pos (decide_eq_true e)]
     ·rw[if_neg e,if_neg (λz=>e (of_decide_eq_true z))]
    rw[zcc hs,zfs,sum_one h1 ha,ih λd hd=>h d (Qg _ hd),Qx];omega
  exact key cs λ_ h=>h
 rw[zfs,e1,e2]
 rfl
def all_four{g:α→Int}:∀ {L:List α},(∀ l∈L,g l≤4)→4*(L.length:Int)≤(L.map g).sum→∀ l∈L,g l=4:=by
 intro L
 induction L with
 |nil=>intro _ _ l hl;cases hl
 | cons a t ih =>
  intro h hs l hl
  rw[Ql,Zl,Qx]at hs
  have ha:=h a Qc
  have ht:(t.map g).sum≤4*(t.length:Int):=by
   clear ih hs hl ha
   induction t with
   |nil=>exact Int.le_refl _
   |cons b t ih =>
    rw[Ql,Zl,Qx]
    have:=h b (by simp)
    have:=ih λx hx=>h x (by rcases Qe.mp hx with z | z<;>simp[z])
    omega
  rcases Qe.mp hl with z | z
  ·rw[z];omega
  ·exact ih (λx hx=>h x (Qg _ hx)) (by omega) l z
def flat_cert(F:Flat ns r cs):∃aa,Cert ns r cs aa:=by
 have C:=F.toWeb
 let f:α→Option α:=λx=>ns.find? λy=>@decide (Conn r x y) (Classical.propDecidable _)
 have hf:∀{x},x∈ns→∃y,f x=some y∧y∈ns∧Conn r x y:=λ{x} hx=>by
  cases e:f x with
  |none=>exact absurd (@decide_eq_true _ (Classical.propDecidable _) (Conn.refl (r:=r) (x:=x))) (List.find?_eq_none.mp e x hx)
  |some y =>
   have h:=List.find?_some (p:=λy=>@decide (Conn r x y) (Classical.propDecidable _)) e
   exact⟨y,rfl,List.mem_of_find?_eq_some e,@of_decide_eq_true _ (Classical.propDecidable _) h⟩
 have hs:∀{x y},Conn r x y→f x=f y:=λ{x y} h=>by
  show ns.find? _=ns.find? _
  congr 1
  funext z
  congr 1
  exact propext ⟨λq=>(h.symm C.sy).trans q,λq=>h.trans q⟩
 let aa:α→α:=λx=>(f x).getD x
 have hl:∀{x},x∈ns→aa x∈ns∧Conn r x (aa x):=λ{x} hx=>by
  obtain⟨y,e,h1,h2⟩:=hf hx
  show(f x).getD x∈ns∧Conn r x ((f x).getD x)
  rw[e];exact⟨h1,h2⟩
 have he:∀{x y},x∈ns→y∈ns→Conn r x y→aa x=aa y:=λ{x y} hx hy h=>by
  obtain⟨z,e,_⟩:=hf hy
  show(f x).getD x=(f y).getD y
  rw[hs h,e];rfl
 have la:∀x y,y∈r x→aa y=aa x:=λx y h=>(he (C.inn h) (C.inn (C.sy _ _ h)) (.step .refl h)).symm
 have co:∀x∈ns,∀y∈ns,aa x=aa y→Conn r x y:=λx hx y hy e=>by
  have h1:=(hl hx).2
  rw[e]at h1
  exact h1.trans ((hl hy).2.symm C.sy)
 obtain⟨L,h1,h2,h3⟩:=labels aa ns
 have hL:∀l∈L,l∈ns∧aa l=l:=λl hl'=>by
  obtain⟨x,hx,e⟩:=h3 l hl'
  obtain⟨a,b⟩:=hl hx
  refine⟨e▸a,?_⟩
  have:=he hx a b
  rw[e]at this
  exact this.symm
 have fl:=F.fl L (λl h=>(hL l h).1) (Km (λ{x y} hx hy qM hc=>qM (by
  have:=he (hL x hx).1 (hL y hy).1 hc
  rwa[(hL x hx).2,(hL y hy).2]at this)) h1)
 rw[←tot_sum C la h1 h2]at fl
 have four:=all_four (λl _=>piece_le C la co l) fl
 exact⟨aa,C.nd,C.ro,C.rn,C.ir,C.sy,C.cf,C.cm,C.cy,λx hx=>(hl hx).1,la,co,λx hx=>four _ (h2 x hx)⟩
def cert_less{v u:α}(C:Cert ns r cs aa)(L:Less r r' v u):∃cs' ah,Cert ns r' cs' ah:=by
 obtain⟨cs',F⟩:=flat_less (cert_flat C) L
 obtain⟨ah,C'⟩:=flat_cert F
 exact⟨cs',ah,C'⟩
end
section
variable{α:Type}[DecidableEq α]
structure Fil(r0 rs:Rs α)(s:α×α)(x:α)(L j:Nat):Prop where
 gd:Good rs
 nm:rs.map (·.1)=r0.map (·.1)
 su:∀y z,z∈row r0 y→z∈row rs y
 ch:∀i,j≤i→i≤L→stp rs (itr r0 s i)=itr r0 s (i+1)
 cs:stp rs s=(s.2,x)
 in2:s.2∈row rs x
variable{r0 rs:Rs α}{s:α×α}{x:α}{L j:Nat}
def run_inj(nd:(run r0 s (L+1)).Nodup){a b:Nat}(ha:a≤L)(hb:b≤L)(e:itr r0 s a=itr r0 s b):a=b:=by
 unfold run at nd
 exact(Yi (i:=a) (j:=b) (h₀:=by rw[Qa,Yd];omega) (h₁:=by rw[Qa,Yd];omega) nd).mp (by
  rw[Zm,Zm,Ui,Ui];exact e)
def fil_leaf{rb:Rs α}(G:Good rb)(hx:x∉rb.map (·.1))(hs:IsSt rb s)(hr:r0=rb++[(x,[])])(nd:(run r0 s (L+1)).Nodup) :
  Fil r0 (za0 (za0 r0 s.2 (ins (row rb s.2) (some s.1) x)) x [s.2]) s x L 1:=by
 obtain⟨cs,aa,C⟩:=id G
 have h1:=(zbx C.nd).mp hs
 have bm:s.2∈rb.map (·.1):=C.inn h1
 have e0:row r0=row rb:=by rw[hr];exact zhy hx
 have oU:s.2≠x:=λe=>hx (e▸bm)
 have fR:r0.map (·.1)=rb.map (·.1)++[x]:=by rw[hr,Qp];rfl
 have n2:s.2∈r0.map (·.1):=by rw[fR];exact Qn _ bm
 have nx:x∈(za0 r0 s.2 (ins (row rb s.2) (some s.1) x)).map (·.1):=by rw[zbb,fR];exact Qo _ Qc
 have r2:row (za0 (za0 r0 s.2 (ins (row rb s.2) (some s.1) x)) x [s.2]) s.2=ins (row rb s.2) (some s.1) x:=by rw[za7 oU,za8 n2]
 have rx:row (za0 (za0 r0 s.2 (ins (row rb s.2) (some s.1) x)) x [s.2]) x=[s.2]:=za8 nx
 have ro:∀y,y≠s.2→y≠x→row (za0 (za0 r0 s.2 (ins (row rb s.2) (some s.1) x)) x [s.2]) y=row rb y:=λy a b=>by rw[za7 b,za7 a,e0]
 have iO:x∉row rb s.2:=λz=>hx (C.inn' z)
 obtain⟨p,hp,ep,_⟩:=hs
 have aq:∀i,IsSt rb (itr r0 s i):=λi=>by
  induction i with
  |zero=>exact(zbx C.nd).mpr h1
  |succ n ih =>
   have:=za4.clo _ G _ ih
   show IsSt rb (stp r0 (itr r0 s n))
   unfold stp at this ⊢
   rw[e0];exact this
 refine⟨?_,by rw[zbb,zbb],λy z hz=>?_,λi hi hl=>?_,?_,by rw[rx];exact Qc⟩
 ·have:=za4.leaf rb x p (some s.1) G hx hp (fun y z=>by rw [← Qk z,← zc9 C.nd hp,ep];exact h1) (fun z=>by cases z)
  rw[ep,←zc9 C.nd hp,ep,←hr]at this
  exact this
 ·rw [e0] at hz
  by_cases a:y=s.2
  ·rw [a,r2,zd3 h1 (C.rn _)]
   exact .inr (a▸hz)
  ·rw[ro y a (λb=>hx (b▸C.inn hz))];exact hz
 ·have ht:=(zbx C.nd).mp (aq i)
  have tx:(itr r0 s i).2≠x:=λb=>hx (b▸C.inn ht)
  show((itr r0 s i).2,nxt (row _ (itr r0 s i).2) (itr r0 s i).1)=((itr r0 s i).2,nxt (row r0 (itr r0 s i).2) (itr r0 s i).1)
  congr 1
  rw[e0]
  by_cases a:(itr r0 s i).2=s.2
  ·rw [a] at ht ⊢
   rw[r2]
   exact zda h1 (C.rn _) iO ht λb=>round_ne nd (Zp Nat.zero_lt_one hi) hl (Ux b a)
  ·rw[ro _ a tx]
 ·show (s.2,nxt (row _ s.2) s.1)=_
  rw[r2,zeh h1 (C.rn _)]
theorem Fil.go(F:Fil r0 rs s x L j):∀k,j+k≤L+1→itr rs (itr r0 s j) k=itr r0 s (j+k)
 |0,_=>rfl
 |k+1,h=>by
  show stp rs (itr rs (itr r0 s j) k)=_
  rw[F.go k (by omega),F.ch _ (by omega) (by omega)]
  rfl
def Fil.skip(F:Fil r0 rs s x L j):Fil r0 rs s x L (j+1):=⟨F.gd,F.nm,F.su,λi h=>F.ch i (by omega),F.cs,F.in2⟩
def Fil.tie(F:Fil r0 rs s x L j)(nd:(run r0 s (L+1)).Nodup)(hL:itr r0 s (L+1)=s)(hj:j≤L)(hs:∀i,IsSt r0 (itr r0 s i))(gS:(r0.map (·.1)).Nodup)(pS:row r0 x=[])(bQ:(itr r0 s j).2∉row rs x) :
  Fil r0 (za0 (za0 rs (itr r0 s j).2 (ins (row rs (itr r0 s j).2) (some (itr r0 s j).1) x)) x (ins (row rs x) (some s.2) (itr r0 s j).2)) s x L (j+1):=by
 obtain⟨cs,aa,C⟩:=id F.gd
 have ar:∀i,(itr r0 s i).1∈row rs (itr r0 s i).2:=λi=>F.su _ _ ((zbx gS).mp (hs i))
 have em:∀i,(itr r0 s i).2≠x:=λi e=>by
  have:=(zbx gS).mp (hs i)
  rw[e,pS]at this
  cases this
 have far:itr rs (itr r0 s j) (L+1-j+1)=(s.2,x):=by
  show stp rs (itr rs (itr r0 s j) (L+1-j))=_
  rw[F.go _ (by omega),show j+(L+1-j)=L+1 by omega,hL,F.cs]
 have rB:s.2≠x:=em 0
 have ma:s.2≠(itr r0 s j).2:=λe=>bQ (e▸F.in2)
 have az:∀i,j+1≤i→i≤L→itr r0 s i≠itr r0 s j:=λi h1 h2 e=>by
  have:=run_inj nd h2 hj e
  omega
 have bf:=ar j
 have qN:=em j
 generalize hq:itr r0 s j=q at far bQ ma az bf qN
 have ie:q.2∈rs.map (·.1):=C.inn bf
 have hxm:x∈rs.map (·.1):=C.inn F.in2
 have oT:x∉row rs q.2:=λz=>bQ (C.sy _ _ z)
 obtain⟨p,hp,ep⟩:=Qh.mp ie
 have er:=zc9 C.nd hp
 have rq:row (za0 (za0 rs q.2 (ins (row rs q.2) (some q.1) x)) x (ins (row rs x) (some s.2) q.2)) q.2=ins (row rs q.2) (some q.1) x:=by rw[za7 qN,za8 ie]
 have rx:row (za0 (za0 rs q.2 (ins (row rs q.2) (some q.1) x)) x (ins (row rs x) (some s.2) q.2)) x=ins (row rs x) (some s.2) q.2:=za8 (by rw[zbb];exact hxm)
 have ro:∀y,y≠q.2→y≠x→row (za0 (za0 rs q.2 (ins (row rs q.2) (some q.1) x)) x (ins (row rs x) (some s.2) q.2)) y=row rs y:=λy a b=>by rw[za7 b,za7 a]
 refine⟨?_,by rw[zbb,zbb];exact F.nm,λy z hz=>?_,λi hi hl=>?_,?_,?_⟩
 ·have ep':p.1=q.2:=ep
  have:=za4.tie rs q.1 p (L+1-j+1) F.gd hp (by rw[←er,ep'];exact bf) (by rw[ep',far];exact Zb qN) (by rw[ep',far,←er,ep'];exact oT)
  rw[ep',far,←er,ep']at this
  exact this
 ·have c7:=F.su _ _ hz
  by_cases a:y=q.2
  ·rw[a,rq,zd3 bf (C.rn _)];exact .inr (a▸c7)
  ·by_cases b:y=x
   ·rw[b,rx,zd3 F.in2 (C.rn _)];exact .inr (b▸c7)
   ·rw[ro y a b];exact c7
 ·rw [← F.ch i (by omega) hl]
  show((itr r0 s i).2,nxt (row _ (itr r0 s i).2) (itr r0 s i).1)=((itr r0 s i).2,nxt (row rs (itr r0 s i).2) (itr r0 s i).1)
  congr 1
  have hii:=ar i
  by_cases a:(itr r0 s i).2=q.2
  ·rw [a] at hii ⊢
   rw[rq]
   exact zda bf (C.rn _) oT hii λb=>az i hi hl (Ux b a)
  ·rw[ro _ a (em i)]
 ·show (s.2,nxt (row _ s.2) s.1)=_
  rw[ro _ ma rB]
  exact F.cs
 ·rw [rx,zd3 F.in2 (C.rn _)]
  exact .inr F.in2
def good_less{r1:Rs α}(G:Good rs){u v:α}(h:u∈row rs v)(hn:r1.map (·.1)=rs.map (·.1))(hv:row r1 v=(row rs v).erase u)(hu:row r1 u=(row rs u).erase v)(ho:∀y,y≠v→y≠u→row r1 y=row rs y):Good r1:=by
 obtain⟨cs,aa,C⟩:=G
 obtain⟨cs',ah,C'⟩:=cert_less C (v:=v) (u:=u) (r':=row r1) ⟨h,hv,hu,ho⟩
 exact⟨cs',ah,by rw[hn];exact C'⟩
end
end Wb
end
section
namespace HT
open PySem PyProof.Rows
section
open PySem.SeqAt
open PySem.AutoSeq1 (wpAny_loadPart')
open PySem.MeetsSeq PySem.MeetsSeq2 PySem.MeetsSeq3
end
section
variable{prog:Nj}{w:Nl}{A:Nn}{E:Na}{s:Nh}
end
end HT
namespace PySem
section
variable{prog:Nj}{w:Nl}{A:Nn}{R:Nt}{I:Nc}{fp wr:Nk}{n:Nat}{P:Nat→Value→Prop}{St:Nat→Heap→Prop}
end
section
variable{prog:Nj}{w:Nl}{A:Nn}{E:Na}{s:Nh}
end
end PySem
end
section
namespace L2
open PySem PySem.Spec PyProof.Rows
section
variable{X:Cx}
theorem idx_le{x:Str}:∀(l:Nf) (j:Nat) (hj:j<l.length),l[j]=x→l.idxOf x≤j
 |a::r,0,_,e=>by
  have e':a=x:=e
  rw[e',List.idxOf_cons_self];exact Qi _
 |a::r,j+1,hj,e=>by
  have:=idx_le r j (Nat.lt_of_succ_lt_succ hj) e
  rw[Kw]
  cases(a==x)
  ·exact Nat.succ_le_succ this
  ·exact Zf _
theorem zfa:∀(l:Nf) (i:Nat),(l.eraseIdx i).map V.str=(l.map V.str).eraseIdx i
 |[],_=>rfl
 |a::r,0=>rfl
 |a::r,i+1=>congrArg (V.str a::·) (zfa r i)
inductive RrRemove(x:V)(vs:List V)(H:Hp)(Q:VK):Prop
 |mk (l:Nc) (zs:Nf) (z:Str) (h0:x=.ref l) (h1:vs=[.str z]) (h2:H l=some (.lst (zs.map V.str))) (h3:z∈zs) (h4:Q .non (upd H l (.lst ((zs.erase z).map V.str)))):RrRemove x vs H Q
def rRemove:V→List V→Hp→VK→Prop:=λx vs H Q=>RrRemove x vs H Q
def mt_remove:MtM X "list.remove" rRemove:=by
 intro a7 s σ H x vs v us Q I rx rv h
 obtain⟨l,zs,z,rfl,rfl,hH,hz,q⟩:=h
 cases rx
 obtain⟨u,rfl,⟨t,rfl⟩⟩:=rv.one
 obtain⟨zz,a8,n,r,hl,e⟩:=I.lstM hH
 obtain⟨ps,rfl,pi⟩:=zd6 r
 have c9:ps.length=zs.length:=by rw[←pi,Qa]
 have hj:zs.idxOf z<ps.length:=by rw[c9];exact List.idxOf_lt_length_of_mem hz
 have cw:∀(m:Nat) (hm:m<ps.length),ps[m].1=zs[m]'(c9▸hm):=λm hm=>by
  have:(ps.map (·.1))[m]'(by rw[Qa];exact hm)=zs[m]'(c9▸hm):=by simp[pi]
  rw[←this,Zm]
 have iw:∀(m:Nat) (hm:m<(strValues ps).toArray.size),(strValues ps).toArray[m]=.str (ps[m]'(by simpa[strValues] using hm)).1 (ps[m]'(by simpa[strValues] using hm)).2:=λm hm=>by simp[strValues]
 have hsz:(strValues ps).toArray.size=ps.length:=by simp[strValues]
 refine call_meets F.slot_list_remove ⟨_,e,rfl⟩ F.entry_list_remove (F.args_list_remove_2 _ _)
  (MeetsSeq.list_remove l (strValues ps).toArray n (.str z t) (λv=>match v with | .str a _=>a==z | _=>false) (λy hy=>?_) (zs.idxOf z) (by rw[hsz];exact hj) ?_ (λm hm ag=>?_) (by rw[hsz,c9];rw[Qa]at zz;exact zz)) ⟨e,?_⟩
 ·obtain ⟨pr,_,rfl⟩:=Qh.mp (by simpa [strValues] using hy:y∈ps.map fun p=>Value.str p.1 p.2)
  exact eqGives_str _ _ _ _
 ·rw [iw]
  show((ps[zs.idxOf z]'hj).1==z)=true
  rw[cw,List.getElem_idxOf]
  exact beq_self_eq_true z
 ·rw [iw]
  show((ps[m]'(by rw[←hsz];exact hm)).1==z)=false
  rw[cw]
  exact beq_eq_false_iff_ne.mpr λez=>absurd (idx_le zs m _ ez) (Nat.not_le.mpr ag)
 ·refine ⟨.non,_,I.lset (its':=(strValues ps).eraseIdx (zs.idxOf z)) (ys:=(zs.erase z).map V.str) hH e (by rw [List.eraseIdxIfInBounds_toArray]) ?_ ?_,rfl,q⟩
  ·rw [List.erase_eq_eraseIdx_of_idxOf rfl,zfa]
   exact r.eraseIdx _
  ·rw [Qa] at zz ⊢
   exact Zn (List.length_erase_le ..) zz
def zf2(hu:X.A.units<cLine):OpR X (compareOp .NotEq) (λx y H Q=>Ex3 λl b zs=>Aj5 (x=.ref l) (y=.ref b) (SqL X.K H l (List.map V.str zs)) (SqL X.K H b (List.map V.str zs)) (Q (.bl false) H)):=by
 intro a7 s σ H x y v u Q I rx ry h
 obtain⟨l,b,zs,rfl,rfl,h1,h2,q⟩:=h
 cases rx;cases ry
 obtain⟨a8,r,pl,_⟩:=I.list h1
 obtain⟨d8,r2,jk,_⟩:=I.list h2
 have l1:=r.length
 have l2:=r2.length
 refine SeqAt.RcNeAt.lists (e:=λ_=>true) pl.isList jk.isList (by rw[Qy,Qy];omega) hu (λj j1 j2=>?_) _ _ _ _ ⟨.bl false,H,I,?_,q⟩
 ·have a1:j < (List.map V.str zs).length:=by rw [l1];simpa using j1
  have a2:j<zs.length:=by simpa using a1
  have g:(List.map V.str zs)[j]?=some (.str zs[j]):=by simp[a2]
  obtain⟨u1,e1,t1,rfl⟩:=r.get g
  obtain⟨u2,e2,t2,rfl⟩:=r2.get g
  rw[Jr,Jr,(Qw.mp e1).2,(Qw.mp e2).2]
  have:=Ko (A:=X.A.in1) (s:=s) zs[j] t1 zs[j] t2
  rw[beq_self_eq_true]at this
  exact this
 ·show Value.bool _=Value.bool false
  simp
end
end L2
end
section
namespace K21
open PySem L2 Wb
abbrev sFill:Stmt:=top 36
abbrev sAway:Stmt:=top 37
inductive IspFill(vs:List V)(H:Hp)(Q:VK):Prop
 |mk (p d:Nc) (b m:Int) (es:List Ent) (x:Str) (h0:vs=[.ref d,.ref p,.str x]) (h1:Pot H p b m) (h2:Dr H d es) (oq:es.length<40) (hx:x∉es.map (·.1)) (h3:∀(b' m':Int) (ao:List Ent) (H':Hp),Pot H' p b' m'→Deed p d H es [x] ao H'→Q .non H'):IspFill vs H Q
def spFill:Sp:=λvs H Q _=>IspFill vs H Q
def run_len{rs:Rs Str}{s:Str×Str}{n:Nat}:(run rs s n).length=n:=by
 unfold Wb.run;rw[List.length_map,List.length_range]
def run_b{es:List Ent}{s:Str×Str}{n:Nat}(G:Good (rsOf es))(few:es.length≤40)(aq:IsSt (rsOf es) s)(nd:(run (rsOf es) s (n+1)).Nodup):n+1≤1600:=by
 have:=zei nd (m:=ziw (rsOf es)) λx hx=>by
  obtain⟨i,_,rfl⟩:=Qh.mp hx
  exact zf7.mpr (zgf (za4.clo _ G) aq i)
 rw[run_len]at this
 exact Zn this (za4.steps G (by rw[show(rsOf es).length=es.length from Qa ..];exact few))
section
variable{P:Nj}{w:Nl}{K:Nb}{mg:Ng}{base:Nm}
def scFill:zau ["_law_rounds_here", "_law_pot_here", "_law_name", "_law_step_here", "_law_row", "_law_after", "_law_other"] ["_law_rounds_here", "_law_pot_here", "_law_name"] (zag sFill):=⟨rfl,rfl,rfl,by decide +kernel,rfl,by decide +kernel,by decide +kernel⟩
def ok_fill{f fi fs ff:Nc}{fd fdi fds fdf:No}(F:Fun K "_law_fill" "_law_fill" sFill f fd)(FI:Fun K "_law_tie" "_law_tie" sTie fi fdi)(bI:Binds K fdi ["_law_rounds_here", "_law_one", "_law_beside", "_law_other", "_law_after"] [])(mI:mg "_law_tie" = some (.ref fi))(GI:FnOk P w K mg base CX0 2 fi fdi ["_law_rounds_here", "_law_one", "_law_beside", "_law_other", "_law_after"] spTie)(FS:Fun K "_law_step" "_law_step" zhq fs fds)(bS:Binds K fds ["_law_rounds_here", "_law_pot_here"] [])(mS:mg "_law_step" = some (.ref fs))(GS:FnOk P w K mg base CX0 2 fs fds ["_law_rounds_here", "_law_pot_here"] spStep)(FF:Fun K "_law_face" "_law_face" sFace ff fdf)(bF:Binds K fdf ["_law_rounds_here", "_law_step_here"] [])(mF:mg "_law_face" = some (.ref ff))(GF:FnOk P w K mg base CX0 2 ff fdf ["_law_rounds_here", "_law_step_here"] spFace) :
  FnOk P w K mg base CX0 3 f fd ["_law_rounds_here", "_law_pot_here", "_law_name"] spFill:=by
 refine F.ok scFill (λvs H Q E h=>?_) (λcdv A outer s0 H vs Q E hr h=>?_)
 ·obtain ⟨p,d,b,m,es,x,rfl,_⟩:=h
  rfl
 ·obtain ⟨p,d,b,m,es,x,rfl,hp,D0,ba,hx,k⟩:=h
  have R:=D0.rn.toRAt
  have hu:=zb5 hr
  have aL:sizeLine=16777216:=sizeLine_eq
  have i0:∀x y:V,atI [x,y] ((0:Nat):Int)=some x:=λx y=>zaq rfl
  have i1:∀x y:V,atI [x,y] ((1:Nat):Int)=some y:=λx y=>zaq rfl
  refine⟨_,zae (zak (i:=3) scFill.nd rfl (Or.inl rfl) (zaj GS hr rfl mS FS.kp bS .nil zav (zab (pv 0) (zab (pv 1) zaf))))
   (zae (zcu hu (pv 0) (pv 2) (zbc zaf) rfl)
   (zah (zbs (zc5 (zh5 (pv 3)))
    (zae (zak (i:=4) scFill.nd rfl (Or.inl rfl) (zaj GF hr rfl mF FF.kp bF .nil zav (zab (pv 0) (zab (pv 3) zaf))))
    (zae (za3 (zaj GI hr rfl mI FI.kp bI .nil zav (zab (pv 0) (zab (za1 zcf (pv 3) zai (λ_ _=>rfl)) (zab (za1 zcf (pv 3) zai (λ_ _=>rfl)) (zab (pv 2) (zab zg8 zaf)))))))
    (zah (zbn Zo rfl (za9 (zcr zc7 (pv 4) (zcx zai) zd1)) (ze6 rfl (za6 (zal (i:=5) scFill.nd rfl (Or.inl rfl)) (za6 (zal (i:=6) scFill.nd rfl (Or.inl rfl)) zck)))
     (zah (zbs (zar zce (pv 6) (zaz hu (pv 0) (pv 2) (fun _ _=>rfl)) rfl)
      (zah (za3 (zaj GI hr rfl mI FI.kp bI .nil zav (zab (pv 0) (zab (pv 6) (zab (pv 5) (zab (pv 2) (zab (za1 zcf (pv 3) zai (λ_ _=>rfl)) zaf)))))))) zay))))))
    zay))),?_⟩
  have new:∀(b1 m1:Int) (H1:Hp) (a:Nc),Pot H1 p b1 m1→Dr H1 d es→Keep [p] H H1→H1 a=none→∃H2,H2=upd (upd H1 a (.lst [])) d (.dK (putK (es.map λe=>((Sum.inr e.1:Key),V.ref e.2.2)) (Sum.inr x) (.ref a)))∧Pot H2 p b1 m1∧Dr H2 d (es++[(x,[],a)])∧Keep [p,d] H H2∧Keep [d] H1 H2∧H a=none:=λb1 m1 H1 a aR D1 k1 ha=>by
   have ka:Keep [] H1 (upd H1 a (.lst [])):=Keep.new ha
   have iV:Pot (upd H1 a (.lst [])) p b1 m1:=aR.keep ka (by simp)
   have npd:p≠d:=Zb (zg7 aR D1.rn.dc)
   have nap:a≠p:=Zb (zaa aR.1 ha)
   have bE:rsOf (es++[(x,[],a)])=rsOf es++[(x,[])]:=by unfold rsOf;rw[List.map_append];rfl
   refine⟨_,rfl,iV.keep (Keep.wr (xs:=[d]) Qc) (by simpa using npd),⟨D1.rn.new ka ha hx zac,by rw[bE];exact za4.new _ _ D0.gd (by rw[zbf];exact hx),by rw[Qq];show _+1≤40;omega⟩,((k1.sub (by simp)).trans (ka.sub (by simp))).trans (Keep.wr (by simp)),(ka.sub (by simp)).trans (Keep.wr Qc),zan k1 ha (by simpa using nap)⟩
  have eV:∀y∈[p,d],y∈p::d::es.map (·.2.2):=λy hy=>by
   rcases Qe.mp hy with z | z
   ·rw[z];exact Qc
   ·rw[Qb.mp z];exact Qg _ Qc
  have kH:∀{a:Nc},H a=none→∀c∈(es++[(x,([]:List Str),a)]).map (·.2.2),c∈es.map (·.2.2)∨H c=none:=λ{a} cz c hc=>by
   rw[Qp]at hc
   rcases Qf.mp hc with z | z
   ·exact .inl z
   ·rw[Qb.mp z];exact .inr cz
  refine⟨_,rfl,_,rfl,p,d,b,m,es,rfl,hp,D0,λb1 m1 H1 aR k1=>?_,λt s b1 m1 H1 hft cG aq aR k1=>?_⟩
  ·have D1:=D0.pot hp k1
   refine⟨(by show 0≤sizeLine;decide),λa ha=>?_⟩
   obtain⟨H2,eH,av,D2,qG,kY,cz⟩:=new b1 m1 H1 a aR D1 k1 ha
   refine⟨_,rfl,_,rfl,d,_,rfl,DPut.k (k:=Sum.inr x) (by rw[zad (zaa D1.rn.dc ha)];exact D1.rn.dc) (by rw[Qa];omega),?_⟩
   rw[←eH]
   refine⟨_,rfl,_,rfl,iteF ?_⟩
   exact k b1 m1 _ H2 av ⟨D2,by rw[Qp];rfl,kH cz,qG.sub eV⟩
  ·have D1:=D0.pot hp k1
   refine⟨(by show 0≤sizeLine;decide),λa ha=>?_⟩
   obtain⟨H2,eH,av,D2,qG,kY,cz⟩:=new b1 m1 H1 a aR D1 k1 ha
   refine⟨_,rfl,_,rfl,d,_,rfl,DPut.k (k:=Sum.inr x) (by rw[zad (zaa D1.rn.dc ha)];exact D1.rn.dc) (by rw[Qa];omega),?_⟩
   rw[←eH]
   clear eH
   refine⟨_,rfl,_,rfl,iteT ?_⟩
   have df:=kY _ _ cG (by simpa using za5 cG D1.rn.dc (by intro z;cases z))
   have bE:rsOf (es++[(x,[],a)])=rsOf es++[(x,[])]:=by unfold rsOf;rw[List.map_append];rfl
   have iO:x∉(rsOf es).map (·.1):=by rw[zbf];exact hx
   have jB:IsSt (rsOf (es++[(x,[],a)])) s:=by
    obtain⟨q,h1,h2⟩:=aq
    rw[bE]
    exact⟨q,Qn _ h1,h2⟩
   refine⟨_,rfl,_,rfl,d,t,_,s,rfl,D2.rn.toRAt,jB,D2.gd,D2.few,df,λl as n H3 eO aZ pa nd hL k3=>?_⟩
   have D3:=D2.k0 k3
   have ay:Pot H3 p b1 m1:=av.keep k3 (by simp)
   have dD:=k3 _ _ df (by simp)
   have gu:Keep [p,d] H H3:=qG.trans (k3.sub (by simp))
   obtain⟨e1,dX,e2,cg,q1,q2,oP,kU,cY⟩:=zhm D0.gd aq
   have bU:e2∈es++[(x,([]:List Str),a)]:=Qn _ cg
   have eB:(x,([]:List Str),a)∈es++[(x,([]:List Str),a)]:=Qo _ Qc
   have nex:e2.1≠x:=λq=>hx (q▸Qh.mpr ⟨e2,cg,rfl⟩)
   refine⟨_,rfl,_,rfl,t,_,_,_,rfl,rfl,SqT.of dD,i1 _ _,_,rfl,t,_,_,_,rfl,rfl,SqT.of dD,i0 _ _,_,rfl,d,_,e2,(x,[],a),some s.1,none,by rw[q2];rfl,D3.rn,bU,eB,nex,λy z=>by rw[←Qk z];exact kU,λy z=>(by cases z),Zn (D3.row e2 bU) (by decide),Zf _,λH4 R4 k4=>?_⟩
   have iK:((es++[(x,([]:List Str),a)]).map (·.1)).Nodup:=D3.rn.nd
   have hx5:(x,([]:List Str),a)∈setE (es++[(x,[],a)]) e2.1 (ins e2.2.1 (some s.1) x) e2.2.2:=zcy eB (Zb nex)
   have tS:∀y∈[e2.2.2,a],y∈(es++[(x,([]:List Str),a)]).map (·.2.2):=λy hy=>by
    rcases Qe.mp hy with z | z
    ·rw[z];exact Qh.mpr ⟨e2,bU,rfl⟩
    ·rw[Qb.mp z];exact Qh.mpr ⟨_,eB,rfl⟩
   have notRow:∀{c:Nc} {u v:V},H3 c=some (.tup [u,v])→c∉(es++[(x,([]:List Str),a)]).map (·.2.2):=λhc z=>by
    obtain⟨e,he,rfl⟩:=Qh.mp z
    rw[D3.rn.ro e he]at hc
    cases hc
   have cV:as.length=n+1:=by
    have:=Yr pa
    rwa[run_len]at this
   have nlrow:l∉(es++[(x,([]:List Str),a)]).map (·.2.2):=λz=>by
    obtain⟨e,he,ee⟩:=Qh.mp z
    have:=D2.rn.ro e he
    rw[show e.2.2=l from ee,eO]at this
    cases this
   have nprow:p∉(es++[(x,([]:List Str),a)]).map (·.2.2):=λz=>by
    obtain⟨e,he,ee⟩:=Qh.mp z
    exact zb3 ay (D3.rn.ro e he) ee
   have k34:Keep ((es++[(x,([]:List Str),a)]).map (·.2.2)) H3 H4:=k4.sub tS
   have bu:=k34 _ _ aZ nlrow
   have hnb:=run_b D2.gd D2.few jB nd
   have aO:(as.map V.ref).length=n+1:=by rw[Qa,cV]
   refine⟨_,rfl,_,rfl,l,_,rfl,SqL.of bu,λl5 cq=>?_⟩
   rw[show(1:Int)=((1:Nat):Int) from rfl,zfp (by rw[aO];omega),←Jp]
   have k45:Keep ((es++[(x,([]:List Str),a)]).map (·.2.2)) H3 (upd H4 l5 (.lst ((as.drop 1).map V.ref))):=k34.trans (Keep.new cq)
   have jU:(upd H4 l5 (.lst ((as.drop 1).map V.ref))) l5=some (.lst ((as.drop 1).map V.ref)):=zac
   have R5:=R4.k0 (Keep.new (o:=.lst ((as.drop 1).map V.ref)) cq)
   have nl5row:l5∉(es++[(x,([]:List Str),a)]).map (·.2.2):=λz=>by
    rw[←zb7 iK bU (ins e2.2.1 (some s.1) x),←zb7 (e:=(x,([]:List Str),a)) (by rw[zax];exact iK) hx5 (ins [] none e2.1)]at z
    obtain⟨e,he,ee⟩:=Qh.mp z
    have:=R4.ro e he
    rw[show e.2.2=l5 from ee,cq]at this
    cases this
   generalize upd H4 l5 (.lst ((as.drop 1).map V.ref))=H5 at k45 jU R5
   have F5:Fil (rsOf (es++[(x,[],a)])) (rsOf (setE (setE (es++[(x,[],a)]) e2.1 (ins e2.2.1 (some s.1) x) e2.2.2) x (ins [] none e2.1) a)) s x n 1:=by
    rw[zb2,zb2]
    have:=fil_leaf (L:=n) D0.gd iO aq bE nd
    rw[←q2,zbk R.nd cg]at this
    exact this
   have lZ:∀i,IsSt (rsOf (es++[(x,[],a)])) (itr (rsOf (es++[(x,[],a)])) s i):=zgf (za4.clo _ D2.gd) jB
   have pS:row (rsOf (es++[(x,[],a)])) x=[]:=zbk iK eB
   have gS:((rsOf (es++[(x,([]:List Str),a)])).map (·.1)).Nodup:=by rw[zbf];exact iK
   have g0:∀{ao:List Ent} {H':Hp},RN H' d ao→ao.map (·.1)=(es++[(x,([]:List Str),a)]).map (·.1)→∀y∈(es++[(x,([]:List Str),a)]).map (·.1),∃e∈ao,e.1=y:=λR' nm y hy=>by
    rw[←nm]at hy
    exact Qh.mp hy
   refine⟨l5,rfl,⟨_,SqL.of jU⟩,zbt (xs:=(as.drop 1).map V.ref) (λi σ H'=>Aj2 (Ex2 λx5 x6=>σ=[some (.ref d),some (.ref p),some (.str x),some (.ref t),some (.ref l),x5,x6]) (Ex1 λ(ao:List Ent)=>Aj5 (RN H' d ao) (ao.map (·.1)=(es++[(x,([]:List Str),a)]).map (·.1)) (ao.map (·.2.2)=(es++[(x,([]:List Str),a)]).map (·.2.2)) (Fil (rsOf (es++[(x,[],a)])) (rsOf ao) s x n (i+1)) (Keep ((es++[(x,([]:List Str),a)]).map (·.2.2)) H3 H'∧H' l5=some (.lst ((as.drop 1).map V.ref)))))
    ⟨⟨_,_,rfl⟩,_,R5,by rw[zax,zax],by rw[zb7 (e:=(x,([]:List Str),a)) (by rw[zax];exact iK) hx5,zb7 iK bU],F5,k45,jU⟩ (λi σ H' _ hh=>by obtain⟨_,_,h⟩:=hh;exact SqL.of h.h4.2) ?_ ?_⟩
   ·rintro i v σ H6 hv ⟨⟨x5,x6,rfl⟩,ao,R6,nm,am,F6,k6,dH⟩
    have hi:i+1<as.length:=by
     have:=(Qw.mp hv).1
     rw[Qa,Jn]at this
     omega
    have fG:v=.ref as[i+1]:=by
     rw[Qs,List.getElem?_drop,Nat.add_comm 1 i,Qd hi]at hv
     exact(Qk hv).symm
    subst fG
    obtain⟨aI,gM⟩:=zbh pa hi
    have eq:(run (rsOf (es++[(x,[],a)])) s (n+1))[i+1]=itr (rsOf (es++[(x,[],a)])) s (i+1):=by simp[Wb.run]
    rw[eq]at gM
    have tP:=k6 _ _ gM (notRow gM)
    have gB:=k6 _ _ dD (notRow dD)
    refine⟨as[i+1],_,rfl,SqT.of tP,rfl,_,_,rfl,_,_,rfl,rfl,?_⟩
    obtain⟨ex,cu,eex⟩:=g0 R6 nm x (Qh.mpr ⟨_,eB,rfl⟩)
    have g6:=DGet.k (k:=Sum.inr ex.1) R6.dc
    rw[zbu R6.nd cu,eex]at g6
    have pd:=R6.ro ex cu
    have erx:row (rsOf ao) x=ex.2.1:=by rw[←eex];exact zbk R6.nd cu
    have hZ:=(zbx gS).mp (lZ (i+1))
    obtain⟨cs0,lab0,C0⟩:=id D2.gd
    have ie:=C0.inn hZ
    rw[zbf]at ie
    have oT:(itr (rsOf (es++[(x,[],a)])) s (i+1)).2≠x:=λe=>by rw[e,pS]at hZ;cases hZ
    refine⟨_,rfl,_,rfl,_,rfl,d,_,rfl,g6,ex.2.2,_,rfl,.inl (SqL.of pd),rfl,zbw _,_,rfl,?_⟩
    rw[zdd]
    by_cases c2:(itr (rsOf (es++[(x,[],a)])) s (i+1)).2∈ex.2.1
    ·refine zcn (by rw [decide_eq_true c2];rfl) ?_
     exact⟨⟨_,_,rfl⟩,ao,R6,nm,am,F6.skip,k6,dH⟩
    ·refine zdc (by rw [decide_eq_false c2];rfl) ?_
     obtain⟨eo,eQ,eeo⟩:=g0 R6 nm _ ie
     have ero:row (rsOf ao) (itr (rsOf (es++[(x,[],a)])) s (i+1)).2=eo.2.1:=by rw[←eeo];exact zbk R6.nd eQ
     have nox:eo.1≠ex.1:=by rw[eeo,eex];exact oT
     have ot:∀e∈ao,e.2.1.length≤1000:=λe he=>by
      have:=za4.rows F6.gd (e.1,e.2.1) (Qh.mpr ⟨e,he,rfl⟩)
      rw[show(rsOf ao).length=ao.length from Qa ..]at this
      have h1:e.2.1.length≤ao.length:=this
      have e1:=congrArg List.length nm
      rw[Qa,Qa]at e1
      have:=D2.few
      omega
     refine⟨_,rfl,_,rfl,_,rfl,_,rfl,_,rfl,t,_,_,_,rfl,rfl,SqT.of gB,i1 _ _,d,ao,eo,ex,some (itr (rsOf (es++[(x,[],a)])) s (i+1)).1,some s.2,by rw[eeo,eex];rfl,R6,eQ,cu,nox,λy z=>by rw[←Qk z,←ero];exact F6.su _ _ hZ,λy z=>by rw[←Qk z,←erx];exact F6.in2,ot eo eQ,ot ex cu,λH7 R7 k7=>?_⟩
     have tt:ex∈setE ao eo.1 (ins eo.2.1 (some (itr (rsOf (es++[(x,[],a)])) s (i+1)).1) ex.1) eo.2.2:=zcy cu (Zb nox)
     have sw:∀y∈[eo.2.2,ex.2.2],y∈(es++[(x,([]:List Str),a)]).map (·.2.2):=λy hy=>by
      rw[←am]
      rcases Qe.mp hy with z | z
      ·rw[z];exact Qh.mpr ⟨eo,eQ,rfl⟩
      ·rw[Qb.mp z];exact Qh.mpr ⟨ex,cu,rfl⟩
     have k7':=k7.sub sw
     refine⟨⟨_,_,rfl⟩,_,R7,by rw[zax,zax];exact nm,by rw[zb7 (by rw[zax];exact R6.nd) tt,zb7 R6.nd eQ];exact am,?_,k6.trans k7',k7' _ _ dH nl5row⟩
     rw[zb2,zb2,eex,eeo]
     have:=F6.tie nd hL (by omega) lZ gS pS (by rw[erx];exact c2)
     rw[erx,ero]at this
     exact this
   ·rintro σ H6 ⟨⟨x5,x6,rfl⟩,ao,R6,nm,am,F6,k6,dH⟩
    have mJ:ao.length=(es++[(x,([]:List Str),a)]).length:=by
     have:=congrArg List.length nm
     rwa[Qa,Qa]at this
    refine k b1 m1 ao H6 (ay.keep k6 nprow) ⟨⟨R6,F6.gd,by rw[mJ];exact D2.few⟩,by rw[nm,Qp];rfl,λc hc=>?_,λc o ec hc=>k6 c o (gu c o ec λz=>hc (eV c z)) λz=>?_⟩
    ·rw [am] at hc
     exact kH cz c hc
    ·rcases kH cz c z with y | y
     ·exact hc (Qg _ (Qg _ y))
     ·rw[ec]at y;cases y
def scAway:zau ["_law_rounds_here", "_law_pot_here", "_law_step_here"] ["_law_rounds_here", "_law_pot_here"] (zag sAway):=⟨rfl,rfl,rfl,by decide +kernel,rfl,by decide +kernel,by decide +kernel⟩
def ok_away{f fs:Nc}{fd fds:No}(F:Fun K "_law_away" "_law_away" sAway f fd)(FS:Fun K "_law_step" "_law_step" zhq fs fds)(bS:Binds K fds ["_law_rounds_here", "_law_pot_here"] [])(mS:mg "_law_step" = some (.ref fs))(GS:FnOk P w K mg base CX0 2 fs fds ["_law_rounds_here", "_law_pot_here"] spStep) :
  FnOk P w K mg base CX0 3 f fd ["_law_rounds_here", "_law_pot_here"] zfk:=by
 refine F.ok scAway (λvs H Q E h=>?_) (λcdv A outer s0 H vs Q E hr h=>?_)
 ·obtain ⟨p,d,b,m,es,rfl,_⟩:=h
  rfl
 ·obtain ⟨p,d,b,m,es,rfl,hp,D0,k⟩:=h
  have R:=D0.rn.toRAt
  have hu:=zb5 hr
  have i0:∀x y:V,atI [x,y] ((0:Nat):Int)=some x:=λx y=>zaq rfl
  have i1:∀x y:V,atI [x,y] ((1:Nat):Int)=some y:=λx y=>zaq rfl
  refine⟨_,zae (zak (i:=2) scAway.nd rfl (Or.inl rfl) (zaj GS hr rfl mS FS.kp bS .nil zav (zab (pv 0) (zab (pv 1) zaf))))
   (zah (zbs (zc5 (zh5 (pv 2)))
    (zae (za3 (zdo Zk PySem.F.slot_list_remove PySem.F.type_list_remove mt_remove (zaz hu (pv 0) (za1 zcf (pv 2) zai (λ_ _=>rfl)) (λ_ _=>rfl)) (zab (za1 zcf (pv 2) zai (λ_ _=>rfl)) zaf)))
    (zah (za3 (zdo Zk PySem.F.slot_list_remove PySem.F.type_list_remove mt_remove (zaz hu (pv 0) (za1 zcf (pv 2) zai (λ_ _=>rfl)) (λ_ _=>rfl)) (zab (za1 zcf (pv 2) zai (λ_ _=>rfl)) zaf)))))
    zay)),?_⟩
  have eY:∀y∈[p],y∈p::d::es.map (·.2.2):=λy hy=>by rw[Qb.mp hy];exact Qc
  refine⟨_,rfl,_,rfl,p,d,b,m,es,rfl,hp,D0,λb1 m1 H1 aR k1=>?_,λt s b1 m1 H1 hft cG aq aR k1=>?_⟩
  ·refine ⟨_,rfl,_,rfl,iteF ?_⟩
   exact k b1 m1 es H1 aR ⟨D0.pot hp k1,(Zt _).symm,λc hc=>.inl hc,k1.sub eY⟩
  ·refine ⟨_,rfl,_,rfl,iteT ?_⟩
   have D1:=D0.pot hp k1
   obtain⟨e1,dX,e2,cg,q1,q2,oP,kU,cY⟩:=zhm D0.gd aq
   have g1:=DGet.k (k:=Sum.inr e1.1) D1.rn.dc
   rw[zbu D1.rn.nd dX,q1]at g1
   have aE:=D1.rn.ro e1 dX
   refine⟨_,rfl,_,rfl,t,_,_,_,rfl,rfl,SqT.of cG,i0 _ _,d,_,rfl,g1,.inl ⟨rfl,_,SqL.of aE⟩,_,rfl,t,_,_,_,rfl,rfl,SqT.of cG,i1 _ _,e1.2.2,_,s.2,rfl,rfl,aE,oP,?_⟩
   have R2:=D1.rn.set dX (e1.2.1.erase s.2)
   have k2:Keep [e1.2.2] H1 (upd H1 e1.2.2 (.lst ((e1.2.1.erase s.2).map V.str))):=Keep.wr Qc
   generalize upd H1 e1.2.2 (.lst ((e1.2.1.erase s.2).map V.str))=H2 at R2 k2
   have df:=k2 _ _ cG (by simpa using za5 cG aE (by intro z;cases z))
   have bU:e2∈setE es e1.1 (e1.2.1.erase s.2) e1.2.2:=zcy cg (Zb cY)
   have g2:=DGet.k (k:=Sum.inr e2.1) R2.dc
   rw[zbu R2.nd bU,q2]at g2
   have cN:=R2.ro e2 bU
   refine⟨_,rfl,_,rfl,t,_,_,_,rfl,rfl,SqT.of df,i1 _ _,d,_,rfl,g2,.inl ⟨rfl,_,SqL.of cN⟩,_,rfl,t,_,_,_,rfl,rfl,SqT.of df,i0 _ _,e2.2.2,_,s.1,rfl,rfl,cN,kU,?_⟩
   have R3:=R2.set bU (e2.2.1.erase s.1)
   have k3:Keep [e2.2.2] H2 (upd H2 e2.2.2 (.lst ((e2.2.1.erase s.1).map V.str))):=Keep.wr Qc
   generalize upd H2 e2.2.2 (.lst ((e2.2.1.erase s.1).map V.str))=H3 at R3 k3
   have gT:Keep [e1.2.2,e2.2.2] H1 H3:=(k2.sub (by simp)).trans (k3.sub (by simp))
   have eI:p∉[e1.2.2,e2.2.2]:=by
    have z1:=zb3 aR aE
    have z2:=zb3 aR (D1.rn.ro e2 cg)
    simp
    exact⟨Zb z1,Zb z2⟩
   refine k b1 m1 _ H3 (aR.keep gT eI) ⟨⟨R3,?_,?_⟩,?_,λc hc=>.inl ?_,?_⟩
   ·rw [zb2,zb2]
    have h1n:e1.1∈(rsOf es).map (·.1):=by rw[zbf];exact Qh.mpr ⟨e1,dX,rfl⟩
    have h2n:e2.1∈(rsOf es).map (·.1):=by rw[zbf];exact Qh.mpr ⟨e2,cg,rfl⟩
    refine good_less D0.gd (v:=e1.1) (u:=e2.1) (by rw[zbk R.nd dX,q2];exact oP) (by rw[zbb,zbb]) ?_ ?_ λy h1 h2=>by rw[za7 h2,za7 h1]
    ·rw[za7 cY,za8 h1n,zbk R.nd dX,q2]
    ·rw[za8 (by rw[zbb];exact h2n),zbk R.nd cg,q1]
   ·unfold setE
    rw[Qa,Qa]
    exact D0.few
   ·rw[zax,zax,Zt]
   ·rw [zb7 (by rw [zax];exact R.nd) bU,zb7 R.nd dX] at hc
    exact hc
   ·refine fun c o ec hc=>gT c o (k1 c o ec fun z=>hc (eY c z)) ?_
    simp
    exact⟨out3 hc dX,out3 hc cg⟩
end
abbrev sLong:Stmt:=top 39
def at_last{α:Type}(ys:List α)(z:α):atI (ys++[z]) (-1)=some z:=by
 unfold atI ixN
 rw[Qq,if_neg (by decide),if_pos (by show -((ys.length+1:Nat):Int)≤-1;omega)]
 show(ys++[z])[((-1:Int)+((ys.length+1:Nat):Int)).toNat]?=some z
 rw[show((-1:Int)+((ys.length+1:Nat):Int)).toNat=ys.length by omega,Wz (Qi _),Nat.sub_self]
 rfl
inductive IspMade(ns:List Str→Prop)(vs:List V)(H:Hp)(Q:VK)(l:Nc)(zs:Nf):Prop
 |mk (h1:H l=some (.lst (zs.map V.str))) (h2:zs.Nodup) (h3:zs.length=40) (h4:∀(d:Nc) (es:List Ent) (H':Hp),H d=none→Dr H' d es→es≠[]→ns (es.map (·.1))→(∀e∈es,H e.2.2=none)→Keep [] H H'→Q (.ref d) H'):IspMade ns vs H Q l zs
def spLong:Sp:=λvs H Q _=>∃l zs,vs=[.ref l]∧IspMade (λn=>n=zs) vs H Q l zs
section
variable{P:Nj}{w:Nl}{K:Nb}{mg:Ng}{base:Nm}
def scLong:zau ["_law_names_here", "_law_rounds_here", "_law_k", "_law_beside"] ["_law_names_here"] (zag sLong):=⟨rfl,rfl,rfl,by decide +kernel,rfl,by decide +kernel,by decide +kernel⟩
def ok_long{f fi:Nc}{fd fdi:No}(F:Fun K "_law_long" "_law_long" sLong f fd)(FI:Fun K "_law_tie" "_law_tie" sTie fi fdi)(bI:Binds K fdi ["_law_rounds_here", "_law_one", "_law_beside", "_law_other", "_law_after"] [])(mI:mg "_law_tie" = some (.ref fi))(GI:FnOk P w K mg base CX0 2 fi fdi ["_law_rounds_here", "_law_one", "_law_beside", "_law_other", "_law_after"] spTie)(af:mg "len" = none)(cM:mg "range" = none):FnOk P w K mg base CX0 3 f fd ["_law_names_here"] spLong:=by
 refine F.ok scLong (λvs H Q E h=>?_) (λcdv A outer s0 H vs Q E hr h=>?_)
 ·obtain ⟨l,zs,rfl,_⟩:=h
  rfl
 ·obtain ⟨l,zs,rfl,hl,aD,dB,k⟩:=h
  have hu:=zb5 hr
  have aL:sizeLine=16777216:=sizeLine_eq
  refine⟨_,zae (zak (i:=1) scLong.nd rfl (Or.inl rfl) (zf0 (zdk (za1 zap (pv 0) zai (λ_ _=>rfl)) (zbc zaf) zfy) rfl rfl (by decide) (by decide)))
   (zae (zbn Zo rfl (pi_range2 rfl cM (zab zai (zab (zam zas (by rfl) af Zv (zab (pv 0) zaf)) zaf))) (zal (i:=2) scLong.nd rfl (Or.inl rfl))
    (zae (zak (i:=3) scLong.nd rfl (Or.inl rfl) (zaw zds (zbc (zab zg8 zaf)) (zcr zc7 (pv 0) zd1 (zcx (zaw ze8 (pv 2) zai)))))
    (zae (zcu hu (pv 1) (za1 zap (pv 0) (pv 2) (λ_ _=>rfl)) (zbc zaf) rfl)
    (zah (za3 (zaj GI hr rfl mI FI.kp bI .nil zav (zab (pv 1) (zab (za1 zap (pv 0) (zaw ze8 (pv 2) zai) (λ_ _=>rfl)) (zab (za1 zap (pv 3) (pe_un un_neg zai) (λ_ _=>rfl)) (zab (za1 zap (pv 0) (pv 2) (λ_ _=>rfl)) (zab zg8 zaf)))))))))))
   (zah (zbm (pv 1)))),?_⟩
  have aO:(zs.map V.str).length=40:=by rw[Qa,dB]
  have z0:0<zs.length:=by omega
  refine λd hd=>?_
  have k1:Keep [] H (upd H d (.dK [])):=Keep.new hd
  have cb:=k1 _ _ hl (by simp)
  refine⟨_,rfl,l,_,_,_,rfl,rfl,SqL.of cb,zaq (j:=0) (by rw[Qs,Qd z0];rfl),(by show 0≤sizeLine;decide),λa ha=>⟨by rw[zad (zaa (o:=_) zac ha)];exact zac,[(Sum.inr zs[0],.ref a)],rfl,(by show 1≤15;decide),?_⟩⟩
  have nda:d≠a:=zaa (o:=_) zac ha
  have cz:H a=none:=zan k1 ha (by simp)
  have k2:Keep [] H (upd (upd (upd H d (.dK [])) a (.lst [])) d (.dK (zcm [] [((Sum.inr zs[0]:Key),V.ref a)]))):=λc o ec _=>by
   rw[zad (zaa ec hd),zad (zaa ec cz),zad (zaa ec hd)];exact ec
  have R2:RN (upd (upd (upd H d (.dK [])) a (.lst [])) d (.dK (zcm [] [((Sum.inr zs[0]:Key),V.ref a)]))) d [(zs[0],[],a)]:=by
   refine⟨⟨zac,λe he=>?_,Wp _ _⟩,Wp _ _⟩
   rw[Qb.mp he]
   show upd _ _ _ a=_
   rw[zad (Zb nda)]
   exact zac
  generalize upd (upd (upd H d (.dK [])) a (.lst [])) d (.dK (zcm [] [((Sum.inr zs[0]:Key),V.ref a)]))=H2 at k2 R2
  have aj:=k2 _ _ hl (by simp)
  have D2:Dr H2 d [(zs[0],[],a)]:=⟨R2,za4.new [] zs[0] za4.nil (by simp),by show 1≤40;decide⟩
  refine⟨_,rfl,l,_,rfl,.inl (SqL.of aj),1,40,by rw[aO];rfl,⟨by decide,by decide,by decide,by decide⟩,?_⟩
  refine zel (n:=39) (lo:=1) (λi σ H'=>Ex3 λ(es:List Ent) (x2 x3:Option V)=>Aj6 (σ=[some (.ref l),some (.ref d),x2,x3]) (Dr H' d es) (es.map (·.1)=zs.take (i+1)) (row (rsOf es) (zs.getD i zs[0])=if i=0 then[] else[zs.getD (i-1) zs[0]]) (∀e∈es,H e.2.2=none) (Keep [] H H'))
   ⟨_,none,none,rfl,D2,by rw[Qm z0];rfl,?_,λe he=>by rw[Qb.mp he];exact cz,k2⟩ ?_ ?_
  ·rw [show zs.getD 0 zs[0]=zs[0] by simp [List.getD,z0]]
   exact zbk (e:=(zs[0],[],a)) R2.nd Qc
  ·rintro i σ H3 hi ⟨es,x2,x3,rfl,D3,cw,ap,eM,k3⟩
   have aZ:=k3 _ _ hl (by simp)
   have pC:i<zs.length:=by omega
   have pB:i+1<zs.length:=by omega
   have gi:∀(j:Nat) (hj:j<zs.length),(zs.map V.str)[j]?=some (.str zs[j]):=λj hj=>by rw[Qs,Qd hj];rfl
   have gd:∀(j:Nat) (hj:j<zs.length),zs.getD j zs[0]=zs[j]:=λj hj=>by simp[List.getD,hj]
   refine⟨(by show 1≤sizeLine;decide),λp1 h1=>?_⟩
   have n1:l≠p1:=zaa aZ h1
   refine⟨_,rfl,_,rfl,_,_,rfl,rfl,_,rfl,l,_,rfl,SqL.of (by rw[zad n1];exact aZ),λp2 h2=>?_⟩
   have cY:p1≠p2:=zaa (o:=_) zac h2
   rw[show(1:Int)+(i:Int)-1=(i:Int) by omega,cut_to (by rw[aO];omega),←Uh]
   refine⟨p1,p2,_,_,rfl,rfl,(by rw[zad cY];exact zac),zac,by rw[Qa,Zj];show 1+_≤_;omega,λp3 h3=>?_⟩
   have k4:Keep [] H3 (upd (upd (upd H3 p1 (.lst [.non])) p2 (.lst ((zs.take i).map V.str))) p3 (.lst ([.non]++(zs.take i).map V.str))):=((Keep.new h1).trans (Keep.new h2)).trans (Keep.new h3)
   have ll:(upd (upd (upd H3 p1 (.lst [.non])) p2 (.lst ((zs.take i).map V.str))) p3 (.lst ([.non]++(zs.take i).map V.str))) p3=some (.lst ([.non]++(zs.take i).map V.str)):=zac
   generalize upd (upd (upd H3 p1 (.lst [.non])) p2 (.lst ((zs.take i).map V.str))) p3 (.lst ([.non]++(zs.take i).map V.str))=H4 at k4 ll
   have D4:=D3.k0 k4
   have bu:=k4 _ _ aZ (by simp)
   refine⟨(by show 0≤sizeLine;decide),λa ha=>?_⟩
   have k5:Keep [] H4 (upd H4 a (.lst [])):=Keep.new ha
   have cq:=k5 _ _ bu (by simp)
   have em:zs[i+1]∉es.map (·.1):=λz=>by
    rw[cw]at z
    obtain⟨j,hj,e⟩:=Zr z
    rw[Zj]at hj
    rw[Wr]at e
    have:=(Yi aD).mp e
    omega
   have ba:es.length<40:=by
    have:=congrArg List.length cw
    rw[Qa,Zj]at this
    omega
   refine⟨_,rfl,_,rfl,_,rfl,l,_,_,_,rfl,rfl,SqL.of cq,by rw[show(1:Int)+(i:Int)=((i+1:Nat):Int) by omega];exact zaq (gi _ pB),d,_,rfl,DPut.k (k:=Sum.inr zs[i+1]) (k5 _ _ D4.rn.dc (by simp)) (by rw[Qa];omega),?_⟩
   have R6:=D4.rn.new k5 ha em zac
   have nld:l≠d:=za5 cq (k5 _ _ D4.rn.dc (by simp)) (by intro z;cases z)
   have nbd:p3≠d:=za5 ll D4.rn.dc (by intro z;cases z)
   have k6:Keep [d] H3 (upd (upd H4 a (.lst [])) d (.dK (putK (es.map λe=>((Sum.inr e.1:Key),V.ref e.2.2)) (Sum.inr zs[i+1]) (.ref a)))):=((k4.trans k5).sub (by simp)).trans (Keep.wr Qc)
   have qB:Keep [d] H4 (upd (upd H4 a (.lst [])) d (.dK (putK (es.map λe=>((Sum.inr e.1:Key),V.ref e.2.2)) (Sum.inr zs[i+1]) (.ref a)))):=(k5.sub (by simp)).trans (Keep.wr Qc)
   generalize upd (upd H4 a (.lst [])) d (.dK (putK (es.map λe=>((Sum.inr e.1:Key),V.ref e.2.2)) (Sum.inr zs[i+1]) (.ref a)))=H6 at R6 k6 qB
   have dH:=qB _ _ bu (by simpa using nld)
   have lj:=qB _ _ ll (by simpa using nbd)
   have nz:H a=none:=zan ((k3.trans k4)) ha (by simp)
   obtain⟨e,he,ee⟩:∃e∈es,e.1=zs[i]:=by
    have:zs[i]∈es.map (·.1):=by
     rw[cw,Qm pC]
     exact Qo _ Qc
    exact Qh.mp this
   have he6:e∈es++[(zs[i+1],([]:List Str),a)]:=Qn _ he
   have qP:(zs[i+1],([]:List Str),a)∈es++[(zs[i+1],([]:List Str),a)]:=Qo _ Qc
   have nex:e.1≠zs[i+1]:=λq=>em (q▸Qh.mpr ⟨e,he,rfl⟩)
   have her:e.2.1=if i=0 then[] else[zs.getD (i-1) zs[0]]:=by
    rw[←zbk D3.rn.nd he,ee,←gd i pC];exact ap
   obtain⟨c,hc,hcr,eS⟩:∃c:Option Str,atI ([V.non]++(zs.take i).map V.str) (-1)=some (zgk c)∧(∀y,c=some y→y∈e.2.1)∧(c=none→e.2.1=[]):=by
    cases i with
    |zero=>exact⟨none,rfl,λy z=>(by cases z),λ_=>by rw[her,if_pos rfl]⟩
    | succ j =>
     have hj:j<zs.length:=by omega
     refine⟨some zs[j],?_,λy z=>?_,λz=>(by cases z)⟩
     ·rw [Qm hj,Qp,← Qu]
      exact at_last _ _
     ·rw [her,if_neg (Nat.succ_ne_zero j),← Qk z,Nat.add_sub_cancel,gd j hj]
      exact Qc
   refine⟨_,rfl,_,rfl,_,rfl,_,_,rfl,rfl,l,_,_,_,rfl,rfl,SqL.of dH,by rw[show(1:Int)+(i:Int)-1=(i:Int) by omega];exact zaq (gi _ pC),_,rfl,_,rfl,p3,_,_,_,rfl,rfl,SqL.of lj,hc,_,rfl,_,rfl,l,_,_,_,rfl,rfl,SqL.of dH,by rw[show(1:Int)+(i:Int)=((i+1:Nat):Int) by omega];exact zaq (gi _ pB),?_⟩
   have bE:rsOf (es++[(zs[i+1],[],a)])=rsOf es++[(zs[i+1],[])]:=by unfold rsOf;rw[List.map_append];rfl
   have iO:zs[i+1]∉(rsOf es).map (·.1):=by rw[zbf];exact em
   refine⟨d,_,e,(zs[i+1],[],a),c,none,by rw[ee];rfl,R6,he6,qP,nex,hcr,λy z=>(by cases z),Zn (D3.row e he) (by decide),Zf _,λH7 R7 k7=>?_⟩
   have jy:(zs[i+1],([]:List Str),a)∈setE (es++[(zs[i+1],[],a)]) e.1 (ins e.2.1 c zs[i+1]) e.2.2:=zcy qP (Zb nex)
   refine⟨_,_,_,rfl,⟨R7,?_,?_⟩,?_,?_,λe' aS=>?_,λc' o ec _=>k7 c' o (k6 c' o (k3 c' o ec (by simp)) (by simpa using zaa ec hd)) ?_⟩
   ·rw [zb2,zb2,bE]
    exact za4.leaf (rsOf es) _ (e.1,e.2.1) c D3.gd iO (Qh.mpr ⟨e,he,rfl⟩) hcr eS
   ·unfold setE
    rw[Qa,Qa,Qq]
    show _+1≤40
    omega
   ·rw[zax,zax,Qp,cw,Qm pB];rfl
   ·rw [if_neg (Nat.succ_ne_zero i),Nat.add_sub_cancel,gd _ pB,gd _ pC,zb2,zb2,za8]
    ·rw[←ee];rfl
    ·rw[zbb,zbf];exact Qh.mpr ⟨_,qP,rfl⟩
   ·have:e'.2.2∈(es++[(zs[i+1],([]:List Str),a)]).map (·.2.2):=by
     rw[←zb7 R6.nd he6 (ins e.2.1 c zs[i+1]),←zb7 (e:=(zs[i+1],([]:List Str),a)) (by rw[zax];exact R6.nd) jy (ins [] none e.1)]
     exact Qh.mpr ⟨e',aS,rfl⟩
    obtain⟨e'',h1,h2⟩:=Qh.mp this
    rw[←h2]
    rcases Qf.mp h1 with z | z
    ·exact eM _ z
    ·rw[Qb.mp z];exact nz
   ·simp
    exact⟨λz=>(by rw[z,eM e he]at ec;cases ec),λz=>(by rw[z,nz]at ec;cases ec)⟩
  ·rintro σ H3 ⟨es,x2,x3,rfl,D3,cw,ap,eM,k3⟩
   have jR:es.map (·.1)=zs:=by rw[cw,Qv (by omega)]
   refine⟨_,rfl,k d es H3 hd D3 (λz=>?_) jR eM k3⟩
   rw[z]at jR
   rw[←jR]at dB
   cases dB
end
abbrev sRows:Stmt:=top 41
def zg9{α β:Type}{R:α→β→Prop}{as:List α}{bs:List β}(h:Paired R as bs):Paired R as.reverse bs.reverse:=by
 induction h with
 |nil=>exact .nil
 |cons h t ih=>rw[Kh,Kh];exact zbi ih (.cons h .nil)
inductive IspRows(vs:List V)(H:Hp)(Q:VK):Prop
 |mk (p d:Nc) (b m:Int) (es:List Ent) (h0:vs=[.ref d,.ref p]) (h1:Pot H p b m) (h2:Dr H d es)
  (h3:∀(l:Addr) (as:List Addr) (bx ao:List Ent) (b' m':Int) (H':Hp),RwAt H' l as bx→ao.Perm es→zgo bx ao→Pot H' p b' m'→Keep [p] H H'→Q (.ref l) H'):IspRows vs H Q
def spRows:Sp:=λvs H Q _=>IspRows vs H Q
section
variable{P:Nj}{w:Nl}{K:Nb}{mg:Ng}{base:Nm}
def scRows:zau ["_law_rounds_here", "_law_pot_here", "_law_found", "_law_place", "_law_at"] ["_law_rounds_here", "_law_pot_here"] (zag sRows):=⟨rfl,rfl,rfl,by decide +kernel,rfl,by decide +kernel,by decide +kernel⟩
def ok_rows{f ft:Nc}{fd fdt:No}(F:Fun K "_law_rows" "_law_rows" sRows f fd)(FT:Fun K "_law_draw" "_law_draw" zgw ft fdt)(bT:Binds K fdt ["_law_pot_here", "_law_many"] [])(mT:mg "_law_draw" = some (.ref ft))(GT:FnOk P w K mg base CX0 1 ft fdt ["_law_pot_here", "_law_many"] ze4)(af:mg "len" = none):FnOk P w K mg base CX0 2 f fd ["_law_rounds_here", "_law_pot_here"] spRows:=by
 refine F.ok scRows (λvs H Q E h=>?_) (λcdv A outer s H vs Q E hr h=>?_)
 ·obtain ⟨p,d,b,m,es,rfl,_⟩:=h
  rfl
 ·obtain ⟨p,d,b,m,es,rfl,hp,D0,k⟩:=h
  have R:=D0.rn.toRAt
  have hu:=zb5 hr
  have aL:sizeLine=16777216:=sizeLine_eq
  refine⟨_,zae (zak (i:=2) scRows.nd rfl (Or.inl rfl) (zbc zaf))
   (zae (zew (zbn Zo rfl (zex (pv 0)) (zal (i:=3) scRows.nd rfl (Or.inl rfl))
    (zae (zak (i:=4) scRows.nd rfl (Or.inl rfl) (zaj GT hr rfl mT FT.kp bT .nil zav (zab (pv 1) (zab (zaw zbv (zam zas (by rfl) af Zv (zab (zaz hu (pv 0) (pv 3) (λ_ _=>rfl)) zaf)) zai) zaf))))
    (zah (za3 (zdo Zk Yn Ym zb4 (pv 2)
     (zab (ze7 (zab (pv 3) (zab (zaw zds (zcr zc7 (zaz hu (pv 0) (pv 3) (λ_ _=>rfl)) (zcx (pv 4)) zd1) (zcr zc7 (zaz hu (pv 0) (pv 3) (λ_ _=>rfl)) zd1 (zcx (pv 4)))) zaf))) zaf)))))))
   (zae (zbs (zar op_eq (zaj GT hr rfl mT FT.kp bT .nil zav (zab (pv 1) (zab zai zaf))) zai (zbd _))
    (zah (za3 (pe_bm0 Zk PySem.F.slot_list_reverse PySem.F.type_list_reverse mt_reverse (pv 2)))) zay)
   (zah (zbm (pv 2))))),?_⟩
  have aD:(es.map (·.1)).Nodup:=R.nd
  have aQ:=D0.row
  have ba:=D0.few
  refine⟨(by show 0≤sizeLine;decide),λro cI=>?_⟩
  have nfz:∀o' u',H d≠some (.frz o' u'):=λo' u' z=>by rw[R.dc]at z;cases z
  have npd:p≠d:=Zb (zg7 hp R.dc)
  have npr:p≠ro:=zaa hp.1 cI
  have cX:d≠ro:=zaa R.dc cI
  have k1:Keep [] H (upd H ro (.lst [])):=Keep.new cI
  have mf:(upd H ro (.lst [])) ro=some (.lst []):=zac
  generalize upd H ro (.lst [])=H1 at k1 mf
  have R1:RAt H1 d es:=R.keep k1 (by simp) (λ_ _=>by simp)
  have aR:Pot H1 p b m:=hp.keep k1 (by simp)
  have rowne:∀e∈es,e.2.2∉[p,d,ro]:=λe he=>by
   have h1:=R.ro e he
   simp only[Qe,Wd,or_false,not_or]
   exact⟨zb3 hp h1,za5 h1 R.dc (by intro z;cases z),zaa h1 cI⟩
  refine⟨_,rfl,d,_,rfl,R1.dc,λo=>zfn (λi σ H'=>Aj4 (Ex2 λx3 x4=>σ=[some (.ref d),some (.ref p),some (.ref ro),x3,x4]) (H' d=some (.frz o (.dK (es.map λe=>((Sum.inr e.1:Key),V.ref e.2.2))))) (Keep [p,d,ro] H1 H') (Ex4 λ(b' m':Int) (as:Nk) (bx:List Ent)=>Aj6 (Pot H' p b' m') (H' ro=some (.lst (as.map V.ref))) (Paired (λa (e:Ent)=>H' a=some (.tup [.str e.1,.ref e.2.2])) as bx) (∀e∈bx,H' e.2.2=some (.lst (e.2.1.map V.str))) (zgo bx (es.take i)) (∀e∈bx,e.2.2≠ro)))
   ⟨⟨_,_,rfl⟩,zac,Keep.wr (by simp),b,m,[],[],aR.keep (xs:=[d]) (Keep.wr (by simp)) (by simpa using npd),by rw[zad (Zb cX)];exact mf,.nil,λe he=>(by cases he),.nil,λe he=>(by cases he)⟩ (λi σ H' _ hh=>hh.2) ?_ ?_⟩
  ·rintro i pr σ H2 dj ⟨⟨x3,x4,rfl⟩,hz,k2,b2,m2,as,bx,av,jF,dN,fI,bo,rowro⟩
   have hi:i<es.length:=by
    have:=(Qw.mp dj).1
    rwa[Qa]at this
   have g1:pr=((Sum.inr es[i].1:Key),V.ref es[i].2.2):=by
    rw[Qs,Qd hi]at dj
    exact(Qk dj).symm
   subst g1
   have bg:es[i]∈es:=Qz hi
   have tk:es.take (i+1)=es.take i++[es[i]]:=Qm hi
   have cV:as.length=i:=by
    rw[Yr dN,Yr bo,Zj];lia
   generalize es[i]=e at bg tk
   have rG:=aQ _ bg
   have bJ:=R1.ro _ bg
   have dh:=k2 _ _ bJ (rowne _ bg)
   have aO:(e.2.1.map V.str).length=e.2.1.length:=Qa ..
   have dg:∀{H':Hp},H' d=some (.frz o (.dK (es.map λe=>((Sum.inr e.1:Key),V.ref e.2.2))))→DGet H' d (.str e.1) (some (.ref e.2.2)):=λc7=>.inl ⟨_,Sum.inr e.1,.inr ⟨o,c7⟩,rfl,(zbu aD bg).symm⟩
   refine⟨_,rfl,_,rfl,_,rfl,d,.ref e.2.2,rfl,dg hz,e.2.2,_,rfl,.inl (SqL.of dh),_,_,rfl,rfl,p,b2,m2,_,rfl,av,(by rw[aO];lia),(by rw[aO];lia),λj3 b3 m3 H3 hj3 ss ay fe=>?_⟩
   have k3:=zbg fe
   obtain⟨j,rfl⟩:=Zy hj3
   rw[aO]at ss
   have hj:j≤e.2.1.length:=by lia
   have nrop:ro≠p:=Zb npr
   have jE:=k3 _ _ jF (by simpa using nrop)
   have fM:=k3 _ _ dh (by simpa using zb3 av dh)
   have fj:=k3 _ _ hz (by simpa using Zb npd)
   have qX:Paired (λa (e:Ent)=>H3 a=some (.tup [.str e.1,.ref e.2.2])) as bx:=Paired.imp' (λa e h=>k3 _ _ h (by simpa using za5 h av.1 (by intro z;cases z))) dN
   have rD:∀e∈bx,H3 e.2.2=some (.lst (e.2.1.map V.str)):=λe he=>k3 _ _ (fI e he) (by simpa using zb3 av (fI e he))
   refine⟨_,rfl,.inl ⟨rfl,_,SqL.of jE⟩,.str e.1,rfl,_,rfl,_,rfl,d,_,rfl,dg fj,_,rfl,_,rfl,e.2.2,_,rfl,SqL.of fM,λq1 h1=>?_⟩
   have n1:e.2.2≠q1:=zaa fM h1
   have nd1:d≠q1:=zaa fj h1
   refine⟨_,rfl,_,rfl,d,_,rfl,dg (by rw[zad nd1];exact fj),_,rfl,_,rfl,e.2.2,_,rfl,SqL.of (by rw[zad n1];exact fM),λq2 h2=>?_⟩
   have cY:q1≠q2:=zaa (o:=_) zac h2
   refine⟨q1,q2,_,_,rfl,rfl,(by rw[zad cY];exact zac),zac,?_,λq3 h3=>?_⟩
   ·have c1:=zby (e.2.1.map V.str) (some (j:Int)) none
    have c2:=zby (e.2.1.map V.str) none (some (j:Int))
    rw[aO]at c1 c2
    lia
   have ecut:cutV (e.2.1.map V.str) (some (j:Int)) none++cutV (e.2.1.map V.str) none (some (j:Int))=(e.2.1.drop j++e.2.1.take j).map V.str:=by
    rw[zfp (by rw[aO];exact hj),cut_to (by rw[aO];exact hj),Qp,Jp,Uh]
   rw[ecut]
   have k5:Keep [] H3 (upd (upd (upd H3 q1 (.lst (cutV (e.2.1.map V.str) (some (j:Int)) none))) q2 (.lst (cutV (e.2.1.map V.str) none (some (j:Int))))) q3 (.lst ((e.2.1.drop j++e.2.1.take j).map V.str))):=((Keep.new h1).trans (Keep.new h2)).trans (Keep.new h3)
   have rL:(upd (upd (upd H3 q1 (.lst (cutV (e.2.1.map V.str) (some (j:Int)) none))) q2 (.lst (cutV (e.2.1.map V.str) none (some (j:Int))))) q3 (.lst ((e.2.1.drop j++e.2.1.take j).map V.str))) q3=some (.lst ((e.2.1.drop j++e.2.1.take j).map V.str)):=zac
   have nq3ro:q3≠ro:=Zb (zaa (((Keep.new (xs:=[]) h1).trans (Keep.new h2)) _ _ jE (by simp)) h3)
   generalize upd (upd (upd H3 q1 (.lst (cutV (e.2.1.map V.str) (some (j:Int)) none))) q2 (.lst (cutV (e.2.1.map V.str) none (some (j:Int))))) q3 (.lst ((e.2.1.drop j++e.2.1.take j).map V.str))=H5 at k5 rL
   refine⟨(by show 2≤sizeLine;decide),λt ht=>?_⟩
   have k6:Keep [] H3 (upd H5 t (.tup [.str e.1,.ref q3])):=k5.trans (Keep.new ht)
   have gB:(upd H5 t (.tup [.str e.1,.ref q3])) t=some (.tup [.str e.1,.ref q3]):=zac
   have mo:(upd H5 t (.tup [.str e.1,.ref q3])) q3=some (.lst ((e.2.1.drop j++e.2.1.take j).map V.str)):=by rw[zad (zaa rL ht)];exact rL
   generalize upd H5 t (.tup [.str e.1,.ref q3])=H6 at k6 gB mo
   have me:=k6 _ _ jE (by simp)
   refine⟨ro,_,_,rfl,rfl,me,by rw[Qa];lia,?_⟩
   have keepro:∀{a:Nc} {u:HO},H6 a=some u→a≠ro→(upd H6 ro (.lst (as.map V.ref++[V.ref t]))) a=some u:=λ{a u} e ne=>by rw[zad ne];exact e
   have tupro:∀{a:Nc} {xs:List V},H6 a=some (.tup xs)→a≠ro:=λ{a xs} e=>za5 e me (by intro z;cases z)
   refine⟨⟨_,_,rfl⟩,by rw[zad cX];exact k6 _ _ fj (by simp),((k2.trans (k3.sub (by simp))).trans (k6.sub (by simp))).trans (Keep.wr (by simp)),b3,m3,as++[t],bx++[(e.1,e.2.1.drop j++e.2.1.take j,q3)],(ay.keep k6 (by simp)).keep (xs:=[ro]) (Keep.wr (by simp)) (by simpa using npr),by rw[zac,Qp];rfl,?_,λe' he=>?_,?_,λe' he=>?_⟩
   ·exact zbi (Paired.imp' (λa e h=>keepro (k6 _ _ h (by simp)) (tupro (k6 _ _ h (by simp)))) qX) (.cons (keepro gB (tupro gB)) .nil)
   ·rcases Qf.mp he with z | z
    ·exact keepro (k6 _ _ (rD e' z) (by simp)) (rowro e' z)
    ·rw[Qb.mp z];exact keepro mo nq3ro
   ·rw [tk]
    exact zbi bo (.cons ⟨rfl,j,rfl⟩ .nil)
   ·rcases Qf.mp he with z | z
    ·exact rowro e' z
    ·rw[Qb.mp z];exact nq3ro
  ·rintro σ H2 ⟨⟨x3,x4,rfl⟩,hz,k2,b2,m2,as,bx,av,jF,dN,fI,bo,rowro⟩
   rw[Qa,Qv (Qi _)]at bo
   refine⟨d,o,_,hz,nfz,?_⟩
   have kf:Keep [p,ro] H1 (upd H2 d (.dK (es.map λe=>((Sum.inr e.1:Key),V.ref e.2.2)))):=λc u ec hc=>by
    by_cases aB:c=d
    ·subst aB
     rw[zac,←R1.dc];exact ec
    ·rw [zad aB]
     refine k2 c u ec ?_
     simp only[Qe,Wd,or_false,not_or]at hc ⊢
     exact⟨hc.1,aB,hc.2⟩
   have ay:Pot (upd H2 d (.dK (es.map λe=>((Sum.inr e.1:Key),V.ref e.2.2)))) p b2 m2:=av.keep (xs:=[d]) (Keep.wr (by simp)) (by simpa using npd)
   have oe:RwAt (upd H2 d (.dK (es.map λe=>((Sum.inr e.1:Key),V.ref e.2.2)))) ro as bx:=⟨by rw[zad (Zb cX)];exact jF,Paired.imp' (λa e h=>by rw[zad (za5 h hz (by intro z;cases z))];exact h) dN,λe he=>by rw[zad (za5 (fI e he) hz (by intro z;cases z))];exact fI e he⟩
   generalize upd H2 d (.dK (es.map λe=>((Sum.inr e.1:Key),V.ref e.2.2)))=H3 at kf ay oe
   have gT:Keep [p,ro] H H3:=(k1.sub (by simp)).trans kf
   have nrop:ro≠p:=Zb npr
   refine⟨_,rfl,p,b2,m2,2,rfl,ay,by decide,by decide,λj4 b4 m4 H4 pQ pP ca iL=>?_⟩
   have k4:=zbg iL
   have R4:RwAt H4 ro as bx:=⟨k4 _ _ oe.ls (by simpa using nrop),Paired.imp' (λa e h=>k4 _ _ h (by simpa using za5 h ay.1 (by intro z;cases z))) oe.ts,λe he=>k4 _ _ (oe.ro e he) (by simpa using zb3 ay (oe.ro e he))⟩
   have lK:Keep [p,ro] H H4:=gT.trans (k4.sub (by simp))
   have out:∀{H':Hp},Keep [p,ro] H H'→Keep [p] H H':=λkk c o ec hc=>kk c o ec (by simp at hc ⊢;exact⟨hc,zaa ec cI⟩)
   refine⟨rfl,_,rfl,?_⟩
   refine ite2 (λ_=>?_) (λ_=>?_)
   ·refine ⟨_,rfl,.inl ⟨rfl,_,SqL.of R4.ls⟩,ro,_,rfl,rfl,R4.ls,?_⟩
    have tupro:∀{a:Nc} {xs:List V},H4 a=some (.tup xs)→a≠ro:=λ{a xs} e=>za5 e R4.ls (by intro z;cases z)
    refine⟨_,rfl,k ro as.reverse bx.reverse es.reverse b4 m4 _ ⟨by rw[zac,List.map_reverse],zg9 (Paired.imp' (λa e h=>by rw[zad (tupro h)];exact h) R4.ts),λe he=>?_⟩ (Jh es) (zg9 bo) (ca.keep (xs:=[ro]) (Keep.wr (by simp)) (by simpa using npr)) (out (lK.trans (Keep.wr (by simp))))⟩
    rw[zad (rowro e (List.mem_reverse.mp he))]
    exact R4.ro e (List.mem_reverse.mp he)
   ·exact⟨_,rfl,k ro as bx es b4 m4 H4 R4 (List.Perm.refl _) bo ca (out lK)⟩
end
end K21
end
section
namespace L2
open PySem PySem.Spec PyProof.Rows
def lc_map{K:Nb}{g:TG}{te:TE}{Q:VK}{a:Nc}{τ:St}{H:Hp}{xs:List V}(T:St→Prop)(f:V→V)(ha:SqL K H a xs)(hn:xs.length≤sizeLine)(h0:T τ)(hs:∀x∈xs,∀τ,T τ→∀k:V→St→Hp→Prop,(∀τ2,T τ2→k (f x) τ2 H)→g x τ H λ τ2 H2=>te τ2 H2 λy H4=>k y τ2 H4)(q:∀D,H D=none→Q (.ref D) (upd H D (.lst (xs.map f)))):rLC g tAll te Q (Itl K a) τ H:=by
 refine⟨λi m ys τ H1=>Aj5 (H1=H) (T τ) (m=xs.length-i) (i≤xs.length) (ys=(xs.take i).map f),⟨_,rfl,h0,rfl,Zf _,rfl⟩,?_⟩
 rintro i m ys τ H1 ⟨rfl,ht,rfl,hi,rfl⟩
 by_cases ag:i<xs.length
 ·refine .inr ⟨⟨xs,xs[i],ha,Qd ag⟩,by rw [Qa,Zj];lia,?_⟩
  rintro x H' ⟨rfl,hx⟩
  have ci:=hx xs ha
  rw[Qd ag]at ci
  have jx:xs[i]=x:=Qk ci
  refine hs x (jx▸Qz ag) τ ht (λy τ2 H4=>∃m',m'<xs.length-i∧Aj5 (H4=H') (T τ2) (m'=xs.length-(i+1)) (i+1≤xs.length) ((xs.take i).map f++[y]=(xs.take (i+1)).map f)) λ τ2 h2=>?_
  exact⟨_,by exact zar1 ‹_›,rfl,h2,rfl,ag,by rw[Qm ag,Qp,jx];rfl⟩
 ·have e:i=xs.length:=by exact zar3 ‹_› ‹_›
  subst e
  refine .inl ⟨⟨xs,ha,Qi _⟩,λD hD=>?_⟩
  rw[Qv (Qi _)]
  exact q D hD
def zh6{X:Cx}{K:Nb}(hK:X.K=K):OpR X (compareOp .NotIn) (rIn K true):=hK▸zce
end L2
namespace L2
def tOr_all{t u:TT}{σ:St}{H:Hp}{Q:Bool→Hp→Prop}(I:Hp→Prop)(h0:I H)(ht:∀H,I H→∀k:Bool→Hp→Prop,(∀c H',I H'→k c H')→t σ H k)(hu:∀H,I H→∀k:Bool→Hp→Prop,(∀c H',I H'→k c H')→u σ H k)(q:∀c H',I H'→Q c H'):tOr t u σ H Q :=
 ht _ h0 _ λc H' h=>by
  show if c=true then Q true H' else u σ H' Q
  cases c with
  |true=>exact iteT (q _ _ h)
  |false=>exact iteF (hu _ h _ q)
end L2
namespace K21
open PySem L2 Wb
abbrev zgu:Stmt:=top 42
structure HAt(H:Hp)(u:Nc)(hs:List (Str×Int)):Prop where
 dc:H u=some (.dK (hs.map λe=>((Sum.inr e.1:Key),V.int e.2)))
 nd:(hs.map (·.1)).Nodup
def valH_out{hs:List (Str×Int)}{x:Str}(h:x∉hs.map (·.1)):valV (hs.map λe=>((Sum.inr e.1:Key),V.int e.2)) (Sum.inr x)=none:=by
 induction hs with
 |nil=>rfl
 |cons a t ih =>
  rw[Ql,Qe,not_or]at h
  rw[Ql,zbl]
  ·exact ih h.2
  ·intro q;exact h.1 (Wo q).symm
def valH_in{hs:List (Str×Int)}(nd:(hs.map (·.1)).Nodup){e:Str×Int}(h:e∈hs):valV (hs.map fun e=>((Sum.inr e.1:Key),V.int e.2)) (Sum.inr e.1)=some (.int e.2):=by
 induction hs with
 |nil=>cases h
 | cons a t ih =>
  rw[Ql,Qr]at nd
  rw[Ql]
  rcases Qe.mp h with z | z
  ·subst z;exact zcb rfl
  ·rw [zbl]
   ·exact ih nd.2 z
   ·intro q
    exact nd.1 (by rw[Wo q];exact Qh.mpr ⟨e,z,rfl⟩)
def HAt.keep{H H':Hp}{u:Nc}{hs:List (Str×Int)}{xs:Nk}(h:HAt H u hs)(k:Keep xs H H')(hu:u∉xs):HAt H' u hs:=⟨k _ _ h.dc hu,h.nd⟩
def HAt.pot{H H':Hp}{u p:Nc}{b m:Int}{hs:List (Str×Int)}(r:HAt H u hs)(h:Pot H p b m)(k:Keep [p] H H'):HAt H' u hs :=
 r.keep k (by simpa using zg7 h r.dc)
def hueV(hs:List (Str×Int))(z:Str):V:=(valV (hs.map λe=>((Sum.inr e.1:Key),V.int e.2)) (Sum.inr z)).getD .non
def hueV_is(hs:List (Str×Int))(z:Str):hueV hs z=.non∨∃v,hueV hs z=.int v:=by
 unfold hueV
 induction hs with
 |nil=>exact .inl rfl
 |cons a t ih =>
  rw[Ql]
  by_cases h:a.1=z
  ·rw[h,zcb rfl];exact .inr ⟨_,rfl⟩
  ·rw[zbl (λq=>h (Wo q))];exact ih
def flat_hues(hs:List (Str×Int))(zs:Nf):(zs.map (hueV hs)).all zdp=true:=by
 rw[Uv]
 intro v hv
 obtain⟨z,_,rfl⟩:=Qh.mp hv
 rcases hueV_is hs z with h | ⟨n,h⟩<;>rw[h]<;>rfl
def HAt.new{H:Hp}{u:Nc}{hs:List (Str×Int)}(h:HAt H u hs){x:Str}(v:Int)(hx:x∉hs.map (·.1)):HAt (upd H u (.dK (putK (hs.map λe=>((Sum.inr e.1:Key),V.int e.2)) (Sum.inr x) (.int v)))) u (hs++[(x,v)]):=by
 refine⟨by rw[zac,zee _ (valH_out hx),Qp];rfl,?_⟩
 rw[Qp,Za]
 refine⟨h.nd,Qr.mpr ⟨by simp,Zh⟩,λy hy z hz e=>?_⟩
 have c7:z=x:=by simpa using hz
 exact hx (by rw[←c7,←e];exact hy)
inductive IspHues(vs:List V)(H:Hp)(Q:VK):Prop
 |mk (p d:Nc) (b m:Int) (es:List Ent) (h0:vs=[.ref d,.ref p]) (h1:Pot H p b m) (h2:Dr H d es)
  (h5:∀(t u l:Nc) (hs:List (Str×Int)) (ns:List Int) (b' m':Int) (H':Hp),H' t=some (.tup [.ref u,.ref l])→HAt H' u hs→(∀h∈hs,h.1∈es.map (·.1)∧0≤h.2)→hs.length≤40→H' l=some (.lst (ns.map V.int))→(∀n∈ns,0≤n)→ns.length≤7→Pot H' p b' m'→H u=none→H l=none→Keep [p] H H'→Q (.ref t) H'):IspHues vs H Q
def spHues:Sp:=λvs H Q _=>IspHues vs H Q
abbrev csHa:Scope:=scOf (eOf (bAt (sAt zgu 3) 0))
def csHa_k:csHa.kind=.function:=by rfl
def csHa_c:∀y∈csHa.names,y.2≠.cell:=by decide +kernel
def csHa_n:∀y∈csHa.names,y.2=.local→csHa.names.lookup y.1=some .local:=by decide +kernel
def csHa_f:∀y∈csHa.names,y.2=.free→(zag zgu).names.lookup y.1=some .cell∨(zag zgu).names.lookup y.1=some .free:=by decide +kernel
def csHa_l:csHa.names.lookup ("_law_found" : Str)=some NameKind.free:=by decide +kernel
def ndHa:(["_law_other", "_law_found"]:List Str).Nodup:=by decide +kernel
abbrev csHb:Scope:=scOf (eOf (bAt (sAt zgu 3) 1))
def csHb_k:csHb.kind=.function:=by rfl
def csHb_c:∀y∈csHb.names,y.2≠.cell:=by decide +kernel
def csHb_n:∀y∈csHb.names,y.2=.local→csHb.names.lookup y.1=some .local:=by decide +kernel
def csHb_f:∀y∈csHb.names,y.2=.free→(zag zgu).names.lookup y.1=some .cell∨(zag zgu).names.lookup y.1=some .free:=by decide +kernel
def csHb_l:csHb.names.lookup ("_law_had" : Str)=some NameKind.free:=by decide +kernel
def ndHb:(["_law_hue", "_law_had"]:List Str).Nodup:=by decide +kernel
section
variable{P:Nj}{w:Nl}{K:Nb}{mg:Ng}{base:Nm}
def zfx:zau ["_law_rounds_here", "_law_pot_here", "_law_sorts", "_law_found", "_law_way", "_law_place", "_law_had", "_law_free"] ["_law_rounds_here", "_law_pot_here"] (zag zgu):=⟨rfl,rfl,rfl,by decide +kernel,rfl,by decide +kernel,by decide +kernel⟩
def ok_hues{f ft:Nc}{fd fdt:No}(F:Fun K "_law_hues" "_law_hues" zgu f fd)(FT:Fun K "_law_draw" "_law_draw" zgw ft fdt)(bT:Binds K fdt ["_law_pot_here", "_law_many"] [])(mT:mg "_law_draw" = some (.ref ft))(GT:FnOk P w K mg base CX0 1 ft fdt ["_law_pot_here", "_law_many"] ze4)(af:mg "len" = none)(hint:mg "int" = none):FnOk P w K mg base CX0 2 f fd ["_law_rounds_here", "_law_pot_here"] spHues:=by
 refine F.ok zfx (λvs H Q E h=>?_) (λcdv A outer s H vs Q E hr h=>?_)
 ·obtain ⟨p,d,b,m,es,rfl,_⟩:=h
  rfl
 ·obtain ⟨p,d,b,m,es,rfl,hp,D0,k⟩:=h
  have R:=D0.rn.toRAt
  have hu:=zb5 hr
  have gy:=Jg hu
  have aL:sizeLine=16777216:=sizeLine_eq
  refine⟨_,zae (zak (i:=2) zfx.nd rfl (Or.inl rfl) (zcr zc7 (zbc (zab zai (zab zai (zab zai (zab zai
     (zab (zaw ze8 (zaw op_pow zai zai) (zaj GT hr rfl mT FT.kp bT .nil zav (zab (pv 1) (zab zai zaf))))
     (zab (zaw zbv zai (zaj GT hr rfl mT FT.kp bT .nil zav (zab (pv 1) (zab zai zaf)))) zaf))))))) zd1
     (zcx (zaw zbv zai (zaj GT hr rfl mT FT.kp bT .nil zav (zab (pv 1) (zab zai zaf)))))))
   (zae (zak (i:=3) zfx.nd rfl (Or.inr rfl) pe_dnewK)
   (zae (zak (i:=4) zfx.nd rfl (Or.inl rfl) (zaj GT hr rfl mT FT.kp bT .nil zav (zab (pv 1) (zab zai zaf))))
   (zae (zew (zbn Zo rfl (zex (pv 0)) (zal (i:=5) zfx.nd rfl (Or.inl rfl))
    (zae (zak (i:=6) zfx.nd rfl (Or.inr rfl) (zh4 (M:=["_law_other", "_law_found"]) (ix:=[none,some 3]) ⟨csHa_k,csHa_c,csHa_n,csHa_f,rfl,ndHa,λj i x h1 h2=>by
       match j,h1,h2 with
       |0,_,h2=>cases h2
       |1,h1,h2=>cases h1;cases h2;exact⟨rfl,csHa_l⟩
       |n+2,h1,_=>cases h1⟩ rfl (za9 (zaz hu (pv 0) (pv 5) (λ_ _=>rfl))) (λC a7 ex s H=>zal (i:=0) ndHa rfl (Or.inl rfl) (Or.inr rfl))
       (λC a7 ex s H=>zct) (λC a7 ex s H=>pe_dget1 (by exact hu) (pv 1) (pv 0) ⟨rfl,rfl,rfl,rfl⟩)))
    (zae (ps_lc (i:=7) (M:=["_law_hue", "_law_had"]) (ix:=[none,some 6]) zfx.nd rfl rfl ⟨csHb_k,csHb_c,csHb_n,csHb_f,rfl,ndHb,λj i x h1 h2=>by
       match j,h1,h2 with
       |0,_,h2=>cases h2
       |1,h1,h2=>cases h1;cases h2;exact⟨rfl,csHb_l⟩
       |n+2,h1,_=>cases h1⟩ rfl (za9 (pv 2)) (λC a7 ex s H=>zal (i:=0) ndHb rfl (Or.inl rfl) (Or.inr rfl))
       (λC a7 ex s H=>zdz (zar (zh6 (K:=K) rfl) (pv 0) (pv 1) rfl)) (λC a7 ex s H=>pv 0) rfl)
    (zah (zbs (PW.pt (zg6 (zar (zf1 gy) (pv 7) (zbc zaf) (zbd _)) (zev (PW.pt (pw_or (zar op_eq (pv 4) zai (zbd _)) (pw_or1 (zar op_gt (zaj GT hr rfl mT FT.kp bT .nil zav (zab (pv 1) (zab zai zaf))) zai (zbd _))))))))
     (zah (zcu hu (pv 3) (pv 5) (za1 zap (pv 7) (zaw zf3 (zaj GT hr rfl mT FT.kp bT .nil zav (zab (pv 1) (zab (zam zas (by rfl) af Zv (zab (pv 7) zaf)) zaf)))
      (zbo call_int1 (by rfl) hint PyProof.Rows.boot_int (zab (pe_cmpR op_gt (pv 4) zai (zbd _)) zaf))) (λ_ _=>rfl)) rfl)) zay))))))
   (zah (zbm (ze7 (zab (pv 3) (zab (zaw zds (pv 2) (zbc (zab (zaw op_pow zai zai) zaf))) zaf)))))))),?_⟩
  have aD:(es.map (·.1)).Nodup:=R.nd
  refine⟨_,_,rfl,rfl,⟨by decide,by decide,by decide⟩,_,rfl,p,b,m,9,rfl,hp,by decide,by decide,λd1 b1 m1 H1 iG lw aR kp1=>?_⟩
  have k1:=zbg kp1
  refine⟨_,_,rfl,rfl,_,rfl,p,b1,m1,99,rfl,aR,by decide,by decide,λd2 b2 m2 H2 h20 h21 av jt=>?_⟩
  have k2:=k1.trans (zbg jt)
  refine⟨_,_,rfl,rfl,(by show 6≤sizeLine;decide),λq hq=>?_⟩
  have hqp:q≠p:=Zb (zaa av.1 hq)
  refine⟨_,rfl,p,b2,m2,5,rfl,av.keep (xs:=[]) (Keep.new hq) (by simp),by decide,by decide,λd3 b3 m3 H3 lv pR ay fe=>?_⟩
  have k3:Keep [p] H H3:=(k2.trans (Keep.new hq)).trans (zbg fe)
  have hq3:=fe _ _ zac hqp
  obtain⟨j3,rfl⟩:=Zy lv
  refine⟨_,_,rfl,rfl,_,rfl,q,_,rfl,SqL.of hq3,λso iR=>?_⟩
  have e6:cutV [V.int 0,V.int 1,V.int 2,V.int 3,V.int (10 ^ (9:Int).toNat-d1),V.int (4+d2)] none (some (2+(j3:Int)))=([0,1,2,3,10 ^ (9:Int).toNat-d1,4+d2].take (2+j3)).map V.int:=by
   rw[show(2:Int)+(j3:Int)=((2+j3:Nat):Int) by omega,cut_to (by show 2+j3≤6;omega),Uh];rfl
  rw[e6]
  have dm:∀n∈[0,1,2,3,10 ^ (9:Int).toNat-d1,4+d2].take (2+j3),(0:Int)≤n:=λn hn=>by
   have e9:(10:Int) ^ (9:Int).toNat=1000000000:=by decide
   have:=Us hn
   simp at this
   rcases this with z | z | z | z | z | z<;>omega
  have rV:([0,1,2,3,10 ^ (9:Int).toNat-d1,4+d2].take (2+j3)).length≤6:=by rw[Zj];exact Nat.min_le_right _ _
  generalize[0,1,2,3,10 ^ (9:Int).toNat-d1,4+d2].take (2+j3)=ns at dm rV
  have k4:Keep [p] H (upd H3 so (.lst (ns.map V.int))):=k3.trans (Keep.new iR)
  have jC:(upd H3 so (.lst (ns.map V.int))) so=some (.lst (ns.map V.int)):=zac
  have ca:Pot (upd H3 so (.lst (ns.map V.int))) p b3 m3:=ay.keep (xs:=[]) (Keep.new iR) (by simp)
  have nsop:so≠p:=Zb (zaa ay.1 iR)
  generalize upd H3 so (.lst (ns.map V.int))=H4 at k4 jC ca
  refine λu lS=>?_
  have npu:p≠u:=zaa ca.1 lS
  have nsu:so≠u:=zaa jC lS
  have k5:Keep [p] H (upd H4 u (.dK [])):=k4.trans (Keep.new lS)
  have bp:Pot (upd H4 u (.dK [])) p b3 m3:=ca.keep (xs:=[]) (Keep.new lS) (by simp)
  have l':(upd H4 u (.dK [])) so=some (.lst (ns.map V.int)):=by rw[zad nsu];exact jC
  have l0:HAt (upd H4 u (.dK [])) u []:=⟨zac,Zh⟩
  have sG:H u=none:=zan k4 lS (by simpa using Zb npu)
  generalize upd H4 u (.dK [])=H5 at k5 bp l' l0
  refine⟨_,rfl,p,b3,m3,3,rfl,bp,by decide,by decide,λway b6 m6 H6 lu oo eJ dL=>?_⟩
  have gr:=zbg dL
  have k6:Keep [p] H H6:=k5.trans gr
  have dO:=gr _ _ l' (by simpa using nsop)
  have gw:=l0.pot bp gr
  have R6:RAt H6 d es:=R.pot hp k6
  have ndu:d≠u:=zaa R.dc sG
  have npd:p≠d:=Zb (zg7 hp R.dc)
  have nfz:∀o' u',H d≠some (.frz o' u'):=λo' u' z=>by rw[R.dc]at z;cases z
  have nsd:so≠d:=za5 dO R6.dc (by intro z;cases z)
  refine⟨_,rfl,d,_,rfl,R6.dc,λo=>zfn (λi σ H'=>Aj4 (Ex3 λx5 x6 x7=>σ=[some (.ref d),some (.ref p),some (.ref so),some (.ref u),some (.int way),x5,x6,x7]) (H' d=some (.frz o (.dK (es.map λe=>((Sum.inr e.1:Key),V.ref e.2.2))))) (Keep [p,d,u] H6 H') (Ex3 λ(hs:List (Str×Int)) (b' m':Int)=>Aj4 (HAt H' u hs) (∀h∈hs,h.1∈(es.take i).map (·.1)∧0≤h.2) (hs.length≤i) (Pot H' p b' m')))
   ⟨⟨_,_,_,rfl⟩,zac,Keep.wr (by simp),[],b6,m6,gw.keep (xs:=[d]) (Keep.wr (by simp)) (by simpa using Zb ndu),λh hh=>(by cases hh),Qi _,eJ.keep (xs:=[d]) (Keep.wr (by simp)) (by simpa using npd)⟩ (λi σ H' _ hh=>hh.2) ?_ ?_⟩
  ·rintro i pr σ H7 dj ⟨⟨x5,x6,x7,rfl⟩,hz,k7,hs,b7,m7,iQ,g9,pE,i9⟩
   have hi:i<es.length:=by
    have:=(Qw.mp dj).1
    rwa[Qa]at this
   have g1:pr=((Sum.inr es[i].1:Key),V.ref es[i].2.2):=by
    rw[Qs,Qd hi]at dj
    exact(Qk dj).symm
   subst g1
   have bg:es[i]∈es:=Qz hi
   have tk:es.take (i+1)=es.take i++[es[i]]:=Qm hi
   have em:es[i].1∉hs.map (·.1):=λz=>by
    obtain⟨h,hh,e⟩:=Qh.mp z
    have:=(g9 h hh).1
    rw[show h.1=es[i].1 from e]at this
    have eZ:((es.take (i+1)).map (·.1)).Nodup:=Ys ((Ul _ _).map _) aD
    rw[tk,Qp,Za]at eZ
    exact eZ.2.2 _ this _ (by simp) rfl
   have ba:=D0.few
   generalize es[i]=e at bg tk em
   have rG:=D0.row _ bg
   have hW:=R6.ro _ bg
   have mh:=k7 _ _ hW (by
    simp
    exact⟨zb3 eJ hW,za5 hW R6.dc (by intro z;cases z),za5 hW gw.dc (by intro z;cases z)⟩)
   have rh:=k7 _ _ dO (by simp;exact⟨nsop,nsd,nsu⟩)
   refine⟨_,rfl,.str e.1,rfl,d,.ref e.2.2,rfl,.inl ⟨_,Sum.inr e.1,.inr ⟨o,hz⟩,rfl,(zbu aD bg).symm⟩,e.2.2,rfl,⟨_,SqL.of mh⟩,lc_map (xs:=e.2.1.map V.str) (λ τ=>∃x0,τ=[x0,some (.ref u)]) (λx=>match x with | .str z=>hueV hs z | v=>v) (SqL.of mh) (by rw[Qa];omega) ⟨none,rfl⟩ ?_ (λha hha=>?_)⟩
   ·rintro x hx τ ⟨x0,rfl⟩ kk hk
    obtain⟨z,hz,rfl⟩:=Qh.mp hx
    exact⟨_,rfl,u,rfl,.inl ⟨_,.inl iQ.dc⟩,_,rfl,_,DGet.k (k:=Sum.inr z) iQ.dc,hk _ ⟨_,rfl⟩⟩
   ·have emap:(e.2.1.map V.str).map (fun x=>match x with | .str z=>hueV hs z | v=>v)=e.2.1.map (hueV hs):=by rw [Zi];rfl
    rw[emap]
    have k8:Keep [] H7 (upd H7 ha (.lst (e.2.1.map (hueV hs)))):=Keep.new hha
    have nh:(upd H7 ha (.lst (e.2.1.map (hueV hs)))) ha=some (.lst (e.2.1.map (hueV hs))):=zac
    generalize upd H7 ha (.lst (e.2.1.map (hueV hs)))=H8 at k8 nh
    have cH:=k8 _ _ rh (by simp)
    refine⟨_,rfl,so,rfl,⟨_,SqL.of cH⟩,zgb (xs:=ns.map V.int) (λ τ=>∃x0,τ=[x0,some (.ref ha)]) (λx=>!inV x (e.2.1.map (hueV hs))) (SqL.of cH) (by rw[Qa];omega) ⟨none,rfl⟩ ?_ (λfr eM=>?_)⟩
    ·rintro x hx τ ⟨x0,rfl⟩ qF k0' h1' jf
     obtain⟨n,hn,rfl⟩:=Qh.mp hx
     refine⟨_,rfl,_,rfl,ha,_,rfl,.inl (SqL.of nh),rfl,flat_hues _ _,_,rfl,?_⟩
     cases hb:inV (.int n) (e.2.1.map (hueV hs)) with
     |true=>exact iteF (jf (by rw[hb];rfl) _ ⟨_,rfl⟩)
     |false=>exact iteT ⟨_,rfl,h1' (by rw[hb];rfl) _ ⟨_,rfl⟩⟩
    ·have im:∀ v∈(ns.map V.int).filter fun x=>!inV x (e.2.1.map (hueV hs)),∃ n:Int,v=.int n∧0≤n:=fun v hv=>by
      obtain⟨n,hn,rfl⟩:=Qh.mp (Ze.mp hv).1
      exact⟨n,rfl,dm n hn⟩
     have eO:((ns.map V.int).filter λx=>!inV x (e.2.1.map (hueV hs))).length≤6:=Zn (Jl _ _) (by rw[Qa];exact rV)
     generalize(ns.map V.int).filter (λx=>!inV x (e.2.1.map (hueV hs)))=fs at im eO
     have k9:Keep [] H7 (upd H8 fr (.lst fs)):=k8.trans (Keep.new eM)
     have il:(upd H8 fr (.lst fs)) fr=some (.lst fs):=zac
     have nfp:fr≠p:=Zb (zaa (i9.keep k8 (by simp)).1 eM)
     generalize upd H8 fr (.lst fs)=H9 at k9 il
     refine⟨_,rfl,(by show 0≤sizeLine;decide),λq2 cO=>?_⟩
     have nfq:fr≠q2:=zaa il cO
     refine⟨fr,q2,_,rfl,rfl,SqL.of (by rw[zad nfq];exact il),SqL.of zac,_,rfl,?_⟩
     have dz:Keep [] H7 (upd H9 q2 (.lst [])):=k9.trans (Keep.new cO)
     have iZ:(upd H9 q2 (.lst [])) fr=some (.lst fs):=by rw[zad nfq];exact il
     generalize upd H9 q2 (.lst [])=cZ at dz iZ
     have mv:=i9.keep dz (by simp)
     have stop:∀(b' m':Int) (H':Hp),Pot H' p b' m'→Keep [p] H7 H'→Aj4 (Ex3 λx5 x6 x7=>[some (V.ref d),some (.ref p),some (.ref so),some (.ref u),some (.int way),some (.str e.1),some (.ref ha),some (.ref fr)]=[some (V.ref d),some (.ref p),some (.ref so),some (.ref u),some (.int way),x5,x6,x7]) (H' d=some (.frz o (.dK (es.map λe=>((Sum.inr e.1:Key),V.ref e.2.2))))) (Keep [p,d,u] H6 H') (Ex3 λ(hs:List (Str×Int)) (b' m':Int)=>Aj4 (HAt H' u hs) (∀h∈hs,h.1∈(es.take (i+1)).map (·.1)∧0≤h.2) (hs.length≤i+1) (Pot H' p b' m')):=λb' m' H' dF k' =>
      ⟨⟨_,_,_,rfl⟩,k' _ _ hz (by simpa using Zb npd),k7.trans (k'.sub (by simp)),hs,b',m',iQ.keep k' (by simpa using Zb npu),λh hh=>⟨by rw[tk,Qp];exact Qn _ (g9 h hh).1,(g9 h hh).2⟩,by omega,dF⟩
     by_cases ny:fs=[]
     ·subst ny
      exact iteF (stop b7 m7 cZ mv (dz.sub (by simp)))
     ·have gG:fs.isEmpty=false:=by
       cases fs with
       |nil=>exact absurd rfl ny
       |cons _ _=>rfl
      rw[if_pos rfl,gG]
      refine iteT ?_
      have tq:0<fs.length:=Ws.mpr ny
      refine tOr_all (λH'=>Ex2 λb' m'=>Aj3 (Pot H' p b' m') (Keep [p] H7 H') (H' fr=some (.lst fs))) ⟨b7,m7,mv,dz.sub (by simp),iZ⟩ (λH' hI kk hk=>⟨_,rfl,rfl,_,rfl,hk _ _ hI⟩) (λH' hI kk hk=>?_) (λc H' hI=>?_)
      ·obtain ⟨b',m',dF,k',pF⟩:=hI
       exact⟨_,rfl,p,b',m',6,rfl,dF,by decide,by decide,λj b2 m2 H2 _ _ av jt=>⟨_,_,rfl,rfl,_,rfl,hk _ _ ⟨b2,m2,av,k'.trans (zbg jt),jt _ _ pF nfp⟩⟩⟩
      ·obtain ⟨b',m',dF,k',pF⟩:=hI
       cases c with
       |false=>exact iteF (stop b' m' H' dF k')
       | true =>
        refine iteT ⟨_,rfl,_,rfl,_,rfl,fr,fs,rfl,.inl (SqL.of pF),p,b',m',(fs.length:Int),rfl,dF,by omega,by omega,λj b2 m2 H2 ij ig av jt=>?_⟩
        have k2:Keep [p] H7 H2:=k'.trans (zbg jt)
        have gF:=jt _ _ pF nfp
        obtain⟨jn,pA,ejn⟩:∃jn:Nat,jn<fs.length∧j*(if decide (way>0)=true then 1 else 0)=(jn:Int):=by
         obtain⟨j',rfl⟩:=Zy ij
         by_cases hw:way>0
         ·exact⟨j',by omega,by simp[hw]⟩
         ·exact⟨0,tq,by simp[hw]⟩
        obtain⟨v,hv,hv0⟩:=im fs[jn] (Qz pA)
        have iw:atI fs (j*(if decide (way>0)=true then 1 else 0))=some (.int v):=by
         rw[ejn];exact zaq (by rw[Qd pA,hv])
        have hu2:HAt H2 u hs:=iQ.keep k2 (by simpa using Zb npu)
        have sx:hs.length<sizeLine:=by omega
        refine⟨_,rfl,_,_,rfl,rfl,.inr ⟨_,rfl,_,_,rfl,rfl,.inr ⟨by split<;>decide,by split<;>decide⟩,fr,fs,_,.int v,rfl,rfl,SqL.of gF,iw,_,rfl,_,rfl,u,_,rfl,DPut.k (k:=Sum.inr e.1) hu2.dc (by rw[Qa];exact sx),?_⟩⟩
        have hu3:=hu2.new v em
        refine⟨⟨_,_,_,rfl⟩,by rw[zad ndu];exact k2 _ _ hz (by simpa using Zb npd),(k7.trans (k2.sub (by simp))).trans (Keep.wr (by simp)),hs++[(e.1,v)],b2,m2,hu3,λh hh=>?_,by rw[Qq];exact Nat.succ_le_succ pE,av.keep (xs:=[u]) (Keep.wr (by simp)) (by simpa using npu)⟩
        rw[tk,Qp]
        rcases Qf.mp hh with z | z
        ·exact⟨Qn _ (g9 h z).1,(g9 h z).2⟩
        ·rw [Qb.mp z]
         exact⟨Qo _ (Qb.mpr rfl),hv0⟩
  ·rintro σ H7 ⟨⟨x5,x6,x7,rfl⟩,hz,k7,hs,b7,m7,iQ,g9,pE,i9⟩
   rw[Qa]at g9 pE
   rw[Qv (Qi _)]at g9
   refine⟨d,o,_,hz,nfz,?_⟩
   have kf:Keep [p,u] H6 (upd H7 d (.dK (es.map λe=>((Sum.inr e.1:Key),V.ref e.2.2)))):=λc w' ec hc=>by
    by_cases aB:c=d
    ·subst aB
     rw[zac,←R6.dc];exact ec
    ·rw [zad aB]
     refine k7 c w' ec ?_
     simp only[Qe,Wd,or_false,not_or]at hc ⊢
     exact⟨hc.1,aB,hc.2⟩
   have iW:Pot (upd H7 d (.dK (es.map λe=>((Sum.inr e.1:Key),V.ref e.2.2)))) p b7 m7:=i9.keep (xs:=[d]) (Keep.wr (by simp)) (by simpa using npd)
   have lR:HAt (upd H7 d (.dK (es.map λe=>((Sum.inr e.1:Key),V.ref e.2.2)))) u hs:=iQ.keep (xs:=[d]) (Keep.wr (by simp)) (by simpa using Zb ndu)
   generalize upd H7 d (.dK (es.map λe=>((Sum.inr e.1:Key),V.ref e.2.2)))=H8 at kf iW lR
   have cH:=kf _ _ dO (by simp;exact⟨nsop,nsu⟩)
   refine⟨_,rfl,_,rfl,_,_,rfl,rfl,⟨by decide,by decide,by decide⟩,(by show 1≤sizeLine;decide),λq1 eF=>?_⟩
   refine⟨so,q1,_,_,rfl,rfl,by rw[zad (zaa cH eF)];exact cH,zac,by rw[Qa];show ns.length+1≤sizeLine;omega,λl hl=>?_⟩
   have el:ns.map V.int++[V.int (10 ^ (8:Int).toNat)]=(ns++[10 ^ (8:Int).toNat]).map V.int:=by rw[Qp];rfl
   rw[el]
   refine⟨(by show 2≤sizeLine;decide),λt ht=>?_⟩
   have k9:Keep [] H8 (upd (upd (upd H8 q1 (.lst [V.int (10 ^ (8:Int).toNat)])) l (.lst ((ns++[10 ^ (8:Int).toNat]).map V.int))) t (.tup [.ref u,.ref l])):=((Keep.new eF).trans (Keep.new hl)).trans (Keep.new ht)
   have nlt:l≠t:=zaa zac ht
   have hd9:es.length≤40:=D0.few
   refine k t u l hs (ns++[10 ^ (8:Int).toNat]) b7 m7 _ zac (lR.keep k9 (by simp)) g9 (by omega) (by rw[zad nlt];exact zac) (λn hn=>?_) (by rw[Qq];show ns.length+1≤7;omega) (iW.keep k9 (by simp)) sG ?_ ?_
   ·rcases Qf.mp hn with z | z
    ·exact dm n z
    ·rw[Qb.mp z];decide
   ·have nlp:l≠p:=Zb (zaa (iW.keep (xs:=[]) (Keep.new eF) (by simp)).1 hl)
    have nlu:l≠u:=Zb (zaa ((lR.keep (xs:=[]) (Keep.new eF) (by simp)).dc) hl)
    refine zan (xs:=[p,u]) ((k6.sub (by simp)).trans (kf.trans (Keep.new eF))) hl (by simp;exact⟨nlp,nlu⟩)
   ·intro c w' ec hc
    have kk:Keep [p,u] H _:=(k6.sub (by simp)).trans (kf.trans (k9.sub (by simp)))
    exact kk c w' ec (by simp at hc ⊢;exact⟨hc,zaa ec sG⟩)
end
end K21
end
section
namespace L2
open PySem PySem.Spec PyProof.Rows
section
variable{X:Cx}{a7:Nd}{σ:St}{H:Hp}{s:Nh}
end
section
variable{prog:Nj}{w:Nl}{A:Nn}{E:Na}{s:Nh}
def rev_no_len:typeLookup (.type "list_reverseiterator") "__len__" = pure none:=by rw[typeLookup_type,builtinLookup_eq_fast];kernel_rfl
def rev_hint:typeLookup (.type "list_reverseiterator") "__length_hint__" = pure (some (.builtin "list_reverseiterator.__length_hint__")):=by rw[typeLookup_type,builtinLookup_eq_fast];kernel_rfl
def hint_rev{r:Nc}{Q:Bool→Shared→Prop}(hT:s.TypeIs (.ref r) "list_reverseiterator")(h:Q false s):wpAny (model prog w) A (Builtin.List.listLengthHint (.ref r)) Q E s:=by
 unfold Builtin.List.listLengthHint
 refine wpAny_bind (wpAny_specialOf hT rev_no_len ?_)
 show wpAny _ A (specialOf (Value.ref r) (Str.ofString "__length_hint__") >>= _) _ _ _
 refine wpAny_bind (wpAny_specialOf hT rev_hint ?_)
 generalize hid:("list_reverseiterator.__length_hint__" : String)=id0
 wp_delta
 rw[show splitId id0=some ("list_reverseiterator", "__length_hint__") from by subst hid;decide +kernel]
 subst hid
 refine wpAny_bind (wpAny_isInstance (T := "list_reverseiterator") (b:=true) hT (by rw[isSubtype_type];kernel_rfl) ?_)
 refine wpAny_ite_split (λgN=>absurd gN (by decide)) (λ_=>?_)
 refine wpAny_ite_split (λ_=>?_) (λgN=>absurd (by decide +kernel) gN)
 refine wpAny_ite_split (λgN=>absurd gN (by decide)) (λ_=>?_)
 exact wpAny_pure h
def zir{I l:Nc}{items:Array Value}{Q:Na}(hh:A.handled=none)(hit:s.heap.IsRevIter I l ((items.size:Int)-1))(hl:s.heap.IsList l items)(az:l≠I)(hn:items.size≤sizeLine)(hQ:∀h' tk ai c',(∀b o,b≠I→s.heap.get? b=some o→h'.get? b=some o)→h'.get? s.heap.objs.size=some {cls:=.type "list",dict:=none,data:=.seq ai c',slots:=#[]}→ItemsOf (λi v=>items[items.size-1-i]?=some v) ai items.size→Q (.ref s.heap.objs.size) {s with heap:=h',toks:=tk}) :
  wpAny (model prog w) A (call (.type "list") [.ref I]) Q E s:=by
 have W:=Walks.listRev (prog:=prog) (w:=w) (A:=A.in1.in1) hh I l az items
 refine callType_codes (Q₁:=λobj s₁=>obj=.ref s.heap.objs.size∧s₁={s with heap:=s.heap.push {cls:=.type "list",data:=.seq #[]}}) PySem.F.called_list (PySem.F.typeCall_list_1 _) PySem.F.entry_list_init
  (code_list_new _ ⟨rfl,rfl⟩) λobj s₁ h₁=>?_
 obtain⟨rfl,rfl⟩:=h₁
 have hS:(s.heap.push {cls:=.type "list",data:=.seq #[]}).get? s.heap.objs.size=some {cls:=.type "list",data:=.seq #[]}:=Zd _ rfl
 have hSI:s.heap.objs.size≠I:=by obtain⟨o,e,_⟩:=hit;exact Yc (Qt e)
 have hSl:s.heap.objs.size≠l:=by obtain⟨o,e,_⟩:=hl;exact Yc (Qt e)
 have lr:s.heap.objs.size∉[I,l]:=by simp;exact⟨hSI,hSl⟩
 refine⟨⟨_,hS,rfl⟩,PySem.F.args_list_init_2 _ _,?_⟩
 show wpAny _ _ (do let old ←Builtin.List.listItems (.ref s.heap.objs.size);Builtin.List.listUpdate (.ref s.heap.objs.size) (λ_=>#[]);letGo old.toList.reverse;Builtin.List.listExtendWith (.ref s.heap.objs.size) (.ref I) .none) _ _ _
 refine wpAny_bind ?_
 unfold Builtin.List.listItems
 refine wpAny_bind (wpAny_seqItems hS rfl (wpAny_pure ?_))
 show wpAny _ _ (updateSeq s.heap.objs.size (λ_=>#[]) >>= λ_=>letGo (#[]:Array Value).toList.reverse >>= λ_=>Builtin.List.listExtendWith (.ref s.heap.objs.size) (.ref I) .none) _ _ _
 refine wpAny_bind (wpAny_updateSeq hS rfl ?_)
 have hS₂:=Jz (Obj.mapSeq (λ_=>(#[]:Array Value))) hS rfl
 have oth:∀b o,s.heap.get? b=some o→((s.heap.push {cls:=.type "list",data:=.seq #[]}).update s.heap.objs.size (Obj.mapSeq (λ_=>(#[]:Array Value)))).get? b=some o :=
  λb o e=>(Ue _ _ (Yc (Qt e))).trans (Qj _ e)
 refine wpAny_bind (wpAny_letGo ?_)
 generalize(s.heap.push {cls:=.type "list",data:=.seq #[]}).update s.heap.objs.size (Obj.mapSeq (λ_=>(#[]:Array Value)))=h2 at hS₂ oth
 have ik:h2.IsRevIter I l ((items.size:Int)-1):=hit.at λo e=>oth I o e
 have aj:h2.IsList l items:=hl.at λo e=>oth l o e
 unfold Builtin.List.listExtendWith
 refine wpAny_bind (wpAny_typeOf (T := "list_reverseiterator") ik.typeIs ?_)
 have h1:Builtin.List.listSameRef (.ref s.heap.objs.size) (.ref I)=false:=by simp[Builtin.List.listSameRef,hSI]
 have e1:(Value.type "list_reverseiterator" == Value.type "list")=false:=by decide
 have e2:(Value.type "list_reverseiterator" == Value.type "tuple")=false:=by decide
 simp only[h1,e1,e2,Bool.or_false,Je,if_false]
 refine wpAny_bind (wpAny_pyIter_revIter ik ?_)
 refine wpAny_bind (wpAny_holding (hint_rev ik.typeIs ?_))
 refine wpAny_ite_split (λgN=>absurd gN (by decide)) (λ_=>?_)
 refine wpAny_pure ⟨plainId_quiet PySem.F.plain_extend_loop _,codeAny_extend_loopS W.toS hn s.heap.objs.size lr .none items.size 0 _ #[] _ rfl (Zf _) ⟨Zf _,by simpa using ik,aj⟩ hS₂ (ItemsOf.nil _) λs' uw c' hm jc iE=>?_⟩
 rw[Moved.eq_with hm]
 refine⟨rfl,hQ s'.heap s'.toks uw c' (λb o hb e=>hm.heap b o (λhmem=>?_) (oth b o e)) jc iE⟩
 rcases Qe.mp hmem with e' | hmem
 ·exact absurd (Qt e) (by rw[e'];exact Yv _)
 ·exact hb (Qb.mp hmem)
end
section
variable{X:Cx}
def tRev(K:Nb)(t:TE):TE:=λ σ H Q=>t σ H λv H1=>Ex2 λl xs=>Aj3 (v=.ref l) (SqL K H1 l xs) (∀p,H1 p=none→Q (.ref p) (upd H1 p (.lst xs.reverse)))
def pe_rev{e:Expr}{t:TE}{p1 p2 q1 q2:Pos}(hc:X.calm=true)(hg:Gl X "list")(hm:X.mg "list" = none)(hg':Gl X "reversed")(si:X.mg "reversed" = none)(he:PE X e t)(h1:starEach [e] X.env=[(false,eval e X.env)]:=by rfl)(h2:starEach [.Call (.Name "reversed" p2) [e] [] q2] X.env=[(false,eval (.Call (.Name "reversed" p2) [e] [] q2) X.env)]:=by rfl) :
  PE X (.Call (.Name "list" p1) [.Call (.Name "reversed" p2) [e] [] q2] [] q1) (tRev X.K t):=by
 intro a7 s σ H Q I h
 refine Call_ (zdt I hg hm boot_list (Yq (rest:=[]) ?_ h2 rfl))
 rw[h2]
 show wpAny _ _ (spliced ((false,eval (.Call (.Name "reversed" p2) [e] [] q2) X.env)::[])) _ _ s
 refine Uo (Call_ (zdt I hg' si boot_reversed (Yq (rest:=[]) ?_ h1 rfl)))
 rw[h1]
 show wpAny _ _ (spliced ((false,eval e X.env)::[])) _ _ s
 refine Uo (thn (he a7 s σ H _ I h) λu s1 ⟨v,H1,I1,r1,l,xs,ev,hq,q⟩=>Js ?_)
 subst ev
 cases r1
 obtain⟨a8,rv,pl,hz⟩:=I1.list hq
 have af:=rv.length
 have hl:=pl.isList
 have lt:l<s1.heap.objs.size:=by obtain⟨o,z,_⟩:=hl;exact Qt z
 refine call_reversed_list hl (Js ?_)
 have hsz:(s1.heap.push (revObj l ((a8.toArray.size:Int)-1))).objs.size=s1.heap.objs.size+1:=Wt ..
 refine zir (s:={s1 with heap:=s1.heap.push (revObj l ((a8.toArray.size:Int)-1))}) (I:=s1.heap.objs.size) (l:=l) (items:=a8.toArray) (I1.ok.hd hc) ⟨_,Zd _ rfl,rfl,rfl⟩ (hl.at λo z=>Qj _ z) (Zc lt) (by simp;omega) λh' tk ai c' kp hn iE=>?_
 have kp':∀b o,s1.heap.get? b=some o→h'.get? b=some o:=λb o z=>kp b o (Zc (Qt z)) (Qj _ z)
 have hf:H1 (s1.heap.push (revObj l ((a8.toArray.size:Int)-1))).objs.size=none:=I1.hok.fresh (by rw[hsz];exact Uf _)
 have eacc:ai=a8.reverse.toArray:=by
  refine Array.ext (by simpa using iE.1) λi hi du=>?_
  have:=iE.2 i ai[i] (by simp[hi])
  have hil:i<a8.length:=by simpa using du
  simp only[List.getElem?_toArray,Qy]at this
  rw[Qd (by omega)]at this
  show ai[i]=a8.reverse[i]'(by simpa using du)
  rw[List.getElem_reverse]
  exact(Qk this).symm
 subst eacc
 exact⟨.ref _,_,I1.laid (t':=tk) kp' (by rw[hsz];exact Uf _) (show zbq X.prog X.w _ h' _ (.lst xs.reverse) from⟨by rw[List.length_reverse];exact hz,a8.reverse,c',rv.reverse,hn⟩),rfl,q _ hf⟩
end
def IteL(a:Nc)(K:Nb):It :=
 ⟨λi H=>∃xs,SqL K H a xs∧i<xs.length,λi H x H'=>∃y t,(∀xs,SqL K H a xs→xs[i]?=some y)∧H t=none∧x=.ref t∧H'=upd H t (.tup [.int i,y]),λi H=>∃xs,SqL K H a xs∧xs.length≤i⟩
theorem turn_enumL{P:Nj}{w:Nl}{K:Nb}{elts:Np}{kk:Nat}{pos:Pos}(a e j:Nc)(dW:e≠j)(gM:a≠j)(tR:e≠a) :
  Turn P w K (.Tuple elts kk pos) (IteL a K) [e,j] e (λi h=>(∃old,IsEnum h e j i old)∧h.IsListIter j a i) where
 mem:=by simp
 obj:=λi h st b hb=>by
  rcases Qe.mp hb with z | z
  ·subst z
   obtain⟨old,q⟩:=st.1
   exact⟨_,q,λv z=>by
    have z':Data.fields _=Data.cell v:=z
    cases z'⟩
  ·rw [Qb.mp z]
   obtain⟨o,q,c,d⟩:=st.2
   exact⟨o,q,λv z=>by rw[d]at z;cases z⟩
 keep:=λi h h' st k=>⟨let⟨old,q⟩:=st.1;⟨old,k e (by simp) _ q⟩,st.2.at λo q=>k j (by simp) o q⟩
 item:=by
  intro X hP hw hK hc i a7 s σ H E I hf st hg
  subst hP hw hK
  obtain⟨xs,hq,hi⟩:=hg
  obtain⟨a8,rv,p,hz⟩:=I.list hq
  have hl:=rv.length
  obtain⟨⟨old,he⟩,hit⟩:=st
  have hh:X.A.in1.handled=none:=I.ok.hd hc
  refine wpAny_pyNext_enum_itemD (Draws.list hh j a gM a8.toArray) he ⟨hit,p.isList⟩ (by simp;exact zar7 ‹_› ‹_›) dW (by simp[dW,tR]) λx g tk hP ho hs hT hsz hk=>⟨.ref s.heap.objs.size,rfl,?_⟩
  have fr:∀b,b∈[e,j]→FpOk X a7 H b:=hf
  obtain⟨e0,e1,e2,e3,e4,e5⟩:=hf e (by simp)
  obtain⟨j0,j1,j2,j3,j4,j5⟩:=hf j (by simp)
  have oj:∀b u,H b=some u→b≠e∧b≠j:=λb u q=>⟨λz=>(by rw[z,e0]at q;cases q),λz=>(by rw[z,j0]at q;cases q)⟩
  have I1:Inv X a7 σ H {s with heap:=g,toks:=tk+1}:=by
   refine I.step (g':=s.gens) (d':=s.drawn) (ch:=[e,j]) (λb hb=>?_) (λb o _ _ hc q _=>hk b o (λz=>hc (by simp[z])) (λz=>hc (by simp[z])) q) (λb o _ _ hc q _=>⟨o.slots,hk b o (λz=>hc (by simp[z])) (λz=>hc (by simp[z])) q⟩) (λ_ _ _ _ n=>n)
    (λb o hc q=>⟨o,hk b o (λz=>hc (by simp[z])) (λz=>hc (by simp[z])) q⟩) (λ_ _ q=>q) (λ_ _ _ q=>q) (λb ps q=>⟨#[],by rw[q];simp⟩) (λm hm=>?_) (λb u q=>?_) I.bare
   ·rcases Qe.mp hb with z | z
    ·subst z;exact⟨e3,e1,e4,e5⟩
    ·rw[Qb.mp z];exact⟨j3,j1,j4,j5⟩
   ·obtain ⟨o,es,ep,q,r⟩:=hm
    exact⟨o,es,ep,hk _ o (Zb e1) (Zb j1) q,r⟩
   ·refine (I.hok b u q).stay (fun c v hc z=>?_) (fun _ z=>z) fun _ _ z=>z
    have nP:c≠e∧c≠j:=by
     rcases hc with rfl | hc
     ·exact oj c u q
     ·exact oj c _ hc
    exact hk c v nP.1 nP.2 z
  obtain⟨y,hy⟩:∃y,xs[i]?=some y:=⟨xs[i],Qd hi⟩
  obtain⟨u,hu,ru⟩:=rv.get hy
  have og:a8[i]?=some x:=by simpa using hP
  rw[hu]at og
  have qS:u=x:=Qk og
  subst qS
  have hN:H s.heap.objs.size=none:=I.hok.fresh (Qi _)
  refine wpAny_letOwnedTupleGo_enum ho λg' aS aU=>?_
  have nT:s.heap.objs.size≠e:=Yc (Qt he)
  have nJ:s.heap.objs.size≠j:=by obtain⟨o,q,_⟩:=hit;exact Yc (Qt q)
  have I2:Inv X a7 σ H {s with heap:=g',toks:=tk+1}:=Inv.turned (s:={s with heap:=g,toks:=tk+1}) (t':=tk+1) (it:=e) I1 (λb o hb q=>(aU.2 b hb).trans q) e0 e1 e3 e4 e5
  have o8:g'.get? s.heap.objs.size=some {cls:=.type "tuple",data:=.seq #[.int i tk,u]}:=(aU.2 _ nT).trans hT
  have I3:Inv X a7 σ (upd H s.heap.objs.size (.tup [.int i,y])) {s with heap:=g',toks:=tk+1}:=by
   refine⟨I2.ok,I2.os,I2.bare,⟨I2.base.keep,I2.base.slot,λb o q n hx=>?_,I2.base.there,λb zs q=>?_,λb o v q=>?_,λb ps q=>?_⟩,I2.loc,I2.cell,?_,λz c q=>?_,λpp hp=>?_,λb v q=>?_,I2.len⟩
   ·have lt:b < s.heap.objs.size:=Zp (Qt q) I.sz
    rw[zad (Zc lt)];exact I2.base.free b o q n hx
   ·have:=I2.base.tups b zs q
    rw[zad (zaa this hN)];exact this
   ·have:=I2.base.frzs b o v q
    rw[zad (zaa this hN)];exact this
   ·obtain ⟨m,z⟩:=I2.base.tbls b ps q
    exact⟨m,by rw[zad (zaa z hN)];exact z⟩
   ·rw[zad (Zc I.lt)];exact I2.free
   ·rw[zad (Zc (I.cl_lt z c q))];exact I2.freeC z c q
   ·obtain ⟨h1,h2,h3⟩:=I2.pin pp hp
    exact⟨h1,by rw[zad (Zc (I.pin_lt pp hp))];exact h2,h3⟩
   ·by_cases hb:b=s.heap.objs.size
    ·subst hb
     rw[zac]at q
     cases q
     exact⟨by show 2≤sizeLine;decide,[.int i tk,u],.cons ⟨tk,rfl⟩ (.cons ru .nil),_,o8,rfl,_,rfl⟩
    ·rw [zad hb] at q
     exact(I2.hok b v q).stay (λc v _ z=>z) (λc z=>by rw[zad (zaa z hN)];exact z) λc zs z=>by rw[zad (zaa z hN)];exact z
  refine⟨.ref s.heap.objs.size,_,I3,rfl,⟨y,_,λys jw=>by rw[I.list_inj jw hq];exact hy,hN,rfl,rfl⟩,⟨⟨u,by simpa using aS⟩,?_⟩,λb hb=>?_⟩
  ·exact hs.1.at λo q=>(aU.2 j (Zb dW)).trans q
  ·rcases Qe.mp hb with z | z
   ·rw[z,zad (Zb nT)];exact e0
   ·rw[Qb.mp z,zad (Zb nJ)];exact j0
 done:=by
  intro X hP hw hK hc i a7 s σ H E I hf st hg
  subst hP hw hK
  obtain⟨xs,hq,hi⟩:=hg
  obtain⟨a8,rv,p,hz⟩:=I.list hq
  have hl:=rv.length
  obtain⟨⟨old,he⟩,hit⟩:=st
  obtain⟨j0,j1,j2,j3,j4,j5⟩:=hf j (by simp)
  have hh:X.A.in1.handled=none:=I.ok.hd hc
  have hT:s.TypeIs (.ref e) "enumerate" := ⟨_,he,rfl⟩
  unfold pyNext
  refine wpAny_bind (wpAny_attempt (wpAny_callSpecial?_slot (name:=Str.ofString "__next__") hT Ka (wpAny_call_entry Ka hT F.entry_enumerate_next ?_ (F.args_enumerate_next_1 _))))
  show wpAny _ _ (field (.ref e) 2 >>= _) _ _ _
  refine wpAny_bind (wpAny_field he rfl (x:=.ref j) rfl (wpAny_bind (wpAny_nextOf_list_end hh hit p.isList (by simp;exact zdw ‹_› ‹_›) λg x hg hx=>?_)))
  obtain⟨o,ho,hc⟩:=hx
  refine wpAny_bind (wpAny_isInstance (T := "StopIteration") (b:=true) ⟨o,ho,hc⟩ isSubtype_stop (wpAny_pure ⟨rfl,?_⟩))
  exact I.turned (t':=s.toks) (λb o hb q=>hg b o hb q) j0 j1 j3 j4 j5
 self:=λA i s Q E st h=>by
  obtain⟨⟨old,he⟩,_⟩:=st
  exact wpAny_pyIter_enum he h
section
variable{X:Cx}
def iEnumL(K:Nb)(ta:TA):TI:=λ σ H R=>ta σ H λvs H1=>∃a,vs=[.ref a]∧(∃xs,SqL K H1 a xs)∧R (IteL a K) H1
def pi_enumL{elts:Np}{kk:Nat}{tpos:Pos}{a:Expr}{ta:TA}{p pos:Pos}(hg:Gl X "enumerate")(hm:X.mg "enumerate" = none)(ha:PA X [a] ta)(hs:starEach [a] X.env=[(false,eval a X.env)]:=by rfl) :
  PI X (.Tuple elts kk tpos) (.Call (.Name "enumerate" p) [a] [] pos) (iEnumL X.K ta):=by
 intro a7 s σ H R I h
 refine Call_ (zdt I hg hm boot_enumerate (Yq (thn (ha pos a7 s σ H _ I h) λus s1 ⟨vs,H1,I1,r1,q1⟩=>?_) hs rfl))
 obtain⟨t,e,⟨xs,hq⟩,q⟩:=q1
 subst e
 obtain⟨u,rfl,ru⟩:=vals1 r1
 cases ru
 obtain⟨a8,rv,pl,hz⟩:=I1.list hq
 have lt:t<s1.heap.objs.size:=by obtain⟨o,q,_⟩:=pl.isList;exact Qt q
 refine call_enumerate_list pl.isList λg he hit hsz k=>wpAny_pyIter_enum he ?_
 have I2:Inv X a7 σ H1 {s1 with heap:=g}:=I1.kept (t':=s1.toks) k
 refine⟨s1.heap.objs.size+1,[s1.heap.objs.size+1,s1.heap.objs.size],_,_,H1,rfl,I2,turn_enumL t _ _ (Ks _) (Zc lt) (Yc (Uk lt)),⟨⟨_,he⟩,hit⟩,λb hb=>?_,q⟩
 have cT:s1.heap.objs.size≤b:=by
  rcases Qe.mp hb with z | z
  ·rw[z];exact Uf _
  ·rw[Qb.mp z];exact Qi _
 exact I1.fpOk cT (I1.hok.fresh cT)
def for_enumL{K:Nb}{a:Nc}{xs:List V}{g:TG}{tb:TS}{D:Ends}{σ:St}{H:Hp}(Pv:Nat→St→Hp→Prop)(h0:Pv 0 σ H)(hl:∀i σ H,i≤xs.length→Pv i σ H→H a=some (.lst xs))(hs:∀i x t σ H,xs[i]?=some x→Pv i σ H→H t=none→g (.ref t) σ (upd H t (.tup [.int i,x])) λ σ2 H2=>tb {D with nx:=Pv (i+1),ct:=Pv (i+1),bk:=D.nx} σ2 H2)(hd:∀σ H,Pv xs.length σ H→D.nx σ H) :
  ∃W:Nat→Nat→St→Hp→Prop,(∃m,W 0 m σ H)∧∀i m σ H,W i m σ H →
   ((IteL a K).stop i H∧D.nx σ H)∨((IteL a K).go i H∧∃N:St→Hp→Prop,(∀σ' H',N σ' H'→∃m',m'<m∧W (i+1) m' σ' H')∧∀x H',(IteL a K).yld i H x H'→g x σ H' λ σ2 H2=>tb {D with nx:=N,ct:=N,bk:=D.nx} σ2 H2):=by
 refine⟨λi m σ H=>m=xs.length-i∧i≤xs.length∧Pv i σ H,⟨xs.length,by simp,Zf _,h0⟩,?_⟩
 rintro i m σ H ⟨rfl,hi,p⟩
 have q:=hl i σ H hi p
 by_cases ag:i<xs.length
 ·refine .inr ⟨⟨xs,SqL.of q,ag⟩,Pv (i+1),fun σ' H' p'=>⟨xs.length - (i+1),by exact zar1 ‹_›,rfl,ag,p'⟩,fun x H' y=>?_⟩
  obtain⟨z,t,e1,e3,rfl,rfl⟩:=y
  exact hs i z t σ H (e1 xs (SqL.of q)) p e3
 ·have e:i=xs.length:=by exact zar3 ‹_› ‹_›
  subst e
  exact .inl ⟨⟨xs,SqL.of q,Qi _⟩,hd σ H p⟩
end
end L2
end
section
namespace Wb
section
variable{α β:Type}[DecidableEq α][DecidableEq β]{ns:List α}{r:α→List α}{cs:List (List (α×α))}{f:α→β}
theorem idx_map(hf:∀x y,f x=f y→x=y)(w:α):∀zs:List α,(zs.map f).idxOf (f w)=zs.idxOf w
 |[]=>rfl
 |a::t=>by
  rw[Ql,Kw,Kw,idx_map hf w t]
  by_cases h:a=w
  ·rw[h,beq_self_eq_true,beq_self_eq_true]
  ·rw[beq_eq_false_iff_ne.mpr h,beq_eq_false_iff_ne.mpr λe=>h (hf _ _ e)]
def nxt_map(hf:∀x y,f x=f y→x=y)(zs:List α)(w:α):nxt (zs.map f) (f w)=f (nxt zs w):=by
 unfold nxt
 rw[idx_map hf,Qa,Zs,Zs,Qs]
 cases zs[(zs.idxOf w+1)%zs.length]?<;>rfl
def lk_map{γ δ:Type}{F:γ→γ}{G:δ→δ}{g:γ→δ}{e:γ}:∀{t:List γ} {s:γ},(∀y,y=s∨y∈t→G (g y)=g (F y))→Lk F s t e→Lk G (g s) (t.map g) (g e):=by
 intro t
 induction t with
 |nil=>intro s h k;exact(h s (.inl rfl)).trans (congrArg g k)
 |cons a t ih =>
  intro s h k
  exact⟨(h s (.inl rfl)).trans (congrArg g k.1),ih (λy hy=>h y (.inr (Qe.mpr hy))) k.2⟩
def cert_map(hf:∀x y,f x=f y→x=y){a:α}(C:Cert ns r cs λ_=>a){r':β→List β}(hr:∀x,r' (f x)=(r x).map f)(gD:∀y,(∀x,y≠f x)→r' y=[])(ha:a∈ns) :
  Cert (ns.map f) r' (cs.map λc=>c.map λs=>(f s.1,f s.2)) λ_=>f a:=by
 have hm:∀{y z},z∈r' y→∃x w,y=f x∧z=f w∧w∈r x:=λ{y z} h=>by
  by_cases hy:∃x,y=f x
  ·obtain ⟨x,rfl⟩:=hy
   rw[hr]at h
   obtain⟨w,hw,rfl⟩:=Qh.mp h
   exact⟨x,w,rfl,rfl,hw⟩
  ·rw [gD y fun x e=>hy ⟨x,e⟩] at h
   cases h
 have hb:∀{x w},w∈r x→f w∈r' (f x):=λh=>by rw[hr];exact Qh.mpr ⟨_,h,rfl⟩
 have hg:∀s t:α×α,(f s.1,f s.2)=(f t.1,f t.2)→s=t:=λs t e=>Ux (hf _ _ (congrArg Prod.fst e)) (hf _ _ (congrArg Prod.snd e))
 have jT:∀{l:List α},l.Nodup→(l.map f).Nodup:=λnd=>Wq.mpr (nd.imp λh e=>h (hf _ _ e))
 have eO:(cs.map λc=>c.map λs=>(f s.1,f s.2)).flatten=cs.flatten.map λs=>(f s.1,f s.2):=List.map_flatten.symm
 refine⟨jT C.nd,λy hy=>?_,λy=>?_,λy h=>?_,λx y h=>?_,?_,λs=>?_,λc hc=>?_,λx hx=>Qh.mpr ⟨a,ha,rfl⟩,λ_ _ _=>rfl,λx hx y hy _=>?_,λx hx=>?_⟩
 ·cases e:r' y with
  |nil=>rfl
  |cons z t =>
   obtain⟨x,w,rfl,_,hw⟩:=hm (y:=y) (z:=z) (by rw[e];exact Qc)
   exact absurd (Qh.mpr ⟨x,C.inn hw,rfl⟩) hy
 ·by_cases hy:∃ x,y=f x
  ·obtain ⟨x,rfl⟩:=hy
   rw[hr];exact jT (C.rn x)
  ·rw[gD y λx e=>hy ⟨x,e⟩];exact Zh
 ·obtain ⟨x,w,e1,e2,hw⟩:=hm h
  have:=hf _ _ (e1.symm.trans e2)
  subst this
  exact C.ir _ hw
 ·obtain ⟨a,w,rfl,rfl,hw⟩:=hm h
  exact hb (C.sy _ _ hw)
 ·rw [eO]
  exact Wq.mpr (C.cf.imp λh e=>h (hg _ _ e))
 ·rw [eO]
  constructor
  ·intro h
   obtain⟨t,ht,rfl⟩:=Qh.mp h
   exact hb ((C.cm t).mp ht)
  ·intro h
   obtain⟨x,w,e1,e2,hw⟩:=hm h
   exact Qh.mpr ⟨(w,x),(C.cm (w,x)).mpr hw,Ux e2.symm e1.symm⟩
 ·obtain ⟨c0,eS,rfl⟩:=Qh.mp hc
  obtain⟨s,t,rfl,k⟩:=C.cy c0 eS
  refine⟨(f s.1,f s.2),_,rfl,lk_map (g:=λs:α×α=>(f s.1,f s.2)) (λy _=>?_) k⟩
  show(f y.2,nxt (r' (f y.2)) (f y.1))=(f y.2,f (nxt (r y.2) y.1))
  rw[hr,nxt_map hf]
 ·obtain ⟨x0,oV,rfl⟩:=Qh.mp hx
  obtain⟨y0,oS,rfl⟩:=Qh.mp hy
  have:=C.co x0 oV y0 oS rfl
  clear hy oS
  induction this with
  |refl=>exact .refl
  |step _ hz ih=>exact .step ih (hb hz)
 ·have e1:wt (ns.map f) r' (fun _=>f a) (f a)=wt ns r (fun _=>a) a:=by
   unfold wt
   rw[Zi]
   refine zcc λx _=>?_
   show(if f a=f a then _ else _)=_
   rw[if_pos rfl,if_pos rfl,hr,Qa]
   simp only[List.map_eq_nil_iff]
  have e2:ct (cs.map λc=>c.map λs=>(f s.1,f s.2)) (λ_=>f a) (f a)=ct cs (λ_=>a) a:=by
   unfold ct
   rw[Zi]
   refine zcc λc _=>?_
   show(if(List.any (c.map λs=>(f s.1,f s.2)) λs=>decide (f a=f a))=true then _ else _)=_
   rw[List.any_map]
   simp only[Function.comp_def,decide_true]
  rw[e1,e2]
  exact C.eu a ha
end
end Wb
end
section
namespace Wb
open PySem
def bk(n j:Nat):Nat:=if j=0 then n-1 else j-1
def capR(m l i:Nat):List Nat :=
 if i=0 then(List.range m).map (2+·)
 else if i=1 then((List.range m).map λk=>2+m*(l-1)+k).reverse
 else[2+m*((i-2)/m)+((i-2)%m+1)%m]++(if 0<(i-2)/m then[2+m*((i-2)/m-1)+((i-2)%m+1)%m,2+m*((i-2)/m-1)+(i-2)%m] else[0])
  ++ [2+m*((i-2)/m)+bk m ((i-2)%m)]++(if(i-2)/m+1<l then[2+m*((i-2)/m+1)+bk m ((i-2)%m),2+m*((i-2)/m+1)+(i-2)%m] else[1])
def capF(m l:Nat)(i:Fin (2+m*l)):List (Fin (2+m*l)):=(capR m l i.1).filterMap λk=>if h:k<2+m*l then some ⟨k,h⟩ else none
def capT(m l:Nat):List (Fin (2+m*l)×Fin (2+m*l)×Fin (2+m*l)):=(List.finRange (2+m*l)).flatMap λa=>(capF m l a).filterMap λb=>if a<b∧a<nxt (capF m l b) a then some (a,b,nxt (capF m l b) a) else none
def capC(m l:Nat):List (List (Fin (2+m*l)×Fin (2+m*l))):=(capT m l).map λt=>[(t.1,t.2.1),(t.2.1,t.2.2),(t.2.2,t.1)]
def cap0(m l:Nat):Fin (2+m*l):=⟨0,by omega⟩
structure CapOk(m l:Nat):Prop where
 lo:∀i<2+m*l,∀k∈capR m l i,k<2+m*l
 cyc:∀t∈capT m l,st (capF m l) (t.1,t.2.1)=(t.2.1,t.2.2)∧st (capF m l) (t.2.1,t.2.2)=(t.2.2,t.1)∧st (capF m l) (t.2.2,t.1)=(t.1,t.2.1)
 rn:∀x,(capF m l x).Nodup
 ir:∀x,x∉capF m l x
 sy:∀x,∀y∈capF m l x,x∈capF m l y
 cf:(capC m l).flatten.Nodup
 cm:∀s∈(capC m l).flatten,s.1∈capF m l s.2
 mc:∀x,∀y∈capF m l x,(y,x)∈(capC m l).flatten
 eu:wt (List.finRange (2+m*l)) (capF m l) (λ_=>cap0 m l) (cap0 m l)+ct (capC m l) (λ_=>cap0 m l) (cap0 m l)=4
 up:∀x,x.1≠1→x.1=0∨∃y∈capF m l x,y<x∧y.1≠1
 one:∀x,x.1=1→∃y∈capF m l x,y.1≠1
def cap_cert{m l:Nat}(h:CapOk m l):Cert (List.finRange (2+m*l)) (capF m l) (capC m l) λ_=>cap0 m l:=by
 have con:∀n,∀x:Fin (2+m*l),x.1<n→x.1≠1→Conn (capF m l) (cap0 m l) x:=by
  intro n
  induction n with
  |zero=>intro x hx;cases hx
  |succ n ih =>
   intro x hx h1
   rcases h.up x h1 with z | ⟨y,hy,ag,y1⟩
   ·rw[show x=cap0 m l from Fin.ext z];exact .refl
   ·exact .step (ih y (Zp ag (Nat.le_of_lt_succ hx)) y1) (h.sy x y hy)
 have oE:∀x:Fin (2+m*l),Conn (capF m l) (cap0 m l) x:=λx=>by
  by_cases h1:x.1=1
  ·obtain ⟨y,hy,y1⟩:=h.one x h1
   exact .step (con _ y (Yu _) y1) (h.sy x y hy)
  ·exact con _ x (Yu _) h1
 refine⟨List.nodup_finRange _,λx hx=>absurd (List.mem_finRange x) hx,h.rn,h.ir,λx y=>h.sy x y,h.cf,λs=>⟨h.cm s,λz=>h.mc s.2 s.1 z⟩,λc hc=>?_,λ_ _=>List.mem_finRange _,λ_ _ _=>rfl,λx _ y _ _=>((oE x).symm λa b=>h.sy a b).trans (oE y),λ_ _=>h.eu⟩
 obtain⟨t,ht,rfl⟩:=Qh.mp hc
 obtain⟨h1,h2,h3⟩:=h.cyc t ht
 exact⟨_,_,rfl,h1,h2,h3⟩
def cap_ok{m l:Nat}(hm:m=5∨m=6∨m=7)(hl:l=2∨l=3):CapOk m l:=by
 rcases hm with rfl | rfl | rfl<;>rcases hl with rfl | rfl <;>
  exact⟨by decide +kernel,by decide +kernel,by decide +kernel,by decide +kernel,by decide +kernel,by decide +kernel,by decide +kernel,by decide +kernel,by decide +kernel,by decide +kernel,by decide +kernel⟩
def cap_good{m l:Nat}(hm:m=5∨m=6∨m=7)(hl:l=2∨l=3){zs:Nf}(nd:zs.Nodup)(hz:2+m*l≤zs.length)(z0:Str) :
  Good ((List.range (2+m*l)).map λi=>(zs.getD i z0,(capR m l i).map λk=>zs.getD k z0)):=by
 have h:=cap_ok hm hl
 have hf:∀x y:Fin (2+m*l),zs.getD x.1 z0=zs.getD y.1 z0→x=y:=λx y e=>by
  have hx:x.1<zs.length:=Zp x.2 hz
  have hy:y.1<zs.length:=Zp y.2 hz
  simp only[List.getD,Qd hx,Qd hy,Option.getD_some]at e
  exact Fin.ext ((Yi nd).mp e)
 have hn:((List.range (2+m*l)).map λi=>(zs.getD i z0,(capR m l i).map λk=>zs.getD k z0)).map (·.1)=(List.finRange (2+m*l)).map λx=>zs.getD x.1 z0:=by
  rw[Zi]
  refine List.ext_getElem (by simp) λi h1 h2=>?_
  simp
 have aD:(((List.range (2+m*l)).map λi=>(zs.getD i z0,(capR m l i).map λk=>zs.getD k z0)).map (·.1)).Nodup:=by
  rw[hn]
  exact Wq.mpr ((List.nodup_finRange _).imp λne e=>ne (hf _ _ e))
 refine⟨_,_,hn▸cert_map (f:=λx:Fin (2+m*l)=>zs.getD x.1 z0) hf (cap_cert h) (λx=>?_) (λy hy=>?_) (List.mem_finRange _)⟩
 ·have hmem:(zs.getD x.1 z0,(capR m l x.1).map fun k=>zs.getD k z0)∈(List.range (2+m*l)).map fun i=>(zs.getD i z0,(capR m l i).map fun k=>zs.getD k z0):=Qh.mpr ⟨x.1,Ur.mpr x.2,rfl⟩
  rw[zc9 aD hmem]
  show(capR m l x.1).map _=(List.filterMap _ _).map _
  have lg:=h.lo x.1 x.2
  generalize capR m l x.1=ks at lg
  induction ks with
  |nil=>rfl
  |cons a t ih =>
   have ha:=lg a Qc
   rw[List.filterMap_cons,dif_pos ha,Ql,Ql,ih λk hk=>lg k (Qg _ hk)]
 ·refine zeu fun z=>?_
  rw[hn]at z
  obtain⟨x,_,e⟩:=Qh.mp z
  exact hy x e.symm
end Wb
end
section
namespace L2
open PySem PySem.Spec PyProof.Rows
def lc_range{g:TG}{te:TE}{Q:VK}{τ:St}{H:Hp}{lo:Int}{n:Nat}(T:St→Prop)(Pv:List V→Hp→Prop)(hn:n≤sizeLine)(h0:T τ)(p0:Pv [] H)(hs:∀i ys τ H,i<n→ys.length=i→T τ→Pv ys H→∀k:V→St→Hp→Prop,(∀y τ2 H2,T τ2→Pv (ys++[y]) H2→k y τ2 H2)→g (.int (lo+i)) τ H λ τ2 H2=>te τ2 H2 λy H4=>k y τ2 H4)(q:∀ys H',ys.length=n→Pv ys H'→∀D,H' D=none→Q (.ref D) (upd H' D (.lst ys))):rLC g tAll te Q (Itr lo n) τ H:=by
 refine⟨λi m ys τ H1=>Aj5 (T τ) (Pv ys H1) (m=n-i) (i≤n) (ys.length=i),⟨_,h0,p0,rfl,Zf _,rfl⟩,?_⟩
 rintro i m ys τ H1 ⟨ht,hp,rfl,hi,hl⟩
 by_cases ag:i<n
 ·refine .inr ⟨ag,by lia,?_⟩
  rintro x H' ⟨rfl,rfl⟩
  refine hs i ys τ H' ag hl ht hp (λy τ2 H4=>∃m',m'<n-i∧Aj5 (T τ2) (Pv (ys++[y]) H4) (m'=n-(i+1)) (i+1≤n) ((ys++[y]).length=i+1)) λy τ2 H2 h2 p2=>?_
  exact⟨_,by exact zar1 ‹_›,h2,p2,rfl,ag,by rw[Qq,hl];rfl⟩
 ·have e:i=n:=by exact zar3 ‹_› ‹_›
  subst e
  exact .inl ⟨Qi _,λD hD=>q ys H1 hl hp D hD⟩
def sl_listK{X:Cx}{K:Nb}(hK:X.K=K):SlR X (rSlL K):=hK▸zc7
def join{t u:TS}{D:Ends}{σ:St}{H:Hp}{c b:St→Hp→Prop}{r:V→Hp→Prop}(P:St→Hp→Prop)(h:∀D':Ends,(∀σ H,P σ H→D'.nx σ H)→t D' σ H)(hD:∀σ H,P σ H→u D σ H):({nx:=tSeq t u D,ct:=c,bk:=b,rt:=r}:Ends).nx σ H:=h {D with nx:=u D} hD
def joinS{t u:TS}{D:Ends}{σ:St}{H:Hp}(P:St→Hp→Prop)(h:∀D':Ends,(∀σ H,P σ H→D'.nx σ H)→t D' σ H)(hD:∀σ H,P σ H→u D σ H):tSeq t u D σ H:=h {D with nx:=u D} hD
end L2
namespace K21
open PySem L2 Wb
abbrev sCap:Stmt:=top 38
def cut_mid{xs:List V}{a b:Nat}(h:a≤b)(hb:b≤xs.length):cutV xs (some (a:Int)) (some (b:Int))=(xs.drop a).take (b-a):=by
 unfold cutV
 have e1:HT.sIx xs.length 0 (some (a:Int))=a:=by rw[HT.sIx_nat];omega
 have e2:HT.sIx xs.length xs.length (some (b:Int))=b:=by rw[HT.sIx_nat];omega
 rw[e1,e2]
def zb9(zs:Nf)(z0:Str)(m j:Nat):List Str:=(List.range m).map λk=>zs.getD (2+m*j+k) z0
def cut_ring{zs:Nf}{z0:Str}{m j:Nat}(h:2+m*j+m≤zs.length):((zs.map V.str).drop (2+m*j)).take m=(zb9 zs z0 m j).map V.str:=by
 unfold zb9
 refine List.ext_getElem ?_ λi h1 h2=>?_
 ·rw[Zj,Jn,Qa,Qa,Qa,Yd];omega
 ·have hi:i < m:=by rw [Qa,Qa,Yd] at h2;exact h2
  rw[Wr,List.getElem_drop,Zm,Zm,Zm,Ui,Zs,Qd (by omega)]
  rfl
def capR_at{m l j k:Nat}(hk:k<m):capR m l (2+m*j+k)=[2+m*j+(k+1)%m]++(if 0<j then[2+m*(j-1)+(k+1)%m,2+m*(j-1)+k] else[0])++[2+m*j+bk m k]++(if j+1<l then[2+m*(j+1)+bk m k,2+m*(j+1)+k] else[1]):=by
 have e1:(2+m*j+k-2)=m*j+k:=by omega
 have e2:(m*j+k)/m=j:=by rw[Nat.mul_add_div (by omega),Nat.div_eq_of_lt hk];rfl
 have e3:(m*j+k)%m=k:=by rw[Nat.mul_add_mod,Nat.mod_eq_of_lt hk]
 unfold capR
 rw[if_neg (by omega),if_neg (by omega),e1,e2,e3]
abbrev csC:Scope:=scOf (eOf (sAt sCap 0))
def csC_k:csC.kind=.function:=by rfl
def csC_c:∀y∈csC.names,y.2≠.cell:=by decide +kernel
def csC_n:∀y∈csC.names,y.2=.local→csC.names.lookup y.1=some .local:=by decide +kernel
def csC_f:∀y∈csC.names,y.2=.free→(zag sCap).names.lookup y.1=some .cell∨(zag sCap).names.lookup y.1=some .free:=by decide +kernel
def csC_l1:csC.names.lookup ("_law_names_here" : Str)=some NameKind.free:=by decide +kernel
def csC_l2:csC.names.lookup ("_law_many" : Str)=some NameKind.free:=by decide +kernel
def ndC:(["_law_j", "_law_names_here", "_law_many"]:List Str).Nodup:=by decide +kernel
def zgm{zs:Nf}{z0:Str}{m j k:Nat}(h:k<m):atI ((zb9 zs z0 m j).map V.str) (k:Int)=some (.str (zs.getD (2+m*j+k) z0)):=by
 refine zaq ?_
 unfold zb9
 rw[Qs,Qs,List.getElem?_range h]
 rfl
def at_ring'{zs:Nf}{z0:Str}{m j k:Nat}(h:k<m):atI ((zb9 zs z0 m j).map V.str) ((k:Int)-1)=some (.str (zs.getD (2+m*j+bk m k) z0)):=by
 have hl:((zb9 zs z0 m j).map V.str).length=m:=by unfold zb9;rw[List.length_map,List.length_map,List.length_range]
 rw[ziv (by rw[hl];exact h),hl]
 unfold zb9
 have hb:pidx m k<m:=by unfold pidx;split<;>omega
 rw[Qs,Qs,List.getElem?_range hb]
 rfl
def RN.newR{H H1:Hp}{d a:Nc}{es:List Ent}{x:Str}{r:Nf}(R:RN H d es)(k:Keep [] H H1)(hn:H a=none)(hx:x∉es.map (·.1))(ha:H1 a=some (.lst (r.map V.str))) :
  RN (upd H1 d (.dK (putK (es.map λe=>((Sum.inr e.1:Key),V.ref e.2.2)) (Sum.inr x) (.ref a)))) d (es++[(x,r,a)]):=by
 refine⟨rat_new (R.k0 k).toRAt hx ha,?_⟩
 rw[Qp,Za]
 refine⟨R.an,Qr.mpr ⟨by simp,Zh⟩,λy hy z hz e=>?_⟩
 have c7:z=a:=by simpa using hz
 obtain⟨e0,h0,rfl⟩:=Qh.mp hy
 have:=R.ro e0 h0
 rw[show e0.2.2=a from e.trans c7,hn]at this
 cases this
inductive CapI(zs:Nf)(z0:Str)(m ly:Nat)(H H3:Hp)(d:Nc)(c:Nat)(H':Hp):Prop
 |mk (es:List Ent) (rn:RN H' d es) (rs:rsOf es=(List.range c).map λi=>(zs.getD i z0,(capR m ly i).map λk=>zs.getD k z0)) (fr:∀e∈es,H e.2.2=none) (kp:Keep [d] H3 H'):CapI zs z0 m ly H H3 d c H'
def CapI.k0{zs:Nf}{z0:Str}{m ly:Nat}{H H3:Hp}{d:Nc}{c:Nat}{H' H2:Hp}(h:CapI zs z0 m ly H H3 d c H')(k:Keep [] H' H2):CapI zs z0 m ly H H3 d c H2:=by
 obtain⟨es,rn,rs,fr,kp⟩:=h
 exact⟨es,rn.k0 k,rs,fr,kp.trans (k.sub (by simp))⟩
def spCap:Sp:=λvs H Q _=>Ex4 λl zs m ly=>Aj4 (vs=[.ref l,.int (m:Nat),.int (ly:Nat)]) (m=5∨m=6∨m=7) (ly=2∨ly=3) (IspMade (λn=>n=zs.take (2+m*ly)) vs H Q l zs)
section
variable{P:Nj}{w:Nl}{K:Nb}{mg:Ng}{base:Nm}
def zgt:zau ["_law_names_here", "_law_many", "_law_layers", "_law_rows_here", "_law_rounds_here", "_law_j", "_law_row", "_law_k", "_law_on", "_law_above", "_law_below"] ["_law_names_here", "_law_many", "_law_layers"] (zag sCap):=⟨rfl,rfl,rfl,by decide +kernel,rfl,by decide +kernel,by decide +kernel⟩
def ok_cap{f:Nc}{fd:No}(F:Fun K "_law_capped" "_law_capped" sCap f fd)(cM:mg "range" = none)(aA:mg "list" = none)(rJ:mg "reversed" = none)(tu:mg "enumerate" = none):FnOk P w K mg base CX0 1 f fd ["_law_names_here", "_law_many", "_law_layers"] spCap:=by
 refine F.ok zgt (λvs H Q E h=>?_) (λcdv A outer s H vs Q E hr h=>?_)
 ·obtain ⟨l,zs,m,ly,rfl,_⟩:=h
  rfl
 ·obtain ⟨l,zs,m,ly,rfl,hm,hly,hl,aD,dB,k⟩:=h
  have hu:=zb5 hr
  have aL:sizeLine=16777216:=sizeLine_eq
  refine⟨_,zae (ps_lc (i:=3) (M:=["_law_j", "_law_names_here", "_law_many"]) (ix:=[none,some 0,some 1]) zgt.nd rfl rfl ⟨csC_k,csC_c,csC_n,csC_f,rfl,ndC,λj i x h1 h2=>by
       match j,h1,h2 with
       |0,_,h2=>cases h2
       |1,h1,h2=>cases h1;cases h2;exact⟨rfl,csC_l1⟩
       |2,h1,h2=>cases h1;cases h2;exact⟨rfl,csC_l2⟩
       |n+3,h1,_=>cases h1⟩ rfl (zfz rfl cM (zab (pv 2) zaf)) (λC a7 ex s H=>zal (i:=0) ndC rfl (Or.inl rfl) (Or.inr rfl))
       (λC a7 ex s H=>zct) (λC a7 ex s H=>zcr (sl_listK (K:=K) rfl) (pv 1) (zcx (zaw zbv zai (zaw zf3 (pv 2) (pv 0)))) (zcx (zaw zbv (zaw zbv zai (zaw zf3 (pv 2) (pv 0))) (pv 2)))) rfl)
   (zae (zak (i:=4) zgt.nd rfl (Or.inl rfl) (zf0 (zdk (za1 zap (pv 0) zai (λ_ _=>rfl)) (zbo zdf (by rfl) aA Wu (zab (za1 zap (pv 3) zai (λ_ _=>rfl)) zaf))
     (zdk (za1 zap (pv 0) zai (λ_ _=>rfl)) (pe_rev rfl (by rfl) aA (by rfl) rJ (za1 zap (pv 3) (pe_un un_neg zai) (λ_ _=>rfl))) zfy)) rfl rfl (by decide) (by decide)))
   (zae (zbn Zo rfl (pi_enumL (by rfl) tu (zab (pv 3) zaf)) (ze6 rfl (za6 (zal (i:=5) zgt.nd rfl (Or.inl rfl)) (za6 (zal (i:=6) zgt.nd rfl (Or.inl rfl)) zck)))
    (zah (zbn Zo rfl (zfz rfl cM (zab (pv 1) zaf)) (zal (i:=7) zgt.nd rfl (Or.inl rfl))
     (zae (zak (i:=8) zgt.nd rfl (Or.inl rfl) (zaw ze9 (zaw zbv (pv 7) zai) (pv 1)))
     (zae (ps_par (i:=9) (j:=10) rfl zgt.nd rfl rfl (by decide) rfl rfl (zab (zbc (zab (za1 zap (pv 0) zai (λ_ _=>rfl)) zaf)) (zab (zbc (zab (za1 zap (pv 0) zai (λ_ _=>rfl)) zaf)) zaf)) rfl)
     (zae (zbs (zar op_gt (pv 5) zai (zbd _)) (zah (zak (i:=9) zgt.nd rfl (Or.inl rfl) (zbc (zab (za1 zap (za1 zap (pv 3) (zaw ze8 (pv 5) zai) (λ_ _=>rfl)) (pv 8) (λ_ _=>rfl)) (zab (za1 zap (za1 zap (pv 3) (zaw ze8 (pv 5) zai) (λ_ _=>rfl)) (pv 7) (λ_ _=>rfl)) zaf))))) zay)
     (zae (zbs (zar op_lt (zaw zbv (pv 5) zai) (pv 2) (zbd _)) (zah (zak (i:=10) zgt.nd rfl (Or.inl rfl) (zbc (zab (za1 zap (za1 zap (pv 3) (zaw zbv (pv 5) zai) (λ_ _=>rfl)) (zaw ze8 (pv 7) zai) (λ_ _=>rfl)) (zab (za1 zap (za1 zap (pv 3) (zaw zbv (pv 5) zai) (λ_ _=>rfl)) (pv 7) (λ_ _=>rfl)) zaf))))) zay)
     (zah (zcu hu (pv 4) (za1 zap (pv 6) (pv 7) (λ_ _=>rfl)) (zaw zds (zaw zds (zaw zds (zbc (zab (za1 zap (pv 6) (pv 8) (λ_ _=>rfl)) zaf)) (pv 9)) (zbc (zab (za1 zap (pv 6) (zaw ze8 (pv 7) zai) (λ_ _=>rfl)) zaf))) (pv 10)) rfl)))))))))
   (zah (zbm (pv 4))))),?_⟩
  have aO:(zs.map V.str).length=40:=by rw[Qa,dB]
  have hb:∀i,i<ly→2+m*i+m≤40:=by
   rcases hm with rfl | rfl | rfl<;>rcases hly with rfl | rfl<;>(intro i hi;omega)
  have hmp:5≤m∧m≤7:=by omega
  have hlp:2≤ly∧ly≤3:=by omega
  obtain⟨z0,hz0⟩:∃z0,z0=zs[0]:=⟨_,rfl⟩
  have gz:∀j,j<40→(zs.map V.str)[j]?=some (.str (zs.getD j z0)):=λj hj=>by
   rw[Qs,Zs,Qd (by omega)];rfl
  refine⟨_,rfl,(ly:Int),rfl,by omega,by omega,?_⟩
  refine lc_range (n:=ly) (λ τ=>∃x0,τ=[x0,some (.ref l),some (.int m)]) (λys H'=>Ex1 λas:List Addr=>Aj4 (ys=as.map V.ref) (∀j (hj:j<as.length),H' as[j]=some (.lst ((zb9 zs z0 m j).map V.str))) (∀a∈as,H a=none) (Keep [] H H')) (by omega) ⟨none,rfl⟩ ⟨[],rfl,λj hj=>(by cases hj),λa ha=>(by cases ha),λ_ _ e _=>e⟩ ?_ ?_
  ·rintro i ys τ H1 hi lL ⟨x0,rfl⟩ ⟨as,rfl,pL,eM,k1⟩ kk hk
   rw[Qa]at lL
   have cb:=k1 _ _ hl (by simp)
   refine⟨_,rfl,_,rfl,_,rfl,_,_,rfl,rfl,.inl ⟨by omega,by omega⟩,_,_,rfl,rfl,_,rfl,_,rfl,_,rfl,_,_,rfl,rfl,.inl ⟨by omega,by omega⟩,_,_,rfl,rfl,_,rfl,_,_,rfl,rfl,_,rfl,l,_,rfl,SqL.of cb,λp hp=>?_⟩
   have e1:(2:Int)+(m:Int)*(0+(i:Int))=((2+m*i:Nat):Int):=by simp
   have tK:=hb i hi
   rw[e1,show((2+m*i:Nat):Int)+(m:Int)=((2+m*i+m:Nat):Int) from(Kz _ _).symm,cut_mid (Yh _ _) (by rw[aO];exact tK),Nat.add_sub_cancel_left,cut_ring (z0:=z0) (by rw[dB];exact tK)]
   refine hk _ _ _ ⟨_,rfl⟩ ⟨as++[p],by rw[Qp];rfl,λj hj=>?_,λa ha=>?_,k1.trans (Keep.new hp)⟩
   ·rw [Qq] at hj
    have n8:j<as.length+1:=hj
    by_cases h:j<as.length
    ·rw[List.getElem_append_left h,zad (zaa (pL j h) hp)];exact pL j h
    ·have:j=i:=by omega
     subst this
     rw[List.getElem_append_right (by omega)]
     simp only[lL,Nat.sub_self,List.getElem_cons_zero]
     exact zac
   ·rcases Qf.mp ha with z | z
    ·exact eM a z
    ·rw[Qb.mp z];exact zan k1 hp (by simp)
  ·rintro ys H1 lL ⟨as,rfl,pL,eM,k1⟩ rl aQ
   rw[Qa]at lL
   have cb:=k1 _ _ hl (by simp)
   have k2:Keep [] H (upd H1 rl (.lst (as.map V.ref))):=k1.trans (Keep.new aQ)
   have cJ:(upd H1 rl (.lst (as.map V.ref))) rl=some (.lst (as.map V.ref)):=zac
   obtain⟨fa,cz⟩:∃fa:Nat→Addr,∀j (hj:j<as.length),as[j]=fa j:=⟨λj=>as.getD j 0,λj hj=>by simp[List.getD,hj]⟩
   have dv:∀j,j<ly→(upd H1 rl (.lst (as.map V.ref))) (fa j)=some (.lst ((zb9 zs z0 m j).map V.str)):=λj hj=>by
    have:=pL j (by omega)
    rw[cz]at this
    rw[zad (zaa this aQ)];exact this
   have ra:∀j:Nat,j<ly→(as.map V.ref)[j]?=some (.ref (fa j)):=λj hj=>by
    rw[Qs,Qd (by omega),cz j (by omega)];rfl
   have cV:(as.map V.ref).length=ly:=by rw[Qa,lL]
   generalize upd H1 rl (.lst (as.map V.ref))=H2 at k2 cJ dv
   have aj:=k2 _ _ hl (by simp)
   have kY:1<ly:=hlp.1
   refine λd hd=>?_
   have kd:Keep [] H2 (upd H2 d (.dK [])):=Keep.new hd
   refine⟨_,rfl,l,_,_,_,rfl,rfl,SqL.of (kd _ _ aj (by simp)),zaq (j:=0) (gz 0 (by decide)),_,rfl,rl,_,_,_,rfl,rfl,SqL.of (kd _ _ cJ (by simp)),zaq (j:=0) (ra 0 (by omega)),fa 0,_,rfl,.inl (SqL.of (kd _ _ (dv 0 (by omega)) (by simp))),λa0 h0=>?_⟩
   have k0:Keep [] H2 (upd (upd H2 d (.dK [])) a0 (.lst ((zb9 zs z0 m 0).map V.str))):=kd.trans (Keep.new h0)
   have gS:d≠a0:=zaa (o:=_) zac h0
   have elast:atI (as.map V.ref) (-1)=some (.ref (fa (ly-1))):=by
    have:=ziv (zs:=as.map V.ref) (j:=0) (by rw[cV];omega)
    rw[cV]at this
    rw[show(-1:Int)=((0:Nat):Int)-1 by rfl,this]
    exact ra (ly-1) (by omega)
   refine⟨_,rfl,l,_,_,_,rfl,rfl,SqL.of (k0 _ _ aj (by simp)),zaq (j:=1) (gz 1 (by decide)),_,rfl,_,rfl,rl,_,_,_,rfl,rfl,SqL.of (k0 _ _ cJ (by simp)),elast,fa (ly-1),_,rfl,SqL.of (k0 _ _ (dv (ly-1) (by omega)) (by simp)),λa1 h1=>?_⟩
   have qF:Keep [] H2 (upd (upd (upd H2 d (.dK [])) a0 (.lst ((zb9 zs z0 m 0).map V.str))) a1 (.lst ((zb9 zs z0 m (ly-1)).map V.str).reverse)):=k0.trans (Keep.new h1)
   have nd1:d≠a1:=zaa (o:=_) (by rw[zad gS];exact zac) h1
   have n01:a0≠a1:=zaa (o:=_) zac h1
   have km:(upd (upd (upd H2 d (.dK [])) a0 (.lst ((zb9 zs z0 m 0).map V.str))) a1 (.lst ((zb9 zs z0 m (ly-1)).map V.str).reverse)) d=some (.dK []):=by rw[zad nd1,zad gS];exact zac
   have oV:(upd (upd (upd H2 d (.dK [])) a0 (.lst ((zb9 zs z0 m 0).map V.str))) a1 (.lst ((zb9 zs z0 m (ly-1)).map V.str).reverse)) a0=some (.lst ((zb9 zs z0 m 0).map V.str)):=by rw[zad n01];exact zac
   have hx1:(upd (upd (upd H2 d (.dK [])) a0 (.lst ((zb9 zs z0 m 0).map V.str))) a1 (.lst ((zb9 zs z0 m (ly-1)).map V.str).reverse)) a1=some (.lst (((zb9 zs z0 m (ly-1)).reverse).map V.str)):=by rw[zac,List.map_reverse]
   have f0:H a0=none:=zan (k2.trans kd) h0 (by simp)
   have f1:H a1=none:=zan (k2.trans k0) h1 (by simp)
   have fd:H d=none:=zan k2 hd (by simp)
   refine⟨km,[(Sum.inr (zs.getD 0 z0),.ref a0),(Sum.inr (zs.getD 1 z0),.ref a1)],rfl,(by show 2≤15;decide),?_⟩
   generalize upd (upd (upd H2 d (.dK [])) a0 (.lst ((zb9 zs z0 m 0).map V.str))) a1 (.lst ((zb9 zs z0 m (ly-1)).map V.str).reverse)=H4 at qF km oV hx1
   have iN:∀i j,i<40→j<40→zs.getD i z0=zs.getD j z0→i=j:=λi j hi hj e=>by
    rw[Zs,Zs,Qd (by omega),Qd (by omega)]at e
    exact(Yi aD).mp e
   have z01:zs.getD 1 z0∉[zs.getD 0 z0]:=λz=>by
    have:=iN 1 0 (by decide) (by decide) (Qb.mp z)
    cases this
   have C0:CapI zs z0 m ly H H2 d 2 (upd H4 d (.dK (zcm [] [((Sum.inr (zs.getD 0 z0):Key),V.ref a0),(Sum.inr (zs.getD 1 z0),.ref a1)]))):=by
    refine⟨[(zs.getD 0 z0,zb9 zs z0 m 0,a0),(zs.getD 1 z0,(zb9 zs z0 m (ly-1)).reverse,a1)],⟨⟨?_,λe he=>?_,?_⟩,?_⟩,?_,λe he=>?_,(qF.sub (by simp)).trans (Keep.wr (by simp))⟩
    ·rw [zac]
     exact congrArg (λx=>some (HO.dK x)) (zh0 (es:=[(zs.getD 0 z0,zb9 zs z0 m 0,a0)]) (r:=(zb9 zs z0 m (ly-1)).reverse) z01)
    ·rcases Qe.mp he with z | z
     ·rw [z]
      show upd _ _ _ a0=_
      rw[zad (Zb gS)];exact oV
     ·rw [Qb.mp z]
      show upd _ _ _ a1=_
      rw[zad (Zb nd1)];exact hx1
    ·exact Qr.mpr ⟨λz=>z01 (Qb.mpr (Qb.mp z).symm),Qr.mpr ⟨by simp,Zh⟩⟩
    ·exact Qr.mpr ⟨λz=>n01 (Qb.mp z),Qr.mpr ⟨by simp,Zh⟩⟩
    ·show [_,_]=[_,_]
     unfold zb9 capR
     simp
    ·rcases Qe.mp he with z | z
     ·rw[z];exact f0
     ·rw[Qb.mp z];exact f1
   generalize upd H4 d (.dK (zcm [] [((Sum.inr (zs.getD 0 z0):Key),V.ref a0),(Sum.inr (zs.getD 1 z0),.ref a1)]))=H5 at C0
   have ndl:l≠d:=zaa aj hd
   have cX:rl≠d:=zaa cJ hd
   have nda:∀j,j<ly→fa j≠d:=λj hj=>zaa (dv j hj) hd
   refine⟨_,rfl,rl,rfl,⟨_,SqL.of (by obtain⟨_,_,_,_,kp⟩:=C0;exact kp _ _ cJ (by simpa using cX))⟩,?_⟩
   refine for_enumL (xs:=as.map V.ref) (λj σ H'=>Ex6 λx5 x6 x7 x8 x9 eU=>Aj2 (σ=[some (.ref l),some (.int m),some (.int ly),some (.ref rl),some (.ref d),x5,x6,x7,x8,x9,eU]) (CapI zs z0 m ly H H2 d (2+m*j) H'))
    ⟨_,_,_,_,_,_,rfl,C0⟩ (λj σ H' _ hh=>by obtain⟨_,_,_,_,_,_,_,_,_,_,_,kp⟩:=hh;exact kp _ _ cJ (by simpa using cX)) ?_ ?_
   ·rintro j x t σ H6 hx ⟨x5,x6,x7,x8,x9,eU,rfl,C6⟩ ht
    have hj:j<ly:=by
     have:=(Qw.mp hx).1
     rwa[cV]at this
    have ex:x=.ref (fa j):=Qk (hx.symm.trans (ra j hj))
    subst ex
    have C7:=C6.k0 (Keep.new (o:=.tup [.int j,.ref (fa j)]) ht)
    have oZ:(upd H6 t (.tup [.int j,.ref (fa j)])) t=some (.tup [.int j,.ref (fa j)]):=zac
    generalize upd H6 t (.tup [.int j,.ref (fa j)])=H7 at C7 oZ
    refine⟨t,_,rfl,SqT.of oZ,rfl,_,_,rfl,_,_,rfl,rfl,?_⟩
    refine⟨_,rfl,(m:Int),rfl,by omega,by omega,?_⟩
    refine zel (n:=m) (lo:=0) (λk σ H'=>Ex4 λx7 x8 x9 eU=>Aj2 (σ=[some (.ref l),some (.int m),some (.int ly),some (.ref rl),some (.ref d),some (.int j),some (.ref (fa j)),x7,x8,x9,eU]) (CapI zs z0 m ly H H2 d (2+m*j+k) H'))
     ⟨_,_,_,_,rfl,C7⟩ ?_ (λ σ H' ⟨_,_,_,_,e,C⟩=>⟨_,_,_,_,_,_,e,by rw[show 2+m*(j+1)=2+m*j+m by rw[Nat.mul_add];omega];exact C⟩)
    rintro q σ H8 hq ⟨y7,y8,y9,y10,rfl,C8⟩
    have hbj:=hb j hj
    have ck:∀{H':Hp},CapI zs z0 m ly H H2 d (2+m*j+q) H'→Keep [d] H2 H':=λ{H'} C=>by obtain⟨_,_,_,_,kp⟩:=C;exact kp
    have eq0:(0:Int)+(q:Int)=(q:Int):=Int.zero_add _
    have eon:((q:Int)+1)%(m:Int)=(((q+1)%m:Nat):Int):=by simp
    rw[eq0]
    have ie:(q+1)%m<m:=Nat.mod_lt _ (by omega)
    refine⟨_,rfl,_,_,rfl,rfl,_,rfl,_,_,rfl,rfl,(by show(0:Int)<m;omega),?_⟩
    rw[eon]
    generalize rQ:(q+1)%m=on at ie
    have mK:=ck C8 _ _ aj (by simpa using ndl)
    refine⟨_,rfl,l,_,_,_,rfl,rfl,SqL.of mK,zaq (j:=0) (gz 0 (by decide)),(by show 1≤sizeLine;decide),λa9 h9=>?_⟩
    have C9:=C8.k0 (Keep.new (o:=.lst [.str (zs.getD 0 z0)]) h9)
    have e9:(upd H8 a9 (.lst [.str (zs.getD 0 z0)])) a9=some (.lst ([0].map λk=>V.str (zs.getD k z0))):=zac
    generalize upd H8 a9 (.lst [.str (zs.getD 0 z0)])=H9 at C9 e9
    have hl9:=ck C9 _ _ aj (by simpa using ndl)
    refine⟨_,rfl,l,_,_,_,rfl,rfl,SqL.of hl9,zaq (j:=1) (gz 1 (by decide)),(by show 1≤sizeLine;decide),λkO iG=>⟨_,_,rfl,?_⟩⟩
    have oJ:=C9.k0 (Keep.new (o:=.lst [.str (zs.getD 1 z0)]) iG)
    have pV:(upd H9 kO (.lst [.str (zs.getD 1 z0)])) kO=some (.lst ([1].map λk=>V.str (zs.getD k z0))):=zac
    have e9':(upd H9 kO (.lst [.str (zs.getD 1 z0)])) a9=some (.lst ([0].map λk=>V.str (zs.getD k z0))):=by rw[zad (zaa e9 iG)];exact e9
    generalize upd H9 kO (.lst [.str (zs.getD 1 z0)])=cZ at oJ pV e9'
    refine join (λ σ H'=>Ex1 λb9=>Aj4 (σ=[some (.ref l),some (.int m),some (.int ly),some (.ref rl),some (.ref d),some (.int j),some (.ref (fa j)),some (.int q),some (.int on),some (.ref b9),some (.ref kO)]) (CapI zs z0 m ly H H2 d (2+m*j+q) H') (H' kO=some (.lst ([1].map λk=>V.str (zs.getD k z0)))) (H' b9=some (.lst ((if 0<j then[2+m*(j-1)+on,2+m*(j-1)+q] else[0]).map λk=>V.str (zs.getD k z0))))) (λD' hD=>?_) ?_
    ·refine ⟨_,rfl,_,_,rfl,rfl,_,rfl,?_⟩
     have fP:=ck oJ _ _ cJ (by simpa using cX)
     refine ite2 (λhc=>?_) (λhc=>?_)
     ·have ij:0 < j:=by have:=of_decide_eq_true hc;omega
      have ig:j-1<ly:=by omega
      have eat:atI (as.map V.ref) ((j:Int)-1)=some (.ref (fa (j-1))):=by rw[show(j:Int)-1=((j-1:Nat):Int) by omega];exact zaq (ra _ ig)
      have hg:=ck oJ _ _ (dv _ ig) (by simpa using nda _ ig)
      refine⟨_,rfl,_,rfl,_,_,rfl,rfl,rl,_,_,_,rfl,rfl,SqL.of fP,eat,_,rfl,fa (j-1),_,_,_,rfl,rfl,SqL.of hg,zgm ie,_,rfl,_,rfl,_,_,rfl,rfl,rl,_,_,_,rfl,rfl,SqL.of fP,eat,_,rfl,fa (j-1),_,_,_,rfl,rfl,SqL.of hg,zgm hq,(by show 2≤sizeLine;decide),λb9 hb9=>hD _ _ ⟨b9,rfl,oJ.k0 (Keep.new hb9),by rw[zad (zaa pV hb9)];exact pV,by rw[zac,if_pos ij];rfl⟩⟩
     ·have ij:¬ 0 < j:=fun z=>hc (decide_eq_true (by omega))
      exact hD _ _ ⟨a9,rfl,oJ,pV,by rw[if_neg ij];exact e9'⟩
    rintro σ qc ⟨b9,rfl,qf,u3,lB⟩
    refine joinS (λ σ H'=>Ex1 λjg=>Aj4 (σ=[some (.ref l),some (.int m),some (.int ly),some (.ref rl),some (.ref d),some (.int j),some (.ref (fa j)),some (.int q),some (.int on),some (.ref b9),some (.ref jg)]) (CapI zs z0 m ly H H2 d (2+m*j+q) H') (H' b9=some (.lst ((if 0<j then[2+m*(j-1)+on,2+m*(j-1)+q] else[0]).map λk=>V.str (zs.getD k z0)))) (H' jg=some (.lst ((if j+1<ly then[2+m*(j+1)+bk m q,2+m*(j+1)+q] else[1]).map λk=>V.str (zs.getD k z0))))) (λD' hD=>?_) ?_
    ·refine ⟨_,rfl,_,_,rfl,rfl,_,rfl,_,_,rfl,rfl,_,rfl,?_⟩
     have fP:=ck qf _ _ cJ (by simpa using cX)
     refine ite2 (λhc=>?_) (λhc=>?_)
     ·have ig:j+1 < ly:=by have:=of_decide_eq_true hc;omega
      have eat:atI (as.map V.ref) ((j:Int)+1)=some (.ref (fa (j+1))):=by rw[show(j:Int)+1=((j+1:Nat):Int) by omega];exact zaq (ra _ ig)
      have hg:=ck qf _ _ (dv _ ig) (by simpa using nda _ ig)
      refine⟨_,rfl,_,rfl,_,_,rfl,rfl,rl,_,_,_,rfl,rfl,SqL.of fP,eat,_,rfl,_,_,rfl,rfl,fa (j+1),_,_,_,rfl,rfl,SqL.of hg,at_ring' hq,_,rfl,_,rfl,_,_,rfl,rfl,rl,_,_,_,rfl,rfl,SqL.of fP,eat,_,rfl,fa (j+1),_,_,_,rfl,rfl,SqL.of hg,zgm hq,(by show 2≤sizeLine;decide),λjg dZ=>hD _ _ ⟨jg,rfl,qf.k0 (Keep.new dZ),by rw[zad (zaa lB dZ)];exact lB,by rw[zac,if_pos ig];rfl⟩⟩
     ·have ij:¬ j+1 < ly:=fun z=>hc (decide_eq_true (by omega))
      exact hD _ _ ⟨kO,rfl,qf,lB,by rw[if_neg ij];exact u3⟩
    rintro σ e8 ⟨jg,rfl,C12,lB,oy⟩
    generalize gN:(if 0<j then[2+m*(j-1)+on,2+m*(j-1)+q] else[0])=ab at lB
    generalize gK:(if j+1<ly then[2+m*(j+1)+bk m q,2+m*(j+1)+q] else[1])=be at oy
    have nZ:ab.length≤2:=by rw[←gN];split<;>simp
    have hbl2:be.length≤2:=by rw[←gK];split<;>simp
    have kb:=ck C12 _ _ (dv _ hj) (by simpa using nda _ hj)
    refine⟨_,rfl,_,rfl,fa j,_,_,_,rfl,rfl,SqL.of kb,zgm ie,(by show 1≤sizeLine;decide),λp1 h1=>?_⟩
    have k1:Keep [] e8 (upd e8 p1 (.lst [V.str (zs.getD (2+m*j+on) z0)])):=Keep.new h1
    have q1:(upd e8 p1 (.lst [V.str (zs.getD (2+m*j+on) z0)])) p1=some (.lst ([2+m*j+on].map λk=>V.str (zs.getD k z0))):=zac
    generalize upd e8 p1 (.lst [V.str (zs.getD (2+m*j+on) z0)])=H13 at k1 q1
    refine⟨_,rfl,p1,b9,_,_,rfl,rfl,q1,k1 _ _ lB (by simp),by rw[Qa,Qa];show 1+_≤_;omega,λp2 h2=>?_⟩
    rw[←Qp]
    have qD:Keep [] e8 (upd H13 p2 (.lst (([2+m*j+on]++ab).map λk=>V.str (zs.getD k z0)))):=k1.trans (Keep.new h2)
    have q2:(upd H13 p2 (.lst (([2+m*j+on]++ab).map λk=>V.str (zs.getD k z0)))) p2=some (.lst (([2+m*j+on]++ab).map λk=>V.str (zs.getD k z0))):=zac
    generalize upd H13 p2 (.lst (([2+m*j+on]++ab).map λk=>V.str (zs.getD k z0)))=oH at qD q2
    refine⟨_,rfl,_,rfl,_,_,rfl,rfl,fa j,_,_,_,rfl,rfl,SqL.of (qD _ _ kb (by simp)),at_ring' hq,(by show 1≤sizeLine;decide),λp3 h3=>?_⟩
    have k3:Keep [] e8 (upd oH p3 (.lst [V.str (zs.getD (2+m*j+bk m q) z0)])):=qD.trans (Keep.new h3)
    have q3:(upd oH p3 (.lst [V.str (zs.getD (2+m*j+bk m q) z0)])) p3=some (.lst ([2+m*j+bk m q].map λk=>V.str (zs.getD k z0))):=zac
    have kR:(upd oH p3 (.lst [V.str (zs.getD (2+m*j+bk m q) z0)])) p2=_:=(zad (zaa q2 h3)).trans q2
    generalize upd oH p3 (.lst [V.str (zs.getD (2+m*j+bk m q) z0)])=H15 at k3 q3 kR
    refine⟨p2,p3,_,_,rfl,rfl,kR,q3,by rw[Qa,Qa,Qq];show 1+_+1≤_;omega,λp4 h4=>?_⟩
    rw[←Qp]
    have k4:Keep [] e8 (upd H15 p4 (.lst (([2+m*j+on]++ab++[2+m*j+bk m q]).map λk=>V.str (zs.getD k z0)))):=k3.trans (Keep.new h4)
    have q4:(upd H15 p4 (.lst (([2+m*j+on]++ab++[2+m*j+bk m q]).map λk=>V.str (zs.getD k z0)))) p4=some (.lst (([2+m*j+on]++ab++[2+m*j+bk m q]).map λk=>V.str (zs.getD k z0))):=zac
    generalize upd H15 p4 (.lst (([2+m*j+on]++ab++[2+m*j+bk m q]).map λk=>V.str (zs.getD k z0)))=H16 at k4 q4
    refine⟨_,rfl,p4,jg,_,_,rfl,rfl,q4,k4 _ _ oy (by simp),by rw[Qa,Qa,Qq,Qq];show 1+_+1+_≤_;omega,λp5 h5=>?_⟩
    rw[←Qp]
    have ecr:[2+m*j+on]++ab++[2+m*j+bk m q]++be=capR m ly (2+m*j+q):=by rw[capR_at hq,rQ,gN,gK]
    rw[ecr]
    have k5:Keep [] e8 (upd H16 p5 (.lst ((capR m ly (2+m*j+q)).map λk=>V.str (zs.getD k z0)))):=k4.trans (Keep.new h5)
    have q5:(upd H16 p5 (.lst ((capR m ly (2+m*j+q)).map λk=>V.str (zs.getD k z0)))) p5=some (.lst (((capR m ly (2+m*j+q)).map λk=>zs.getD k z0).map V.str)):=by rw[zac,Zi];rfl
    have f5:e8 p5=none:=zan k4 h5 (by simp)
    generalize upd H16 p5 (.lst ((capR m ly (2+m*j+q)).map λk=>V.str (zs.getD k z0)))=H17 at k5 q5
    obtain⟨es,rn,rs,fr,kp⟩:=C12
    have aJ:es.length=2+m*j+q:=by
     have:=congrArg List.length rs
     unfold rsOf at this
     rw[Qa,Qa,Yd]at this;exact this
    have em:zs.getD (2+m*j+q) z0∉es.map (·.1):=λz=>by
     rw[←zbf,rs,Zi]at z
     obtain⟨i,hi,e⟩:=Qh.mp z
     have du:=Ur.mp hi
     have:=iN i (2+m*j+q) (by omega) (by omega) e
     omega
    refine⟨_,rfl,_,rfl,_,rfl,fa j,_,_,_,rfl,rfl,SqL.of (k5 _ _ kb (by simp)),zgm hq,d,_,rfl,DPut.k (k:=Sum.inr (zs.getD (2+m*j+q) z0)) (k5 _ _ rn.dc (by simp)) (by rw[Qa,aJ];omega),?_⟩
    have sJ:H p5=none:=by
     refine zan (xs:=[d]) ((k2.sub (by simp)).trans kp) f5 ?_
     simpa using λz:p5=d=>(by rw[z,rn.dc]at f5;cases f5)
    refine⟨_,_,_,_,rfl,es++[(zs.getD (2+m*j+q) z0,(capR m ly (2+m*j+q)).map λk=>zs.getD k z0,p5)],rn.newR k5 f5 em q5,?_,λe he=>?_,(kp.trans (k5.sub (by simp))).trans (Keep.wr (by simp))⟩
    ·rw [← Nat.add_assoc,List.range_succ,Qp,← rs]
     unfold rsOf
     rw[Qp];rfl
    ·rcases Qf.mp he with z | z
     ·exact fr e z
     ·rw[Qb.mp z];exact sJ
   ·rintro σ H6 ⟨x5,x6,x7,x8,x9,eU,rfl,es,rn,rs,fr,kp⟩
    rw[cV]at rs
    have hc40:2+m*ly≤40:=by have:=hb (ly-1) (by omega);rw[show m*ly=m*(ly-1)+m by rw[←Nat.mul_succ];congr 1;omega];omega
    have aJ:es.length=2+m*ly:=by
     have:=congrArg List.length rs
     unfold rsOf at this
     rw[Qa,Qa,Yd]at this;exact this
    refine⟨_,rfl,k d es H6 fd ⟨rn,?_,by omega⟩ (λz=>by rw[z]at aJ;have:0=2+m*ly:=aJ;omega) ?_ fr ?_⟩
    ·rw[rs];exact cap_good hm hly aD (by omega) z0
    ·rw [← zbf,rs,Zi]
     refine List.ext_getElem (by rw[Qa,Yd,Zj];omega) λi h1 h2=>?_
     have hi:i<zs.length:=by rw[Zj]at h2;omega
     rw[Zm,Ui,Wr]
     show zs.getD i z0=_
     rw[Zs,Qd hi];rfl
    ·intro c o ec _
     exact kp c o (k2 c o ec (by simp)) (by simpa using zaa ec fd)
end
end K21
end
section
namespace L2
def if_and{t u:TT}{A B:TS}{D:Ends}{σ:St}{H:Hp}(P:Prop)(ht:∀k:Bool→Hp→Prop,k true H→k false H→t σ H k)(hu:∀k:Bool→Hp→Prop,(P→k true H)→k false H→u σ H k)(q0:B D σ H)(q1:P→A D σ H):tIfS (tAnd t u) A B D σ H :=
 have q0':if(false=true) then A D σ H else B D σ H:=iteF q0
 ht _ (by
  show if(true=true) then u σ H (λb H1=>if b=true then A D σ H1 else B D σ H1) else _
  exact iteT (hu _ (λp=>iteT (q1 p)) q0')) (by
  show if(false=true) then _ else(if(false=true) then A D σ H else B D σ H)
  exact iteF q0')
end L2
namespace K21
open PySem L2 Wb
abbrev zhr:Stmt:=top 40
inductive RI(zs:Nf)(l:Nc)(H:Hp)(d:Nc)(H':Hp):Prop
 |mk (es:List Ent) (dr:Dr H' d es) (nm:es.map (·.1)=zs.take es.length) (ne:es≠[]) (fr:∀e∈es,H e.2.2=none) (nl:∀e∈es,e.2.2≠l) (hl:H' l=some (.lst (zs.map V.str))) (kp:Keep [] H H'):RI zs l H d H'
def RI.deed{zs:Nf}{l d p:Nc}{H Hr H2:Hp}{es ao:List Ent}{ex:Nf}(fd:H d=none)(nm:es.map (·.1)=zs.take es.length)(ne:es≠[])(fr:∀e∈es,H e.2.2=none)(nl:∀e∈es,e.2.2≠l)(hl:Hr l=some (.lst (zs.map V.str)))(dr:Dr Hr d es)(kp:Keep [] H Hr)(hp:H p=none)(lp:l≠p)(D:Deed p d Hr es ex ao H2)(cu:zs.take es.length++ex=zs.take (es.length+ex.length)):RI zs l H d H2:=by
 have af:ao.length=es.length+ex.length:=by
  have:=congrArg List.length D.nm
  rwa[Qa,Qq,Qa]at this
 have nld:l≠d:=za5 hl dr.rn.dc (by intro z;cases z)
 have ad:∀e∈ao,H e.2.2=none∧e.2.2≠l:=λe he=>by
  rcases D.ad _ (Qh.mpr ⟨e,he,rfl⟩) with z | z
  ·obtain ⟨e0,h0,e1⟩:=Qh.mp z
   rw[←e1];exact⟨fr e0 h0,nl e0 h0⟩
  ·exact⟨zan kp z (by simp),Zb (zaa hl z)⟩
 refine⟨ao,D.dr,by rw[D.nm,nm,cu,af],λz=>?_,λe he=>(ad e he).1,λe he=>(ad e he).2,D.kp _ _ hl ?_,λc o ec _=>D.kp c o (kp c o ec (by simp)) ?_⟩
 ·rw [z] at af
  have:0<es.length:=Ws.mpr ne
  have:0=es.length+ex.length:=af
  omega
 ·simp only [Qe,not_or]
  refine⟨lp,nld,λz=>?_⟩
  obtain⟨e0,h0,e1⟩:=Qh.mp z
  exact nl e0 h0 e1
 ·simp only [Qe,not_or]
  refine⟨zaa ec hp,zaa ec fd,λz=>?_⟩
  obtain⟨e0,h0,e1⟩:=Qh.mp z
  exact zaa ec (fr e0 h0) e1.symm
inductive zgr(K:Nb)(vs:List V)(H:Hp)(Q:VK):Prop
 |mk (a:Nc) (ns:List Int) (h0:vs=[.ref a]) (h1:SqL K H a (ns.map V.int)) (h2:ns.length≤1000) (h3:∀(d:Nc) (es:List Ent) (H':Hp),Dr H' d es→es≠[]→(∀e∈es,zfc e.1)→H d=none→Keep [] H H'→Q (.ref d) H'):zgr K vs H Q
def zg3(K:Nb):Sp:=λvs H Q _=>zgr K vs H Q
section
variable{P:Nj}{w:Nl}{K:Nb}{mg:Ng}{base:Nm}
def zcd:zau ["_law_script", "_law_pot_here", "_law_names_here", "_law_rounds_here", "_law_way", "_law_k", "_law_line", "_law_deed"] ["_law_script"] (zag zhr):=⟨rfl,rfl,rfl,by decide +kernel,rfl,by decide +kernel,by decide +kernel⟩
def ok_rounds{f fp fn ft fg fc fl fm fa fx:Nc}{fd fdp fdn fdt fdg fdc fdl fdm fda fdx:No}(F:Fun K "_law_rounds" "_law_rounds" zhr f fd)(FP:Fun K "_law_pot" "_law_pot" sPot fp fdp)(bP:Binds K fdp ["_law_script", "_law_k"] [])(mP:mg "_law_pot" = some (.ref fp))(GP:FnOk P w K mg base CX0 1 fp fdp ["_law_script", "_law_k"] (spPot K))(FN:Fun K "_law_names" "_law_names" zdr fn fdn)(bN:Binds K fdn ["_law_pot_here", "_law_many"] [])(mN:mg "_law_names" = some (.ref fn))(GN:FnOk P w K mg base CX0 2 fn fdn ["_law_pot_here", "_law_many"] spNames)(FT:Fun K "_law_draw" "_law_draw" zgw ft fdt)(bT:Binds K fdt ["_law_pot_here", "_law_many"] [])(mT:mg "_law_draw" = some (.ref ft))(GT:FnOk P w K mg base CX0 1 ft fdt ["_law_pot_here", "_law_many"] ze4)(FG:Fun K "_law_long" "_law_long" sLong fg fdg)(bG:Binds K fdg ["_law_names_here"] [])(mG:mg "_law_long" = some (.ref fg))(GG:FnOk P w K mg base CX0 3 fg fdg ["_law_names_here"] spLong)(FC:Fun K "_law_capped" "_law_capped" sCap fc fdc)(bC:Binds K fdc ["_law_names_here", "_law_many", "_law_layers"] [])(mC:mg "_law_capped" = some (.ref fc))(GC:FnOk P w K mg base CX0 1 fc fdc ["_law_names_here", "_law_many", "_law_layers"] spCap)(FL:Fun K "_law_fill" "_law_fill" sFill fl fdl)(bL:Binds K fdl ["_law_rounds_here", "_law_pot_here", "_law_name"] [])(mL:mg "_law_fill" = some (.ref fl))(GL:FnOk P w K mg base CX0 3 fl fdl ["_law_rounds_here", "_law_pot_here", "_law_name"] spFill)(FM:Fun K "_law_more" "_law_more" sMore fm fdm)(bM:Binds K fdm ["_law_rounds_here", "_law_pot_here", "_law_name"] [])(mM:mg "_law_more" = some (.ref fm))(GM:FnOk P w K mg base CX0 3 fm fdm ["_law_rounds_here", "_law_pot_here", "_law_name"] spMore)(FA:Fun K "_law_away" "_law_away" sAway fa fda)(bA:Binds K fda ["_law_rounds_here", "_law_pot_here"] [])(mA:mg "_law_away" = some (.ref fa))(GA:FnOk P w K mg base CX0 3 fa fda ["_law_rounds_here", "_law_pot_here"] zfk)(FX:Fun K "_law_across" "_law_across" zhx fx fdx)(bX:Binds K fdx ["_law_rounds_here", "_law_pot_here"] [])(mX:mg "_law_across" = some (.ref fx))(GX:FnOk P w K mg base CX0 3 fx fdx ["_law_rounds_here", "_law_pot_here"] zfk)(af:mg "len" = none)(fQ:mg "min" = none)(cM:mg "range" = none):FnOk P w K mg base CX0 4 f fd ["_law_script"] (zg3 K):=by
 refine F.ok zcd (λvs H Q E h=>?_) (λcdv A outer s H vs Q E hr h=>?_)
 ·obtain ⟨a,ns,rfl,_⟩:=h
  rfl
 ·obtain ⟨a,ns,rfl,ha,dm,k⟩:=h
  have hu:=zb5 hr
  have aE:Room 1 _:=hr.mono (by decide)
  have cN:Room 2 _:=hr.mono (by decide)
  have aL:sizeLine=16777216:=sizeLine_eq
  refine⟨_,zae (zak (i:=1) zcd.nd rfl (Or.inl rfl) (zaj GP aE rfl mP FP.kp bP .nil zav (zab (pv 0) (zab zai zaf))))
   (zae (zak (i:=2) zcd.nd rfl (Or.inl rfl) (zaj GN cN rfl mN FN.kp bN .nil zav (zab (pv 1) (zab zai zaf))))
   (zae (zak (i:=3) zcd.nd rfl (Or.inl rfl) (zf0 (zdk (za1 zap (pv 2) zai (λ_ _=>rfl)) (zbc zaf) zfy) rfl rfl (by decide) (by decide)))
   (zae (zak (i:=4) zcd.nd rfl (Or.inl rfl) (zaj GT aE rfl mT FT.kp bT .nil zav (zab (pv 1) (zab zai zaf))))
   (zae (zbs (zar op_eq (pv 4) zai (zbd _)) (zah (zak (i:=3) zcd.nd rfl (Or.inl rfl) (zaj GG hr rfl mG FG.kp bG .nil zav (zab (pv 2) zaf))))
     (zah (zbs (zar op_lt (pv 4) zai (zbd _)) (zah (zak (i:=3) zcd.nd rfl (Or.inl rfl) (zaj GC aE rfl mC FC.kp bC .nil zav (zab (pv 2) (zab (zaw zbv zai (zaj GT aE rfl mT FT.kp bT .nil zav (zab (pv 1) (zab zai zaf)))) (zab (zaw zbv zai (zaj GT aE rfl mT FT.kp bT .nil zav (zab (pv 1) (zab zai zaf)))) zaf)))))) zay)))
   (zae (zbn Zo rfl (pi_range2 rfl cM (zab zai (zab (zam (call_min2 rfl) (by rfl) fQ Xc (zab (zam zas (by rfl) af Zv (zab (pv 0) zaf)) (zab zai zaf))) zaf))) (zal (i:=5) zcd.nd rfl (Or.inl rfl))
    (zae (zak (i:=6) zcd.nd rfl (Or.inl rfl) (zaj GP aE rfl mP FP.kp bP .nil zav (zab (pv 0) (zab (pv 5) zaf))))
    (zae (zak (i:=7) zcd.nd rfl (Or.inl rfl) (zaj GT aE rfl mT FT.kp bT .nil zav (zab (pv 6) (zab zai zaf))))
    (zah (zbs (PW.pt (zg6 (zar op_lt (pv 7) zai (zbd _)) (zev (zar op_lt (zam zep (by rfl) af Zv (zab (pv 3) zaf)) zai (zbd _)))))
     (zah (za3 (zaj GL hr rfl mL FL.kp bL .nil zav (zab (pv 3) (zab (pv 6) (zab (za1 zap (pv 2) (zam zep (by rfl) af Zv (zab (pv 3) zaf)) (λ_ _=>rfl)) zaf))))))
     (zah (zbs (PW.pt (zg6 (zar op_eq (pv 7) zai (zbd _)) (zev (zar op_lt (zam zep (by rfl) af Zv (zab (pv 3) zaf)) zai (zbd _)))))
      (zah (za3 (zaj GM hr rfl mM FM.kp bM .nil zav (zab (pv 3) (zab (pv 6) (zab (za1 zap (pv 2) (zam zep (by rfl) af Zv (zab (pv 3) zaf)) (λ_ _=>rfl)) zaf))))))
      (zah (zbs (zar op_eq (pv 7) zai (zbd _))
       (zah (za3 (zaj GA hr rfl mA FA.kp bA .nil zav (zab (pv 3) (zab (pv 6) zaf)))))
       (zah (za3 (zaj GX hr rfl mX FX.kp bX .nil zav (zab (pv 3) (zab (pv 6) zaf))))))))))))))
   (zah (zbm (pv 3)))))))),?_⟩
  refine⟨_,rfl,a,ns,0,rfl,ha,by decide,dm,λp b m H1 jO aR k1=>?_⟩
  have fp:H p=none:=jO
  refine⟨_,rfl,p,b,m,40,rfl,aR,by decide,λl zs b2 m2 H2 aj dB ju qI av fl k2=>?_⟩
  have z0:0<zs.length:=by omega
  have kX:Keep [] H H2:=λc o ec _=>k2 c o (k1 c o ec (by simp)) (by simpa using zaa ec fp)
  have gz:∀j (hj:j<zs.length),(zs.map V.str)[j]?=some (.str zs[j]):=λj hj=>by rw[Qs,Qd hj];rfl
  have nlp:l≠p:=zb3 av aj
  refine λd hd=>?_
  have kd:Keep [] H2 (upd H2 d (.dK [])):=Keep.new hd
  refine⟨_,rfl,l,_,_,_,rfl,rfl,SqL.of (kd _ _ aj (by simp)),zaq (j:=0) (gz 0 z0),(by show 0≤sizeLine;decide),λr gD=>⟨by rw[zad (zaa (o:=_) zac gD)];exact zac,[(Sum.inr zs[0],.ref r)],rfl,(by show 1≤15;decide),?_⟩⟩
  have cX:d≠r:=zaa (o:=_) zac gD
  have frr:H2 r=none:=zan kd gD (by simp)
  have k3:Keep [] H2 (upd (upd (upd H2 d (.dK [])) r (.lst [])) d (.dK (zcm [] [((Sum.inr zs[0]:Key),V.ref r)]))):=λc o ec _=>by
   rw[zad (zaa ec hd),zad (zaa ec frr),zad (zaa ec hd)];exact ec
  have R3:RN (upd (upd (upd H2 d (.dK [])) r (.lst [])) d (.dK (zcm [] [((Sum.inr zs[0]:Key),V.ref r)]))) d [(zs[0],[],r)]:=by
   refine⟨⟨zac,λe he=>?_,Wp _ _⟩,Wp _ _⟩
   rw[Qb.mp he]
   show upd _ _ _ r=_
   rw[zad (Zb cX)]
   exact zac
  generalize upd (upd (upd H2 d (.dK [])) r (.lst [])) d (.dK (zcm [] [((Sum.inr zs[0]:Key),V.ref r)]))=H3 at k3 R3
  have D3:Dr H3 d [(zs[0],[],r)]:=⟨R3,za4.new [] zs[0] za4.nil (by simp),by show 1≤40;decide⟩
  have ay:=av.keep k3 (by simp)
  refine⟨_,rfl,p,b2,m2,8,rfl,ay,by decide,by decide,λway b4 m4 H4 hw0 hw1 ca iL=>?_⟩
  have k4:Keep [p] H2 H4:=(k3.sub (by simp)).trans (zbg iL)
  have iM:Keep [] H H4:=λc o ec _=>k4 c o (kX c o ec (by simp)) (by simpa using zaa ec fp)
  have bu:=k4 _ _ aj (by simpa using nlp)
  have fd:H d=none:=zan kX hd (by simp)
  have R0:RI zs l H d H4:=⟨_,D3.pot ay (zbg iL),by show[zs[0]]=zs.take (0+1);rw[Qm z0];rfl,by simp,λe he=>by rw[Qb.mp he];exact zan kX frr (by simp),λe he=>by rw[Qb.mp he];exact Zb (zaa aj frr),bu,iM⟩
  refine join (λ σ H'=>Ex4 λ(d':Nc) x5 x6 x7=>Aj3 (σ=[some (.ref a),some (.ref p),some (.ref l),some (.ref d'),some (.int way),x5,x6,x7]) (H d'=none) (RI zs l H d' H')) (λD' hD=>?_) ?_
  ·refine ⟨_,rfl,rfl,_,rfl,?_⟩
   refine ite2 (λ_=>?_) (λ_=>?_)
   ·refine ⟨_,rfl,l,zs,rfl,bu,ju,dB,fun d' es H5 lA D5 ne nm fr k5=>hD _ _ ⟨d',_,_,_,rfl,zan iM lA (by simp),es,D5,?_,ne,fun e he=>zan iM (fr e he) (by simp),fun e he=>Zb (zaa bu (fr e he)),k5 _ _ bu (by simp),iM.trans k5⟩⟩
    have:=congrArg List.length nm
    rw[Qa]at this
    rw[nm,this,Qv (Qi _)]
   ·refine ⟨_,rfl,_,_,rfl,rfl,_,rfl,?_⟩
    refine ite2 (λ_=>?_) (λ_=>?_)
    ·refine ⟨_,rfl,_,rfl,p,b4,m4,3,rfl,ca,by decide,by decide,fun e1 b5 m5 H5 tV h51 bp qy=>⟨_,_,rfl,rfl,_,rfl,p,b5,m5,2,rfl,bp,by decide,by decide,fun e2 b6 m6 H6 lu oo eJ dL=>⟨_,_,rfl,rfl,?_⟩⟩⟩
     obtain⟨e1,rfl⟩:=Zy tV
     obtain⟨e2,rfl⟩:=Zy lu
     have k6:Keep [p] H4 H6:=(zbg qy).trans (zbg dL)
     have dH:=k6 _ _ bu (by simpa using nlp)
     have gr:Keep [] H H6:=λc o ec _=>k6 c o (iM c o ec (by simp)) (by simpa using zaa ec fp)
     refine⟨l,zs,5+e1,2+e2,by rw[Kz,Kz];rfl,by omega,by omega,dH,ju,dB,λd' es H7 lA D7 ne nm fr k7=>hD _ _ ⟨d',_,_,_,rfl,zan gr lA (by simp),es,D7,?_,ne,λe he=>zan gr (fr e he) (by simp),λe he=>Zb (zaa dH (fr e he)),k7 _ _ dH (by simp),gr.trans k7⟩⟩
     have:=congrArg List.length nm
     rw[Qa,Zj]at this
     rw[nm,this,←List.take_eq_take_min]
    ·exact hD _ _ ⟨d,_,_,_,rfl,fd,R0⟩
  rintro σ H5 ⟨d',x5,x6,x7,rfl,lA,R5⟩
  have qA:Keep [] H H5:=by obtain⟨_,_,_,_,_,_,_,kp⟩:=R5;exact kp
  have jT:∀n:Nat,(if(25:Int)<(n:Int) then(25:Int) else(n:Int))≤25∧0≤(if(25:Int)<(n:Int) then(25:Int) else(n:Int)):=λn=>by split<;>omega
  have hmi:=jT (ns.map V.int).length
  refine⟨_,rfl,a,_,rfl,.inl (zhn ha qA),_,_,rfl,1,_,rfl,⟨by decide,by decide,by omega,by omega⟩,?_⟩
  generalize(if(25:Int)<((ns.map V.int).length:Int) then(25:Int) else((ns.map V.int).length:Int))=top at hmi
  refine zel (lo:=1) (λi σ H'=>Ex3 λx5 x6 x7=>Aj2 (σ=[some (.ref a),some (.ref p),some (.ref l),some (.ref d'),some (.int way),x5,x6,x7]) (RI zs l H d' H')) ⟨_,_,_,rfl,R5⟩ ?_ ?_
  ·rintro i σ H6 hi ⟨y5,y6,y7,rfl,es,D6,nm,ne,fr,nl,dH,dL⟩
   refine⟨_,rfl,_,rfl,a,ns,1+i,by rw[Kz];rfl,zhn ha dL,by omega,dm,λq bq mq H7 hq0 eF k7=>?_⟩
   refine⟨_,rfl,q,bq,mq,6,rfl,eF,by decide,by decide,λdeed b8 m8 H8 h80 h81 iW kW=>?_⟩
   have k8:=zbg kW
   have D8:Dr H8 d' es:=(D6.k0 k7).pot eF k8
   have nlq:l≠q:=zaa dH hq0
   have mK:=k8 _ _ (k7 _ _ dH (by simp)) (by simpa using nlq)
   have fq:H q=none:=zan dL hq0 (by simp)
   have kk8:Keep [] H H8:=λc o ec _=>k8 c o (k7 c o (dL c o ec (by simp)) (by simp)) (by simpa using zaa ec fq)
   have fin:∀(ex:Nf) (ao:List Ent) (H9:Hp),Deed q d' H8 es ex ao H9→zs.take es.length++ex=zs.take (es.length+ex.length)→RI zs l H d' H9:=λex ao H9 Dd cu=>RI.deed lA nm ne fr nl mK D8 kk8 fq nlq Dd cu
   have bi:∀(h:es.length<24),(zs.map V.str)[(es.map λe=>((Sum.inr e.1:Key),V.ref e.2.2)).length]?=some (.str (zs[es.length]'(by omega))):=λh=>by rw[Qa];exact gz _ (by omega)
   have hnx:∀(h:es.length<24),zs[es.length]'(by omega)∉es.map (·.1):=λh z=>by
    rw[nm]at z
    obtain⟨j,hj,e⟩:=Zr z
    rw[Zj]at hj
    rw[Wr]at e
    have:=(Yi ju).mp e
    omega
   have cu:∀(h:es.length<24),zs.take es.length++[zs[es.length]'(by omega)]=zs.take (es.length+[zs[es.length]'(by omega)].length):=λh=>(Qm (by omega)).symm
   have small:∀k:Bool→Hp→Prop,(es.length<24→k true H8)→k false H8→k (decide (((es.map λe=>((Sum.inr e.1:Key),V.ref e.2.2)).length:Int)<24)) H8:=λk h1 h0=>by
    rw[Qa]
    by_cases h:es.length<24
    ·rw[decide_eq_true (by omega:(es.length:Int)<24)];exact h1 h
    ·rw[decide_eq_false (by omega:¬(es.length:Int)<24)];exact h0
   have both:∀(c:Prop) [Decidable c] (k:Bool→Hp→Prop),k true H8→k false H8→k (decide c) H8:=λc _ k h1 h0=>by
    cases decide c
    ·exact h0
    ·exact h1
   dsimp only[gName]
   refine if_and (es.length<24) (λk h1 h0=>⟨_,rfl,_,_,rfl,rfl,_,rfl,both _ k h1 h0⟩) (λk h1 h0=>⟨_,rfl,d',_,rfl,D8.rn.dc,_,_,rfl,rfl,_,rfl,small k h1 h0⟩) ?_ (λag=>?_)
   ·refine if_and (es.length < 24) (fun k h1 h0=>⟨_,rfl,rfl,_,rfl,both _ k h1 h0⟩) (fun k h1 h0=>⟨_,rfl,d',_,rfl,D8.rn.dc,_,_,rfl,rfl,_,rfl,small k h1 h0⟩) ?_ (fun ag=>?_)
    ·refine ⟨_,rfl,rfl,_,rfl,ite2 (fun _=>?_) (fun _=>?_)⟩
     ·exact⟨_,rfl,_,rfl,q,d',b8,m8,es,rfl,iW,D8,λb9 m9 ao H9 rP Dd=>⟨_,_,_,rfl,fin [] ao H9 Dd (by simp)⟩⟩
     ·exact⟨_,rfl,_,rfl,q,d',b8,m8,es,rfl,iW,D8,λb9 m9 ao H9 rP Dd=>⟨_,_,_,rfl,fin [] ao H9 Dd (by simp)⟩⟩
    ·exact⟨_,rfl,_,rfl,_,rfl,_,rfl,d',_,rfl,D8.rn.dc,l,_,_,_,rfl,rfl,SqL.of mK,zaq (bi ag),q,d',b8,m8,es,_,rfl,iW,D8,by omega,ne,hnx ag,λb9 m9 ao H9 rP Dd=>⟨_,_,_,rfl,fin _ ao H9 Dd (cu ag)⟩⟩
   ·exact⟨_,rfl,_,rfl,_,rfl,_,rfl,d',_,rfl,D8.rn.dc,l,_,_,_,rfl,rfl,SqL.of mK,zaq (bi ag),q,d',b8,m8,es,_,rfl,iW,D8,by omega,hnx ag,λb9 m9 ao H9 rP Dd=>⟨_,_,_,rfl,fin _ ao H9 Dd (cu ag)⟩⟩
  ·rintro σ H6 ⟨y5,y6,y7,rfl,es,D6,nm,ne,fr,nl,dH,dL⟩
   exact⟨_,rfl,k d' es H6 D6 ne (λe he=>qI _ (Us (nm▸Qh.mpr ⟨e,he,rfl⟩))) lA dL⟩
end
end K21
end
section
namespace K21
open PySem L2 Wb
inductive IspPieceL(vs:List V)(H:Hp)(Q:VK):Prop
 |mk (d:Nc) (es:List Ent) (x:Str) (h0:vs=[.ref d,.str x]) (h1:RAt H d es) (h2:es.length≤60) (h3:∀z y,y∈row (rsOf es) z→y∈es.map (·.1)) (h4:x∈es.map (·.1)) (h5:∀(l:Nc) (zs:Nf) (H':Hp),H' l=some (.lst (zs.map V.str))→zs.Nodup→zs.Pairwise leS→(∀y,y∈zs↔Conn (row (rsOf es)) x y)→H l=none→Keep [] H H'→Q (.ref l) H'):IspPieceL vs H Q
def spPieceL:Sp:=λvs H Q _=>IspPieceL vs H Q
section
variable{P:Nj}{w:Nl}{K:Nb}{mg:Ng}{base:Nm}
def ok_pieceL{f:Nc}{fd:No}(F:Fun K "piece_from" "piece_from" zg5 f fd)(aY:mg "sorted" = none):FnOk P w K mg base CX0 1 f fd ["rounds", "start"] spPieceL:=by
 refine F.ok zcs (λvs H Q E h=>?_) (λcdv A outer s H vs Q E hr h=>?_)
 ·obtain ⟨d,es,x,rfl,_⟩:=h
  rfl
 ·obtain ⟨d,es,x,rfl,T,ba,aV,hx,k⟩:=h
  have hu:=zb5 hr
  have aL:sizeLine=16777216:=sizeLine_eq
  refine⟨_,zae (zak (i:=2) zcs.nd rfl (Or.inl rfl) (zf0 (zdk (pv 1) pe_bl zfy) rfl rfl (by decide) (by decide)))
   (zae (zak (i:=3) zcs.nd rfl (Or.inl rfl) (zbc (zab (pv 1) zaf)))
   (zae (zeg Zo (zef (pv 3) (by intro _;rfl))
    (zae (zak (i:=4) zcs.nd rfl (Or.inl rfl) (pe_bm0 Zk PySem.F.slot_list_pop PySem.F.type_list_pop mt_pop (pv 3)))
    (zah (zbn Zo rfl (za9 (zaz hu (pv 0) (pv 4) (fun _ _=>rfl))) (zal (i:=5) zcs.nd rfl (Or.inl rfl))
     (zah (zbs (zc5 (zcl hu (pv 5) (pv 2)))
      (zae (zcu hu (pv 2) (pv 5) pe_bl rfl)
      (zah (za3 (zdo Zk Yn Ym zb4 (pv 3) (zab (pv 5) zaf))))) zay))))))
   (zah (zbm (zam (zcg rfl) (by rfl) aY Wc (zab (pv 2) zaf)))))),?_⟩
  have ap:∀e∈es,row (rsOf es) e.1=e.2.1:=λe he=>zbk T.nd he
  refine λre di=>⟨_,rfl,zac,[(Sum.inr x,.bl true)],rfl,(by show 1≤15;decide),?_⟩
  have fR:(zcm [] [((Sum.inr x:Key),V.bl true)])=marks [x]:=rfl
  rw[fR]
  have kre:Keep [] H (upd (upd H re (.dK [])) re (.dK (marks [x]))):=by rw[upd_upd];exact Keep.new di
  have bK:(upd (upd H re (.dK [])) re (.dK (marks [x]))) re=some (.dK (marks [x])):=zac
  generalize upd (upd H re (.dK [])) re (.dK (marks [x]))=H1 at kre bK
  refine⟨_,rfl,(by show 1≤sizeLine;decide),λwa jA=>?_⟩
  have k2:Keep [] H (upd H1 wa (.lst [.str x])):=kre.trans (Keep.new jA)
  have da:H wa=none:=zan (xs:=[]) kre jA (by simp)
  have fF:(upd H1 wa (.lst [.str x])) wa=some (.lst ([x].map V.str)):=zac
  have gR:re≠wa:=zaa bK jA
  have cL:(upd H1 wa (.lst [.str x])) re=some (.dK (marks [x])):=by rw[zad gR];exact bK
  generalize upd H1 wa (.lst [.str x])=H2 at k2 fF cL
  have T2:RAt H2 d es:=T.keep k2 (by simp) (λ_ _=>by simp)
  have cX:d≠re:=zaa T.dc di
  have ndw:d≠wa:=zaa T.dc da
  have rowne:∀e∈es,e.2.2≠re∧e.2.2≠wa:=λe he=>⟨zaa (T.ro e he) di,zaa (T.ro e he) da⟩
  refine⟨λm σ H'=>Aj3 (Ex2 λx4 x5=>σ=[some (.ref d),some (.str x),some (.ref re),some (.ref wa),x4,x5]) (Keep [re,wa] H2 H') (Ex2 λ(ks wl:Nf)=>Aj9 (H' re=some (.dK (marks ks))) (H' wa=some (.lst (wl.map V.str))) ks.Nodup wl.Nodup (∀z∈wl,z∈ks) (∀z∈ks,z∈es.map (·.1)∧Conn (row (rsOf es)) x z) (x∈ks) (∀z∈ks,z∉wl→∀y∈row (rsOf es) z,y∈ks) (m=es.length+wl.length-ks.length)),
   ⟨_,⟨none,none,rfl⟩,Keep.refl,[x],[x],cL,fF,Qr.mpr ⟨by simp,Zh⟩,Qr.mpr ⟨by simp,Zh⟩,λz h=>h,λz h=>(by rw[Qb.mp h];exact⟨hx,.refl⟩),Qc,λz h h'=>absurd h h',rfl⟩,?_⟩
  rintro m σ H3 ⟨⟨x4,x5,rfl⟩,k3,ks,wl,bh,de,dR,cF,gY,dq,lN,gI,rfl⟩
  have sq:ks.length≤es.length:=by
   have:=zci dR (m:=es.map (·.1)) λz hz=>(dq z hz).1
   rwa[Qa]at this
  have fC:wl.length≤ks.length:=zci cF gY
  refine⟨_,rfl,_,.inl ⟨_,SqL.of de,rfl⟩,?_⟩
  rcases List.eq_nil_or_concat wl with cv | ⟨ini,z,cv⟩
  ·-- all are reached
   subst cv
   refine zcn rfl ?_
   refine⟨_,rfl,re,_,ks,rfl,.inl bh,mkeys ks,λl zs hl ak aH=>?_⟩
   have kf:Keep [] H H3:=λc u ec _=>k3 c u (k2 c u ec (by simp)) (by simp[zaa ec di,zaa ec da])
   refine k l zs _ zac (ak.nodup_iff.mpr dR) (aH (by omega)) (λy=>?_) (zan kf hl (by simp)) (kf.trans (Keep.new hl))
   rw[ak.mem_iff]
   constructor
   ·exact λh=>(dq y h).2
   ·intro hc
    induction hc with
    |refl=>exact lN
    |step _ hz ih=>exact gI _ ih (by simp) _ hz
  ·rw [List.concat_eq_append] at cv
   subst cv
   refine zdc (by rw[Qp];cases ini<;>rfl) ?_
   refine⟨_,λ σ' H' zz=>zz,?_⟩
   have gv:z∈ks:=gY z (Qo _ Qc)
   obtain⟨en,aJ,cE⟩:=Qh.mp (dq z gv).1
   have cD:en.1=z:=cE
   rw[Za]at cF
   obtain⟨ar,_,kl⟩:=cF
   have iN:z∉ini:=λq=>kl z q z Qc rfl
   have cQ:((ini++[z]).map V.str)[((ini++[z]).map V.str).length-1]?=some (.str z):=by
    rw[Qp,Qq,Wz (by simp)]
    simp
   have j8:((ini++[z]).map V.str).dropLast=ini.map V.str:=by rw[Qp];exact List.dropLast_concat
   refine⟨_,rfl,.inl ⟨rfl,_,SqL.of de⟩,wa,_,_,rfl,rfl,de,cQ,?_⟩
   rw[j8]
   have k4:Keep [re,wa] H2 (upd H3 wa (.lst (ini.map V.str))):=k3.trans (Keep.wr (by simp))
   have fE:(upd H3 wa (.lst (ini.map V.str))) wa=some (.lst (ini.map V.str)):=zac
   have cK:(upd H3 wa (.lst (ini.map V.str))) re=some (.dK (marks ks)):=by rw[zad gR];exact bh
   generalize upd H3 wa (.lst (ini.map V.str))=H4 at k4 fE cK
   have T4:RAt H4 d es:=T2.keep k4 (by simp[cX,ndw]) λe he=>by simp[(rowne e he).1,(rowne e he).2]
   have dg:DGet H4 d (.str z) (some (.ref en.2.2)):=by
    have:=DGet.k (k:=Sum.inr en.1) T4.dc
    rw[zbu T4.nd aJ,cD]at this
    exact this
   have iT:row (rsOf es) z=en.2.1:=by rw[←cD];exact ap en aJ
   refine⟨_,rfl,_,rfl,d,_,rfl,dg,en.2.2,rfl,⟨_,SqL.of (T4.ro en aJ)⟩,zbt (xs:=en.2.1.map V.str) (λj σ H'=>Aj3 (Ex1 λx5=>σ=[some (.ref d),some (.str x),some (.ref re),some (.ref wa),some (.str z),x5]) (Keep [re,wa] H2 H') (Ex1 λ(nw:Nf)=>Aj5 (H' re=some (.dK (marks (ks++nw)))) (H' wa=some (.lst ((ini++nw).map V.str))) ((ks++nw).Nodup) (∀y∈nw,y∈es.map (·.1)∧Conn (row (rsOf es)) x y) (∀y∈en.2.1.take j,y∈ks++nw)))
    ⟨⟨_,rfl⟩,k4,[],by rw[Zt];exact cK,by rw[Zt];exact fE,by rw[Zt];exact dR,λy hy=>(by cases hy),λy hy=>(by cases hy)⟩
    (λj σ H' _ hh=>SqL.of (hh.2 _ _ (T2.ro en aJ) (by simp[(rowne en aJ).1,(rowne en aJ).2]))) ?_ ?_⟩
   ·rintro j y σ H5 hy ⟨⟨y5,rfl⟩,k5,nw,aP,cj,au,aw,aG⟩
    have hj:j<en.2.1.length:=by
     have:=(Qw.mp hy).1
     rwa[Qa]at this
    have gU:y=.str en.2.1[j]:=by
     rw[Qs,Qd hj]at hy
     exact(Qk hy).symm
    subst gU
    have gW:en.2.1[j]∈row (rsOf es) z:=by rw[iT];exact Qz hj
    have aT:en.2.1.take (j+1)=en.2.1.take j++[en.2.1[j]]:=Qm hj
    have hsz:(ks++nw).length≤es.length:=by
     have:=zci au (m:=es.map (·.1)) λq hq=>by
      rcases Qf.mp hq with h | h
      ·exact(dq q h).1
      ·exact(aw q h).1
     rwa[Qa]at this
    have iH:=DGet.k (k:=Sum.inr en.2.1[j]) aP
    by_cases ar:en.2.1[j]∈ks++nw
    ·rw [valM_in ar] at iH
     refine⟨_,rfl,_,rfl,re,_,rfl,iH,_,rfl,zcn rfl ?_⟩
     refine⟨⟨_,rfl⟩,k5,nw,aP,cj,au,aw,λq hq=>?_⟩
     rw[aT]at hq
     rcases Qf.mp hq with h | h
     ·exact aG q h
     ·rw[Qb.mp h];exact ar
    ·rw [zfg ar] at iH
     refine⟨_,rfl,_,rfl,re,_,rfl,iH,_,rfl,zdc rfl ?_⟩
     refine⟨_,rfl,_,rfl,re,_,rfl,DPut.k (k:=Sum.inr en.2.1[j]) aP (by unfold marks;rw[List.length_map];lia),?_⟩
     rw[zh1 ar]
     have db:(upd H5 re (.dK (marks (ks++nw++[en.2.1[j]])))) wa=some (.lst ((ini++nw).map V.str)):=by rw[zad (Zb gR)];exact cj
     have cn:(upd H5 re (.dK (marks (ks++nw++[en.2.1[j]])))) re=some (.dK (marks (ks++nw++[en.2.1[j]]))):=zac
     have k6:Keep [re,wa] H2 (upd H5 re (.dK (marks (ks++nw++[en.2.1[j]])))):=k5.trans (Keep.wr (by simp))
     generalize upd H5 re (.dK (marks (ks++nw++[en.2.1[j]])))=H6 at db cn k6
     rw[Qq]at hsz
     rw[Qq,Qx,Wk]at fC
     refine⟨_,rfl,.inl ⟨rfl,_,SqL.of db⟩,_,rfl,wa,_,_,rfl,rfl,db,(by rw[Qa,Qq];lia),?_⟩
     refine⟨⟨_,rfl⟩,k6.trans (Keep.wr (by simp)),nw++[en.2.1[j]],by rw[zad gR,←Qu];exact cn,by rw[zac,←Qu,Qp (l₂:=[en.2.1[j]])];rfl,?_,λq hq=>?_,λq hq=>?_⟩
     ·rw [← Qu,Za]
      refine⟨au,Qr.mpr ⟨by simp,Zh⟩,λa ha b hb e=>?_⟩
      rw[Qb.mp hb]at e
      exact ar (e▸ha)
     ·rcases Qf.mp hq with h | h
      ·exact aw q h
      ·rw [Qb.mp h]
       exact⟨aV z _ gW,.step (dq z gv).2 gW⟩
     ·rw [aT] at hq
      rw[←Qu]
      rcases Qf.mp hq with h | h
      ·exact Qn _ (aG q h)
      ·exact Qo _ h
   ·rintro σ H5 ⟨⟨y5,rfl⟩,k5,nw,aP,cj,au,aw,aG⟩
    rw[Qa,Qv (Qi _)]at aG
    have hsz:(ks++nw).length≤es.length:=by
     have:=zci au (m:=es.map (·.1)) λq hq=>by
      rcases Qf.mp hq with h | h
      ·exact(dq q h).1
      ·exact(aw q h).1
     rwa[Qa]at this
    have bj:=au
    rw[Za]at bj
    refine⟨es.length+(ini++nw).length-(ks++nw).length,?_,⟨_,_,rfl⟩,k5,ks++nw,ini++nw,aP,cj,au,?_,?_,?_,Qn _ lN,?_,rfl⟩
    ·rw [Qq] at hsz
     rw[Qq,Qq,Qq,Qx,Wk]
     rw[Qq,Qx,Wk]at fC
     lia
    ·rw [Za]
     refine⟨ar,bj.2.1,λa ha b hb e=>bj.2.2 a (gY a (Qn _ ha)) b hb e⟩
    ·intro q hq
     rcases Qf.mp hq with h | h
     ·exact Qn _ (gY q (Qn _ h))
     ·exact Qo _ h
    ·intro q hq
     rcases Qf.mp hq with h | h
     ·exact dq q h
     ·exact aw q h
    ·intro q hq hX y hy
     rw[Qf,not_or]at hX
     rcases Qf.mp hq with h | h
     ·by_cases ml:q=z
      ·rw[ml,iT]at hy;exact aG y hy
      ·exact Qn _ (gI q h (by rw[Qf,not_or,Qb];exact⟨hX.1,ml⟩) y hy)
     ·exact absurd h hX.2
end
abbrev zhv:Stmt:=top 43
structure HF(H:Hp)(u:Nc)(hs:List (Str×Int)):Prop where
 dc:H u=some (.dK (hs.map λe=>((Sum.inr e.1:Key),V.int e.2)))∨∃o,H u=some (.frz o (.dK (hs.map λe=>((Sum.inr e.1:Key),V.int e.2))))
 nd:(hs.map (·.1)).Nodup
def HF.get{H:Hp}{u:Nc}{hs:List (Str×Int)}(h:HF H u hs)(k:Key):DGet H u (kV k) (valV (hs.map λe=>((Sum.inr e.1:Key),V.int e.2)) k):=.inl ⟨_,k,h.dc,rfl,rfl⟩
def HF.keep{H H':Hp}{u:Nc}{hs:List (Str×Int)}(h:HF H u hs)(k:Keep [] H H'):HF H' u hs:=⟨h.dc.imp (λe=>k _ _ e (by simp)) λ⟨o,e⟩=>⟨o,k _ _ e (by simp)⟩,h.nd⟩
def tw(hs:List (Str×Int))(h0 o:Int)(y:Str):Bool:=inV (hueV hs y) [V.int h0,V.int o]
def r2(es:List Ent)(hs:List (Str×Int))(h0 o:Int)(z:Str):List Str:=(row (rsOf es) z).filter (tw hs h0 o)
inductive IspLChain(vs:List V)(H:Hp)(Q:VK):Prop
 |mk (d u:Nc) (es:List Ent) (hs:List (Str×Int)) (x:Str) (h o:Int) (h0:vs=[.ref d,.ref u,.str x,.int o]) (h1:RAt H d es) (h2:es.length≤40) (oq:∀e∈es,e.2.1.length≤40) (h3:∀z y,y∈row (rsOf es) z→y∈es.map (·.1)) (h4:HF H u hs) (h5:(x,h)∈hs) (h6:x∈es.map (·.1))
  (h7:∀(l:Nc) (zs:Nf) (H':Hp),H' l=some (.lst (zs.map V.str))→zs.Nodup→zs.Pairwise leS→(∀y,y∈zs↔Conn (r2 es hs h o) x y)→H l=none→Keep [] H H'→Q (.ref l) H'):IspLChain vs H Q
def spLChain:Sp:=λvs H Q _=>IspLChain vs H Q
section
variable{P:Nj}{w:Nl}{K:Nb}{mg:Ng}{base:Nm}
def zeb:zau ["_law_rounds_here", "_law_hues_here", "_law_start", "_law_other", "_law_found", "_law_k", "_law_near"] ["_law_rounds_here", "_law_hues_here", "_law_start", "_law_other"] (zag zhv):=⟨rfl,rfl,rfl,by decide +kernel,rfl,by decide +kernel,by decide +kernel⟩
def ok_lchain{f:Nc}{fd:No}(F:Fun K "_law_chain" "_law_chain" zhv f fd)(af:mg "len" = none)(aY:mg "sorted" = none):FnOk P w K mg base CX0 1 f fd ["_law_rounds_here", "_law_hues_here", "_law_start", "_law_other"] spLChain:=by
 refine F.ok zeb (λvs H Q E h=>?_) (λcdv A outer s H vs Q E hr h=>?_)
 ·obtain ⟨d,u,es,hs,x,h,o,rfl,_⟩:=h
  rfl
 ·obtain ⟨d,u,es,hs,x,h0,o,rfl,R,ba,aQ,aV,hh,hxh,hx,k⟩:=h
  have hu:=zb5 hr
  have aL:sizeLine=16777216:=sizeLine_eq
  refine⟨_,zae (zak (i:=4) zeb.nd rfl (Or.inl rfl) (zbc (zab (pv 2) zaf)))
   (zae (zak (i:=5) zeb.nd rfl (Or.inl rfl) zai)
   (zae (zeg Zo (zar op_lt (pv 5) (zam zas (by rfl) af Zv (zab (pv 4) zaf)) (zbd _))
    (zae (zbn Zo rfl (za9 (zaz hu (pv 0) (za1 zap (pv 4) (pv 5) (fun _ _=>rfl)) (fun _ _=>rfl))) (zal (i:=6) zeb.nd rfl (Or.inl rfl))
     (zah (zbs (PW.pt (zg6 (zar zce (pv 6) (pv 4) rfl) (zev (zar op_in_seq (pe_dget1 hu (pv 1) (pv 6) ⟨rfl,rfl,rfl,rfl⟩) (ze7 (zab (zaz hu (pv 1) (pv 2) (fun _ _=>rfl)) (zab (pv 3) zaf))) rfl))))
      (zah (za3 (zdo Zk Yn Ym zb4 (pv 4) (zab (pv 6) zaf)))) zay)))
    (zah (zak (i:=5) zeb.nd rfl (Or.inl rfl) (zaw zbv (pv 5) zai)))))
   (zah (zbm (zam zfd (by rfl) aY Wc (zab (pv 4) zaf)))))),?_⟩
  have ap:∀e∈es,row (rsOf es) e.1=e.2.1:=λe he=>zbk R.nd he
  have bD:valV (hs.map λe=>((Sum.inr e.1:Key),V.int e.2)) (Sum.inr x)=some (.int h0):=valH_in hh.nd hxh
  refine⟨_,rfl,(by show 1≤sizeLine;decide),λfo eN=>?_⟩
  have k1:Keep [] H (upd H fo (.lst [.str x])):=Keep.new eN
  have cS:(upd H fo (.lst [.str x])) fo=some (.lst ([x].map V.str)):=zac
  generalize upd H fo (.lst [.str x])=H1 at k1 cS
  have ndf:d≠fo:=zaa R.dc eN
  have rowne:∀e∈es,e.2.2≠fo:=λe he=>zaa (R.ro e he) eN
  have kc:∀{H':Hp},Keep [fo] H1 H'→Keep [] H H':=λ{H'} kk c w' ec _=>kk c w' (k1 c w' ec (by simp)) (by simpa using zaa ec eN)
  refine⟨λm σ H'=>Aj3 (Keep [fo] H1 H') (Ex1 λx6=>Ex2 λ(i:Nat) (fs:Nf)=>Aj8 (σ=[some (.ref d),some (.ref u),some (.str x),some (.int o),some (.ref fo),some (.int i),x6]) (H' fo=some (.lst (fs.map V.str))) (fs.Nodup) (x∈fs) (i≤fs.length) (∀y∈fs,y∈es.map (·.1)∧Conn (r2 es hs h0 o) x y) (∀j,j<i→∀z,fs[j]?=some z→∀y∈r2 es hs h0 o z,y∈fs) (m=es.length-i)) True,
   ⟨_,Keep.refl,⟨none,0,[x],rfl,cS,Qr.mpr ⟨by simp,Zh⟩,Qc,Zf _,λy hy=>by rw[Qb.mp hy];exact⟨hx,.refl⟩,λj hj=>(by cases hj),rfl⟩,trivial⟩,?_⟩
  rintro m σ H2 ⟨k2,⟨x6,i,fs,rfl,cR,ki,hxf,hif,im,hfc,rfl⟩,-⟩
  have eO:fs.length≤es.length:=by
   have:=zci ki (m:=es.map (·.1)) λz hz=>(im z hz).1
   rwa[Qa]at this
  refine⟨_,rfl,_,rfl,fo,_,rfl,.inl (SqL.of cR),_,_,rfl,rfl,_,rfl,?_⟩
  rw[Qa]
  by_cases ag:i<fs.length
  ·rw [decide_eq_true (by omega:(i:Int) < (fs.length:Int))]
   refine iteT ⟨_,λ σ' H' zz=>zz,?_⟩
   obtain⟨z,iN⟩:∃z,fs[i]?=some z:=⟨_,Qd ag⟩
   have oQ:z∈fs:=Yj iN
   obtain⟨en,aJ,cE⟩:=Qh.mp (im z oQ).1
   have cD:en.1=z:=cE
   have R2:=R.keep (kc k2) (by simp) (λ_ _=>by simp)
   have dg:DGet H2 d (.str z) (some (.ref en.2.2)):=by
    have:=DGet.k (k:=Sum.inr en.1) R2.dc
    rw[zbu R2.nd aJ,cD]at this
    exact this
   have iT:row (rsOf es) z=en.2.1:=by rw[←cD];exact ap en aJ
   have nH:=aQ en aJ
   refine⟨_,rfl,_,rfl,_,rfl,fo,_,_,_,rfl,rfl,SqL.of cR,zaq (by rw[Qs,iN];rfl),d,_,rfl,dg,en.2.2,rfl,⟨_,SqL.of (R2.ro en aJ)⟩,zbt (xs:=en.2.1.map V.str) (λj σ H'=>Aj3 (Keep [fo] H1 H') (Ex1 λx6=>σ=[some (.ref d),some (.ref u),some (.str x),some (.int o),some (.ref fo),some (.int i),x6]) (Ex1 λ(nw:Nf)=>Aj4 (H' fo=some (.lst ((fs++nw).map V.str))) ((fs++nw).Nodup) (∀y∈nw,y∈es.map (·.1)∧Conn (r2 es hs h0 o) x y) (∀y∈en.2.1.take j,tw hs h0 o y=true→y∈fs++nw)))
    ⟨k2,⟨_,rfl⟩,[],by rw[Zt];exact cR,by rw[Zt];exact ki,λy hy=>(by cases hy),λy hy=>(by cases hy)⟩
    (λj σ H' _ sC=>SqL.of (kc sC.1 _ _ (R.ro en aJ) (by simp))) ?_ ?_⟩
   ·rintro j y σ H5 hy ⟨k5,⟨y6,rfl⟩,nw,cr,au,aw,aG⟩
    have hj:j<en.2.1.length:=by
     have:=(Qw.mp hy).1
     rwa[Qa]at this
    have gU:y=.str en.2.1[j]:=by
     rw[Qs,Qd hj]at hy
     exact(Qk hy).symm
    subst gU
    have gW:en.2.1[j]∈row (rsOf es) z:=by rw[iT];exact Qz hj
    have aT:en.2.1.take (j+1)=en.2.1.take j++[en.2.1[j]]:=Qm hj
    have l0:=hh.keep (kc k5)
    have hsz:(fs++nw).length≤es.length:=by
     have:=zci au (m:=es.map (·.1)) λq hq=>by
      rcases Qf.mp hq with h | h
      ·exact(im q h).1
      ·exact(aw q h).1
     rwa[Qa]at this
    generalize en.2.1[j]=y at gW aT
    have old:(tw hs h0 o y=true→y∈fs++nw)→∀q∈en.2.1.take (j+1),tw hs h0 o q=true→q∈fs++nw:=λhy q hq cO=>by
     rw[aT]at hq
     rcases Qf.mp hq with h | h
     ·exact aG q h cO
     ·rw[Qb.mp h]at cO ⊢;exact hy cO
    dsimp only[gName]
    by_cases ar:y∈fs++nw
    ·refine ⟨_,rfl,_,rfl,fo,_,rfl,.inl (SqL.of cr),rfl,zbw _,_,rfl,?_⟩
     have e1:(if true=true then !inV (.str y) ((fs++nw).map V.str) else inV (.str y) ((fs++nw).map V.str))=false:=by rw[if_pos rfl,zdd,decide_eq_true ar];rfl
     rw[e1]
     exact iteF (iteF ⟨k5,⟨_,rfl⟩,nw,cr,au,aw,old λ_=>ar⟩)
    ·refine ⟨_,rfl,_,rfl,fo,_,rfl,.inl (SqL.of cr),rfl,zbw _,_,rfl,?_⟩
     have e1:(if true=true then !inV (.str y) ((fs++nw).map V.str) else inV (.str y) ((fs++nw).map V.str))=true:=by rw[if_pos rfl,zdd,decide_eq_false ar];rfl
     rw[e1]
     refine iteT ⟨_,rfl,u,rfl,.inl ⟨_,l0.dc⟩,_,rfl,_,l0.get (Sum.inr y),_,rfl,_,rfl,u,_,rfl,.inl ⟨_,Sum.inr x,l0.dc,rfl,bD.symm⟩,_,rfl,(by show 2≤sizeLine;decide),λtp hU=>?_⟩
     have k6:Keep [] H5 (upd H5 tp (.tup [.int h0,.int o])):=Keep.new hU
     have gB:(upd H5 tp (.tup [.int h0,.int o])) tp=some (.tup [.int h0,.int o]):=zac
     generalize upd H5 tp (.tup [.int h0,.int o])=H6 at k6 gB
     have kh:=k6 _ _ cr (by simp)
     have gr:Keep [fo] H1 H6:=k5.trans (k6.sub (by simp))
     have hfv:zdp ((valV (hs.map λe=>((Sum.inr e.1:Key),V.int e.2)) (Sum.inr y)).getD .non)=true:=by
      rcases hueV_is hs y with h | ⟨n,h⟩<;>(unfold hueV at h;rw[h];rfl)
     refine⟨tp,_,rfl,.inr (SqT.of gB),hfv,rfl,_,rfl,?_⟩
     have e2:(if false=true then !inV ((valV (hs.map λe=>((Sum.inr e.1:Key),V.int e.2)) (Sum.inr y)).getD .non) [.int h0,.int o] else inV ((valV (hs.map λe=>((Sum.inr e.1:Key),V.int e.2)) (Sum.inr y)).getD .non) [.int h0,.int o])=tw hs h0 o y:=rfl
     rw[e2]
     cases lT:tw hs h0 o y with
     |false=>exact iteF ⟨gr,⟨_,rfl⟩,nw,kh,au,aw,old λq=>by rw[lT]at q;cases q⟩
     | true =>
      refine iteT ?_
      rw[Qq]at hsz
      refine⟨_,rfl,.inl ⟨rfl,_,SqL.of kh⟩,_,rfl,fo,_,_,rfl,rfl,kh,(by rw[Qa,Qq];omega),?_⟩
      refine⟨gr.trans (Keep.wr (by simp)),⟨_,rfl⟩,nw++[y],by rw[zac,←Qu,Qp (l₂:=[y])];rfl,?_,λq hq=>?_,λq hq cO=>?_⟩
      ·rw [← Qu,Za]
       refine⟨au,Qr.mpr ⟨by simp,Zh⟩,λa ha b hb e=>?_⟩
       rw[Qb.mp hb]at e
       exact ar (e▸ha)
      ·rcases Qf.mp hq with h | h
       ·exact aw q h
       ·rw [Qb.mp h]
        exact⟨aV z _ gW,.step (im z oQ).2 (Ze.mpr ⟨gW,lT⟩)⟩
      ·rw [aT] at hq
       rw[←Qu]
       rcases Qf.mp hq with h | h
       ·exact Qn _ (aG q h cO)
       ·exact Qo _ h
   ·rintro σ H5 ⟨k5,⟨y6,rfl⟩,nw,cr,au,aw,aG⟩
    rw[Qa,Qv (Qi _)]at aG
    refine⟨_,rfl,_,_,rfl,rfl,?_⟩
    refine⟨es.length-(i+1),by omega,k5,⟨_,i+1,fs++nw,rfl,cr,au,Qn _ hxf,by rw[Qq];omega,λy hy=>?_,λj hj q hq y hy=>?_,rfl⟩,trivial⟩
    ·rcases Qf.mp hy with h | h
     ·exact im y h
     ·exact aw y h
    ·have hjl:j < fs.length:=by omega
     rw[List.getElem?_append_left hjl]at hq
     by_cases hji:j=i
     ·subst hji
      have:q=z:=Qk (hq.symm.trans iN)
      subst this
      have:=Ze.mp hy
      exact aG y (iT▸this.1) this.2
     ·exact Qn _ (hfc j (by omega) q hq y hy)
  ·rw [decide_eq_false (by omega:¬ (i:Int) < (fs.length:Int))]
   refine iteF ?_
   have hi:i=fs.length:=by omega
   refine⟨_,rfl,fo,fs,rfl,SqL.of cR,λl zs hl ak aH=>?_⟩
   refine k l zs _ zac (ak.nodup_iff.mpr ki) (aH (by omega)) (λy=>?_) (zan (kc k2) hl (by simp)) ((kc k2).trans (Keep.new hl))
   rw[ak.mem_iff]
   constructor
   ·exact λh=>(im y h).2
   ·intro hc
    induction hc with
    |refl=>exact hxf
    |step _ hz ih =>
     obtain⟨j,hj⟩:=List.getElem?_of_mem ih
     exact hfc j (by have:=(Qw.mp hj).1;omega) _ hj _ hz
end
end K21
end
section
namespace L2
open PySem PySem.Spec PyProof.Rows
def pi_listK{X:Cx}{K:Nb}{tg l:Expr}{tl:TE}(hK:X.K=K)(hl:PE X l tl):PI X tg l (iList K tl):=hK▸za9 hl
def or_no{t u:TT}{A B:TS}{D:Ends}{σ:St}{H:Hp}(ht:∀k:Bool→Hp→Prop,k false H→t σ H k)(hu:∀k:Bool→Hp→Prop,k false H→u σ H k)(q:B D σ H):tIfS (tOr t u) A B D σ H :=
 ht _ (by
  show if(false=true) then _ else u σ H (λb H1=>if b=true then A D σ H1 else B D σ H1)
  exact iteF (hu _ (iteF q)))
end L2
namespace K21
open PySem L2 Wb
abbrev zhs:Stmt:=inClass sWeb 2
abbrev zc4:Stmt:=top 15
def vltOf:Expr→Expr
 |.DictComp _ e _ _ _=>e
 |e=>e
def valH_is(hs:List (Str×Int))(z:Str):valV (hs.map λe=>((Sum.inr e.1:Key),V.int e.2)) (Sum.inr z)=none∨∃n,valV (hs.map λe=>((Sum.inr e.1:Key),V.int e.2)) (Sum.inr z)=some (.int n):=by
 induction hs with
 |nil=>exact .inl rfl
 |cons a t ih =>
  rw[Ql]
  by_cases h:a.1=z
  ·rw[h,zcb rfl];exact .inr ⟨_,rfl⟩
  ·rw[zbl (λq=>h (Wo q))];exact ih
def conn_two{es fs:List Ent}{hs:List (Str×Int)}{h o:Int}{s:Str}{ws:Nf}(dC:ws=(es.map (·.1)).filter (tw hs h o))(aV:∀ z y,y∈row (rsOf es) z→y∈es.map (·.1))(aL:s∈ws)(hf:∀z,row (rsOf fs) z=if z∈ws then(row (rsOf es) z).filter λy=>decide (y∈ws) else[])(y:Str):Conn (row (rsOf fs)) s y↔Conn (r2 es hs h o) s y:=by
 constructor
 ·intro c
  induction c with
  |refl=>exact .refl
  | @step z y _ hz ih =>
   rw[hf]at hz
   split at hz
   ·have:=Ze.mp hz
    have hy:=of_decide_eq_true this.2
    rw[dC]at hy
    exact .step ih (Ze.mpr ⟨this.1,(Ze.mp hy).2⟩)
   ·cases hz
 ·intro c
  suffices Conn (row (rsOf fs)) s y∧y∈ws from this.1
  induction c with
  |refl=>exact⟨.refl,aL⟩
  |@step z y _ hz ih =>
   have:=Ze.mp hz
   have hy:y∈ws:=by rw[dC];exact Ze.mpr ⟨aV z y this.1,this.2⟩
   exact⟨.step ih.1 (by rw[hf,if_pos ih.2];exact Ze.mpr ⟨this.1,decide_eq_true hy⟩),hy⟩
inductive zhh(C:Nc)(vs:List V)(H:Hp)(Q:VK):Prop
 |mk (x dx d:Nc) (es:List Ent) (e:Ent) (h0:vs=[.ref x,.str e.1]) (h1:WAt H C x dx d es) (h2:e∈es) (h3:∀l,H l=none→Q (.ref l) (upd H l (.lst (e.2.1.map V.str)))):zhh C vs H Q
def spRoundOf(C:Nc):Sp:=λvs H Q _=>zhh C vs H Q
inductive IspChain(C:Nc)(vs:List V)(H:Hp)(Q:VK):Prop
 |mk (x dx d u:Nc) (es:List Ent) (hs:List (Str×Int)) (s:Str) (h o:Int) (h0:vs=[.ref x,.ref u,.str s,.int o]) (h1:WAt H C x dx d es) (h2:es.length≤40) (oq:∀e∈es,e.2.1.length≤100) (h3:∀z y,y∈row (rsOf es) z→y∈es.map (·.1)) (h4:HF H u hs) (h5:(s,h)∈hs) (h6:s∈es.map (·.1)) (h8:o≠h) (h9:0≤o)
  (h7:∀(l:Nc) (zs:Nf) (H':Hp),H' l=some (.lst (zs.map V.str))→zs.Nodup→zs.Pairwise leS→(∀y,y∈zs↔Conn (r2 es hs h o) s y)→H l=none→Keep [] H H'→Q (.ref l) H'):IspChain C vs H Q
def spChain(C:Nc):Sp:=λvs H Q _=>IspChain C vs H Q
abbrev csA:Scope:=scOf (eOf (sAt zc4 3))
def csA_k:csA.kind=.function:=by rfl
def csA_c:∀y∈csA.names,y.2≠.cell:=by decide +kernel
def csA_n:∀y∈csA.names,y.2=.local→csA.names.lookup y.1=some .local:=by decide +kernel
def csA_f:∀y∈csA.names,y.2=.free→(zag zc4).names.lookup y.1=some .cell∨(zag zc4).names.lookup y.1=some .free:=by decide +kernel
def csA_l:csA.names.lookup ("hues" : Str)=some NameKind.free:=by decide +kernel
def csA_m:csA.names.lookup ("two" : Str)=some NameKind.free:=by decide +kernel
def ndA:(["place", "hues", "two"]:List Str).Nodup:=by decide +kernel
abbrev csB:Scope:=scOf (eOf (sAt zc4 4))
def csB_k:csB.kind=.function:=by rfl
def csB_c:∀y∈csB.names,y.2≠.cell:=by decide +kernel
def csB_n:∀y∈csB.names,y.2=.local→csB.names.lookup y.1=some .local:=by decide +kernel
def csB_f:∀y∈csB.names,y.2=.free→(zag zc4).names.lookup y.1=some .cell∨(zag zc4).names.lookup y.1=some .free:=by decide +kernel
def csB_l:csB.names.lookup ("web" : Str)=some NameKind.free:=by decide +kernel
def csB_m:csB.names.lookup ("within" : Str)=some NameKind.free:=by decide +kernel
def ndB:(["place", "web", "within"]:List Str).Nodup:=by decide +kernel
abbrev csD:Scope:=scOf (vltOf (eOf (sAt zc4 4)))
def csD_k:csD.kind=.function:=by rfl
def csD_c:∀y∈csD.names,y.2≠.cell:=by decide +kernel
def csD_n:∀y∈csD.names,y.2=.local→csD.names.lookup y.1=some .local:=by decide +kernel
def csD_f{env:Env}(h:env.scope=zag zc4):∀y∈csD.names,y.2=.free→(relabel csB env).names.lookup y.1=some .cell∨(relabel csB env).names.lookup y.1=some .free:=by
 unfold relabel Env.kindOf
 rw[h]
 decide +kernel
def csD_l:csD.names.lookup ("within" : Str)=some NameKind.free:=by decide +kernel
def ndD:(["beside", "within"]:List Str).Nodup:=by decide +kernel
section
variable{P:Nj}{w:Nl}{K:Nb}{mg:Ng}{base:Nm}
def scRoundOf:zau ["self", "place"] ["self", "place"] (zag zhs):=⟨rfl,rfl,rfl,by decide +kernel,rfl,by decide +kernel,by decide +kernel⟩
def ok_roundof{f C:Nc}{fd:No}(F:Fun K "round_of" "Web.round_of" zhs f fd)(cW:Cls K C)(nW:zdv K C "rounds")(aA:mg "list" = none):FnOk P w K mg base CX0 1 f fd ["self", "place"] (spRoundOf C):=by
 refine F.ok scRoundOf (λvs H Q E h=>?_) (λcdv A outer s H vs Q E hr h=>?_)
 ·obtain ⟨x,dx,d,es,e,rfl,_⟩:=h
  rfl
 ·obtain ⟨x,dx,d,es,e,rfl,wt,he,k⟩:=h
  have hu:=zb5 hr
  refine⟨_,zae (zbs (zc5 (zcl hu (pv 1) (pe_fld (pv 0) rfl))) (zah zgx) zay)
   (zah (zbm (zbo zdf (by rfl) aA Wu (zab (zaz hu (pe_fld (pv 0) rfl) (pv 1) (λ_ _=>rfl)) zaf)))),?_⟩
  have g:=DGet.k (k:=Sum.inr e.1) wt.ta.dc
  rw[zbu wt.ta.nd he]at g
  refine⟨_,rfl,_,rfl,x,C,dx,_,_,rfl,wt.ob,cW,nW,rfl,d,_,rfl,g,_,rfl,zcn rfl ?_⟩
  exact⟨_,rfl,x,C,dx,_,_,rfl,wt.ob,cW,nW,rfl,_,rfl,d,_,rfl,g,e.2.2,_,rfl,.inr (SqT.of (wt.ta.ro e he)),k⟩
def zhp:zau ["web", "hues", "start", "other", "two", "within", "rounds"] ["web", "hues", "start", "other"] (zag zc4):=⟨rfl,rfl,rfl,by decide +kernel,rfl,by decide +kernel,by decide +kernel⟩
def ok_chain{f fp fr ff C:Nc}{fd fdp fdr fdf:No}(F:Fun K "chain" "chain" zc4 f fd)(cW:Cls K C)(nW:zdv K C "rounds")(mP:Meth K C "places" fp)(bP:Binds K fdp ["self"] [])(GP:FnOk P w K mg base CX0 1 fp fdp ["self"] (spPlaces C))(mR:Meth K C "round_of" fr)(bR:Binds K fdr ["self", "place"] [])(GR:FnOk P w K mg base CX0 1 fr fdr ["self", "place"] (spRoundOf C))(FF:Fun K "piece_from" "piece_from" zg5 ff fdf)(bF:Binds K fdf ["rounds", "start"] [])(mF:mg "piece_from" = some (.ref ff))(GF:FnOk P w K mg base CX0 1 ff fdf ["rounds", "start"] spPieceL) :
  FnOk P w K mg base CX0 2 f fd ["web", "hues", "start", "other"] (spChain C):=by
 refine F.ok zhp (λvs H Q E h=>?_) (λcdv A outer s0 H vs Q E hr h=>?_)
 ·obtain ⟨x,dx,d,u,es,hs,s,h,o,rfl,_⟩:=h
  rfl
 ·obtain ⟨x,dx,d,u,es,hs,s,h0,o,rfl,wt,ba,aQ,aV,hh,rj,hV,hoh,ho,k⟩:=h
  have hu:=zb5 hr
  have aE:Room 1 _:=hr.mono (by decide)
  have aL:sizeLine=16777216:=sizeLine_eq
  refine⟨_,zae (zbs (PW.pt (pw_or (zc5 (zcl hu (pv 2) (pv 1))) (pw_or1 (zc5 (zcl hu (pv 2) (pe_fld (pv 0) rfl)))))) (zah zgx) zay)
   (zae (zbs (PW.pt (pw_or (zar op_eq (pv 3) (zaz hu (pv 1) (pv 2) (λ_ _=>rfl)) (zbd _)) (pw_or1 (zar op_lt (pv 3) zai (zbd _))))) (zah zgx) zay)
   (zae (zak (i:=4) zhp.nd rfl (Or.inr rfl) (ze7 (zab (zaz hu (pv 1) (pv 2) (λ_ _=>rfl)) (zab (pv 3) zaf))))
   (zae (zak (i:=5) zhp.nd rfl (Or.inr rfl) (zh4 (M:=["place", "hues", "two"]) (ix:=[none,some 1,some 4]) ⟨csA_k,csA_c,csA_n,csA_f,rfl,ndA,λj i x h1 h2=>by
       match j,h1,h2 with
       |0,_,h2=>cases h2
       |1,h1,h2=>cases h1;cases h2;exact⟨rfl,csA_l⟩
       |2,h1,h2=>cases h1;cases h2;exact⟨rfl,csA_m⟩
       |n+3,h1,_=>cases h1⟩ rfl (za9 (pe_meth0 (pl:=_) (pv 0) cW mP GP aE bP .nil zav)) (λC a7 ex s H=>zal (i:=0) ndA rfl (Or.inl rfl) (Or.inr rfl))
       (λC a7 ex s H=>zdz (PW.pt (zg6 (zc5 (pc_din (by exact hu) (pv 0) (pv 1))) (zev (zar (zey (K:=K) rfl) (zaz (by exact hu) (pv 1) (pv 0) (λ_ _=>rfl)) (pv 2) rfl))))) (λC a7 ex s H=>pv 0)))
   (zae (ps_dc (i:=6) (M:=["place", "web", "within"]) (ix:=[none,some 0,some 5]) zhp.nd rfl rfl ⟨csB_k,csB_c,csB_n,csB_f,rfl,ndB,fun j i x h1 h2=>by
       match j,h1,h2 with
       |0,_,h2=>cases h2
       |1,h1,h2=>cases h1;cases h2;exact⟨rfl,csB_l⟩
       |2,h1,h2=>cases h1;cases h2;exact⟨rfl,csB_m⟩
       |n+3,h1,_=>cases h1⟩ rfl (za9 (pv 5)) (λC a7 ex s H=>zal (i:=0) ndB rfl (Or.inl rfl) (Or.inr rfl))
       (λC a7 ex s H=>zct) (λC a7 ex s H=>pv 0)
       (fun C a7 ex s H=>zh4 (M:=["beside", "within"]) (ix:=[none,some 2]) ⟨csD_k,csD_c,csD_n,csD_f rfl,rfl,ndD,fun j i x h1 h2=>by
        match j,h1,h2 with
        |0,_,h2=>cases h2
        |1,h1,h2=>cases h1;cases h2;exact⟨rfl,csD_l⟩
        |n+2,h1,_=>cases h1⟩ rfl (pi_listK (K:=K) rfl (pe_meth (pl:=_) (pv 1) cW mR GR (by exact aE) bR .nil zav (zab (pv 0) zaf))) (λC a7 ex s H=>zal (i:=0) ndD rfl (Or.inl rfl) (Or.inr rfl))
        (λC a7 ex s H=>zdz (zar (zey (K:=K) rfl) (pv 0) (pv 1) rfl)) (λC a7 ex s H=>pv 0)) rfl)
   (zah (zbm (zaj GF aE rfl mF FF.kp bF .nil zav (zab (pv 6) (zab (pv 2) zaf))))))))),?_⟩
  have aD:=wt.ta.nd
  obtain⟨en,aJ,tz⟩:=Qh.mp hV
  have nF:en.1=s:=tz
  have bD:valV (hs.map λe=>((Sum.inr e.1:Key),V.int e.2)) (Sum.inr s)=some (.int h0):=valH_in hh.nd rj
  have g1:∀{H':Hp},HF H' u hs→DGet H' u (.str s) (some (.int h0)):=λ{H'} sC=>by
   have:=sC.get (Sum.inr s)
   rwa[bD]at this
  have g2:DGet H d (.str s) (some (.ref en.2.2)):=by
   have:=DGet.k (k:=Sum.inr en.1) wt.ta.dc
   rw[zbu aD aJ,nF]at this
   exact this
  have qV:tw hs h0 o s=true:=by
   unfold tw hueV
   rw[bD]
   show(_||_)=true
   rw[Xa]
   exact .inl (beq_self_eq_true h0)
  refine or_no (λk hk=>⟨_,rfl,_,rfl,u,_,rfl,g1 hh,_,rfl,hk⟩) (λk hk=>⟨_,rfl,_,rfl,x,C,dx,_,_,rfl,wt.ob,cW,nW,rfl,d,_,rfl,g2,_,rfl,hk⟩) ?_
  dsimp only[tNext]
  refine or_no (λk hk=>⟨_,rfl,_,rfl,_,rfl,u,_,rfl,g1 hh,rfl,_,rfl,?_⟩) (λk hk=>⟨_,rfl,_,_,rfl,rfl,_,rfl,?_⟩) ?_
  ·rw[decide_eq_false (λe=>hoh (by injection e))];exact hk
  ·rw[decide_eq_false (by omega)];exact hk
  refine⟨_,rfl,_,rfl,u,_,rfl,g1 hh,_,rfl,(by show 2≤sizeLine;decide),λtp hU=>?_⟩
  have k1:Keep [] H (upd H tp (.tup [.int h0,.int o])):=Keep.new hU
  have cG:(upd H tp (.tup [.int h0,.int o])) tp=some (.tup [.int h0,.int o]):=zac
  generalize upd H tp (.tup [.int h0,.int o])=H1 at k1 cG
  have qg:∀{H':Hp},Keep [] H H'→WAt H' C x dx d es:=λkk=>wt.keep kk (by simp) (by simp) λ_ _=>by simp
  refine⟨_,rfl,x,dx,_,rfl,(qg k1).ob,rfl,x,dx,d,es,rfl,qg k1,λpl c9=>⟨pl,rfl,⟨_,SqL.of zac⟩,?_⟩⟩
  have k2:Keep [] H (upd H1 pl (.lst ((es.map (·.1)).map V.str))):=k1.trans (Keep.new c9)
  have mr:(upd H1 pl (.lst ((es.map (·.1)).map V.str))) pl=some (.lst ((es.map (·.1)).map V.str)):=zac
  have df:(upd H1 pl (.lst ((es.map (·.1)).map V.str))) tp=some (.tup [.int h0,.int o]):=by rw[zad (zaa cG c9)];exact cG
  generalize upd H1 pl (.lst ((es.map (·.1)).map V.str))=H2 at k2 mr df
  have hh2:HF H2 u hs:=hh.keep k2
  refine zgb (xs:=(es.map (·.1)).map V.str) (λ τ=>∃x0,τ=[x0,some (.ref u),some (.ref tp)]) (λv=>match v with | .str z=>tw hs h0 o z | _=>false) (SqL.of mr) (by rw[Qa,Qa];omega) ⟨none,rfl⟩ ?_ (λwi hwi=>?_)
  ·rintro v hv τ ⟨x0,rfl⟩ q1 q0 h1 jf
   obtain⟨z,hz,rfl⟩:=Qh.mp hv
   have gz:=hh2.get (Sum.inr z)
   refine⟨_,rfl,_,rfl,u,_,rfl,gz,_,rfl,?_⟩
   rcases valH_is hs z with hn | ⟨n,hn⟩
   ·rw [hn]
    exact iteF (iteF (jf (by show tw hs h0 o z=false;unfold tw hueV;rw[hn];rfl) _ ⟨_,rfl⟩))
   ·rw [hn] at gz ⊢
    refine iteT ⟨_,rfl,_,rfl,u,_,rfl,gz,_,rfl,tp,_,rfl,.inr (SqT.of df),rfl,rfl,_,rfl,?_⟩
    have e2:(if false=true then !inV (.int n) [.int h0,.int o] else inV (.int n) [.int h0,.int o])=tw hs h0 o z:=by unfold tw hueV;rw[hn];rfl
    rw[e2]
    cases lT:tw hs h0 o z with
    |false=>exact iteF (jf lT _ ⟨_,rfl⟩)
    |true=>exact iteT ⟨_,rfl,h1 lT _ ⟨_,rfl⟩⟩
  have ew:((es.map (·.1)).map V.str).filter (λv=>match v with | .str z=>tw hs h0 o z | _=>false)=((es.map (·.1)).filter (tw hs h0 o)).map V.str:=Kx
  rw[ew]
  obtain⟨ws,dC⟩:∃ws,ws=(es.map (·.1)).filter (tw hs h0 o):=⟨_,rfl⟩
  rw[←dC]
  have cF:ws.Nodup:=dC▸Ys Uw aD
  have hwe:∀z∈ws,z∈es.map (·.1):=λz hz=>by rw[dC]at hz;exact(Ze.mp hz).1
  have cv:ws.length≤es.length:=by
   have:=zci cF hwe
   rwa[Qa]at this
  have l6:s∈ws:=by rw[dC];exact Ze.mpr ⟨hV,qV⟩
  have k3:Keep [] H (upd H2 wi (.lst (ws.map V.str))):=k2.trans (Keep.new hwi)
  have jz:(upd H2 wi (.lst (ws.map V.str))) wi=some (.lst (ws.map V.str)):=zac
  generalize upd H2 wi (.lst (ws.map V.str))=H3 at k3 jz
  refine⟨_,rfl,wi,rfl,⟨_,SqL.of jz⟩,?_⟩
  refine⟨λi m ys τ H'=>Aj5 (m=ws.length-i) (i≤ws.length) (∃x0,τ=[x0,some (.ref x),some (.ref wi)]) (Keep [] H3 H') (Ex1 λ(fs:List Ent)=>Aj4 (ys=fs.map λe=>((Sum.inr e.1:Key),V.ref e.2.2)) (rsOf fs=(ws.take i).map λz=>(z,(row (rsOf es) z).filter λy=>decide (y∈ws))) (∀e∈fs,H' e.2.2=some (.lst (e.2.1.map V.str))) (∀e∈fs,H3 e.2.2=none)),
   ⟨_,rfl,Zf _,⟨none,rfl⟩,λ_ _ e _=>e,[],rfl,rfl,λe he=>(by cases he),λe he=>(by cases he)⟩,?_⟩
  rintro i m ys τ H4 ⟨rfl,hi,⟨x0,rfl⟩,k4,fs,rfl,bE,cI,eM⟩
  have cw:fs.map (·.1)=ws.take i:=by
   rw[←zbf,bE,Zi]
   exact List.map_id _
  have eO:fs.length=i:=by
   have:=congrArg List.length cw
   rw[Qa,Zj]at this;omega
  have hJ:=k4 _ _ jz (by simp)
  by_cases ag:i<ws.length
  ·refine .inr ⟨⟨_,_,SqL.of hJ,by rw [Qs,Qd ag];rfl⟩,by rw [Qa,eO];omega,?_⟩
   rintro v H4 ⟨rfl,hv⟩
   have fG:=hv _ (SqL.of hJ)
   rw[Qs,Qd ag]at fG
   have hve:v=.str ws[i]:=(Qk fG).symm
   subst hve
   have hzw:ws[i]∈ws:=Qz ag
   obtain⟨e,he,pG⟩:=Qh.mp (hwe _ hzw)
   have nC:e.1=ws[i]:=pG
   have w4:=qg (k3.trans k4)
   have tk:ws.take (i+1)=ws.take i++[ws[i]]:=Qm ag
   have oQ:ws[i]∉fs.map (·.1):=by
    rw[cw]
    have:(ws.take (i+1)).Nodup:=Ys (Ul _ _) cF
    rw[tk,Za]at this
    exact λz=>this.2.2 _ z _ (Qb.mpr rfl) rfl
   have di:row (rsOf es) ws[i]=e.2.1:=by rw[←nC];exact zbk aD he
   have nH:=aQ e he
   refine⟨_,rfl,_,rfl,x,dx,_,rfl,w4.ob,rfl,_,rfl,x,dx,d,es,e,by rw[nC];rfl,w4,he,λl hl=>⟨l,rfl,⟨_,SqL.of zac⟩,?_⟩⟩
   have k5:Keep [] H4 (upd H4 l (.lst (e.2.1.map V.str))):=Keep.new hl
   have cq:(upd H4 l (.lst (e.2.1.map V.str))) l=some (.lst (e.2.1.map V.str)):=zac
   generalize upd H4 l (.lst (e.2.1.map V.str))=H5 at k5 cq
   have qQ:=k5 _ _ hJ (by simp)
   refine zgb (xs:=e.2.1.map V.str) (λ τ=>∃x0,τ=[x0,some (.ref wi)]) (λv=>match v with | .str z=>decide (z∈ws) | _=>false) (SqL.of cq) (by rw[Qa];omega) ⟨none,rfl⟩ ?_ (λq hq=>?_)
   ·rintro v hv τ ⟨x0,rfl⟩ q1 q0 h1 jf
    obtain⟨z,hz,rfl⟩:=Qh.mp hv
    refine⟨_,rfl,_,rfl,wi,_,rfl,.inl (SqL.of qQ),rfl,zbw _,_,rfl,?_⟩
    have e2:(if false=true then !inV (.str z) (ws.map V.str) else inV (.str z) (ws.map V.str))=decide (z∈ws):=zdd
    rw[e2]
    cases hb:decide (z∈ws) with
    |false=>exact iteF (jf hb _ ⟨_,rfl⟩)
    |true=>exact iteT ⟨_,rfl,h1 hb _ ⟨_,rfl⟩⟩
   ·have eq:(e.2.1.map V.str).filter (fun v=>match v with | .str z=>decide (z∈ws) | _=>false)=(e.2.1.filter fun z=>decide (z∈ws)).map V.str:=Kx
    rw[eq]
    refine⟨Sum.inr ws[i],rfl,ws.length-(i+1),by omega,rfl,ag,⟨_,rfl⟩,(k4.trans k5).trans (Keep.new hq),fs++[(ws[i],e.2.1.filter λz=>decide (z∈ws),q)],zh0 (r:=e.2.1.filter λz=>decide (z∈ws)) oQ,?_,λe' aS=>?_,λe' aS=>?_⟩
    ·rw [tk,Qp,← bE,← di]
     unfold rsOf
     rw[Qp];rfl
    ·rcases Qf.mp aS with z | z
     ·have:=k5 _ _ (cI e' z) (by simp)
      rw[zad (zaa this hq)];exact this
     ·rw[Qb.mp z];exact zac
    ·rcases Qf.mp aS with z | z
     ·exact eM e' z
     ·rw[Qb.mp z];exact zan (k4.trans k5) hq (by simp)
  ·have e:i=ws.length:=by omega
   subst e
   rw[Qv (Qi _)]at bE cw
   refine .inl ⟨⟨_,SqL.of hJ,by rw[Qa];exact Qi _⟩,λdd gH=>?_⟩
   have RF:RAt (upd H4 dd (.dK (fs.map λe=>((Sum.inr e.1:Key),V.ref e.2.2)))) dd fs:=⟨zac,λe he=>by rw[zad (zaa (cI e he) gH)];exact cI e he,by rw[cw];exact cF⟩
   have kf:Keep [] H (upd H4 dd (.dK (fs.map λe=>((Sum.inr e.1:Key),V.ref e.2.2)))):=(k3.trans k4).trans (Keep.new gH)
   generalize upd H4 dd (.dK (fs.map λe=>((Sum.inr e.1:Key),V.ref e.2.2)))=H6 at RF kf
   have hfz:∀z,row (rsOf fs) z=if z∈ws then(row (rsOf es) z).filter λy=>decide (y∈ws) else[]:=λz=>by
    by_cases hz:z∈ws
    ·rw [if_pos hz]
     have hmem:(z,(row (rsOf es) z).filter λy=>decide (y∈ws))∈rsOf fs:=by rw[bE];exact Qh.mpr ⟨z,hz,rfl⟩
     exact zc9 (p:=(z,(row (rsOf es) z).filter λy=>decide (y∈ws))) (by rw[zbf,cw];exact cF) hmem
    ·rw [if_neg hz]
     exact zeu (by rw[zbf,cw];exact hz)
   refine⟨_,rfl,_,rfl,dd,fs,s,rfl,RF,by omega,λz y hy=>?_,by rw[cw];exact l6,λl zs H7 pk cE hzs dA fl k7=>k l zs H7 pk cE hzs (λy=>(dA y).trans (conn_two dC aV l6 hfz y)) (zan kf fl (by simp)) (kf.trans k7)⟩
   rw[hfz]at hy
   split at hy
   ·rw[cw];exact of_decide_eq_true (Ze.mp hy).2
   ·cases hy
end
end K21
end
section
namespace L2
open PySem PySem.Spec PyProof.Rows
section
variable{X:Cx}
def ziu:zch X (.builtin "isinstance") (λxs H Q=>Ex2 λ(a:Nc) (ys:List V)=>Aj3 (xs=[.ref a,.ty "list"]) (H a=some (.lst ys)) (Q (.bl true) H)):=by
 intro a7 s σ H xs us Q I r h
 obtain⟨a,ys,rfl,hl,q⟩:=h
 obtain⟨u,w',rfl,e0,e⟩:=vals2 r
 have e':w'=Value.type "list" := e
 have e0':u=Value.ref a:=e0
 subst e' e0'
 obtain⟨z,a8,n,rv,hz,ho⟩:=I.lstM hl
 exact IsiPair.list_list ho rfl ⟨.bl true,H,I,rfl,q⟩
def op_eq_dict(hu:X.A.units<cLine):OpR X (compareOp .Eq) (λx y H Q=>Ex3 λa b kvs=>Aj7 (x=.ref a) (y=.ref b) (Rd H a (.dK kvs)) (Rd H b (.dK kvs)) ((kvs.map (·.1)).Nodup) (∀p∈kvs,zdp p.2=true) (Q (.bl true) H)):=by
 intro a7 s σ H x y v u Q I rx ry h
 obtain⟨a,b,kvs,rfl,rfl,h1,h2,nd,fl,q⟩:=h
 cases rx;cases ry
 obtain⟨z,lo,vs,ep,rk,ha,hl⟩:=dk_at I h1
 obtain⟨z2,lo2,vs2,ep2,rk2,ha2,aj⟩:=dk_at I h2
 have sv:∀(ks:List (Key×V)) (us:List (Key×Value)),KV ks us→(∀p∈ks,p∈kvs)→PySem.W.KeqHits X.A.in1 s vs2 us true:=by
  intro ks us r
  induction r with
  |nil=>intro _;exact .nil
  |@cons p q' ps qs e t ih =>
   intro hm
   have hp:(p.1,p.2)∈kvs:=hm p Qc
   obtain⟨y,e1,e2⟩:=KV.value rk2 nd hp
   have f:=fl p (hm p Qc)
   have hE:=eqAt_V (A:=X.A.in1) (s:=s) e.2 e2 f f
   rw[eqV_self f]at hE
   obtain⟨k1,v1⟩:=q'
   have hk:p.1=k1:=e.1
   rw[hk]at e1
   exact PySem.W.KeqHits.hit (e:=true) (b:=true) e1 hE (ih λp hp=>hm p (Qg _ hp))
 refine PySem.W.keq_eq lo lo2 ha.dictOf ha2.dictOf hu (λ_=>sv kvs vs rk λp hp=>hp) ⟨.bl true,H,I,?_,q⟩
 show Value.bool _=Value.bool true
 have:vs.length=vs2.length:=by omega
 rw[this]
 simp
end
end L2
namespace K21
open PySem L2 Wb
abbrev sLaw:Stmt:=top 44
def zfu:∀ {as bs:Nf},as.Nodup→bs.Nodup→as.Pairwise leS→bs.Pairwise leS→(∀ y,y∈as↔y∈bs)→as=bs:=by
 intro as
 induction as with
 |nil =>
  intro bs _ _ _ _ h
  cases bs with
  |nil=>rfl
  |cons b u=>exact absurd ((h b).mpr Qc) (by simp)
 | cons a t ih =>
  intro bs na nb sa sb h
  cases bs with
  |nil=>exact absurd ((h a).mp Qc) (by simp)
  | cons b u =>
   rw[Qr]at na nb
   rw[Jc]at sa sb
   have eab:a=b:=by
    rcases Qe.mp ((h a).mp Qc) with z | z
    ·exact z
    ·rcases Qe.mp ((h b).mpr Qc) with y | y
     ·exact y.symm
     ·have h1:=sa.1 b y
      have h2:=sb.1 a z
      have e:a.cps.toList=b.cps.toList:=Std.le_antisymm (α:=List Nat) (List.not_lt.mp h1) (List.not_lt.mp h2)
      cases a;cases b
      exact congrArg _ (Jo.mp e)
   subst eab
   rw[ih na.2 nb.2 sa.2 sb.2 λy=>?_]
   constructor
   ·intro hy
    rcases Qe.mp ((h y).mp (Qg _ hy)) with z | z
    ·exact absurd (z▸hy) na.1
    ·exact z
   ·intro hy
    rcases Qe.mp ((h y).mpr (Qg _ hy)) with z | z
    ·exact absurd (z▸hy) nb.1
    ·exact z
def r2_perm{es ts:List Ent}{hs:List (Str×Int)}{h o:Int}(hp:∀y,(row (rsOf ts) y).Perm (row (rsOf es) y)){s y:Str}:Conn (r2 ts hs h o) s y↔Conn (r2 es hs h o) s y :=
 ⟨Conn.mono λx y hy=>Ze.mpr ⟨(hp x).mem_iff.mp (Ze.mp hy).1,(Ze.mp hy).2⟩,Conn.mono λx y hy=>Ze.mpr ⟨(hp x).mem_iff.mpr (Ze.mp hy).1,(Ze.mp hy).2⟩⟩
inductive IspLaw(K:Nb)(vs:List V)(H:Hp)(Q:VK):Prop
 |mk (a:Nc) (ns:List Int) (h0:vs=[.ref a]) (h1:SqL K H a (ns.map V.int)) (h2:ns.length≤63) (h3:∀H',Q (.bl true) H'):IspLaw K vs H Q
def spLaw(K:Nb):Sp:=λvs H Q _=>IspLaw K vs H Q
abbrev csL:Scope:=scOf (eOf (bAt (sAt sLaw 5) 0))
def csL_k:csL.kind=.function:=by rfl
def csL_c:∀y∈csL.names,y.2≠.cell:=by decide +kernel
def csL_n:∀y∈csL.names,y.2=.local→csL.names.lookup y.1=some .local:=by decide +kernel
def csL_f:∀y∈csL.names,y.2=.free→(zag sLaw).names.lookup y.1=some .cell∨(zag sLaw).names.lookup y.1=some .free:=by decide +kernel
def csL_l:csL.names.lookup ("_law_hues_here" : Str)=some NameKind.free:=by decide +kernel
def csL_m:csL.names.lookup ("_law_start" : Str)=some NameKind.free:=by decide +kernel
def ndL:(["_law_hue", "_law_hues_here", "_law_start"]:List Str).Nodup:=by decide +kernel
section
variable{P:Nj}{w:Nl}{K:Nb}{mg:Ng}{base:Nm}
def zfw:zau ["_law_script", "_law_rounds_here", "_law_pot_here", "_law_web", "_law_hues_here", "_law_sorts", "_law_kept", "_law_start", "_law_other", "_law_due", "_law_told"] ["_law_script"] (zag sLaw):=⟨rfl,rfl,rfl,by decide +kernel,rfl,by decide +kernel,by decide +kernel⟩
def ok_law{C f fr fp fi fw fh fl fc:Nc}{fd fdr fdp fdi fdw fdh fdl fdc:No}(F:Fun K "law" "law" sLaw f fd)(FR:Fun K "_law_rounds" "_law_rounds" zhr fr fdr)(bR:Binds K fdr ["_law_script"] [])(mR:mg "_law_rounds" = some (.ref fr))(GR:FnOk P w K mg base CX0 4 fr fdr ["_law_script"] (zg3 K))(FP:Fun K "_law_pot" "_law_pot" sPot fp fdp)(bP:Binds K fdp ["_law_script", "_law_k"] [])(mP:mg "_law_pot" = some (.ref fp))(GP:FnOk P w K mg base CX0 1 fp fdp ["_law_script", "_law_k"] (spPot K))(MW:Mk K C fi)(mW:mg "Web" = some (.ref C))(bI:Binds K fdi ["self", "rows"] [])(GI:FnOk P w K mg base CX0 4 fi fdi ["self", "rows"] (spInit C))(FW:Fun K "_law_rows" "_law_rows" sRows fw fdw)(bW:Binds K fdw ["_law_rounds_here", "_law_pot_here"] [])(mRw:mg "_law_rows" = some (.ref fw))(GW:FnOk P w K mg base CX0 2 fw fdw ["_law_rounds_here", "_law_pot_here"] spRows)(FH:Fun K "_law_hues" "_law_hues" zgu fh fdh)(bH:Binds K fdh ["_law_rounds_here", "_law_pot_here"] [])(mH:mg "_law_hues" = some (.ref fh))(GH:FnOk P w K mg base CX0 2 fh fdh ["_law_rounds_here", "_law_pot_here"] spHues)(FL:Fun K "_law_chain" "_law_chain" zhv fl fdl)(bL:Binds K fdl ["_law_rounds_here", "_law_hues_here", "_law_start", "_law_other"] [])(mL:mg "_law_chain" = some (.ref fl))(GL:FnOk P w K mg base CX0 1 fl fdl ["_law_rounds_here", "_law_hues_here", "_law_start", "_law_other"] spLChain)(FC:Fun K "chain" "chain" zc4 fc fdc)(bC:Binds K fdc ["web", "hues", "start", "other"] [])(mC:mg "chain" = some (.ref fc))(GC:FnOk P w K mg base CX0 2 fc fdc ["web", "hues", "start", "other"] (spChain C))(jX:mg "isinstance" = none)(aA:mg "list" = none)(gk:mg "dict" = none):FnOk P w K mg base CX0 6 f fd ["_law_script"] (spLaw K):=by
 refine F.ok zfw (λvs H Q E h=>?_) (λcdv A outer s0 H vs Q E hr h=>?_)
 ·obtain ⟨a,ns,rfl,_⟩:=h
  rfl
 ·obtain ⟨a,ns,rfl,ha,dm,k⟩:=h
  have hu:=zb5 hr
  have gy:=Jg hu
  have aE:Room 1 _:=hr.mono (by decide)
  have cN:Room 2 _:=hr.mono (by decide)
  have gC:Room 4 _:=hr.mono (by decide)
  have aL:sizeLine=16777216:=sizeLine_eq
  refine⟨_,zae (zak (i:=1) zfw.nd rfl (Or.inl rfl) (zaj GR gC rfl mR FR.kp bR .nil zav (zab (pv 0) zaf)))
   (zae (zak (i:=2) zfw.nd rfl (Or.inl rfl) (zaj GP aE rfl mP FP.kp bP .nil zav (zab (pv 0) (zab zai zaf))))
   (zae (zak (i:=3) zfw.nd rfl (Or.inl rfl) (pe_make MW GI hr rfl mW bI .nil zav (zab (zaj GW cN rfl mRw FW.kp bW .nil zav (zab (pv 1) (zab (pv 2) zaf))) zaf)))
   (zae (ps_asg (zaj GH cN rfl mH FH.kp bH .nil zav (zab (pv 1) (zab (pv 2) zaf))) (ze6 rfl (za6 (zal (i:=4) zfw.nd rfl (Or.inr rfl)) (za6 (zal (i:=5) zfw.nd rfl (Or.inl rfl)) zck))))
   (zae (zak (i:=6) zfw.nd rfl (Or.inl rfl) (zbo call_dict_of (by rfl) gk PyProof.Rows.boot_dict (zab (pv 4) zaf)))
   (zae (zew (zbn Zo rfl (zex (pv 4)) (zal (i:=7) zfw.nd rfl (Or.inr rfl))
    (zah (zbn Zo rfl (za9 (zh4 (M:=["_law_hue", "_law_hues_here", "_law_start"]) (ix:=[none,some 4,some 7]) ⟨csL_k,csL_c,csL_n,csL_f,rfl,ndL,fun j i x h1 h2=>by
       match j,h1,h2 with
       |0,_,h2=>cases h2
       |1,h1,h2=>cases h1;cases h2;exact⟨rfl,csL_l⟩
       |2,h1,h2=>cases h1;cases h2;exact⟨rfl,csL_m⟩
       |n+3,h1,_=>cases h1⟩ rfl (za9 (pv 5)) (λC a7 ex s H=>zal (i:=0) ndL rfl (Or.inl rfl) (Or.inr rfl))
       (λC a7 ex s H=>zdz (zar op_ne (pv 0) (zaz (by exact hu) (pv 1) (pv 2) (λ_ _=>rfl)) (zbd _))) (λC a7 ex s H=>pv 0))) (zal (i:=8) zfw.nd rfl (Or.inl rfl))
     (zae (zak (i:=9) zfw.nd rfl (Or.inl rfl) (zaj GL aE rfl mL FL.kp bL .nil zav (zab (pv 1) (zab (pv 4) (zab (pv 7) (zab (pv 8) zaf))))))
     (zae (zak (i:=10) zfw.nd rfl (Or.inl rfl) (zaj GC cN rfl mC FC.kp bC .nil zav (zab (pv 3) (zab (pv 4) (zab (pv 7) (zab (pv 8) zaf))))))
     (zae (zbs (PW.pt (pw_or (pt_not (pt_val (zam ziu (by rfl) jX PyProof.Rows.boot_isinstance (zab (pv 10) (zab (pe_tyN (T := "list") rfl aA Wu) zaf))))) (pw_or1 (zar (zf2 gy) (pv 10) (pv 9) (zbd _))))) (zah zgx) zay)
     (zae (za3 (zdo Zk Yn Ym zb4 (pv 10) (zab pe_str zaf)))
     (zah (zbs (zar (zf2 gy) (zaj GC cN rfl mC FC.kp bC .nil zav (zab (pv 3) (zab (pv 4) (zab (pv 7) (zab (pv 8) zaf))))) (pv 9) (zbd _)) (zah zgx) zay))))))))))
   (zah (zbm (pe_cmpR (op_eq_dict gy) (pv 4) (pv 6) (zbd _))))))))),?_⟩
  refine⟨_,rfl,a,ns,rfl,ha,by omega,λd es H1 D1 ne hok fd k1=>?_⟩
  refine⟨_,rfl,a,ns,25,rfl,zhn ha k1,by decide,by omega,λp b m H2 jO av k2=>?_⟩
  have D2:=D1.k0 k2
  have fp':H p=none:=zan k1 jO (by simp)
  refine⟨_,rfl,_,rfl,p,d,b,m,es,rfl,av,D2,λl as bx ao b3 m3 H3 RW cp bo ay k3=>?_⟩
  refine λx dx hx hdx az=>?_
  have k4:Keep [] H3 (upd (upd H3 dx (.own x)) x (.ins C dx [])):=λc u ec _=>by
   rw[zad (zaa ec hx),zad (zaa ec hdx)];exact ec
  have eB:(upd (upd H3 dx (.own x)) x (.ins C dx [])) x=some (.ins C dx []):=zac
  generalize upd (upd H3 dx (.own x)) x (.ins C dx [])=H4 at k4 eB
  obtain⟨cs,aa,Ct⟩:=D1.gd
  rw[zbf]at Ct
  have aD:(es.map (·.1)).Nodup:=D1.rn.nd
  have gA:=zbz bo
  have nH:bx.length=es.length:=by rw[Yr bo,cp.length_eq]
  have ba:=D1.few
  have C1:Cert (bx.map (·.1)) (row (rsOf bx)) cs aa:=cert_turn Ct (by rw[gA];exact cp.map _) (zdh bo cp aD)
  have rX:(bx.map (·.1)).Nodup:=by rw[gA];exact(cp.map _).nodup_iff.mpr aD
  refine⟨x,dx,l,as,bx,cs,aa,rfl,eB,RW.keep k4,by omega,λe he=>?_,C1,λd2 ts aK H5 wt bp ht5 k5=>⟨rfl,?_⟩⟩
  ·obtain ⟨e',aS,e1,_⟩:=zeq bo he
   rw[e1];exact hok e' (cp.mem_iff.mp aS)
  have dm:(ts.map (·.1)).Perm (es.map (·.1)):=by
   rw[zbz ht5]
   refine(bp.map _).trans ?_
   rw[gA];exact cp.map _
  have dj:∀y,(row (rsOf ts) y).Perm (row (rsOf es) y):=λy=>by
   obtain⟨k1,e1⟩:=zdh ht5 bp rX y
   obtain⟨k2,e2⟩:=zdh bo cp aD y
   rw[e1,e2]
   exact(zfm _ k1).trans (zfm _ k2)
  have aV:∀z y,y∈row (rsOf es) z→y∈es.map (·.1):=λz y hy=>Ct.inn' hy
  have kC:∀z y,y∈row (rsOf ts) z→y∈ts.map (·.1):=λz y hy=>dm.mem_iff.mpr (aV z y ((dj z).mem_iff.mp hy))
  have lV:ts.length≤40:=by
   have:=dm.length_eq
   rw[Qa,Qa]at this;omega
  have htr:∀e∈ts,e.2.1.length≤100:=λe he=>by
   have h1:row (rsOf ts) e.1=e.2.1:=zbk wt.ta.nd he
   have h2:=(dj e.1).length_eq
   rw[h1]at h2
   by_cases cu:e.1∈es.map (·.1)
   ·obtain ⟨e',aS,ee⟩:=Qh.mp cu
    have h3:row (rsOf es) e'.1=e'.2.1:=zbk aD aS
    have h4:=D1.row e' aS
    rw[show e'.1=e.1 from ee]at h3
    rw[h3]at h2
    omega
   ·rw [zeu (by rw [zbf];exact cu)] at h2
    rw[h2];exact Zf _
  have gt:Keep [] H3 H5:=λc u ec _=>k5 c u (k4 c u ec (by simp)) (by simpa using zaa ec hx)
  have D5:=(D2.pot av k3).k0 gt
  have ic:=ay.keep gt (by simp)
  have kH5:Keep [p] H H5:=((k1.trans k2).sub (by simp)).trans (k3.trans (gt.sub (by simp)))
  refine⟨_,rfl,_,rfl,p,d,b3,m3,es,rfl,ic,D5,λt u so hs lJ b6 m6 H6 gB gw g9 pE dO rZ rV eJ fu fso k6=>?_⟩
  refine⟨t,_,rfl,SqT.of gB,rfl,_,_,rfl,_,_,rfl,rfl,?_⟩
  have D6:=D5.pot ic k6
  have wt6:=wt.pot ic k6
  have nup:u≠p:=λz=>by rw[z,ic.1]at fu;cases fu
  have fuH:H u=none:=zan kH5 fu (by simpa using nup)
  have nfz:∀o' u',H u≠some (.frz o' u'):=λo' u' z=>by rw[fuH]at z;cases z
  refine⟨_,rfl,u,_,rfl,.inl gw.dc,λkp hkp=>?_⟩
  have nukp:u≠kp:=zaa gw.dc hkp
  have k7:Keep [] H6 (upd H6 kp (.dK (hs.map λe=>((Sum.inr e.1:Key),V.int e.2)))):=Keep.new hkp
  have mV:(upd H6 kp (.dK (hs.map λe=>((Sum.inr e.1:Key),V.int e.2)))) kp=some (.dK (hs.map λe=>((Sum.inr e.1:Key),V.int e.2))):=zac
  generalize upd H6 kp (.dK (hs.map λe=>((Sum.inr e.1:Key),V.int e.2)))=H7 at k7 mV
  have iQ:=k7 _ _ gw.dc (by simp)
  have ndu:d≠u:=zaa D5.rn.dc fu
  have rnu:∀e∈es,e.2.2≠u:=λe he=>zaa (D5.rn.ro e he) fu
  have R':∀{H':Hp},Keep [u] H6 H'→RAt H' d es:=λkk=>D6.rn.toRAt.keep kk (by simpa using ndu) λe he=>by simpa using rnu e he
  have W':∀{H':Hp},Keep [u] H6 H'→WAt H' C x dx d2 ts:=λkk=>wt6.keep kk (by simpa using zaa wt.ob fu) (by simpa using zaa wt.ta.dc fu) λe he=>by simpa using zaa (wt.ta.ro e he) fu
  have nsou:so≠u:=za5 dO gw.dc (by intro z;cases z)
  have jD:∀e∈es,e.2.1.length≤40:=D1.row
  refine⟨_,rfl,u,_,rfl,iQ,λo=>zfn (λi σ H'=>Aj3 (Ex4 λx7 x8 x9 eU=>σ=[some (.ref a),some (.ref d),some (.ref p),some (.ref x),some (.ref u),some (.ref so),some (.ref kp),x7,x8,x9,eU]) (H' u=some (.frz o (.dK (hs.map λe=>((Sum.inr e.1:Key),V.int e.2))))) (Keep [u] H6 H'∧H' kp=some (.dK (hs.map λe=>((Sum.inr e.1:Key),V.int e.2)))))
   ⟨⟨_,_,_,_,rfl⟩,zac,(k7.sub (by simp)).trans (Keep.wr (by simp)),by rw[zad (Zb nukp)];exact mV⟩ (λi σ H' _ hh=>hh.2) ?_ ?_⟩
  ·rintro i pr σ H8 jK ⟨⟨x7,x8,x9,eU,rfl⟩,oR,k8,jV⟩
   have hi:i<hs.length:=by
    have:=(Qw.mp jK).1
    rwa[Qa]at this
   have g1:pr=((Sum.inr hs[i].1:Key),V.int hs[i].2):=by
    rw[Qs,Qd hi]at jK
    exact(Qk jK).symm
   subst g1
   have iS:hs[i]∈hs:=Qz hi
   generalize hs[i]=sh at iS
   obtain⟨s,h⟩:=sh
   have hV:=(g9 _ iS).1
   have bD:valV (hs.map λe=>((Sum.inr e.1:Key),V.int e.2)) (Sum.inr s)=some (.int h):=valH_in gw.nd iS
   have HFq:∀{H':Hp},Keep [] H8 H'→HF H' u hs:=λkk=>⟨.inr ⟨o,kk _ _ oR (by simp)⟩,gw.nd⟩
   have g8:DGet H8 u (.str s) (some (.int h)):=by
    have:=(HFq (H':=H8) λ_ _ e _=>e).get (Sum.inr s)
    rwa[bD]at this
   have cH:=k8 _ _ dO (by simpa using nsou)
   refine⟨_,rfl,so,rfl,⟨_,SqL.of cH⟩,zgb (xs:=lJ.map V.int) (λ τ=>∃x0,τ=[x0,some (.ref u),some (.str s)]) (λv=>match v with | .int n=>!decide (n=h) | _=>false) (SqL.of cH) (by rw[Qa];omega) ⟨none,rfl⟩ ?_ (λfo eN=>?_)⟩
   ·rintro v hv τ ⟨x0,rfl⟩ q1 q0 h1 jf
    obtain⟨n,hn,rfl⟩:=Qh.mp hv
    refine⟨_,rfl,_,rfl,_,rfl,u,_,rfl,g8,rfl,_,rfl,?_⟩
    by_cases jS:n=h
    ·rw [decide_eq_true (congrArg V.int jS)]
     exact iteF (jf (by show(!decide (n=h))=false;rw[decide_eq_true jS];rfl) _ ⟨_,rfl⟩)
    ·rw [decide_eq_false (fun e=>jS (by injection e))]
     exact iteT ⟨_,rfl,h1 (by show(!decide (n=h))=true;rw[decide_eq_false jS];rfl) _ ⟨_,rfl⟩⟩
   have ef:(lJ.map V.int).filter (λv=>match v with | .int n=>!decide (n=h) | _=>false)=(lJ.filter λn=>!decide (n=h)).map V.int:=Kx
   rw[ef]
   have hms:∀n∈lJ.filter λn=>!decide (n=h),n≠h∧0≤n:=λn hn=>by
    have:=Ze.mp hn
    exact⟨λe=>(by have h2:=this.2;rw[decide_eq_true e]at h2;cases h2),rZ n this.1⟩
   generalize lJ.filter (λn=>!decide (n=h))=ms at hms
   have k9:Keep [] H8 (upd H8 fo (.lst (ms.map V.int))):=Keep.new eN
   have ke:(upd H8 fo (.lst (ms.map V.int))) fo=some (.lst (ms.map V.int)):=zac
   generalize upd H8 fo (.lst (ms.map V.int))=H9 at k9 ke
   refine⟨fo,rfl,⟨_,SqL.of ke⟩,zbt (xs:=ms.map V.int) (λj σ H'=>Aj2 (Ex3 λx8 x9 eU=>σ=[some (.ref a),some (.ref d),some (.ref p),some (.ref x),some (.ref u),some (.ref so),some (.ref kp),some (.str s),x8,x9,eU]) (Keep [] H9 H'))
    ⟨⟨_,_,_,rfl⟩,λ_ _ e _=>e⟩ (λj σ H' _ hh=>SqL.of (hh.2 _ _ ke (by simp))) ?_ ?_⟩
   ·rintro j v σ cZ hv ⟨⟨y8,y9,y10,rfl⟩,dz⟩
    have hjv:∃n∈ms,v=.int n:=by
     have:=Yj hv
     obtain⟨n,hn,e⟩:=Qh.mp this
     exact⟨n,hn,e.symm⟩
    obtain⟨n,hn,rfl⟩:=hjv
    obtain⟨jS,mD⟩:=hms n hn
    have kq:∀{H':Hp},Keep [] cZ H'→Keep [u] H6 H':=λkk=>k8.trans (((k9.trans dz).trans kk).sub (by simp))
    have qx:∀{H':Hp},Keep [] cZ H'→Keep [] H8 H':=λkk=>(k9.trans dz).trans kk
    have kr:Keep [] cZ cZ:=λ_ _ e _=>e
    have aq:s∈ts.map (·.1):=dm.mem_iff.mpr hV
    refine⟨_,rfl,_,rfl,_,rfl,_,rfl,d,u,es,hs,s,h,n,rfl,R' (kq kr),ba,jD,aV,HFq (qx kr),iS,hV,λl1 zs1 qc cb nd1 so1 qv fr1 qE=>?_⟩
    refine⟨_,rfl,_,rfl,_,rfl,_,rfl,x,dx,d2,u,ts,hs,s,h,n,rfl,W' (kq qE),lV,htr,kC,HFq (qx qE),iS,aq,jS,mD,λl2 iJ e8 aj eZ so2 jl fr2 kY=>?_⟩
    have e12:iJ=zs1:=zfu eZ nd1 so2 so1 λy=>(jl y).trans ((r2_perm dj).trans (qv y).symm)
    subst e12
    have mU:=kY _ _ cb (by simp)
    have cY:l1≠l2:=zaa cb fr2
    dsimp only[gName]
    refine or_no (λk hk=>⟨_,rfl,l2,_,rfl,aj,_,rfl,hk⟩) (λk hk=>⟨_,rfl,_,rfl,l2,l1,iJ,rfl,rfl,SqL.of aj,SqL.of mU,_,rfl,hk⟩) ?_
    have dB:iJ.length≤40:=by
     have:=zci eZ (m:=ts.map (·.1)) λy hy=>by
      have c:=(jl y).mp hy
      clear hy
      induction c with
      |refl=>exact aq
      |step _ hz _=>exact kC _ _ (Ze.mp hz).1
     rw[Qa]at this
     omega
    refine⟨_,rfl,.inl ⟨rfl,_,SqL.of aj⟩,l2,_,_,rfl,rfl,aj,by rw[Qa];omega,?_⟩
    have gT:Keep [] cZ (upd e8 l2 (.lst (iJ.map V.str++[.str "zz"]))):=λc w' ec _=>by
     have lw:=qE c w' ec (by simp)
     rw[zad (zaa lw fr2)]
     exact kY c w' lw (by simp)
    have mQ:(upd e8 l2 (.lst (iJ.map V.str++[.str "zz"]))) l1=some (.lst (iJ.map V.str)):=by rw[zad cY];exact mU
    generalize upd e8 l2 (.lst (iJ.map V.str++[.str "zz"]))=H13 at gT mQ
    refine⟨_,rfl,_,rfl,_,rfl,_,rfl,x,dx,d2,u,ts,hs,s,h,n,rfl,W' (kq gT),lV,htr,kC,HFq (qx gT),iS,aq,jS,mD,λl3 zs3 oH aZ iK so3 qu tW lK=>?_⟩
    have e23:zs3=iJ:=zfu iK eZ so3 so2 λy=>(qu y).trans (jl y).symm
    subst e23
    exact⟨_,rfl,l3,l1,zs3,rfl,rfl,SqL.of aZ,SqL.of (lK _ _ mQ (by simp)),_,rfl,iteF ⟨⟨_,_,_,rfl⟩,dz.trans (gT.trans lK)⟩⟩
   ·rintro σ cZ ⟨⟨y8,y9,y10,rfl⟩,dz⟩
    have kk:=k9.trans dz
    exact⟨⟨_,_,_,_,rfl⟩,kk _ _ oR (by simp),k8.trans (kk.sub (by simp)),kk _ _ jV (by simp)⟩
  ·rintro σ H8 ⟨⟨x7,x8,x9,eU,rfl⟩,oR,k8,jV⟩
   refine⟨u,o,_,oR,nfz,?_⟩
   refine⟨_,rfl,_,rfl,u,kp,_,rfl,rfl,.inl zac,.inl (by rw[zad (Zb nukp)];exact jV),?_,λp hp=>?_,k _⟩
   ·rw [Zi]
    have:=gw.nd
    exact Wq.mpr ((Wq.mp this).imp λne e=>ne (Wo e))
   ·obtain ⟨e,_,rfl⟩:=Qh.mp hp
    rfl
end
end K21
end
section
namespace L2
open PySem
section
variable{K:Nb}{x qual p1 p2 p3 p4 p5:Str}{st:Stmt}{f:Nc}{fd:No}(F:Fun K x qual st f fd)
include F
theorem Fun.b1(h:∀(kV doc pm:Value) (an:Option Addr) (cdv ct a1:Value),bindArgs (PySem.W.fnOf x qual (zco st) (zca st) (zag st) .none kV doc pm an cdv ct) ⟨[a1],[]⟩=pure [(p1,a1)]):Binds K fd [p1] [] :=
 F.binds λkV doc pm an cdv ct us hl=>by
  obtain _ | ⟨a1,_ | ⟨z,t⟩⟩:=us
  ·cases hl
  ·exact h kV doc pm an cdv ct a1
  ·cases hl
theorem Fun.b2(h:∀(kV doc pm:Value) (an:Option Addr) (cdv ct a1 a2:Value),bindArgs (PySem.W.fnOf x qual (zco st) (zca st) (zag st) .none kV doc pm an cdv ct) ⟨[a1,a2],[]⟩=pure [(p1,a1),(p2,a2)]):Binds K fd [p1,p2] [] :=
 F.binds λkV doc pm an cdv ct us hl=>by
  obtain _ | ⟨a1,_ | ⟨a2,_ | ⟨z,t⟩⟩⟩:=us
  ·cases hl
  ·cases hl
  ·exact h kV doc pm an cdv ct a1 a2
  ·cases hl
theorem Fun.b3(h:∀(kV doc pm:Value) (an:Option Addr) (cdv ct a1 a2 a3:Value),bindArgs (PySem.W.fnOf x qual (zco st) (zca st) (zag st) .none kV doc pm an cdv ct) ⟨[a1,a2,a3],[]⟩=pure [(p1,a1),(p2,a2),(p3,a3)]):Binds K fd [p1,p2,p3] [] :=
 F.binds λkV doc pm an cdv ct us hl=>by
  obtain _ | ⟨a1,_ | ⟨a2,_ | ⟨a3,_ | ⟨z,t⟩⟩⟩⟩:=us
  ·cases hl
  ·cases hl
  ·cases hl
  ·exact h kV doc pm an cdv ct a1 a2 a3
  ·cases hl
theorem Fun.b4(h:∀(kV doc pm:Value) (an:Option Addr) (cdv ct a1 a2 a3 a4:Value),bindArgs (PySem.W.fnOf x qual (zco st) (zca st) (zag st) .none kV doc pm an cdv ct) ⟨[a1,a2,a3,a4],[]⟩=pure [(p1,a1),(p2,a2),(p3,a3),(p4,a4)]):Binds K fd [p1,p2,p3,p4] [] :=
 F.binds λkV doc pm an cdv ct us hl=>by
  obtain _ | ⟨a1,_ | ⟨a2,_ | ⟨a3,_ | ⟨a4,_ | ⟨z,t⟩⟩⟩⟩⟩:=us
  ·cases hl
  ·cases hl
  ·cases hl
  ·cases hl
  ·exact h kV doc pm an cdv ct a1 a2 a3 a4
  ·cases hl
theorem Fun.b5(h:∀(kV doc pm:Value) (an:Option Addr) (cdv ct a1 a2 a3 a4 a5:Value),bindArgs (PySem.W.fnOf x qual (zco st) (zca st) (zag st) .none kV doc pm an cdv ct) ⟨[a1,a2,a3,a4,a5],[]⟩=pure [(p1,a1),(p2,a2),(p3,a3),(p4,a4),(p5,a5)]):Binds K fd [p1,p2,p3,p4,p5] [] :=
 F.binds λkV doc pm an cdv ct us hl=>by
  obtain _ | ⟨a1,_ | ⟨a2,_ | ⟨a3,_ | ⟨a4,_ | ⟨a5,_ | ⟨z,t⟩⟩⟩⟩⟩⟩:=us
  ·cases hl
  ·cases hl
  ·cases hl
  ·cases hl
  ·cases hl
  ·exact h kV doc pm an cdv ct a1 a2 a3 a4 a5
  ·cases hl
end
end L2
namespace K21
open PySem L2 Wb PyProof.Rows
theorem all_mk{l:PySem.W.OpenLaw}{w:Nl}{K:Nb}{h:Nm}{mg:Ng}{fa C fL f0 f1 f2 f3 f4 f5 f6 f7 f8 f9 f10 f11 f12 f13 f14 f15 f16 f17 f18 f19 f20 f21 f22 f23 f24 f25 f26 f27 f28 g0 g1 g2:Nc}(X:K.In h)(G:h.Ns mainGlobals mg)(cz:mg "law" = some (.ref fa))(af0:PySem.W.nsIn K mainGlobals "steps_behind" = some (some (.ref f0)))(tq:∃fd,Fun K "steps_behind" "steps_behind" sSteps f0 fd)(af1:PySem.W.nsIn K mainGlobals "faces_of" = some (some (.ref f1)))(hf1:∃fd,Fun K "faces_of" "faces_of" ze5 f1 fd)(af2:PySem.W.nsIn K mainGlobals "piece_from" = some (some (.ref f2)))(gF:∃fd,Fun K "piece_from" "piece_from" zg5 f2 fd)(af3:PySem.W.nsIn K mainGlobals "pieces_of" = some (some (.ref f3)))(hf3:∃fd,Fun K "pieces_of" "pieces_of" zht f3 fd)(af4:PySem.W.nsIn K mainGlobals "chain" = some (some (.ref f4)))(hf4:∃fd,Fun K "chain" "chain" zc4 f4 fd)(af5:PySem.W.nsIn K mainGlobals "is_name" = some (some (.ref f5)))(hf5:∃fd,Fun K "is_name" "is_name" zdy f5 fd)(af6:PySem.W.nsIn K mainGlobals "refuse_no_names" = some (some (.ref f6)))(hf6:∃fd,Fun K "refuse_no_names" "refuse_no_names" zfl f6 fd)(af7:PySem.W.nsIn K mainGlobals "refuse_twice" = some (some (.ref f7)))(hf7:∃fd,Fun K "refuse_twice" "refuse_twice" zdq f7 fd)(af8:PySem.W.nsIn K mainGlobals "refuse_one_way" = some (some (.ref f8)))(hf8:∃fd,Fun K "refuse_one_way" "refuse_one_way" zhu f8 fd)(af9:PySem.W.nsIn K mainGlobals "refuse_not_flat" = some (some (.ref f9)))(hf9:∃fd,Fun K "refuse_not_flat" "refuse_not_flat" zgv f9 fd)(uv:PySem.W.nsIn K mainGlobals "from_least" = some (some (.ref f10)))(tm:∃fd,Fun K "from_least" "from_least" sLeast f10 fd)(uu:PySem.W.nsIn K mainGlobals "_law_pot" = some (some (.ref f11)))(tj:∃fd,Fun K "_law_pot" "_law_pot" sPot f11 fd)(ut:PySem.W.nsIn K mainGlobals "_law_draw" = some (some (.ref f12)))(tf:∃fd,Fun K "_law_draw" "_law_draw" zgw f12 fd)(ur:PySem.W.nsIn K mainGlobals "_law_names" = some (some (.ref f13)))(t8:∃fd,Fun K "_law_names" "_law_names" zdr f13 fd)(uq:PySem.W.nsIn K mainGlobals "_law_behind" = some (some (.ref f14)))(t6:∃fd,Fun K "_law_behind" "_law_behind" zhw f14 fd)(uo:PySem.W.nsIn K mainGlobals "_law_face" = some (some (.ref f15)))(sZ:∃fd,Fun K "_law_face" "_law_face" sFace f15 fd)(um:PySem.W.nsIn K mainGlobals "_law_put" = some (some (.ref f16)))(sY:∃fd,Fun K "_law_put" "_law_put" sPut f16 fd)(ul:PySem.W.nsIn K mainGlobals "_law_tie" = some (some (.ref f17)))(sX:∃fd,Fun K "_law_tie" "_law_tie" sTie f17 fd)(uk:PySem.W.nsIn K mainGlobals "_law_step" = some (some (.ref f18)))(sW:∃fd,Fun K "_law_step" "_law_step" zhq f18 fd)(uj:PySem.W.nsIn K mainGlobals "_law_more" = some (some (.ref f19)))(sV:∃fd,Fun K "_law_more" "_law_more" sMore f19 fd)(ui:PySem.W.nsIn K mainGlobals "_law_across" = some (some (.ref f20)))(sT:∃fd,Fun K "_law_across" "_law_across" zhx f20 fd)(uh:PySem.W.nsIn K mainGlobals "_law_fill" = some (some (.ref f21)))(sS:∃fd,Fun K "_law_fill" "_law_fill" sFill f21 fd)(ug:PySem.W.nsIn K mainGlobals "_law_away" = some (some (.ref f22)))(sR:∃fd,Fun K "_law_away" "_law_away" sAway f22 fd)(uf:PySem.W.nsIn K mainGlobals "_law_capped" = some (some (.ref f23)))(sQ:∃fd,Fun K "_law_capped" "_law_capped" sCap f23 fd)(ue:PySem.W.nsIn K mainGlobals "_law_long" = some (some (.ref f24)))(sP:∃fd,Fun K "_law_long" "_law_long" sLong f24 fd)(ud:PySem.W.nsIn K mainGlobals "_law_rounds" = some (some (.ref f25)))(sO:∃fd,Fun K "_law_rounds" "_law_rounds" zhr f25 fd)(uc:PySem.W.nsIn K mainGlobals "_law_rows" = some (some (.ref f26)))(sM:∃fd,Fun K "_law_rows" "_law_rows" sRows f26 fd)(ub:PySem.W.nsIn K mainGlobals "_law_hues" = some (some (.ref f27)))(sL:∃fd,Fun K "_law_hues" "_law_hues" zgu f27 fd)(ua:PySem.W.nsIn K mainGlobals "_law_chain" = some (some (.ref f28)))(sK:∃fd,Fun K "_law_chain" "_law_chain" zhv f28 fd)(ag0:PySem.W.findIn K (.ref C) "__init__" = some (some (.ref g0)))(ig0:PySem.W.isFn K (.ref g0)=true)(kg0:PySem.W.keepIn K (.ref g0)=true)(hg0:∃fd,Fun K "__init__" "Web.__init__" sInit g0 fd)(ag1:PySem.W.findIn K (.ref C) "places" = some (some (.ref g1)))(ig1:PySem.W.isFn K (.ref g1)=true)(kg1:PySem.W.keepIn K (.ref g1)=true)(hg1:∃fd,Fun K "places" "Web.places" sPlaces g1 fd)(ag2:PySem.W.findIn K (.ref C) "round_of" = some (some (.ref g2)))(ig2:PySem.W.isFn K (.ref g2)=true)(kg2:PySem.W.keepIn K (.ref g2)=true)(hg2:∃fd,Fun K "round_of" "Web.round_of" zhs g2 fd){odfL anfL:Option Addr}{slfL:Array (Option Value)}{ocfL kVfL dcfL pmfL cdfL ctfL:Value}(afL:PySem.W.nsIn K mainGlobals "law" = some (some (.ref fL)))(lfL:K.lookup fL=some ⟨ocfL,odfL,.func (PySem.W.fnOf "law" "law" (zco sLaw) (zca sLaw) (zag sLaw) .none kVfL dcfL pmfL anfL cdfL ctfL),slfL⟩)(cfL:PySem.W.codeIn K cdfL "law" = true)(kfL:PySem.W.keepIn K (.ref fL)=true)(aC:PySem.W.nsIn K mainGlobals "Web" = some (some (.ref C))){tkM:Tok}(aM:PySem.W.nsIn K mainGlobals "MOST_LETTERS" = some (some (.int 8 tkM)))(pg:PySem.W.plainGet K C Str.empty=true)(gH:PySem.W.hasDictIn K C=true)(po:PySem.W.plainOver K C=true)(sa:PySem.W.findIn K (.ref C) "__setattr__" = some (some (.builtin "object.__setattr__")))(mk:PySem.W.makesIn K C=true)(kc:PySem.W.keepIn K (.ref C)=true)(nR:PySem.W.findIn K (.ref C) "rounds" = some none)(z_len:PySem.W.nsIn K mainGlobals "len" = some none)(z_sorted:PySem.W.nsIn K mainGlobals "sorted" = some none)(z_range:PySem.W.nsIn K mainGlobals "range" = some none)(z_min:PySem.W.nsIn K mainGlobals "min" = some none)(z_tuple:PySem.W.nsIn K mainGlobals "tuple" = some none)(z_list:PySem.W.nsIn K mainGlobals "list" = some none)(z_dict:PySem.W.nsIn K mainGlobals "dict" = some none)(z_set:PySem.W.nsIn K mainGlobals "set" = some none)(z_isinstance:PySem.W.nsIn K mainGlobals "isinstance" = some none)(z_str:PySem.W.nsIn K mainGlobals "str" = some none)(z_all:PySem.W.nsIn K mainGlobals "all" = some none)(z_sum:PySem.W.nsIn K mainGlobals "sum" = some none)(z_enumerate:PySem.W.nsIn K mainGlobals "enumerate" = some none)(z_zip:PySem.W.nsIn K mainGlobals "zip" = some none)(z_int:PySem.W.nsIn K mainGlobals "int" = some none)(z_reversed:PySem.W.nsIn K mainGlobals "reversed" = some none) :
  ∃fd:FuncData,(∀(s:Nh) (v:Value),BindsTo s fd ⟨[v],[]⟩ [("_law_script",v)])∧∀base:Heap,K.In base→base.Ns mainGlobals mg→FnOk l.prog w K mg base CX0 6 fa fd ["_law_script"] (spLaw K):=by
 have e:=cz.symm.trans (Zq X G afL)
 cases e
 obtain⟨_,F0⟩:=tq
 have b0:=F0.b1 (p1 := "rounds") λ_ _ _ _ _ _ _=>rfl
 have m0:=Zq X G af0
 obtain⟨_,F1⟩:=hf1
 have b1:=F1.b1 (p1 := "rounds") λ_ _ _ _ _ _ _=>rfl
 have m1:=Zq X G af1
 obtain⟨_,F2⟩:=gF
 have b2:=F2.b2 (p1 := "rounds") (p2 := "start") λ_ _ _ _ _ _ _ _=>rfl
 have m2:=Zq X G af2
 obtain⟨_,F3⟩:=hf3
 have b3:=F3.b1 (p1 := "rounds") λ_ _ _ _ _ _ _=>rfl
 have m3:=Zq X G af3
 obtain⟨_,F4⟩:=hf4
 have b4:=F4.b4 (p1 := "web") (p2 := "hues") (p3 := "start") (p4 := "other") λ_ _ _ _ _ _ _ _ _ _=>rfl
 have m4:=Zq X G af4
 obtain⟨_,F5⟩:=hf5
 have b5:=F5.b1 (p1 := "thing") λ_ _ _ _ _ _ _=>rfl
 have m5:=Zq X G af5
 obtain⟨_,F6⟩:=hf6
 have b6:=F6.b1 (p1 := "rows") λ_ _ _ _ _ _ _=>rfl
 have m6:=Zq X G af6
 obtain⟨_,F7⟩:=hf7
 have b7:=F7.b1 (p1 := "rows") λ_ _ _ _ _ _ _=>rfl
 have m7:=Zq X G af7
 obtain⟨_,F8⟩:=hf8
 have b8:=F8.b1 (p1 := "rows") λ_ _ _ _ _ _ _=>rfl
 have m8:=Zq X G af8
 obtain⟨_,F9⟩:=hf9
 have b9:=F9.b1 (p1 := "rounds") λ_ _ _ _ _ _ _=>rfl
 have m9:=Zq X G af9
 obtain⟨_,uN⟩:=tm
 have jg:=uN.b1 (p1 := "around") λ_ _ _ _ _ _ _=>rfl
 have m10:=Zq X G uv
 obtain⟨_,qe⟩:=tj
 have b11:=qe.b2 (p1 := "_law_script") (p2 := "_law_k") λ_ _ _ _ _ _ _ _=>rfl
 have m11:=Zq X G uu
 obtain⟨_,iI⟩:=tf
 have kL:=iI.b2 (p1 := "_law_pot_here") (p2 := "_law_many") λ_ _ _ _ _ _ _ _=>rfl
 have jm:=Zq X G ut
 obtain⟨_,uM⟩:=t8
 have b13:=uM.b2 (p1 := "_law_pot_here") (p2 := "_law_many") λ_ _ _ _ _ _ _ _=>rfl
 have m13:=Zq X G ur
 obtain⟨_,uL⟩:=t6
 have b14:=uL.b3 (p1 := "_law_rounds_here") (p2 := "_law_p") (p3 := "_law_q") λ_ _ _ _ _ _ _ _ _=>rfl
 have m14:=Zq X G uq
 obtain⟨_,qd⟩:=sZ
 have b15:=qd.b2 (p1 := "_law_rounds_here") (p2 := "_law_step_here") λ_ _ _ _ _ _ _ _=>rfl
 have m15:=Zq X G uo
 obtain⟨_,uK⟩:=sY
 have b16:=uK.b4 (p1 := "_law_rounds_here") (p2 := "_law_one") (p3 := "_law_beside") (p4 := "_law_other") λ_ _ _ _ _ _ _ _ _ _=>rfl
 have m16:=Zq X G um
 obtain⟨_,lE⟩:=sX
 have pX:=lE.b5 (p1 := "_law_rounds_here") (p2 := "_law_one") (p3 := "_law_beside") (p4 := "_law_other") (p5 := "_law_after") λ_ _ _ _ _ _ _ _ _ _ _=>rfl
 have oO:=Zq X G ul
 obtain⟨_,oI⟩:=sW
 have u9:=oI.b2 (p1 := "_law_rounds_here") (p2 := "_law_pot_here") λ_ _ _ _ _ _ _ _=>rfl
 have qw:=Zq X G uk
 obtain⟨_,uJ⟩:=sV
 have b19:=uJ.b3 (p1 := "_law_rounds_here") (p2 := "_law_pot_here") (p3 := "_law_name") λ_ _ _ _ _ _ _ _ _=>rfl
 have m19:=Zq X G uj
 obtain⟨_,uI⟩:=sT
 have b20:=uI.b2 (p1 := "_law_rounds_here") (p2 := "_law_pot_here") λ_ _ _ _ _ _ _ _=>rfl
 have m20:=Zq X G ui
 obtain⟨_,uH⟩:=sS
 have b21:=uH.b3 (p1 := "_law_rounds_here") (p2 := "_law_pot_here") (p3 := "_law_name") λ_ _ _ _ _ _ _ _ _=>rfl
 have m21:=Zq X G uh
 obtain⟨_,uG⟩:=sR
 have b22:=uG.b2 (p1 := "_law_rounds_here") (p2 := "_law_pot_here") λ_ _ _ _ _ _ _ _=>rfl
 have m22:=Zq X G ug
 obtain⟨_,uF⟩:=sQ
 have b23:=uF.b3 (p1 := "_law_names_here") (p2 := "_law_many") (p3 := "_law_layers") λ_ _ _ _ _ _ _ _ _=>rfl
 have m23:=Zq X G uf
 obtain⟨_,uE⟩:=sP
 have b24:=uE.b1 (p1 := "_law_names_here") λ_ _ _ _ _ _ _=>rfl
 have m24:=Zq X G ue
 obtain⟨_,uD⟩:=sO
 have b25:=uD.b1 (p1 := "_law_script") λ_ _ _ _ _ _ _=>rfl
 have m25:=Zq X G ud
 obtain⟨_,uC⟩:=sM
 have b26:=uC.b2 (p1 := "_law_rounds_here") (p2 := "_law_pot_here") λ_ _ _ _ _ _ _ _=>rfl
 have m26:=Zq X G uc
 obtain⟨_,uB⟩:=sL
 have b27:=uB.b2 (p1 := "_law_rounds_here") (p2 := "_law_pot_here") λ_ _ _ _ _ _ _ _=>rfl
 have m27:=Zq X G ub
 obtain⟨_,uA⟩:=sK
 have b28:=uA.b4 (p1 := "_law_rounds_here") (p2 := "_law_hues_here") (p3 := "_law_start") (p4 := "_law_other") λ_ _ _ _ _ _ _ _ _ _=>rfl
 have m28:=Zq X G ua
 obtain⟨_,FG0⟩:=hg0
 have bG0:=FG0.b2 (p1 := "self") (p2 := "rows") λ_ _ _ _ _ _ _ _=>rfl
 obtain⟨_,FG1⟩:=hg1
 have bG1:=FG1.b1 (p1 := "self") λ_ _ _ _ _ _ _=>rfl
 obtain⟨_,FG2⟩:=hg2
 have bG2:=FG2.b2 (p1 := "self") (p2 := "place") λ_ _ _ _ _ _ _ _=>rfl
 have FL:=fun_mk (st:=sLaw) lfL cfL kfL
 have cW:Cls K C:=⟨pg,gH,po,sa⟩
 have mC:=Zq X G aC
 have mM:=Zq X G aM
 have y_len:=Zz X G z_len
 have y_sorted:=Zz X G z_sorted
 have y_range:=Zz X G z_range
 have y_min:=Zz X G z_min
 have y_tuple:=Zz X G z_tuple
 have y_list:=Zz X G z_list
 have y_dict:=Zz X G z_dict
 have y_set:=Zz X G z_set
 have y_isinstance:=Zz X G z_isinstance
 have y_str:=Zz X G z_str
 have y_all:=Zz X G z_all
 have y_sum:=Zz X G z_sum
 have y_enumerate:=Zz X G z_enumerate
 have y_zip:=Zz X G z_zip
 have y_int:=Zz X G z_int
 have y_reversed:=Zz X G z_reversed
 refine⟨PySem.W.fnOf "law" "law" (zco sLaw) (zca sLaw) (zag sLaw) .none kVfL dcfL pmfL anfL cdfL ctfL,λs v=>.of_eq rfl,λbase _ _=>?_⟩
 have GTake:=ok_draw (P:=l.prog) (w:=w) (mg:=mg) (base:=base) iI
 have GPot:=ok_pot (P:=l.prog) (w:=w) (base:=base) qe y_len y_min y_list y_int
 have GNames:=ok_names (P:=l.prog) (w:=w) (base:=base) uM iI kL jm GTake y_range y_zip
 have GBehind:=ok_behind (P:=l.prog) (w:=w) (base:=base) uL y_len
 have GFace:=ok_face (P:=l.prog) (w:=w) (base:=base) qd uL b14 m14 GBehind
 have GPut:=ok_put (P:=l.prog) (w:=w) (mg:=mg) (base:=base) uK
 have GTie:=ok_tie (P:=l.prog) (w:=w) (base:=base) lE uK b16 m16 GPut
 have GStep:=ok_step (P:=l.prog) (w:=w) (base:=base) oI iI kL jm GTake y_len
 have GMore:=ok_more (P:=l.prog) (w:=w) (base:=base) uJ iI kL jm GTake lE pX oO GTie y_len y_list
 have GAcross:=ok_across (P:=l.prog) (w:=w) (base:=base) uI iI kL jm GTake lE pX oO GTie oI u9 qw GStep qd b15 m15 GFace y_len
 have GFill:=ok_fill (P:=l.prog) (w:=w) (base:=base) uH lE pX oO GTie oI u9 qw GStep qd b15 m15 GFace
 have GAway:=ok_away (P:=l.prog) (w:=w) (base:=base) uG oI u9 qw GStep
 have GLong:=ok_long (P:=l.prog) (w:=w) (base:=base) uE lE pX oO GTie y_len y_range
 have GCap:=ok_cap (P:=l.prog) (w:=w) (base:=base) uF y_range y_list y_reversed y_enumerate
 have GRounds:=ok_rounds (P:=l.prog) (w:=w) (base:=base) uD qe b11 m11 GPot uM b13 m13 GNames iI kL jm GTake uE b24 m24 GLong uF b23 m23 GCap uH b21 m21 GFill uJ b19 m19 GMore uG b22 m22 GAway uI b20 m20 GAcross y_len y_min y_range
 have GRows:=ok_rows (P:=l.prog) (w:=w) (base:=base) uC iI kL jm GTake y_len
 have GHues:=ok_hues (P:=l.prog) (w:=w) (base:=base) uB iI kL jm GTake y_len y_int
 have GLChain:=ok_lchain (P:=l.prog) (w:=w) (base:=base) uA y_len y_sorted
 have GPlaces:=ok_places (P:=l.prog) (w:=w) (base:=base) FG1 cW nR y_list
 have GRoundOf:=ok_roundof (P:=l.prog) (w:=w) (base:=base) FG2 cW nR y_list
 have GPieceL:=ok_pieceL (P:=l.prog) (w:=w) (base:=base) F2 y_sorted
 have GChain:=ok_chain (P:=l.prog) (w:=w) (base:=base) F4 cW nR ⟨ag1,ig1,kg1⟩ bG1 GPlaces ⟨ag2,ig2,kg2⟩ bG2 GRoundOf F2 b2 m2 GPieceL
 have GIsName:=ok_isname (P:=l.prog) (w:=w) (base:=base) F5 mM y_isinstance y_str y_len y_all
 have GNo:=ok_nonames (P:=l.prog) (w:=w) (base:=base) F6 F5 b5 m5 GIsName
 have GTw:=ok_twice (P:=l.prog) (w:=w) (base:=base) F7 y_len y_set
 have GOne:=ok_oneway (P:=l.prog) (w:=w) (base:=base) F8 y_dict
 have GLeast:=ok_least (P:=l.prog) (w:=w) (base:=base) uN y_min y_tuple
 have GSteps:=ok_steps (P:=l.prog) (w:=w) (base:=base) F0 y_enumerate
 have GFaces:=ok_faces (P:=l.prog) (w:=w) (base:=base) F1 F0 b0 m0 GSteps y_sorted
 have GPiece:=ok_piece (P:=l.prog) (w:=w) (base:=base) F2 y_sorted
 have GPieces:=ok_pieces (P:=l.prog) (w:=w) (base:=base) F3 F2 b2 m2 GPiece y_sorted
 have GFlat:=ok_flat (P:=l.prog) (w:=w) (base:=base) F9 F1 b1 m1 GFaces F3 b3 m3 GPieces y_len y_sum
 have GInit:=ok_init (P:=l.prog) (w:=w) (base:=base) FG0 cW nR F6 b6 m6 GNo F7 b7 m7 GTw F8 b8 m8 GOne uN jg m10 GLeast F9 b9 m9 GFlat y_sorted
 exact ok_law FL uD b25 m25 GRounds qe b11 m11 GPot ⟨mk,ag0,ig0,kc⟩ mC bG0 GInit uC b26 m26 GRows uB b27 m27 GHues uA b28 m28 GLChain F4 b4 m4 GChain y_isinstance y_list y_dict
def walk{l:PySem.W.OpenLaw}{q:Nj}{loose:Nf}{XP:(Str→Option Value)→Heap→Prop}{d:DefRec}{K:Params→PySem.W.Frag}(hn:l.most=some 63)(nK:d.params.defaults=[])(F:∀ (w:Nl) (mg:Ng) (fa:Nc) (h:Nm),(K w.params).In h→h.Ns mainGlobals mg→mg d.name=some (.ref fa) →
   ∃fd:FuncData,(∀(s:Nh) (u:Value),BindsTo s fd ⟨[u],[]⟩ [("_law_script",u)])∧∀base:Heap,(K w.params).In base→base.Ns mainGlobals mg→FnOk l.prog w (K w.params) mg base CX0 6 fa fd ["_law_script"] (spLaw (K w.params))) :
  PySem.W.WalkO q loose XP (λw h=>(K w.params).In h) l.row.toRowW d [] (λf vs=>PySem.call f vs) :=
 L2.walk_of (n:=63) (k:=6) (x := "_law_script") (CX:=λ_=>CX0) (sp:=λw=>spLaw (K w.params)) hn (by decide) nK ⟨rfl,by decide,by decide⟩ (λ_ _ z=>z) F (λ_ _ a ns hl _ hS=>⟨a,ns,rfl,hS,hl,λ_=>rfl⟩) λ_ _ _ _ _ z=>z
end K21
end
section
set_option Elab.async false
set_option linter.all false
open PySem PySem.W PySem.W.X PyProof.Rows
def PySem.W.Fast.tw8723597579325949996:Unit:=()
def PySem.W.Fast.tw16917332036265846033:Unit:=()
def PySem.W.Fast.tw18330582509279977361:Unit:=()
def PySem.W.Fast.tw18129421074778073202:Unit:=()
def PySem.W.Fast.tw2104835310744411575:Unit:=()
def PySem.W.Fast.tw5077962916845298379:Unit:=()
def PySem.W.Fast.tw16391206485694087259:Unit:=()
def PySem.W.Fast.tw4335406318043578939:Unit:=()
def PySem.W.Fast.tw8808859709183766961:Unit:=()
def PySem.W.Fast.tw1846812754226947711:Unit:=()
def PySem.W.Fast.tw12244761434054897690:Unit:=()
def PySem.W.Fast.tw2522949221914709784:Unit:=()
def PySem.W.Fast.tw7602519447137531065:Unit:=()
def PySem.W.Fast.tw9286508760729343234:Unit:=()
def PySem.W.Fast.tw1882640339439018331:Unit:=()
def PySem.W.Fast.tw17712131597385304600:Unit:=()
def PySem.W.Fast.tw14528223373931388720:Unit:=()
def PySem.W.Fast.tw13081014912372256042:Unit:=()
set_option maxRecDepth 100000 in
set_option maxHeartbeats 0 in
theorem PySem.Challenge.cw_fivehues_k31_chains_holds : PySem.Challenge.rw_fivehues_k31_chains.Holds := by
 w_on;o_law;z_head;(case hw=>w_witness2)
 k_fill
 intro w s0 s1 mg mb G y fa o pm cd doc dV kV ho hd hcd hD hmg hg args vals as L hpre hlay hrd hwl hlo
 z_open y L KX ZH ZN ZT
 refine K21.walk (l:=PySem.Challenge.rw_fivehues_k31_chains) rfl rfl ?F w s0 s1 mg mb G KX fa o pm cd doc dV kV ho hd hcd hD hmg hg args vals as hpre hlay hrd hwl hlo
 case F =>
  clear KX ZH ZN ZT L y G hmg hg hpre hlay hrd hwl hlo ho hd hcd hD
  intro w mg fa h KX G hmg
  refine' K21.all_mk KX G hmg ?_ ?_ ?_ ?_ ?_ ?_ ?_ ?_ ?_ ?_ ?_ ?_ ?_ ?_ ?_ ?_ ?_ ?_ ?_ ?_ ?_ ?_ ?_ ?_ ?_ ?_ ?_ ?_ ?_ ?_ ?_ ?_ ?_ ?_ ?_ ?_ ?_ ?_ ?_ ?_ ?_ ?_ ?_ ?_ ?_ ?_ ?_ ?_ ?_ ?_ ?_ ?_ ?_ ?_ ?_ ?_ ?_ ?_ ?_ ?_ ?_ ?_ ?_ ?_ ?_ ?_ ?_ ?_ ?_ ?_ ?_ ?_ ?_ ?_ ?aC ?_ ?_ ?_ ?_ ?_ ?_ ?_ ?_ ?_ ?_ ?_ ?_ ?_ ?_ ?_ ?_ ?_ ?_ ?_ ?_ ?_ ?_ ?_ ?_
  (case aC=>k_is)
  all_goals(try first | k_is | exact⟨_,L2.fun_mk (by k_is) (by k_is) (by k_is)⟩)
end
