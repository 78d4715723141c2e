import PyProof.Rows.All
import KE.KDictOf
import KE.KDictSum
import KE.KEqDict
import KE.KSortTup
import Lean
import OpenK.AllK
import PyProof.EqAt
import PyProof.EqKinds
import PyProof.TupleCall
import Wide.All
import Wide.FinOn
import PySem.Challenge.RW_fivehues_k23_whole_six_hues
set_option Elab.async false
set_option linter.all false
set_option maxRecDepth 100000
set_option maxHeartbeats 4000000
abbrev Qa:=@List.length_map
abbrev Qb:=@List.mem_cons_self
abbrev Qc:=@List.getElem?_eq_getElem
abbrev Qd:=@List.mem_singleton
abbrev Qe:=@List.mem_cons
abbrev Qf:=@List.mem_cons_of_mem
abbrev Qg:=@List.take_succ_eq_append_getElem
abbrev Qh:=@Nat.le_refl
abbrev Qi:=@List.mem_map
abbrev Qj:=@PySem.Heap.get?_push_of_some
abbrev Qk:=@List.map_cons
abbrev Ql:=@List.mem_append
abbrev Qm:=@Option.some.inj
abbrev Qn:=@List.getElem?_map
abbrev Qo:=@List.map_append
abbrev Qp:=@List.take_of_length_le
abbrev Qq:=@List.length_cons
abbrev Qr:=@List.getElem_mem
abbrev Qs:=@List.mem_append_right
abbrev Qt:=@List.nodup_cons
abbrev Qu:=@List.mem_append_left
abbrev Qv:=@List.size_toArray
abbrev Qw:=@List.length_append
abbrev Qx:=@PySem.Heap.lt_size
abbrev Qy:=@List.append_assoc
abbrev Qz:=@List.getElem?_eq_some_iff
abbrev Za:=@List.nodup_append
abbrev Zb:=@Bool.false_ne_true
abbrev Zc:=@PySem.Heap.get?_push_size
abbrev Zd:=@Nat.zero_le
abbrev Ze:=@List.sum_cons
abbrev Zf:=@Nat.le_trans
abbrev Zg:=@PySem.PassesOwn.never
abbrev Zh:=@Nat.ne_of_lt
abbrev Zi:=@List.filter_cons_of_pos
abbrev Zj:=@List.filter_cons_of_neg
abbrev Zk:=@List.mem_filter
abbrev Zl:=@Ne.symm
abbrev Zm:=@List.length_take
abbrev Zn:=@List.map_map
abbrev Zo:=@List.nodup_nil
abbrev Zp:=@PySem.W.mg_of
abbrev Zq:=@List.getElem_of_mem
abbrev Zr:=@List.append_nil
abbrev Zs:=@List.filter_append
abbrev Zt:=@List.mem_flatten
abbrev Zu:=@PySem.F.plainAttrs_list
abbrev Zv:=@Bool.eq_iff_iff
abbrev Zw:=@PySem.W.mg_none_of
abbrev Zx:=@Nat.lt_of_lt_of_le
abbrev Zy:=@List.length_erase_of_mem
abbrev Zz:=@Array.toList_append
abbrev Ya:=@Int.eq_ofNat_of_zero_le
abbrev Yb:=@PySem.boot_len
abbrev Yc:=@List.Perm.append_left
abbrev Yd:=@List.filter_nil
abbrev Yf:=@List.length_pos_of_mem
abbrev Yh:=@List.getD_eq_getElem?_getD
abbrev Yi:=@List.getElem_map
abbrev Yj:=@List.any_eq_true
abbrev Yl:=@List.length_filter_le
abbrev Ym:=@PySem.Paired.length
abbrev Yn:=@List.mem_of_getElem?
abbrev Yo:=@PySem.Heap.get?_update_other
abbrev Yp:=@PySem.Around.under_plainId
abbrev Yq:=@List.take_append_drop
abbrev Yr:=@List.flatten_cons
abbrev Ys:=@List.append_of_mem
abbrev Yu:=@List.Nodup.sublist
abbrev Yv:=@PySem.F.type_list_append
abbrev Yw:=@PySem.F.slot_list_append
abbrev Yx:=@PyProof.Rows.boot_sorted
abbrev Yy:=@List.map_congr_left
abbrev Yz:=@Array.length_toList
abbrev Wa:=@Array.perm_iff_toList_perm
abbrev Wc:=@Nat.lt_irrefl
abbrev Wd:=@Nat.ne_of_gt
abbrev We:=@List.filter_congr
abbrev Wf:=@List.perm_append_comm
abbrev Wg:=@List.mem_reverse
abbrev Wh:=@List.find?_cons_of_pos
abbrev Wi:=@List.find?_cons_of_neg
abbrev Wj:=@Int.toNat_natCast
abbrev Wk:=@List.length_pos_iff
abbrev Wl:=@List.flatten_append
abbrev Wm:=@Sum.inr.inj
abbrev Wn:=@List.singleton_append
abbrev Wo:=@List.mem_of_mem_erase
abbrev Wp:=@List.length_singleton
abbrev Wq:=@PySem.F.called_set
abbrev Wr:=@Nat.le_add_right
abbrev Ws:=@Nat.lt_trans
abbrev Wt:=@Nat.le_of_lt
abbrev Wu:=@List.mem_range
abbrev Wv:=@List.reverse_perm
abbrev Ww:=@List.pairwise_map
abbrev Wx:=@List.length_nil
abbrev Wy:=@Nat.lt_succ_self
abbrev Wz:=@PySem.F.slot_dict_keyiterator_next
abbrev Ua:=@Array.getElem?_toList
abbrev Ub:=@List.mem_of_mem_drop
abbrev Uc:=@List.length_range
abbrev Ud:=@PySem.mem_of_lookup
abbrev Ue:=@List.lookup_cons
abbrev Uf:=@List.getElem_inj
abbrev Ug:=@List.ne_nil_of_mem
abbrev Uh:=@PySem.F.plain_min_loop
abbrev Ui:=@List.map_take
abbrev Uj:=@PyProof.Rows.boot_min
abbrev Uk:=@List.length_replicate
abbrev Ul:=@List.take_sublist
abbrev Um:=@List.reverse_reverse
abbrev Uo:=@List.perm_ext_iff_of_nodup
abbrev Up:=@List.perm_cons_erase
abbrev Uq:=@List.mem_of_mem_take
abbrev Ur:=@List.getElem?_append_right
abbrev Us:=@List.cons_append
abbrev Ut:=@List.all_eq_true
abbrev Uu:=@PySem.Heap.get?_update_self
abbrev Uv:=@List.drop_eq_getElem_cons
abbrev Uw:=@Classical.byContradiction
abbrev Ux:=@List.length_reverse
abbrev Uy:=@List.filter_sublist
abbrev Uz:=@List.any_cons
abbrev Ja:=@PySem.Heap.size_push
abbrev Jb:=@PySem.F.slot_tuple_iterator_next
abbrev Jc:=@List.foldl_cons
abbrev Jd:=@List.find?_cons
abbrev Je:=@List.zip_cons_cons
abbrev Jf:=@Int.emod_lt_of_pos
abbrev Jg:=@Nat.lt_succ_of_lt
abbrev Jh:=@Nat.lt_of_succ_lt
abbrev Ji:=@List.reverse_singleton
abbrev Jj:=@List.map_nil
abbrev Jk:=@Array.toList_push
abbrev Jl:=@PySem.SeqAt.EqAt.str_str
abbrev Jm:=@List.perm_middle
abbrev Jn:=@List.map_drop
abbrev Jo:=@Prod.mk.inj
abbrev Jp:=@Prod.ext
abbrev Jq:=@List.mem_erase_of_ne
abbrev Jr:=@List.getElem_toArray
abbrev Js:=@Array.toList_reverse
abbrev Jt:=@List.nil_append
abbrev Ju:=@Int.emod_nonneg
abbrev Jv:=@List.reverse_append
abbrev Jw:=@List.perm_iff_count
abbrev Jx:=@List.filter_eq_self
abbrev Jy:=@PyProof.Rows.callWith_type1
abbrev Jz:=@Nat.le_of_eq
abbrev Ka:=@Nat.lt_of_le_of_lt
abbrev Kb:=@List.pairwise_cons
abbrev Kc:=@List.lt_irrefl
abbrev Kd:=@List.Nodup.erase_eq_filter
abbrev Ke:=@Bool.false_eq_true
abbrev Kf:=@List.extract_eq_take_drop
abbrev Kg:=@Array.getElem?_eq_getElem
abbrev Kh:=@List.flatMap_cons
abbrev Ki:=@List.count_append
abbrev Kj:=@PySem.Heap.SameBut.update
abbrev Kk:=@List.Pairwise.imp_of_mem
abbrev Kl:=@PySem.F.type_list_index
abbrev Km:=@PySem.F.slot_list_index
abbrev Kn:=@PySem.Obj.data_mapFields
abbrev Ko:=@List.pairwise_singleton
abbrev Kp:=@List.not_mem_nil
abbrev Kq:=@List.length_eq_zero_iff
abbrev Kr:=@List.cons_ne_nil
abbrev Ks:=@Bool.and_eq_true
abbrev Kt:=@Nat.not_lt_zero
abbrev Ku:=@List.range_succ
abbrev Kv:=@List.idxOf_cons
abbrev Kw:=@List.count_cons
abbrev Kx:=@PySem.W.methodCall_KW
abbrev Ky:=@PySem.F.slot_dict_get
abbrev Kz:=@List.getElem?_eq_none
abbrev Xa:=@List.erase_of_not_mem
abbrev Xb:=@PySem.F.slot_list_getattribute
section
set_option Elab.async false
inductive Ex1 {T0:Sort _} (P:T0→Prop):Prop
 | mk (x0:T0) (h:P x0):Ex1 P
inductive Ex2 {T0:Sort _} {T1:Sort _} (P:T0→T1→Prop):Prop
 | mk (x0:T0) (x1:T1) (h:P x0 x1):Ex2 P
inductive Ex3 {T0:Sort _} {T1:Sort _} {T2:Sort _} (P:T0→T1→T2→Prop):Prop
 | mk (x0:T0) (x1:T1) (x2:T2) (h:P x0 x1 x2):Ex3 P
inductive Ex4 {T0:Sort _} {T1:Sort _} {T2:Sort _} {T3:Sort _} (P:T0→T1→T2→T3→Prop):Prop
 | mk (x0:T0) (x1:T1) (x2:T2) (x3:T3) (h:P x0 x1 x2 x3):Ex4 P
inductive Ex5 {T0:Sort _} {T1:Sort _} {T2:Sort _} {T3:Sort _} {T4:Sort _} (P:T0→T1→T2→T3→T4→Prop):Prop
 | mk (x0:T0) (x1:T1) (x2:T2) (x3:T3) (x4:T4) (h:P x0 x1 x2 x3 x4):Ex5 P
inductive Ex6 {T0:Sort _} {T1:Sort _} {T2:Sort _} {T3:Sort _} {T4:Sort _} {T5:Sort _} (P:T0→T1→T2→T3→T4→T5→Prop):Prop
 | mk (x0:T0) (x1:T1) (x2:T2) (x3:T3) (x4:T4) (x5:T5) (h:P x0 x1 x2 x3 x4 x5):Ex6 P
inductive Ex7 {T0:Sort _} {T1:Sort _} {T2:Sort _} {T3:Sort _} {T4:Sort _} {T5:Sort _} {T6:Sort _} (P:T0→T1→T2→T3→T4→T5→T6→Prop):Prop
 | mk (x0:T0) (x1:T1) (x2:T2) (x3:T3) (x4:T4) (x5:T5) (x6:T6) (h:P x0 x1 x2 x3 x4 x5 x6):Ex7 P
structure Aj2 (p0 p1:Prop):Prop where
 h0:p0
 h1:p1
structure Aj3 (p0 p1 p2:Prop):Prop where
 h0:p0
 h1:p1
 h2:p2
structure Aj4 (p0 p1 p2 p3:Prop):Prop where
 h0:p0
 h1:p1
 h2:p2
 h3:p3
structure Aj5 (p0 p1 p2 p3 p4:Prop):Prop where
 h0:p0
 h1:p1
 h2:p2
 h3:p3
 h4:p4
structure Aj6 (p0 p1 p2 p3 p4 p5:Prop):Prop where
 h0:p0
 h1:p1
 h2:p2
 h3:p3
 h4:p4
 h5:p5
structure Aj7 (p0 p1 p2 p3 p4 p5 p6:Prop):Prop where
 h0:p0
 h1:p1
 h2:p2
 h3:p3
 h4:p4
 h5:p5
 h6:p6
structure Aj8 (p0 p1 p2 p3 p4 p5 p6 p7:Prop):Prop where
 h0:p0
 h1:p1
 h2:p2
 h3:p3
 h4:p4
 h5:p5
 h6:p6
 h7:p7
structure Aj9 (p0 p1 p2 p3 p4 p5 p6 p7 p8:Prop):Prop where
 h0:p0
 h1:p1
 h2:p2
 h3:p3
 h4:p4
 h5:p5
 h6:p6
 h7:p7
 h8:p8
theorem zar1 {a b:Nat} (h:a < b):b - (a+1) < b - a:=Nat.sub_lt_sub_left h (Wy a)
theorem zar3 {a b:Nat} (h:a≤b) (k:¬ a < b):a=b:=Nat.le_antisymm h (Nat.le_of_not_lt k)
theorem zar4 {a b:Nat} (h:a≤b):a+1≤b+1:=Nat.succ_le_succ h
theorem zar6 {a b c:Nat} (e:a=b) (h:c < b):c < a:=e ▸ h
theorem zar7 {a b c:Nat} (e:a=b) (h:c < a):c < b:=e ▸ h
theorem zar8 {a b:Nat} (h:(a:Int) < (b:Int)):a < b:=Int.ofNat_lt.mp h
theorem zar9 {a b:Nat} (h:a < b):(a:Int) < (b:Int):=Int.ofNat_lt.mpr h
theorem zar10 {a b:Nat} (h:a < b) (k:b≤a):False:=Wc _ (Zx h k)
theorem zd5 {a b c:Nat} (h:a≤b) (e:a=c):c≤b:=e ▸ h
theorem zar16 {a b:Nat} (h:a≤b):a≤b+1:=Nat.le_succ_of_le h
end
section
set_option Elab.async false
set_option linter.all false
set_option maxRecDepth 100000
namespace L2
open PySem PySem.Spec PyProof.Rows
abbrev Key:=Sum Int Str
def keyIs:Key→Value→Bool
 | .inl k,v=>Value.isInt k v
 | .inr x,v=>Value.isStrOf x v
def keyH (w:World):Key→Int
 | .inl k=>hashInt k
 | .inr x=>hashStr w x
theorem za9:∀ {k:Key} {v:Value},keyIs k v=true→(∃ i t,k=Sum.inl i∧v=Value.int i t)∨(∃ x t,k=Sum.inr x∧v=Value.str x t)
 | .inl i,v,h=>by
  obtain ⟨t,e⟩:=Value.isInt_shape (k:=i) (v:=v) h
  exact .inl ⟨i,t,rfl,e⟩
 | .inr x,v,h=>by
  obtain ⟨t,e⟩:=Value.isStrOf_shape (x:=x) (v:=v) h
  exact .inr ⟨x,t,rfl,e⟩
theorem keyIs_int (i:Int) (t:Tok):keyIs (.inl i) (.int i t)=true:=by simp [keyIs,Value.isInt]
theorem keyIs_str (x:Str) (t:Tok):keyIs (.inr x) (.str x t)=true:=by simp [keyIs,Value.isStrOf]
theorem key_ll (a b:Int):decide ((Sum.inl a:Key)=Sum.inl b)=(a == b):=by
 by_cases e:a=b
 ·subst e;simp
 ·have h:¬ (Sum.inl a:Key)=Sum.inl b:=fun q=>e (Sum.inl.inj q)
  rw [decide_eq_false h]
  exact (beq_eq_false_iff_ne.mpr e).symm
theorem key_rr (a b:Str):decide ((Sum.inr a:Key)=Sum.inr b)=decide (a=b):=by
 by_cases e:a=b
 ·subst e;simp
 ·have h:¬ (Sum.inr a:Key)=Sum.inr b:=fun q=>e (Wm q)
  rw [decide_eq_false h,decide_eq_false e]
theorem key_lr (a:Int) (b:Str):decide ((Sum.inl a:Key)=Sum.inr b)=false:=decide_eq_false (fun q=>nomatch q)
theorem key_rl (a:Str) (b:Int):decide ((Sum.inr a:Key)=Sum.inl b)=false:=decide_eq_false (fun q=>nomatch q)
def zar (prog:Program) (w:World):PySem.KeyKind prog w Key where
 is:=keyIs
 hash:=keyH w
 inj:=fun v a b ha hb=>by
  rcases za9 ha with ⟨i,t,rfl,rfl⟩ | ⟨x,t,rfl,rfl⟩
  ·rcases za9 hb with ⟨j,u,rfl,e⟩ | ⟨y,u,rfl,e⟩
   ·injection e with e1 _;rw [e1]
   ·exact nomatch e
  ·rcases za9 hb with ⟨j,u,rfl,e⟩ | ⟨y,u,rfl,e⟩
   ·exact nomatch e
   ·injection e with e1 _;rw [e1]
 byValue:=fun k v h=>by
  rcases za9 h with ⟨i,t,rfl,rfl⟩ | ⟨x,t,rfl,rfl⟩ <;> rfl
 pyHash:=fun hv h=>by
  rcases za9 hv with ⟨i,t,rfl,rfl⟩ | ⟨x,t,rfl,rfl⟩
  ·exact wpAny_pyHash_int h
  ·exact wpAny_pyHash_str h
 eqBool:=fun hu hv h=>by
  rcases za9 hu with ⟨i,t,rfl,rfl⟩ | ⟨x,t,rfl,rfl⟩
  ·rcases za9 hv with ⟨j,u,rfl,rfl⟩ | ⟨y,u,rfl,rfl⟩
   ·rw [key_ll] at h;exact wpAny_eqBool_int h
   ·rw [key_lr] at h;exact SeqAt.EqAt.int_str i t y u _ _ _ _ h
  ·rcases za9 hv with ⟨j,u,rfl,rfl⟩ | ⟨y,u,rfl,rfl⟩
   ·rw [key_rl] at h;exact SeqAt.EqAt.str_int x t j u _ _ _ _ h
   ·rw [key_rr] at h;exact wpAny_eqBool_str h
 «strs»:=fun k x t v h=>by
  rcases za9 h with ⟨i,u,rfl,e⟩ | ⟨y,u,rfl,e⟩
  ·exact nomatch e
  ·injection e with e1 _
   subst e1
   cases v <;> rfl
theorem mixKind_int (prog:Program) (w:World) (i:Int) (t:Tok):(zar prog w).is (.inl i) (.int i t)=true:=keyIs_int i t
theorem zf7 (prog:Program) (w:World) (x:Str) (t:Tok):(zar prog w).is (.inr x) (.str x t)=true:=keyIs_str x t
end L2
namespace L2
open PySem PySem.Spec PyProof.Rows
inductive V where
 | non | bl (b:Bool) | int (i:Int) | str (x:Str) | byt (b:Array UInt8) | flt (b:UInt64) | ref (a:Addr) | ty (n:String)
 deriving DecidableEq
def RelV:V→Value→Prop
 | .non,u=>u=Value.none
 | .bl b,u=>u=Value.bool b
 | .int i,u=>∃ t,u=Value.int i t
 | .str x,u=>∃ t,u=Value.str x t
 | .byt b,u=>∃ t,u=Value.bytes b t
 | .flt b,u=>∃ t,u=Value.float b t
 | .ref a,u=>u=Value.ref a
 | .ty n,u=>u=Value.type n
abbrev Vals:List V→List Value→Prop:=Paired RelV
theorem Vals.length {xs:List V} {us:List Value} (r:Vals xs us):xs.length=us.length:=Ym r
theorem Vals.get:∀ {xs:List V} {us:List Value} {i:Nat} {x:V},Vals xs us→xs[i]?=some x→∃ u,us[i]?=some u∧RelV x u
 | _,_,_,_,.nil,e=>by simp at e
 | _,_,0,_,.cons r _,e=>by simp at e;subst e;exact ⟨_,rfl,r⟩
 | _,_,i+1,x,.cons _ t,e=>by
  obtain ⟨u,h1,h2⟩:=Vals.get (i:=i) (x:=x) t (by simpa using e)
  exact ⟨u,by simpa using h1,h2⟩
theorem Vals.set {x:V} {u:Value} (r:RelV x u):∀ {xs:List V} {us:List Value} (i:Nat),Vals xs us→Vals (xs.set i x) (us.set i u)
 | _,_,_,.nil=>.nil
 | _,_,0,.cons _ t=>.cons r t
 | _,_,i+1,.cons q t=>.cons q (Vals.set r i t)
theorem Vals.append:∀ {xs ys:List V} {us ws:List Value},Vals xs us→Vals ys ws→Vals (xs++ys) (us++ws)
 | _,_,_,_,.nil,s=>s
 | _,_,_,_,.cons r t,s=>.cons r (Vals.append t s)
theorem Vals.take:∀ {xs:List V} {us:List Value} (n:Nat),Vals xs us→Vals (xs.take n) (us.take n)
 | _,_,0,_=>.nil
 | _,_,_+1,.nil=>.nil
 | _,_,n+1,.cons r t=>.cons r (Vals.take n t)
theorem Vals.drop:∀ {xs:List V} {us:List Value} (n:Nat),Vals xs us→Vals (xs.drop n) (us.drop n)
 | _,_,0,r=>r
 | _,_,_+1,.nil=>.nil
 | _,_,n+1,.cons _ t=>Vals.drop n t
def RelO:Option V→Option Value→Prop
 | some v,some u=>RelV v u
 | none,none=>True
 | _,_=>False
def KV {κ:Type}:List (κ×V)→List (κ×Value)→Prop:=Paired fun (p:κ×V) (q:κ×Value)=>p.1=q.1∧RelV p.2 q.2
def kV:Key→V
 | .inl i=>.int i
 | .inr x=>.str x
inductive HO where
 /-- a list -/
 | lst (xs:List V)
 /-- a tuple (never changes) -/
 | tup (xs:List V)
 /-- a dict whose keys are ints and texts;one whose keys are tuples of ints and texts (the empty one is both) -/
 | dK (kvs:List (Key×V)) | dT (kvs:List (List Key×V))
 /-- a set of ints: its members,its size -/
 | set (S:Int→Bool) (n:Nat)
 /-- an instance of the class at C,its dict at dx,its attributes -/
 | ins (C dx:Addr) (fs:List (Str×V))
 /-- the dict of the instance at x -/
 | own (x:Addr)
 /-- the dict of an exception -/
 | xd (fs:List (Str×V))
 /-- a bound method,f of x -/
 | met (f x:Addr)
 /-- a range object lo,lo+1,.. below hi -/
 | rng (lo hi:Int)
 /-- a thing that is known to the object (the script;a dict while a loop walks it): read,never written while it is so -/
 | frz (o:Obj) (u:HO)
 /-- a code object's table -/
 | tbl (ps:Array Value)
 /-- any other thing,by what is true of its one object (a def of one's own: SetO a S n:=HO.ext fun h=>..) -/
 | ext (φ:Heap→Prop)
abbrev Hp:=Addr→Option HO
def upd (H:Hp) (a:Addr) (o:HO):Hp:=fun b=>if b=a then some o else H b
theorem zac {H:Hp} {a:Addr} {o:HO}:upd H a o a=some o:=by unfold upd;rw [if_pos rfl]
theorem zad {H:Hp} {a b:Addr} {o:HO} (h:b≠a):upd H a o b=H b:=by unfold upd;rw [if_neg h]
theorem upd_upd {H:Hp} {a:Addr} {o u:HO}:upd (upd H a o) a u=upd H a u:=by
 funext b;unfold upd;split <;> rfl
theorem za0 {H:Hp} {a b:Addr} {o u:HO} (h:H a=some o) (h':H b=some u) (d:o≠u):a≠b:=by
 intro e;subst e;rw [h] at h';exact d (Qm h')
theorem zaa {H:Hp} {a b:Addr} {o:HO} (h:H a=some o) (h':H b=none):a≠b:=by
 intro e;subst e;rw [h] at h';cases h'
section
variable (P:Program) (w:World)
def zbr (H:Hp) (h:Heap) (a:Addr):HO→Prop
 | .lst xs=>xs.length≤sizeLine∧∃ (its:List Value) (n:Nat),Vals xs its∧h.get? a=some { cls:=.type "list",data:=.seq its.toArray n }
 | .tup xs=>xs.length≤sizeLine∧∃ its:List Value,Vals xs its∧IsTup h a its.toArray
 | .dK kvs=>kvs.length≤sizeLine∧(a == sysModules)=false∧∃ vs,KV kvs vs∧h.DictOf (zar P w) a vs
 | .dT kvs=>kvs.length≤sizeLine∧(a == sysModules)=false∧∃ xs:List (List Key×Addr×Value),
   Paired (fun (p:List Key×V) (q:List Key×Addr×Value)=>p.1=q.1∧H q.2.1=some (.tup (p.1.map kV))∧RelV p.2 q.2.2) kvs xs ∧
   ∃ o es ep,h.get? a=some o∧o.ExactDict∧o.data=.dict es ep∧es.toList=xs.map (entryOfKey (tupleKind (zar P w)))∧(xs.map (·.1)).Nodup
 | .set S n=>h.SetOf (intKind P w) a S n
 | .ins C dx fs=>H dx=some (.own a)∧fs.length≤1000∧dx≠a∧h.get? a=some (PySem.W.instObj C dx) ∧
   ∃ mA,h.Ns1 dx mA∧(∀ f,RelO (fs.lookup f) (mA f))∧PySem.Within mA (fs.map (·.1))
 | .own _=>∃ o,h.get? a=some o
 | .xd fs=>∃ mA,h.Ns1 a mA∧∀ f,RelO (fs.lookup f) (mA f)
 | .rng lo hi=>∃ t u v,h.get? a=some { cls:=.type "range",data:=.fields #[.int lo t,.int hi u,.int 1 v] }
 | .frz o u=>h.get? a=some o∧zbr H h a u
 | .tbl ps=>h.get? a=some { cls:=.none,data:=.fields ps }
 | .met f x=>h.get? a=some (PySem.W.methodObj (.ref f) (.ref x))
 | .ext φ=>φ h∧(∃ o,h.get? a=some o)∧∀ h1 h2:Heap,φ h1→(∀ o,h1.get? a=some o→h2.get? a=some o)→φ h2
def HOk (H:Hp) (h:Heap):Prop:=∀ a o,H a=some o→zbr P w H h a o
end
section
variable {P:Program} {w:World} {H H':Hp} {h h':Heap} {a:Addr} {o:HO}
theorem zbr.lt (x:zbr P w H h a o):a < h.objs.size:=by
 cases o with
 | lst xs=>obtain ⟨_,_,_,_,e⟩:=x;exact Qx e
 | tup xs=>obtain ⟨_,_,_,p⟩:=x;exact p.lt
 | dK kvs=>obtain ⟨_,_,_,_,o,_,_,e,_⟩:=x;exact Qx e
 | dT kvs=>obtain ⟨_,_,_,_,o,_,_,e,_⟩:=x;exact Qx e
 | set S n=>obtain ⟨o,_,_,_,e,_⟩:=x;exact Qx e
 | ins C dx fs=>obtain ⟨_,_,_,e,_⟩:=x;exact Qx e
 | own y=>obtain ⟨_,e⟩:=x;exact Qx e
 | xd fs=>obtain ⟨_,⟨_,_,_,e,_⟩,_⟩:=x;exact Qx e
 | rng lo hi=>obtain ⟨_,_,_,e⟩:=x;exact Qx e
 | frz ob u=>obtain ⟨e,_⟩:=x;exact Qx e
 | tbl ps=>exact Qx (show h.get? a=some _ from x)
 | met f y=>exact Qx (show h.get? a=some _ from x)
 | ext φ=>obtain ⟨_,⟨_,e⟩,_⟩:=x;exact Qx e
theorem Paired.mapP {α β:Type} {F G:α→β→Prop}:∀ {l₁:List α} {l₂:List β},Paired F l₁ l₂→(∀ a b,F a b→G a b)→Paired G l₁ l₂
 | _,_,.nil,_=>.nil
 | _,_,.cons r t,f=>.cons (f _ _ r) (Paired.mapP t f)
theorem Paired.imp' {α β:Type} {F G:α→β→Prop} (f:∀ a b,F a b→G a b) {l₁:List α} {l₂:List β} (r:Paired F l₁ l₂):Paired G l₁ l₂:=Paired.mapP r f
theorem zbr.stay (x:zbr P w H h a o) (k:∀ b u,(b=a∨H b=some (.own a))→h.get? b=some u→h'.get? b=some u)
  (ho:∀ b,H b=some (.own a)→H' b=some (.own a)) (ht:∀ b xs,H b=some (.tup xs)→H' b=some (.tup xs)):zbr P w H' h' a o:=by
 induction o with
 | lst xs=>obtain ⟨z,its,n,r,e⟩:=x;exact ⟨z,its,n,r,k _ _ (.inl rfl) e⟩
 | tup xs=>obtain ⟨z,its,r,ob,e,c⟩:=x;exact ⟨z,its,r,ob,k _ _ (.inl rfl) e,c⟩
 | dK kvs=>obtain ⟨z,y,vs,r,ob,es,ep,e,c⟩:=x;exact ⟨z,y,vs,r,ob,es,ep,k _ _ (.inl rfl) e,c⟩
 | dT kvs =>
  obtain ⟨z,y,xs,r,ob,es,ep,e,c⟩:=x
  exact ⟨z,y,xs,Paired.mapP r fun p q z=>⟨z.1,ht _ _ z.2.1,z.2.2⟩,ob,es,ep,k _ _ (.inl rfl) e,c⟩
 | set S n=>obtain ⟨ob,es,ep,t,e,c⟩:=x;exact ⟨ob,es,ep,t,k _ _ (.inl rfl) e,c⟩
 | ins C dx fs =>
  obtain ⟨d,z,ne,e,mA,⟨od,es,ep,e2,c⟩,r⟩:=x
  exact ⟨ho _ d,z,ne,k _ _ (.inl rfl) e,mA,⟨od,es,ep,k _ _ (.inr d) e2,c⟩,r⟩
 | own y=>obtain ⟨ob,e⟩:=x;exact ⟨ob,k _ _ (.inl rfl) e⟩
 | xd fs=>obtain ⟨mA,⟨od,es,ep,e,c⟩,r⟩:=x;exact ⟨mA,⟨od,es,ep,k _ _ (.inl rfl) e,c⟩,r⟩
 | rng lo hi=>obtain ⟨t,u,v,e⟩:=x;exact ⟨t,u,v,k _ _ (.inl rfl) e⟩
 | frz ob u ih=>obtain ⟨e,q⟩:=x;exact ⟨k _ _ (.inl rfl) e,ih q⟩
 | tbl ps =>
  have e:h.get? a=some { cls:=.none,data:=.fields ps }:=x
  show h'.get? a=some { cls:=.none,data:=.fields ps }
  exact k a _ (.inl rfl) e
 | met f y =>
  have e:h.get? a=some (PySem.W.methodObj (.ref f) (.ref y)):=x
  show h'.get? a=some (PySem.W.methodObj (.ref f) (.ref y))
  exact k a _ (.inl rfl) e
 | ext φ=>obtain ⟨p,⟨o,e⟩,st⟩:=x;exact ⟨st _ _ p fun o q=>k _ _ (.inl rfl) q,⟨o,k _ _ (.inl rfl) e⟩,st⟩
theorem HOk.lt (x:HOk P w H h) (e:H a=some o):a < h.objs.size:=(x a o e).lt
theorem HOk.fresh (x:HOk P w H h) (e:h.objs.size≤a):H a=none:=by
 cases q:H a with
 | none=>rfl
 | some u=>exact absurd (Zx (x.lt q) e) (Wc _)
theorem HOk.kept (x:HOk P w H h) (k:∀ b u,h.get? b=some u→h'.get? b=some u):HOk P w H h':=fun a o e =>
 (x a o e).stay (fun b u _ q=>k b u q) (fun _ q=>q) fun _ _ q=>q
theorem HOk.laid (x:HOk P w H h) (k:∀ b u,h.get? b=some u→h'.get? b=some u) (hp:h.objs.size≤a) (new:zbr P w (upd H a o) h' a o):HOk P w (upd H a o) h':=fun b u e=>by
 have hn:=x.fresh hp
 by_cases hb:b=a
 ·subst hb;rw [zac] at e;cases e;exact new
 ·rw [zad hb] at e
  exact (x b u e).stay (fun c v _ q=>k c v q) (fun c q=>by rw [zad (zaa q hn)];exact q) fun c xs q=>by rw [zad (zaa q hn)];exact q
end
def Rd (H:Hp) (a:Addr) (u:HO):Prop:=H a=some u∨∃ o,H a=some (.frz o u)
theorem Rd.ok {P:Program} {w:World} {H:Hp} {h:Heap} {a:Addr} {u:HO} (r:Rd H a u) (x:HOk P w H h):zbr P w H h a u:=by
 rcases r with r | ⟨o,r⟩
 ·exact x a u r
 ·obtain ⟨_,q⟩:=x a _ r
  exact q
def Mut:Option HO→Prop
 | some (.lst _)=>True
 | some (.dK _)=>True
 | some (.dT _)=>True
 | some (.set _ _)=>True
 | some (.ins _ _ _)=>True
 | some (.ext _)=>True
 | _=>False
section
variable {P:Program} {w:World} {H:Hp} {h h':Heap} {x e:Addr} {o':HO}
theorem HOk.write (ok:HOk P w H h) (mu:Mut (H x)) (he:e=x∨H e=some (.own x)) (k:∀ b u,b≠e→h.get? b=some u→h'.get? b=some u) (heo:∃ u,h'.get? e=some u)
  (new:zbr P w (upd H x o') h' x o'):HOk P w (upd H x o') h':=fun b u q=>by
 have nown:∀ c y,H c=some (.own y)→c≠x:=fun c y r z=>by subst z;rw [r] at mu;exact mu
 have ntup:∀ c xs,H c=some (.tup xs)→c≠x:=fun c xs r z=>by subst z;rw [r] at mu;exact mu
 by_cases hb:b=x
 ·subst hb;rw [zac] at q;cases q;exact new
 ·rw [zad hb] at q
  by_cases hbe:b=e
  ·have q':H b=some (.own x):=by
    rcases he with z | z
    ·exact absurd (hbe.trans z) hb
    ·rw [hbe];exact z
   rw [q] at q';cases q'
   obtain ⟨v,hv⟩:=heo
   exact ⟨v,by rw [hbe];exact hv⟩
  ·refine (ok b u q).stay (fun c v hc r=>k c v ?_ r) (fun c r=>by rw [zad (nown c b r)];exact r) fun c xs r=>by rw [zad (ntup c xs r)];exact r
   rcases hc with rfl | hc
   ·exact hbe
   ·rintro rfl
    rcases he with z | z
    ·exact nown c b hc z
    ·rw [hc] at z;cases z;exact hb rfl
end
structure Un (fs ex:List Addr) (H H':Hp) (h h':Heap):Prop where
 keep:∀ b o,h.get? b=some o→H b=none→b∉fs→b∉ex→h'.get? b=some o
 slot:∀ b o,h.get? b=some o→H b=none→b∈fs→b∉ex→∃ sl,h'.get? b=some { o with slots:=sl }
 free:∀ b o,h.get? b=some o→H b=none→b∉ex→H' b=none
 there:∀ b o,h.get? b=some o→b∉ex→∃ o',h'.get? b=some o'
 tups:∀ b xs,H b=some (.tup xs)→H' b=some (.tup xs)
 frzs:∀ b o u,H b=some (.frz o u)→H' b=some (.frz o u)
 tbls:∀ b ps,H b=some (.tbl ps)→∃ more,H' b=some (.tbl (ps++more))
section
variable {fs fs' ex ex':List Addr} {H H1 H2:Hp} {h h1 h2 h':Heap} {a x e:Addr} {o:HO}
theorem Un.any (u:Un fs ex H H1 h h1) {b:Addr} {ob:Obj} (q:h.get? b=some ob) (n:H b=none) (hx:b∉ex):∃ sl,h1.get? b=some { ob with slots:=sl }:=by
 by_cases hb:b∈fs
 ·exact u.slot b ob q n hb hx
 ·exact ⟨ob.slots,u.keep b ob q n hb hx⟩
theorem Un.kept (k:∀ b u,h.get? b=some u→h'.get? b=some u):Un fs ex H H h h' :=
 ⟨fun b ob q _ _ _=>k b ob q,fun b ob q _ _ _=>⟨ob.slots,k b ob q⟩,fun _ _ _ n _=>n,fun b ob q _=>⟨ob,k b ob q⟩,fun _ _ q=>q,fun _ _ _ q=>q,fun _ ps q=>⟨#[],by rw [q];simp⟩⟩
theorem Un.refl:Un fs ex H H h h:=Un.kept fun _ _ q=>q
theorem Un.laid (k:∀ b u,h.get? b=some u→h'.get? b=some u) (hp:h.objs.size≤a) (hn:H a=none):Un fs ex H (upd H a o) h h' where
 keep:=fun b u q _ _ _=>k b u q
 slot:=fun b u q _ _ _=>⟨u.slots,k b u q⟩
 free:=fun b u q n _=>by rw [zad (Zh (Zx (Qx q) hp))];exact n
 there:=fun b u q _=>⟨u,k b u q⟩
 tups:=fun b xs q=>by rw [zad (zaa q hn)];exact q
 frzs:=fun b u xs q=>by rw [zad (zaa q hn)];exact q
 tbls:=fun b ps q=>⟨#[],by rw [zad (zaa q hn),q];simp⟩
theorem Un.write (mu:Mut (H x)) (he:e=x∨H e=some (.own x)) (k:∀ b u,b≠e→h.get? b=some u→h'.get? b=some u) (heo:∃ u,h'.get? e=some u):Un fs ex H (upd H x o) h h':=by
 have hx:∀ b,H b=none→b≠x:=fun b n z=>by subst z;rw [n] at mu;exact mu
 have hb:∀ b,H b=none→b≠e:=fun b n z=>by
  subst z
  rcases he with r | r
  ·exact hx b n r
  ·rw [n] at r;cases r
 have hm:∀ b u,H b=some u→¬ Mut (some u)→b≠x:=fun b u q nm z=>by subst z;rw [q] at mu;exact nm mu
 refine ⟨fun b u q n _ _=>k b u (hb b n) q,fun b u q n _ _=>⟨u.slots,k b u (hb b n) q⟩,fun b u q n _=>by rw [zad (hx b n)];exact n,fun b u q _=>?_,
  fun b xs q=>by rw [zad (hm b _ q fun z=>z)];exact q,fun b u xs q=>by rw [zad (hm b _ q fun z=>z)];exact q,fun b ps q=>⟨#[],by rw [zad (hm b _ q fun z=>z),q];simp⟩⟩
 by_cases hbe:b=e
 ·subst hbe;exact heo
 ·exact ⟨u,k b u hbe q⟩
end
def trk (h:Heap) (H:Hp):List Addr:=(List.range h.objs.size).filter fun a=>(H a).isSome
def hidT (h:Heap) (H:Hp):Heap:=PySem.W.hideAll h (trk h H)
theorem hidT_size (h:Heap) (H:Hp):(hidT h H).objs.size=h.objs.size:=PySem.W.hideAll_size _ _
theorem hidT_get {h:Heap} {H:Hp} {b:Addr} {o:Obj} (e:h.get? b=some o) (n:H b=none):(hidT h H).get? b=some o :=
 PySem.W.hideAll_get _ e fun hm=>by
  have q:(H b).isSome=true:=(Zk.mp hm).2
  rw [n] at q;simp at q
theorem of_hidT {h:Heap} {H:Hp} {b:Addr} {o:Obj} (e:(hidT h H).get? b=some o):h.get? b=some o∧H b=none:=by
 have e':h.get? b=some o:=PySem.W.of_hideAll (trk h H) e
 refine ⟨e',?_⟩
 cases q:H b with
 | none=>rfl
 | some x =>
  have hm:b∈trk h H:=Zk.mpr ⟨Wu.mpr (Qx e'),by simp [q]⟩
  have z:(hidT h H).get? b=none:=PySem.W.hideAll_none (trk h H) hm
  rw [z] at e;cases e
end L2
namespace L2
open PySem PySem.Spec PyProof.Rows
structure Mod (K:PySem.W.Frag) (mg:Str→Option Value) (base:Heap):Prop where
 kin:K.In base
 glob:base.Ns mainGlobals mg
 blt:∃ mb,base.Ns builtinsNs mb∧∀ x:Str,x ≠ "__name__" → mb x=bootBuiltins x
 nolimit:base.NoLimit
structure Cx where
 prog:Program
 w:World
 K:PySem.W.Frag
 mg:Str→Option Value
 base:Heap
 A:Around
 N:List Str
 s₀:Shared
 H₀:Hp
 env:Env
 outer:List Env
 stack:List Env
 ex:List Addr
 fn:Str→Bool
 calm:Bool
 pn:List (Addr×Obj)
 xe:Value→Shared→Prop
def frs (l:List Env):List Addr:=l.filterMap (·.frame)
abbrev Cx.fs (X:Cx):List Addr:=frs X.outer
def Vis (sc:Scope) (x:Str):Prop:=sc.names.lookup x=some .local∨sc.names.lookup x=some .cell∨sc.names.lookup x=some .free
def Loc (sc:Scope) (x:Str):Prop:=sc.names.lookup x=some .local∨sc.names.lookup x=some .cell
def Look (env:Env) (h:Heap) (m:Str→Option Value) (x:Str) (u:Value):Prop :=
 (env.kindOf x=some .local∧m x=some u)∨((env.kindOf x=some .cell∨env.kindOf x=some .free)∧∃ c,env.cells.lookup x=some c∧h.IsCell c (some u))
structure Cx.Ok (X:Cx):Prop where
 mod:Mod X.K X.mg X.base
 kind:X.env.scope.kind=.function
 glob:X.env.globals=mainGlobals
 blt:X.env.builtins=builtinsNs
 above:X.s₀.heap.objs.size≤X.env.locals
 inj:∀ x y c,X.env.cells.lookup x=some c→X.env.cells.lookup y=some c→x=y
 has:∀ x,(X.env.kindOf x=some .cell∨X.env.kindOf x=some .free)→∃ c,X.env.cells.lookup x=some c
 cab:∀ x c,X.fn x=true→X.env.cells.lookup x=some c→X.s₀.heap.objs.size≤c
 hd:X.calm=true→X.A.handled=none
 frames:X.A.frames=some X.stack
 stk:X.stack=X.outer∨(X.stack=X.env::X.outer∧X.env.frame=some X.env.locals)
 exf:∀ b∈X.ex,b≠X.env.locals∧∀ x c,X.env.cells.lookup x=some c→c≠b
 bs:∀ b o,X.base.get? b=some o→X.s₀.heap.get? b=some o∧X.H₀ b=none
 bsz:X.base.objs.size≤X.s₀.heap.objs.size
 noex:∀ b o,X.base.get? b=some o→b∉X.ex
 exfs:∀ b∈X.ex,b∉X.fs
 funs:X.s₀.heap.FunFrames X.base X.outer
 frf:∀ b∈X.fs,X.H₀ b=none
structure Inv (X:Cx) (pins:List (Addr×Obj)) (σ:List (Option V)) (H:Hp) (s:Shared):Prop where
 ok:X.Ok
 os:s.os=X.s₀.os
 bare:AllBare s.gens
 base:Un X.fs X.ex X.H₀ H X.s₀.heap s.heap
 loc:∃ m,s.heap.Ns X.env.locals m∧∀ (i:Nat) (x:Str) (v:V),X.N[i]?=some x→σ[i]?=some (some v)→Vis X.env.scope x→∃ u,RelV v u∧Look X.env s.heap m x u
 cell:∀ x c,X.env.cells.lookup x=some c→∃ v,s.heap.IsCell c v
 free:H X.env.locals=none
 freeC:∀ x c,X.env.cells.lookup x=some c→H c=none
 pin:∀ p∈X.pn++pins,s.heap.get? p.1=some p.2∧H p.1=none∧p.1≠X.env.locals∧p.1∉X.fs∧∀ v,p.2.data≠.cell v
 hok:HOk X.prog X.w H s.heap
 len:σ.length=X.N.length
section
variable {X:Cx} {pins:List (Addr×Obj)} {σ:List (Option V)} {H H':Hp} {s:Shared} {h':Heap}
theorem Cx.Ok.nofr (ok:X.Ok) {b:Addr} {o:Obj} (e:X.base.get? b=some o):b∉X.fs:=fun hb=>by
 have:=(ok.funs.mem hb).1
 rw [e] at this;cases this
theorem Inv.bs (I:Inv X pins σ H s):∀ b o,X.base.get? b=some o→s.heap.get? b=some o∧H b=none:=fun b o e =>
 ⟨I.base.keep b o (I.ok.bs b o e).1 (I.ok.bs b o e).2 (I.ok.nofr e) (I.ok.noex b o e),I.base.free b o (I.ok.bs b o e).1 (I.ok.bs b o e).2 (I.ok.noex b o e)⟩
theorem Inv.bk (I:Inv X pins σ H s):∀ b o,X.base.get? b=some o→s.heap.get? b=some o:=fun b o e=>(I.bs b o e).1
theorem Inv.mod (I:Inv X pins σ H s):Mod X.K X.mg X.base:=I.ok.mod
theorem Inv.kIn (I:Inv X pins σ H s):X.K.In s.heap:=I.ok.mod.kin.keeps I.bk
theorem Inv.lt (I:Inv X pins σ H s):X.env.locals < s.heap.objs.size:=let ⟨_,hn,_⟩:=I.loc;hn.lt
theorem Inv.sz (I:Inv X pins σ H s):X.s₀.heap.objs.size≤s.heap.objs.size:=Zf I.ok.above (Wt I.lt)
theorem Inv.nofs (I:Inv X pins σ H s) {a:Addr} (h:s.heap.objs.size≤a):a∉X.fs:=fun hb=>by
 obtain ⟨_,o,ho,_⟩:=I.ok.funs.mem hb
 exact absurd (Zx (Qx ho) (Zf I.sz h)) (Wc _)
theorem Inv.cne (I:Inv X pins σ H s):∀ x c,X.env.cells.lookup x=some c→c≠X.env.locals:=fun x c e z=>by
 obtain ⟨v,o,ho,hd⟩:=I.cell x c e
 obtain ⟨m,⟨o',es,ep,ho',hd',_⟩,_⟩:=I.loc
 rw [z,ho'] at ho;cases ho;rw [hd'] at hd;cases hd
theorem Inv.funs (I:Inv X pins σ H s):s.heap.FunFrames X.base X.outer:=by
 have all:∀ (l:List Env),(∀ b∈frs l,b∈X.fs)→X.s₀.heap.FunFrames X.base l→s.heap.FunFrames X.base l:=by
  intro l
  induction l with
  | nil=>intro _ _;trivial
  | cons env r ih =>
   intro hs hl
   obtain ⟨hk,⟨L,o,hf,hn,ho,hd⟩,hr⟩:=hl
   have hL:L∈X.fs:=hs L (by unfold frs;rw [List.filterMap_cons,hf];exact List.mem_cons_self)
   obtain ⟨sl,e⟩:=I.base.slot L o ho (I.ok.frf L hL) hL fun z=>I.ok.exfs L z hL
   exact ⟨hk,⟨L,_,hf,hn,e,hd⟩,ih (fun b hb=>hs b (by unfold frs;rw [List.filterMap_cons,hf];exact List.mem_cons_of_mem _ hb)) hr⟩
 exact all X.outer (fun _ hb=>hb) I.ok.funs
theorem Inv.stack (I:Inv X pins σ H s):s.heap.FunFrames X.base X.stack:=by
 rcases I.ok.stk with e | ⟨e,hf⟩
 ·rw [e];exact I.funs
 ·rw [e]
  obtain ⟨m,hn,_⟩:=I.loc
  refine .cons (by rw [I.ok.kind];decide) hf hn ?_ I.funs
  exact Heap.get?_none_of_le (Zf I.ok.bsz I.ok.above)
theorem Inv.stkSub (I:Inv X pins σ H s):∀ b∈frs X.stack,b∈X.env.locals::X.fs:=fun b hb=>by
 rcases I.ok.stk with e | ⟨e,hf⟩
 ·rw [e] at hb;exact Qf _ hb
 ·rw [e] at hb
  unfold frs at hb
  rw [List.filterMap_cons,hf] at hb
  exact hb
theorem Inv.stkFree (I:Inv X pins σ H s):∀ b∈frs X.stack,H b=none:=fun b hb=>by
 rcases Qe.mp (I.stkSub b hb) with e | hb
 ·rw [e];exact I.free
 ·obtain ⟨_,o,ho,_⟩:=I.ok.funs.mem hb
  exact I.base.free b o ho (I.ok.frf b hb) fun z=>I.ok.exfs b z hb
theorem Inv.step {g':Array GenState} {t':Nat} {d':Drawn} {ch:List Addr} (I:Inv X pins σ H s)
  (hch:∀ b∈ch,(b∈X.ex∨X.s₀.heap.objs.size≤b)∧b≠X.env.locals∧(∀ x c,X.env.cells.lookup x=some c→c≠b)∧∀ p∈X.pn++pins,p.1≠b)
  (keep:∀ b o,b≠X.env.locals→b∉X.fs→b∉ch→s.heap.get? b=some o→H b=none→h'.get? b=some o)
  (slot:∀ b o,b≠X.env.locals→b∈X.fs→b∉ch→s.heap.get? b=some o→H b=none→∃ sl,h'.get? b=some { o with slots:=sl }) (free:∀ b o,b∉ch→s.heap.get? b=some o→H b=none→H' b=none)
  (there:∀ b o,b∉ch→s.heap.get? b=some o→∃ o',h'.get? b=some o')
  (tups:∀ b xs,H b=some (.tup xs)→H' b=some (.tup xs)) (frzs:∀ b o u,H b=some (.frz o u)→H' b=some (.frz o u)) (tbls:∀ b ps,H b=some (.tbl ps)→∃ more,H' b=some (.tbl (ps++more)))
  (ns:∀ m,s.heap.Ns X.env.locals m→h'.Ns X.env.locals m) (hok:HOk X.prog X.w H' h') (hg:AllBare g') :
  Inv X pins σ H' { s with heap:=h',gens:=g',drawn:=d',toks:=t' }:=by
 have neL:∀ b o,X.s₀.heap.get? b=some o→b≠X.env.locals:=fun b o e=>Zh (Zx (Qx e) I.ok.above)
 have neC:∀ b o,X.s₀.heap.get? b=some o→b∉X.ex→b∉ch:=fun b o e hx hb=>by
  rcases (hch b hb).1 with z | z
  ·exact hx z
  ·exact absurd (Zx (Qx e) z) (Wc _)
 have cellK:∀ x c,X.env.cells.lookup x=some c→∀ v,s.heap.IsCell c v→h'.IsCell c v:=fun x c e v ⟨o,ho,hd⟩=>by
  have nch:c∉ch:=fun z=>(hch c z).2.2.1 x c e rfl
  by_cases hc:c∈X.fs
  ·obtain ⟨sl,q⟩:=slot c o (I.cne x c e) hc nch ho (I.freeC x c e)
   exact ⟨_,q,hd⟩
  ·exact ⟨o,keep c o (I.cne x c e) hc nch ho (I.freeC x c e),hd⟩
 refine ⟨I.ok,I.os,hg,⟨fun b o e n hb hx=>?_,fun b o e n hb hx=>?_,fun b o e n hx=>?_,fun b o e hx=>?_,fun b xs e=>tups b xs (I.base.tups b xs e),fun b o xs e=>frzs b o xs (I.base.frzs b o xs e),fun b ps e=>?_⟩,?_,fun x c e=>?_,?_,fun x c e=>?_,fun p hp=>?_,hok,I.len⟩
 ·exact keep b o (neL b o e) hb (neC b o e hx) (I.base.keep b o e n hb hx) (I.base.free b o e n hx)
 ·obtain ⟨sl,e1⟩:=I.base.slot b o e n hb hx
  obtain ⟨sl',e2⟩:=slot b _ (neL b o e) hb (neC b o e hx) e1 (I.base.free b o e n hx)
  exact ⟨sl',e2⟩
 ·obtain ⟨o',e1⟩:=I.base.there b o e hx
  exact free b o' (neC b o e hx) e1 (I.base.free b o e n hx)
 ·obtain ⟨o',e1⟩:=I.base.there b o e hx
  exact there b o' (neC b o e hx) e1
 ·obtain ⟨m1,e1⟩:=I.base.tbls b ps e
  obtain ⟨m2,e2⟩:=tbls b _ e1
  exact ⟨m1++m2,by rw [e2,Array.append_assoc]⟩
 ·obtain ⟨m,hn,hl⟩:=I.loc
  refine ⟨m,ns m hn,fun i x v e1 e2 e3=>?_⟩
  obtain ⟨u,r,l⟩:=hl i x v e1 e2 e3
  refine ⟨u,r,?_⟩
  rcases l with l | ⟨k,c,e,z⟩
  ·exact .inl l
  ·exact .inr ⟨k,c,e,cellK x c e _ z⟩
 ·obtain ⟨v,z⟩:=I.cell x c e
  exact ⟨v,cellK x c e v z⟩
 ·obtain ⟨m,⟨o,_,_,ho,_⟩,_⟩:=I.loc
  exact free _ o (fun z=>(hch _ z).2.1 rfl) ho I.free
 ·obtain ⟨v,o,ho,hd⟩:=I.cell x c e
  exact free c o (fun z=>(hch c z).2.2.1 x c e rfl) ho (I.freeC x c e)
 ·obtain ⟨e,n,ne,nf,d⟩:=I.pin p hp
  have nch:p.1∉ch:=fun z=>(hch p.1 z).2.2.2 p hp rfl
  exact ⟨keep p.1 p.2 ne nf nch e n,free p.1 p.2 nch e n,ne,nf,d⟩
theorem Inv.un {t':Nat} (I:Inv X pins σ H s) (u:Un X.fs [] H H' s.heap h') (hok:HOk X.prog X.w H' h'):Inv X pins σ H' { s with heap:=h',toks:=t' }:=by
 obtain ⟨m,⟨o,es,ep,ho,r⟩,_⟩:=id I.loc
 obtain ⟨sl,hL⟩:=u.any ho I.free (by simp)
 exact I.step (g':=s.gens) (d':=s.drawn) (ch:=[]) (fun _ z=>nomatch z) (fun b o _ hb _ e n=>u.keep b o e n hb (by simp)) (fun b o _ hb _ e n=>u.slot b o e n hb (by simp)) (fun b o _ e n=>u.free b o e n (by simp)) (fun b o _ e=>u.there b o e (by simp)) u.tups u.frzs u.tbls (fun m' hm=>by
  obtain ⟨o',es',ep',ho',r'⟩:=hm
  rw [ho] at ho';cases ho'
  exact ⟨_,es',ep',hL,r'⟩) hok I.bare
theorem Inv.call {g':Array GenState} {t':Nat} {d':Drawn} {ch:List Addr} (I:Inv X pins σ H s) (u:Un (frs X.stack) ch H H' s.heap h') (hok:HOk X.prog X.w H' h') (hg:AllBare g')
  (hch:∀ b∈ch,(b∈X.ex∨X.s₀.heap.objs.size≤b)∧b≠X.env.locals∧(∀ x c,X.env.cells.lookup x=some c→c≠b)∧∀ p∈X.pn++pins,p.1≠b) :
  Inv X pins σ H' { s with heap:=h',gens:=g',drawn:=d',toks:=t' }:=by
 obtain ⟨m,⟨o,es,ep,ho,r⟩,_⟩:=id I.loc
 obtain ⟨sl,hL⟩:=u.any ho I.free fun z=>(hch _ z).2.1 rfl
 exact I.step (ch:=ch) hch (fun b o hL hb hc e n=>u.keep b o e n (fun z=>(Qe.mp (I.stkSub b z)).elim hL hb) hc) (fun b o _ _ hc e n=>u.any e n hc) (fun b o hc e n=>u.free b o e n hc) (fun b o hc e=>u.there b o e hc) u.tups u.frzs u.tbls (fun m' hm=>by
  obtain ⟨o',es',ep',ho',r'⟩:=hm
  rw [ho] at ho';cases ho'
  exact ⟨_,es',ep',hL,r'⟩) hok hg
theorem Inv.turned {t':Nat} {it:Addr} (I:Inv X pins σ H s) (k:∀ b o,b≠it→s.heap.get? b=some o→h'.get? b=some o) (hn:H it=none) (hL:it≠X.env.locals)
  (h1:it∈X.ex∨X.s₀.heap.objs.size≤it) (h2:∀ x c,X.env.cells.lookup x=some c→c≠it) (h3:∀ p∈X.pn++pins,p.1≠it):Inv X pins σ H { s with heap:=h',toks:=t' }:=by
 have nit:∀ b u,H b=some u→b≠it:=fun b u e z=>by rw [z,hn] at e;cases e
 refine I.step (g':=s.gens) (d':=s.drawn) (ch:=[it]) (fun b hb=>?_) (fun b o _ _ hc e _=>k b o (fun z=>hc (by simp [z])) e) (fun b o _ _ hc e _=>⟨o.slots,k b o (fun z=>hc (by simp [z])) e⟩) (fun _ _ _ _ n=>n)
  (fun b o hc e=>⟨o,k b o (fun z=>hc (by simp [z])) e⟩) (fun _ _ e=>e) (fun _ _ _ e=>e) (fun b ps e=>⟨#[],by rw [e];simp⟩) (fun m hm=>?_) (fun b u e=>?_) I.bare
 ·have e:b=it:=by simpa using hb
  subst e
  exact ⟨h1,hL,h2,h3⟩
 ·obtain ⟨o,es,ep,ho,r⟩:=hm
  exact ⟨o,es,ep,k _ o (Zl hL) ho,r⟩
 ·refine (I.hok b u e).stay (fun c v hc q=>k c v ?_ q) (fun _ q=>q) fun _ _ q=>q
  rcases hc with z | z
  ·rw [z];exact nit b u e
  ·exact nit c _ z
theorem Inv.tok (I:Inv X pins σ H s) (t:Nat):Inv X pins σ H { s with toks:=t }:=I.un (h':=s.heap) (t':=t) Un.refl I.hok
theorem Inv.kept {t':Nat} (I:Inv X pins σ H s) (k:∀ b u,s.heap.get? b=some u→h'.get? b=some u):Inv X pins σ H { s with heap:=h',toks:=t' }:=I.un (Un.kept k) (I.hok.kept k)
theorem Inv.laid {a:Addr} {o:HO} {t':Nat} (I:Inv X pins σ H s) (k:∀ b u,s.heap.get? b=some u→h'.get? b=some u) (hp:s.heap.objs.size≤a) (new:zbr X.prog X.w (upd H a o) h' a o) :
  Inv X pins σ (upd H a o) { s with heap:=h',toks:=t' }:=I.un (Un.laid k hp (I.hok.fresh hp)) (I.hok.laid k hp new)
theorem Inv.write {x e:Addr} {o:HO} {t':Nat} (I:Inv X pins σ H s) (mu:Mut (H x)) (he:e=x∨H e=some (.own x)) (k:∀ b u,b≠e→s.heap.get? b=some u→h'.get? b=some u) (heo:∃ u,h'.get? e=some u)
  (new:zbr X.prog X.w (upd H x o) h' x o):Inv X pins σ (upd H x o) { s with heap:=h',toks:=t' }:=I.un (Un.write mu he k heo) (I.hok.write mu he k heo new)
theorem Inv.pins_of {pins':List (Addr×Obj)} (I:Inv X pins σ H s) (h:∀ p∈pins',s.heap.get? p.1=some p.2∧H p.1=none∧p.1≠X.env.locals∧p.1∉X.fs∧∀ v,p.2.data≠.cell v):Inv X pins' σ H s :=
 ⟨I.ok,I.os,I.bare,I.base,I.loc,I.cell,I.free,I.freeC,fun p hp=>(Ql.mp hp).elim (fun z=>I.pin p (Qu _ z)) (h p),I.hok,I.len⟩
theorem nodup_ix {N:List Str} (hN:N.Nodup) {i j:Nat} {x:Str} (a:N[i]?=some x) (b:N[j]?=some x):i=j:=by
 obtain ⟨h1,e1⟩:=Qz.mp a
 obtain ⟨h2,e2⟩:=Qz.mp b
 exact (Uf hN).mp (e1.trans e2.symm)
theorem zfp {M:Model} {A:Around} {E:Value→Shared→Prop} {i:Nat} {x:Str} {v:V} {u:Value} {Q:Unit→Shared→Prop} (I:Inv X pins σ H s) (hN:X.N.Nodup) (hi:X.N[i]?=some x) (hx:Loc X.env.scope x) (r:RelV v u)
  (h:∀ s',Inv X pins (σ.set i (some v)) H s'→(∃ a,Heap.SameBut a s.heap s'.heap∧(a=X.env.locals∨X.env.cells.lookup x=some a))→Q () s') (hf:X.fn x=true∨X.env.scope.names.lookup x=some .local:=by first | exact .inl rfl | exact .inr rfl | assumption):wpAny M A (storeName X.env x u) Q E s:=by
 obtain ⟨m,hn,hl⟩:=id I.loc
 have hcls:(X.env.scope.kind == .class || (X.env.scope.kind == .module && X.env.locals != X.env.globals))=false:=by rw [I.ok.kind];rfl
 have hiσ:i < σ.length:=by rw [I.len];exact (Qz.mp hi).1
 have cne:=I.cne
 have tracked:∀ {a:Addr} {h':Heap},(∃ o,s.heap.get? a=some o∧H a=none)→Heap.SameBut a s.heap h'→HOk X.prog X.w H h':=fun {a h'} ha hs b ob e=>by
  obtain ⟨_,_,hfree⟩:=ha
  refine (I.hok b ob e).stay (fun c w' hc q=>(hs.2 c ?_).trans q) (fun _ q=>q) fun _ _ q=>q
  rintro rfl
  rcases hc with rfl | hc
  ·rw [hfree] at e;cases e
  ·rw [hfree] at hc;cases hc
 rcases hx with hk | hk
 ·refine wpAny_storeName_local hk hn (fun h' hn' hs=>?_) hcls
  obtain ⟨oL,_,_,hoL,_⟩:=id hn
  refine h _ ⟨I.ok,I.os,I.bare,⟨fun b o e n hb hx=>?_,fun b o e n hb hx=>?_,I.base.free,fun b o e hx=>?_,I.base.tups,I.base.frzs,I.base.tbls⟩,⟨_,hn',fun j y v' e1 e2 e3=>?_⟩,fun y c e=>?_,I.free,I.freeC,fun p hp=>?_,tracked ⟨oL,hoL,I.free⟩ hs,by simpa using I.len⟩ ⟨_,hs,.inl rfl⟩
  ·exact (hs.2 b (Zh (Zx (Qx e) I.ok.above))).trans (I.base.keep b o e n hb hx)
  ·obtain ⟨sl,e1⟩:=I.base.slot b o e n hb hx
   exact ⟨sl,(hs.2 b (Zh (Zx (Qx e) I.ok.above))).trans e1⟩
  ·obtain ⟨o',e1⟩:=I.base.there b o e hx
   exact ⟨o',(hs.2 b (Zh (Zx (Qx e) I.ok.above))).trans e1⟩
  ·by_cases hj:j=i
   ·subst hj
    rw [hi] at e1;cases e1
    rw [List.getElem?_set_self hiσ] at e2
    cases e2
    exact ⟨u,r,.inl ⟨hk,by simp⟩⟩
   ·rw [List.getElem?_set_ne (Zl hj)] at e2
    obtain ⟨u',r',q⟩:=hl j y v' e1 e2 e3
    refine ⟨u',r',?_⟩
    rcases q with ⟨k,e⟩ | ⟨k,c,e,z⟩
    ·refine .inl ⟨k,?_⟩
     have:y≠x:=fun e=>hj (nodup_ix hN e1 (e ▸ hi))
     simp [this,e]
    ·exact .inr ⟨k,c,e,z.sameBut hs (cne y c e)⟩
  ·obtain ⟨w',z⟩:=I.cell y c e
   exact ⟨w',z.sameBut hs (cne y c e)⟩
  ·obtain ⟨e,n,ne,nf,d⟩:=I.pin p hp
   exact ⟨(hs.2 p.1 ne).trans e,n,ne,nf,d⟩
 ·have hfn:X.fn x=true:=by
   rcases hf with z | z
   ·exact z
   ·rw [z] at hk;cases hk
  obtain ⟨c,hc⟩:=I.ok.has x (.inl hk)
  obtain ⟨w',z⟩:=I.cell x c hc
  refine wpAny_storeName_cell I.ok.kind hk hc z (fun h' hc' hs=>?_)
  obtain ⟨oc,hoc,hocd⟩:=id z
  refine h { s with heap:=h' } ⟨I.ok,I.os,I.bare,⟨fun b o e n hb hx=>?_,fun b o e n hb hx=>?_,I.base.free,fun b o e hx=>?_,I.base.tups,I.base.frzs,I.base.tbls⟩,⟨m,hn.sameBut hs (Zl (cne x c hc)),fun j y v' e1 e2 e3=>?_⟩,fun y c' e=>?_,I.free,I.freeC,fun p hp=>?_,tracked ⟨oc,hoc,I.freeC x c hc⟩ hs,by simpa using I.len⟩ ⟨c,hs,.inr hc⟩
  ·exact (hs.2 b (Zh (Zx (Qx e) (I.ok.cab x c hfn hc)))).trans (I.base.keep b o e n hb hx)
  ·obtain ⟨sl,e1⟩:=I.base.slot b o e n hb hx
   exact ⟨sl,(hs.2 b (Zh (Zx (Qx e) (I.ok.cab x c hfn hc)))).trans e1⟩
  ·obtain ⟨o',e1⟩:=I.base.there b o e hx
   exact ⟨o',(hs.2 b (Zh (Zx (Qx e) (I.ok.cab x c hfn hc)))).trans e1⟩
  ·by_cases hj:j=i
   ·subst hj
    rw [hi] at e1;cases e1
    rw [List.getElem?_set_self hiσ] at e2
    cases e2
    exact ⟨u,r,.inr ⟨.inl hk,c,hc,hc'⟩⟩
   ·rw [List.getElem?_set_ne (Zl hj)] at e2
    obtain ⟨u',r',q⟩:=hl j y v' e1 e2 e3
    refine ⟨u',r',?_⟩
    rcases q with q | ⟨k,c',e,z'⟩
    ·exact .inl q
    ·refine .inr ⟨k,c',e,z'.sameBut hs ?_⟩
     rintro rfl
     exact hj (nodup_ix hN e1 (I.ok.inj _ _ _ e hc ▸ hi))
  ·by_cases hcc:c'=c
   ·subst hcc;exact ⟨_,hc'⟩
   ·obtain ⟨w2,z2⟩:=I.cell y c' e
    exact ⟨w2,z2.sameBut hs hcc⟩
  ·obtain ⟨e,n,ne,nf,d⟩:=I.pin p hp
   refine ⟨(hs.2 p.1 ?_).trans e,n,ne,nf,d⟩
   intro q
   rw [q,hoc] at e
   have q':oc=p.2:=Qm e
   exact d w' (by rw [← q'];exact hocd)
theorem store_ok {M:Model} {A:Around} {E:Value→Shared→Prop} {i:Nat} {x:Str} {v:V} {u:Value} {Q:Unit→Shared→Prop} (I:Inv X pins σ H s) (hN:X.N.Nodup) (hi:X.N[i]?=some x) (hx:Loc X.env.scope x) (r:RelV v u)
  (h:∀ s',Inv X pins (σ.set i (some v)) H s'→Q () s') (hf:X.fn x=true∨X.env.scope.names.lookup x=some .local:=by first | exact .inl rfl | exact .inr rfl | assumption):wpAny M A (storeName X.env x u) Q E s :=
 zfp I hN hi hx r (fun s' I' _=>h s' I') hf
theorem Inv.call' {s':Shared} {ch:List Addr} (I:Inv X pins σ H s) (ho:s'.os=s.os) (u:Un (frs X.stack) ch H H' s.heap s'.heap) (hok:HOk X.prog X.w H' s'.heap) (hg:AllBare s'.gens)
  (hch:∀ b∈ch,(b∈X.ex∨X.s₀.heap.objs.size≤b)∧b≠X.env.locals∧(∀ x c,X.env.cells.lookup x=some c→c≠b)∧∀ p∈X.pn++pins,p.1≠b):Inv X pins σ H' s':=by
 obtain ⟨h',g',d',t',o'⟩:=s'
 have e:o'=s.os:=ho
 subst e
 exact I.call (g':=g') (t':=t') (d':=d') u hok hg hch
end
abbrev XK:=Value→Option Addr→Hp→Prop
abbrev St:=List (Option V)
abbrev VK:=V→Hp→Prop
abbrev TE:=St→Hp→VK→Prop
abbrev TT:=St→Hp→(Bool→Hp→Prop)→Prop
abbrev TA:=St→Hp→(List V→Hp→Prop)→Prop
structure Ends where
 nx:St→Hp→Prop
 rt:VK
 bk:St→Hp→Prop:=fun _ _=>False
 ct:St→Hp→Prop:=fun _ _=>False
abbrev TS:=Ends→St→Hp→Prop
inductive EP (X:Cx) (pins:List (Addr×Obj)) (σ:St) (Q:VK) (u:Value) (s':Shared):Prop
 | mk (v:V) (H':Hp) (i:Inv X pins σ H' s') (r:RelV v u) (q:Q v H'):EP X pins σ Q u s'
inductive TP (X:Cx) (pins:List (Addr×Obj)) (σ:St) (Q:Bool→Hp→Prop) (b:Bool) (s':Shared):Prop
 | mk (H':Hp) (i:Inv X pins σ H' s') (q:Q b H'):TP X pins σ Q b s'
inductive AP (X:Cx) (pins:List (Addr×Obj)) (σ:St) (Q:List V→Hp→Prop) (us:List Value) (s':Shared):Prop
 | mk (vs:List V) (H':Hp) (i:Inv X pins σ H' s') (r:Vals vs us) (q:Q vs H'):AP X pins σ Q us s'
def SP (X:Cx) (pins:List (Addr×Obj)) (D:Ends) (f:Flow) (s':Shared):Prop :=
 match f with
 | .next=>Ex2 fun σ' H'=>Aj2 (Inv X pins σ' H' s') (D.nx σ' H')
 | .brk=>Ex2 fun σ' H'=>Aj2 (Inv X pins σ' H' s') (D.bk σ' H')
 | .cont=>Ex2 fun σ' H'=>Aj2 (Inv X pins σ' H' s') (D.ct σ' H')
 | .ret u=>Ex3 fun v σ' H'=>Aj3 (Inv X pins σ' H' s') (RelV v u) (D.rt v H')
def PE (X:Cx) (e:Expr) (t:TE):Prop :=
 ∀ (pins:List (Addr×Obj)) (s:Shared) (σ:St) (H:Hp) (Q:VK),Inv X pins σ H s→t σ H Q→wpAny (model X.prog X.w) X.A (eval e X.env) (EP X pins σ Q) X.xe s
def PT (X:Cx) (e:Expr) (t:TT):Prop :=
 ∀ (pins:List (Addr×Obj)) (s:Shared) (σ:St) (H:Hp) (Q:Bool→Hp→Prop),Inv X pins σ H s→t σ H Q→wpAny (model X.prog X.w) X.A (isTrue e X.env (eval e X.env)) (TP X pins σ Q) X.xe s
def PW (X:Cx) (e:Expr) (t:TT):Prop :=
 ∀ (whole:Sem Value) (pins:List (Addr×Obj)) (s:Shared) (σ:St) (H:Hp) (Q:Bool→Hp→Prop),Inv X pins σ H s→t σ H Q→wpAny (model X.prog X.w) X.A (isTrue e X.env whole) (TP X pins σ Q) X.xe s
theorem PW.pt {X:Cx} {e:Expr} {t:TT} (h:PW X e t):PT X e t:=h _
def PA (X:Cx) (es:List Expr) (t:TA):Prop :=
 ∀ (pos:Pos) (pins:List (Addr×Obj)) (s:Shared) (σ:St) (H:Hp) (Q:List V→Hp→Prop),Inv X pins σ H s→t σ H Q→wpAny (model X.prog X.w) X.A (spliced (backTo pos (starEach es X.env))) (AP X pins σ Q) X.xe s
def PS (X:Cx) (st:Stmt) (t:TS):Prop :=
 ∀ (pins:List (Addr×Obj)) (s:Shared) (σ:St) (H:Hp) (D:Ends),Inv X pins σ H s→t D σ H→wpAny (model X.prog X.w) X.A (exec st X.env) (SP X pins D) X.xe s
def PSs (X:Cx) (st:List Stmt) (t:TS):Prop :=
 ∀ (pins:List (Addr×Obj)) (s:Shared) (σ:St) (H:Hp) (D:Ends),Inv X pins σ H s→t D σ H→wpAny (model X.prog X.w) X.A (execs st X.env) (SP X pins D) X.xe s
theorem thn {α:Type} {t:Sem α} {Q Q':α→Shared→Prop} {M:Model} {A:Around} {E:Value→Shared→Prop} {s:Shared} (h:wpAny M A t Q E s) (hQ:∀ a s,Q a s→Q' a s):wpAny M A t Q' E s:=wpAny_mono h hQ fun _ _ x=>x
end L2
namespace L2
open PySem PySem.Spec PyProof.Rows
section
variable {X:Cx}
theorem bin {a b:Expr} {ta tb:TE} (ha:PE X a ta) (hb:PE X b tb) {pins:List (Addr×Obj)} {s:Shared} {σ:St} {H:Hp} {R:V→V→Hp→Prop} (I:Inv X pins σ H s) (h:ta σ H fun x H1=>tb σ H1 fun y H2=>R x y H2)
  {α:Type} {Q:α→Shared→Prop} {f:Value→Value→Sem α}
  (hf:∀ v u s2 x y H2,Inv X pins σ H2 s2→RelV x v→RelV y u→R x y H2→wpAny (model X.prog X.w) X.A (f v u) Q X.xe s2) :
  wpAny (model X.prog X.w) X.A (eval a X.env) (fun v s₁=>wpAny (model X.prog X.w) X.A (eval b X.env) (fun u s₂=>wpAny (model X.prog X.w) X.A (f v u) Q X.xe s₂) X.xe s₁) X.xe s:=by
 refine thn (ha pins s σ H _ I h) fun v s1 ⟨x,H1,I1,r1,q1⟩=>?_
 refine thn (hb pins s1 σ H1 _ I1 q1) fun u s2 ⟨y,H2,I2,r2,q2⟩=>?_
 exact hf v u s2 x y H2 I2 r1 r2 q2
inductive RVar (o:Option (Option V)) (H:Hp) (Q:VK):Prop
 | mk (v:V) (e:o=some (some v)) (q:Q v H):RVar o H Q
def tVar (i:Nat):TE:=fun σ H Q=>RVar σ[i]? H Q
def tC (v:V):TE:=fun _ H Q=>Q v H
theorem pe_var {i:Nat} {x:Str} {pos:Pos} (hN:X.N[i]?=some x) (hv:Vis X.env.scope x) (hd:(x == ("__debug__" : Str))=false:=by decide) (hcd:(x == ("__classdict__" : Str))=false:=by decide):PE X (.Name x pos) (tVar i):=by
 intro pins s σ H Q I h
 obtain ⟨v,e,h⟩:=h
 obtain ⟨m,hn,hl⟩:=I.loc
 obtain ⟨u,r,l⟩:=hl i x v hN e hv
 have fin:EP X pins σ Q u s:=⟨v,H,I,r,h⟩
 rcases l with ⟨hk,hm⟩ | ⟨hk,c,hc,hcell⟩
 ·exact wpAny_Name (wpAny_loadName_local I.ok.kind hk hn hm fin) hd
 ·rcases hk with hk | hk
  ·exact wpAny_Name (wpAny_loadName_cell I.ok.kind hk hc hcell fin) hd
  ·exact wpAny_Name (wpAny_loadName_free I.ok.kind hk hc hcell fin hcd) hd
theorem zai {i j pos}:PE X (.Constant (.int i) j pos) (tC (.int i)):=fun _ _ _ H _ I h=>wpAny_Constant_int ⟨.int i,H,I.tok _,⟨_,rfl⟩,h⟩
theorem pe_bl {b j pos}:PE X (.Constant (.bool b) j pos) (tC (.bl b)):=fun _ _ _ H _ I h=>Constant_bool ⟨.bl b,H,I,rfl,h⟩
theorem pe_non {j pos}:PE X (.Constant .none j pos) (tC .non):=fun _ _ _ H _ I h=>Constant_none ⟨.non,H,I,rfl,h⟩
theorem pe_str {x j pos}:PE X (.Constant (.str x) j pos) (tC (.str x)):=fun _ _ _ H _ I h=>Calls.Constant_str ⟨.str x,H,I.tok _,⟨_,rfl⟩,h⟩
def Gl (X:Cx) (x:Str):Prop:=X.env.kindOf x=some .globalImplicit
theorem ld_glob {E:Value→Shared→Prop} {pins:List (Addr×Obj)} {s:Shared} {σ:St} {H:Hp} {x:Str} {u:Value} {pos:Pos} {Q:Value→Shared→Prop} (I:Inv X pins σ H s) (hg:Gl X x) (hm:X.mg x=some u) (h:Q u s)
  (hd:(x == ("__debug__" : Str))=false:=by decide):wpAny (model X.prog X.w) X.A (eval (.Name x pos) X.env) Q E s :=
 Calls.Name_function_global I.ok.kind hg (Calls.loadGlobal_global (by rw [I.ok.glob];exact I.mod.glob.keeps I.bk) hm h) hd
theorem ld_blt {E:Value→Shared→Prop} {pins:List (Addr×Obj)} {s:Shared} {σ:St} {H:Hp} {x:Str} {u:Value} {pos:Pos} {Q:Value→Shared→Prop} (I:Inv X pins σ H s) (hg:Gl X x) (hm:X.mg x=none) (hv:bootBuiltins x=some u) (h:Q u s)
  (hn:x ≠ "__name__" := by decide) (hd:(x == ("__debug__" : Str))=false:=by decide):wpAny (model X.prog X.w) X.A (eval (.Name x pos) X.env) Q E s:=by
 obtain ⟨mb,h1,h2⟩:=I.mod.blt
 exact Calls.Name_function_global I.ok.kind hg (Calls.loadGlobal_builtin (by rw [I.ok.glob];exact I.mod.glob.keeps I.bk) hm (by rw [I.ok.blt];exact h1.keeps I.bk) ((h2 x hn).trans hv) h) hd
theorem pe_glob {x:Str} {v:V} {u:Value} {pos:Pos} (hg:Gl X x) (hm:X.mg x=some u) (r:RelV v u) (hd:(x == ("__debug__" : Str))=false:=by decide):PE X (.Name x pos) (tC v) :=
 fun _ _ _ H _ I h=>ld_glob I hg hm ⟨v,H,I,r,h⟩ hd
variable {a b:Expr} {ta tb:TE} {pos:Pos}
def PC (X:Cx) (op:CmpOp) (a b:Expr) (t:TE):Prop :=
 ∀ (pins:List (Addr×Obj)) (s:Shared) (σ:St) (H:Hp) (Q:VK),Inv X pins σ H s→t σ H Q →
  wpAny (model X.prog X.w) X.A (eval a X.env) (fun v s₁=>wpAny (model X.prog X.w) X.A (eval b X.env) (fun u s₂=>wpAny (model X.prog X.w) X.A (compareOp op v u) (EP X pins σ Q) X.xe s₂) X.xe s₁) X.xe s
theorem nobehind (b:Expr) {op:CmpOp} (h:op≠.In) (h2:op≠.NotIn):behindInMarks op b=false:=by
 have e1:(op == CmpOp.In)=false:=by cases op <;> first | rfl | exact absurd rfl h
 have e2:(op == CmpOp.NotIn)=false:=by cases op <;> first | rfl | exact absurd rfl h2
 cases b <;> simp [behindInMarks,e1,e2]
def tNotN (ta:TE):TE:=fun σ H Q=>ta σ H fun x H1=>Q (.bl (!decide (x=.non))) H1
theorem RelV.none_iff {x:V} {v:Value} (r:RelV x v):(v == Value.none)=decide (x=.non):=by
 cases x with
 | non=>cases r;rfl
 | bl _=>cases r;rfl
 | int _=>obtain ⟨t,rfl⟩:=r;rfl
 | str _=>obtain ⟨t,rfl⟩:=r;rfl
 | byt _=>obtain ⟨t,rfl⟩:=r;rfl
 | flt _=>obtain ⟨t,rfl⟩:=r;rfl
 | ref _=>cases r;rfl
 | ty _=>cases r;rfl
theorem pc_notN {j pos'} (ha:PE X a ta):PC X .IsNot a (.Constant .none j pos') (tNotN ta):=by
 intro pins s σ H Q I h
 refine thn (ha pins s σ H _ I h) fun v s1 ⟨x,H1,I1,r1,q1⟩=>?_
 exact Constant_none (isnot_none_gen ⟨.bl _,H1,I1,by rw [r1.none_iff];rfl,q1⟩)
inductive RB (x:V) (H:Hp) (Q:Bool→Hp→Prop):Prop
 | mk (c:Bool) (e:x=.bl c) (q:Q c H):RB x H Q
def tB (t:TE):TT:=fun σ H Q=>t σ H fun x H1=>RB x H1 Q
theorem ze7 {op:CmpOp} {t:TE} (h:PC X op a b t) (h1:behindInMarks op b=false:=by first | exact nobehind _ (by decide) (by decide) | rfl):PT X (.Compare a [op] [b] pos) (tB t):=by
 intro pins s σ H Q I hw
 refine wpAny_isTrue_Compare1 (thn (h pins s σ H _ I hw) fun v s1 h1=>thn h1 fun u s2 h2=>thn h2 fun c s3 ⟨x,H1,I1,r1,q1⟩=>?_) h1
 obtain ⟨d,rfl,q⟩:=q1
 cases r1
 exact wpAny_truthy_bool ⟨H1,I1,q⟩
theorem pt_val {e:Expr} {t:TE} (h:PE X e t) (he:∀ whole,isTrue e X.env whole=(do let v ← whole;standAt e.pos;holding [v] (truthy v)):=by intro _;rfl):PT X e (tB t):=by
 intro pins s σ H Q I hw
 refine isTrue_plain (thn (h pins s σ H _ I hw) fun v s1 ⟨x,H1,I1,r1,q1⟩=>?_) (he _)
 obtain ⟨d,rfl,q⟩:=q1
 cases r1
 exact wpAny_truthy_bool ⟨H1,I1,q⟩
variable {tA tB':TT} {rest:List Expr}
def tAnd (t u:TT):TT:=fun σ H Q=>t σ H fun c H1=>if c=true then u σ H1 Q else Q false H1
def tOr (t u:TT):TT:=fun σ H Q=>t σ H fun c H1=>if c=true then Q true H1 else u σ H1 Q
def tNot (t:TT):TT:=fun σ H Q=>t σ H fun c H1=>Q (!c) H1
theorem pw_and1 (ha:PT X a tA):PW X (.BoolOp .And [a] pos) tA:=by
 intro wh pins s σ H Q I h
 refine isTrue_and (thn (ha pins s σ H Q I h) fun c s1 e=>?_)
 cases c with
 | true=>exact isTrue_and_nil e
 | false=>exact e
theorem pw_or1 (ha:PT X a tA):PW X (.BoolOp .Or [a] pos) tA:=by
 intro wh pins s σ H Q I h
 refine isTrue_or (thn (ha pins s σ H Q I h) fun c s1 e=>?_)
 cases c with
 | false=>exact isTrue_or_nil e
 | true=>exact e
theorem pw_and (ha:PT X a tA) (hb:PW X (.BoolOp .And (b::rest) pos) tB'):PW X (.BoolOp .And (a::b::rest) pos) (tAnd tA tB'):=by
 intro wh pins s σ H Q I h
 refine isTrue_and (thn (ha pins s σ H _ I h) fun c s1 ⟨H1,I1,q1⟩=>?_)
 cases c with
 | true=>exact hb wh pins s1 σ H1 Q I1 q1
 | false=>exact ⟨H1,I1,q1⟩
theorem pw_or (ha:PT X a tA) (hb:PW X (.BoolOp .Or (b::rest) pos) tB'):PW X (.BoolOp .Or (a::b::rest) pos) (tOr tA tB'):=by
 intro wh pins s σ H Q I h
 refine isTrue_or (thn (ha pins s σ H _ I h) fun c s1 ⟨H1,I1,q1⟩=>?_)
 cases c with
 | true=>exact ⟨H1,I1,q1⟩
 | false=>exact hb wh pins s1 σ H1 Q I1 q1
theorem pt_not (ha:PT X a tA):PT X (.UnaryOp .Not a pos) (tNot tA):=by
 intro pins s σ H Q I h
 exact isTrue_not (wpAny_mono (ha pins s σ H (fun c H1=>Q (!c) H1) I h) (fun c s2 z=>by obtain ⟨a,b,d⟩:=z;exact ⟨a,b,d⟩) fun _ _ e=>e)
def tAndV (ta tb:TE):TE:=fun σ H Q=>ta σ H fun x H1=>RB x H1 fun c H1=>if c=true then tb σ H1 Q else Q (.bl false) H1
def tNotV (ta:TE):TE:=fun σ H Q=>ta σ H fun x H1=>∃ c,x=.bl c∧Q (.bl (!c)) H1
theorem pe_one {op} {t:TE} (h:PE X a t):PE X (.BoolOp op [a] pos) t:=fun pins s σ H Q I hw=>BoolOp_one (h pins s σ H Q I hw)
theorem pe_and (ha:PE X a ta) (hb:PE X (.BoolOp .And (b::rest) pos) tb):PE X (.BoolOp .And (a::b::rest) pos) (tAndV ta tb):=by
 intro pins s σ H Q I h
 refine BoolOp_and (thn (ha pins s σ H _ I h) fun v s1 ⟨x,H1,I1,r1,q1⟩=>?_)
 obtain ⟨c,rfl,q1⟩:=q1
 cases r1
 refine wpAny_truthy_bool ?_
 cases c with
 | true=>exact hb pins s1 σ H1 Q I1 q1
 | false=>exact ⟨.bl false,H1,I1,rfl,q1⟩
theorem pe_not (ha:PE X a ta):PE X (.UnaryOp .Not a pos) (tNotV ta):=by
 intro pins s σ H Q I h
 refine UnaryOp_ (thn (ha pins s σ H _ I h) fun v s1 ⟨x,H1,I1,r1,q1⟩=>?_)
 obtain ⟨c,rfl,q1⟩:=q1
 cases r1
 exact not_of (wpAny_truthy_bool ⟨.bl (!c),H1,I1,rfl,q1⟩)
def tIf (t:TT) (ta tb:TE):TE:=fun σ H Q=>t σ H fun c H1=>if c=true then ta σ H1 Q else tb σ H1 Q
theorem pe_ifExp {c:Expr} (hc:PT X c tA) (ha:PE X a ta) (hb:PE X b tb):PE X (.IfExp c a b pos) (tIf tA ta tb):=by
 intro pins s σ H Q I h
 refine wpAny_IfExp (thn (hc pins s σ H _ I h) fun d s1 ⟨H1,I1,q1⟩=>?_)
 cases d with
 | true=>exact ha pins s1 σ H1 Q I1 q1
 | false=>exact hb pins s1 σ H1 Q I1 q1
end
end L2
namespace L2
open PySem PySem.Spec PyProof.Rows
def SqL (K:PySem.W.Frag) (H:Hp) (a:Addr) (xs:List V):Prop :=
 Rd H a (.lst xs) ∨
  ∃ (o:Obj) (its:Array Value) (n:Nat),K.lookup a=some o∧o.cls=.type "list" ∧ o.dict=none∧o.data=.seq its n∧its.size≤sizeLine∧Vals xs its.toList
def SqT (K:PySem.W.Frag) (H:Hp) (a:Addr) (xs:List V):Prop :=
 Rd H a (.tup xs) ∨
  ∃ (o:Obj) (its:Array Value) (n:Nat),K.lookup a=some o∧o.cls=.type "tuple" ∧ o.data=.seq its n∧its.size≤sizeLine∧Vals xs its.toList
def absV:Value→Option V
 | .none=>some .non
 | .bool b=>some (.bl b)
 | .int i _=>some (.int i)
 | .str x _=>some (.str x)
 | .bytes b _=>some (.byt b)
 | .float b _=>some (.flt b)
 | .ref a=>some (.ref a)
 | .type n=>some (.ty n)
 | _=>none
theorem RelV.abs {x:V} {u:Value} (r:RelV x u):absV u=some x:=by
 cases x with
 | non=>cases r;rfl
 | bl _=>cases r;rfl
 | int _=>obtain ⟨t,rfl⟩:=r;rfl
 | str _=>obtain ⟨t,rfl⟩:=r;rfl
 | byt _=>obtain ⟨t,rfl⟩:=r;rfl
 | flt _=>obtain ⟨t,rfl⟩:=r;rfl
 | ref _=>cases r;rfl
 | ty _=>cases r;rfl
theorem RelV.inj {x y:V} {u:Value} (r:RelV x u) (q:RelV y u):x=y:=Qm (r.abs.symm.trans q.abs)
theorem Vals.inj:∀ {xs ys:List V} {us:List Value},Vals xs us→Vals ys us→xs=ys
 | _,_,_,.nil,.nil=>rfl
 | _,_,_,.cons r t,.cons r' t'=>by rw [r.inj r',Vals.inj t t']
section
variable {X:Cx} {pins:List (Addr×Obj)} {σ:St} {H:Hp} {s:Shared} {a:Addr} {xs ys:List V}
theorem SqL.of {K:PySem.W.Frag} (h:H a=some (.lst xs)):SqL K H a xs:=.inl (.inl h)
theorem SqT.of {K:PySem.W.Frag} (h:H a=some (.tup xs)):SqT K H a xs:=.inl (.inl h)
theorem Inv.list (I:Inv X pins σ H s) (h:SqL X.K H a xs):∃ its:List Value,Vals xs its∧PlainL s.heap a its.toArray∧xs.length≤sizeLine:=by
 rcases h with h | ⟨o,its,n,hk,hc,hd,hs,hz,r⟩
 ·obtain ⟨z,its,n,r,e⟩:=h.ok I.hok
  exact ⟨its,r,⟨_,n,e,rfl,rfl,rfl⟩,z⟩
 ·refine ⟨its.toList,r,⟨o,n,I.kIn a o hk,hc,hd,by simpa using hs⟩,?_⟩
  have e:=r.length
  simp only [Yz] at e
  lia
theorem Inv.tuple (I:Inv X pins σ H s) (h:SqT X.K H a xs):∃ its:List Value,Vals xs its∧IsTup s.heap a its.toArray∧xs.length≤sizeLine:=by
 rcases h with h | ⟨o,its,n,hk,hc,hs,hz,r⟩
 ·obtain ⟨z,its,r,p⟩:=h.ok I.hok
  exact ⟨its,r,p,z⟩
 ·refine ⟨its.toList,r,⟨o,I.kIn a o hk,hc,n,by simpa using hs⟩,?_⟩
  have e:=r.length
  simp only [Yz] at e
  lia
theorem Inv.list_inj (I:Inv X pins σ H s) (h:SqL X.K H a xs) (h':SqL X.K H a ys):xs=ys:=by
 obtain ⟨its,r,⟨o,n,e,_,_,d⟩,_⟩:=I.list h
 obtain ⟨its',r',⟨o',n',e',_,_,d'⟩,_⟩:=I.list h'
 rw [e] at e';cases e'
 rw [d] at d'
 injection d' with d1 _
 have:its=its':=by simpa using congrArg Array.toList d1
 subst this
 exact r.inj r'
theorem Inv.tuple_inj (I:Inv X pins σ H s) (h:SqT X.K H a xs) (h':SqT X.K H a ys):xs=ys:=by
 obtain ⟨its,r,⟨o,e,_,n,d⟩,_⟩:=I.tuple h
 obtain ⟨its',r',⟨o',e',_,n',d'⟩,_⟩:=I.tuple h'
 rw [e] at e';cases e'
 rw [d] at d'
 injection d' with d1 _
 have:its=its':=by simpa using congrArg Array.toList d1
 subst this
 exact r.inj r'
end
abbrev Cx.wish (X:Cx) (E:Value→Shared→Prop):Cx:={ X with xe:=E }
abbrev Cx.nox (X:Cx):Cx:=X.wish fun _ _=>False
theorem Cx.Ok.wish {X:Cx} (ok:X.Ok) (E:Value→Shared→Prop):(X.wish E).Ok :=
 ⟨ok.mod,ok.kind,ok.glob,ok.blt,ok.above,ok.inj,ok.has,ok.cab,ok.hd,ok.frames,ok.stk,ok.exf,ok.bs,ok.bsz,ok.noex,ok.exfs,ok.funs,ok.frf⟩
theorem Cx.Ok.unwish {X:Cx} {E:Value→Shared→Prop} (ok:(X.wish E).Ok):X.Ok :=
 ⟨ok.mod,ok.kind,ok.glob,ok.blt,ok.above,ok.inj,ok.has,ok.cab,ok.hd,ok.frames,ok.stk,ok.exf,ok.bs,ok.bsz,ok.noex,ok.exfs,ok.funs,ok.frf⟩
section
variable {X:Cx} {pins:List (Addr×Obj)} {σ:St} {H:Hp} {s:Shared} {E:Value→Shared→Prop}
theorem Inv.wish (I:Inv X pins σ H s) (E:Value→Shared→Prop):Inv (X.wish E) pins σ H s:=⟨I.ok.wish E,I.os,I.bare,I.base,I.loc,I.cell,I.free,I.freeC,I.pin,I.hok,I.len⟩
theorem Inv.unwish (I:Inv (X.wish E) pins σ H s):Inv X pins σ H s:=⟨I.ok.unwish,I.os,I.bare,I.base,I.loc,I.cell,I.free,I.freeC,I.pin,I.hok,I.len⟩
theorem SP.unwish {D:Ends} {f:Flow} {s':Shared} (h:SP (X.wish E) pins D f s'):SP X pins D f s':=by
 cases f with
 | next=>obtain ⟨σ',H',I,q⟩:=h;exact ⟨σ',H',I.unwish,q⟩
 | brk=>obtain ⟨σ',H',I,q⟩:=h;exact ⟨σ',H',I.unwish,q⟩
 | cont=>obtain ⟨σ',H',I,q⟩:=h;exact ⟨σ',H',I.unwish,q⟩
 | ret u=>obtain ⟨v,σ',H',I,r,q⟩:=h;exact ⟨v,σ',H',I.unwish,r,q⟩
theorem PSs.nox {st:List Stmt} {t:TS} (h:PSs X.nox st t):PSs X st t:=fun pins s σ H D I hw =>
 wpAny_mono (h pins s σ H D (I.wish _) hw) (fun _ _ q=>q.unwish) fun _ _ z=>False.elim z
end
section
variable {X:Cx} {st:Stmt} {rest:List Stmt} {t u:TS} {e:Expr} {te:TE} {pos:Pos}
def tNext:TS:=fun D σ H=>D.nx σ H
def tSeq (t u:TS):TS:=fun D σ H=>t { D with nx:=u D } σ H
theorem za4:PSs X [] tNext:=fun _ _ σ H _ I h=>wpAny_execs_nil ⟨σ,H,I,h⟩
theorem zae (h1:PS X st t) (h2:PSs X rest u):PSs X (st::rest) (tSeq t u):=by
 intro pins s σ H D I h
 refine wpAny_execs_cons (thn (h1 pins s σ H { D with nx:=u D } I h) fun f s1 q=>?_)
 cases f with
 | next =>
  obtain ⟨σ',H',I',q⟩:=q
  exact h2 pins s1 σ' H' D I' q
 | ret v=>exact q
 | brk=>exact q
 | cont=>exact q
theorem zah (h1:PS X st t):PSs X [st] t:=by
 intro pins s σ H D I h
 refine wpAny_execs_cons (thn (h1 pins s σ H D I h) fun f s1 q=>?_)
 cases f with
 | next=>exact wpAny_execs_nil q
 | ret v=>exact q
 | brk=>exact q
 | cont=>exact q
theorem Inv.quiet {pins:List (Addr×Obj)} {σ:St} {H:Hp} {s:Shared} (I:Inv X pins σ H s):interactive X.env=false:=by simp [interactive,I.ok.kind]
def tDrop (te:TE):TS:=fun D σ H=>te σ H fun _ H1=>D.nx σ H1
theorem za8 (he:PE X e te) (hs:swapsWith e none pos.line X.env=pure false:=by rfl):PS X (.Expr e pos) (tDrop te):=by
 intro pins s σ H D I h
 exact wpAny_Expr_any (thn (he pins s σ H _ I h) fun v s1 ⟨x,H1,I1,r1,q1⟩=>⟨σ,H1,I1,q1⟩) I.quiet hs
def tRet (te:TE):TS:=fun D σ H=>te σ H D.rt
theorem zbk (he:PE X e te):PS X (.Return (some e) pos) (tRet te):=by
 intro pins s σ H D I h
 exact wpAny_Return_some (thn (he pins s σ H _ I h) fun v s1 ⟨x,H1,I1,r1,q1⟩=>⟨x,σ,H1,I1,r1,q1⟩)
def tRetN:TS:=fun D _ H=>D.rt .non H
theorem ps_retN:PS X (.Return none pos) tRetN:=fun _ _ σ H _ I h=>wpAny_Return_none ⟨.non,σ,H,I,rfl,h⟩
def tIfS (c:TT) (t u:TS):TS:=fun D σ H=>c σ H fun b H1=>if b=true then t D σ H1 else u D σ H1
theorem zcg {c:Expr} {a b:List Stmt} {tc:TT} (hc:PT X c tc) (ha:PSs X a t) (hb:PSs X b u):PS X (.If c a b pos) (tIfS tc t u):=by
 intro pins s σ H D I h
 refine wpAny_If (thn (hc pins s σ H _ I h) fun d s1 ⟨H1,I1,q1⟩=>?_)
 cases d with
 | true=>exact ha pins s1 σ H1 D I1 q1
 | false=>exact hb pins s1 σ H1 D I1 q1
end
abbrev TG:=V→St→Hp→(St→Hp→Prop)→Prop
abbrev TGs:=List V→St→Hp→(St→Hp→Prop)→Prop
def PG (X:Cx) (target:Expr) (t:TG):Prop :=
 ∀ (pins:List (Addr×Obj)) (s:Shared) (σ:St) (H:Hp) (v:V) (u:Value) (Q:St→Hp→Prop),Inv X pins σ H s→RelV v u→t v σ H Q →
  wpAny (model X.prog X.w) X.A (assign target X.env u) (fun _ s'=>Ex2 fun σ' H'=>Aj2 (Inv X pins σ' H' s') (Q σ' H')) X.xe s
def PGs (X:Cx) (ts:List Expr) (t:TGs):Prop :=
 ∀ (pins:List (Addr×Obj)) (s:Shared) (σ:St) (H:Hp) (vs:List V) (us:List Value) (Q:St→Hp→Prop),Inv X pins σ H s→Vals vs us→t vs σ H Q →
  wpAny (model X.prog X.w) X.A (assignInOrder ((assignEach ts X.env).map (·.2)) us) (fun _ s'=>Ex2 fun σ' H'=>Aj2 (Inv X pins σ' H' s') (Q σ' H')) X.xe s
abbrev TSet:=V→V→V→Hp→(Hp→Prop)→Prop
def PSet (X:Cx) (t:TSet):Prop :=
 ∀ (pins:List (Addr×Obj)) (s:Shared) (σ:St) (H:Hp) (o i v:V) (ov iv u:Value) (Q:Hp→Prop),Inv X pins σ H s→RelV o ov→RelV i iv→RelV v u→t o i v H Q →
  wpAny (model X.prog X.w) X.A (setItem ov iv u) (fun _ s'=>∃ H',Inv X pins σ H' s'∧Q H') X.xe s
section
variable {X:Cx} {pos:Pos}
def gName (i:Nat):TG:=fun v σ H Q=>Q (σ.set i (some v)) H
theorem zaj {i:Nat} {x:Str} (hN:X.N.Nodup) (hi:X.N[i]?=some x) (hx:Loc X.env.scope x) (hf:X.fn x=true∨X.env.scope.names.lookup x=some .local:=by first | exact .inl rfl | exact .inr rfl | assumption):PG X (.Name x pos) (gName i):=by
 intro pins s σ H v u Q I r h
 exact wpAny_assign_Name (store_ok I hN hi hx r (fun s' I'=>⟨_,H,I',h⟩) hf)
def gNil:TGs:=fun vs σ H Q=>vs=[]∧Q σ H
inductive RGC (vs:List V) (R:V→List V→Prop):Prop
 | mk (v:V) (r:List V) (e:vs=v::r) (q:R v r):RGC vs R
def gCons (t:TG) (u:TGs):TGs:=fun vs σ H Q=>RGC vs fun v r=>t v σ H fun σ' H'=>u r σ' H' Q
theorem zdf:PGs X [] gNil:=by
 intro pins s σ H vs us Q I r h
 obtain ⟨e,h⟩:=h
 subst e
 cases r
 exact assignInOrder_nil ⟨σ,H,I,h⟩
theorem zbc {e:Expr} {es:List Expr} {t:TG} {u:TGs} (h1:PG X e t) (h2:PGs X es u)
  (hs:(assignEach (e::es) X.env).map (·.2)=assign e X.env::(assignEach es X.env).map (·.2):=by rfl):PGs X (e::es) (gCons t u):=by
 intro pins s σ H vs us Q I r h
 obtain ⟨v,vr,e1,h⟩:=h
 subst e1
 cases r with
 | cons r rr =>
  rw [hs]
  refine assignInOrder_cons (thn (h1 pins s σ H _ _ _ I r h) fun _ s1 ⟨σ1,H1,I1,q1⟩=>?_)
  exact h2 pins s1 σ1 H1 _ _ Q I1 rr q1
inductive RGT (K:PySem.W.Frag) (n:Nat) (v:V) (H:Hp) (R:List V→Prop):Prop
 | mk (a:Addr) (xs:List V) (e:v=.ref a) (s:SqT K H a xs) (l:xs.length=n) (q:R xs):RGT K n v H R
def gTup (K:PySem.W.Frag) (n:Nat) (t:TGs):TG:=fun v σ H Q=>RGT K n v H fun xs=>t xs σ H Q
theorem zgz {es:List Expr} {k:Nat} {t:TGs} {n:Nat} (hc:X.calm=true) (h:PGs X es t)
  (hn:(assignEach es X.env).length=n:=by rfl) (hst:(assignEach es X.env).findIdx? (·.1)=none:=by rfl):PG X (.Tuple es k pos) (gTup X.K n t):=by
 intro pins s σ H v u Q I r hw
 obtain ⟨a,xs,e1,hq,hl,hw⟩:=hw
 subst e1
 cases r
 obtain ⟨its,rv,ht,hz⟩:=I.tuple hq
 refine assign_Tuple_tuple (I.ok.hd hc) ht (by simp [hn,← hl,rv.length]) hst fun h' hx=>?_
 have I1:Inv X pins σ H { s with heap:=h' }:=I.kept (t':=s.toks) fun b o e=>hx b o (Zh (Qx e)) e
 exact h pins _ σ H xs _ Q I1 (by simpa using rv) hw
def gSub (to ti:TE) (t:TSet):TG:=fun v σ H Q=>to σ H fun o H1=>ti σ H1 fun i H2=>t o i v H2 fun H3=>Q σ H3
theorem pg_sub {o i:Expr} {to ti:TE} {t:TSet} (ho:PE X o to) (hi:PE X i ti) (hs:PSet X t)
  (ha:∀ v,assign (.Subscript o i pos) X.env v=(do
   let ov ← holding [v] (eval o X.env)
   let iv ← holding [v,ov] (eval i X.env)
   standAt pos
   holding [v,ov,iv] (setItem ov iv v)
   release [v,ov,iv] []):=by intro _;rfl):PG X (.Subscript o i pos) (gSub to ti t):=by
 intro pins s σ H v u Q I r h
 rw [ha]
 refine wpAny_bind (wpAny_holding (thn (ho pins s σ H _ I h) fun ov s1 ⟨x,H1,I1,r1,q1⟩=>?_))
 refine wpAny_bind (wpAny_holding (thn (hi pins s1 σ H1 _ I1 q1) fun iv s2 ⟨y,H2,I2,r2,q2⟩=>?_))
 refine wpAny_bind (wpAny_standAt (wpAny_bind (wpAny_holding (thn (hs pins s2 σ H2 x y v ov iv u _ I2 r1 r2 r q2) fun _ s3 ⟨H3,I3,q3⟩=>?_))))
 exact wpAny_release ⟨σ,H3,I3,q3⟩
def tAsg (te:TE) (g:TG):TS:=fun D σ H=>te σ H fun x H1=>g x σ H1 D.nx
theorem ps_asg {tg e:Expr} {te:TE} {g:TG} (he:PE X e te) (hg:PG X tg g) (hs:swapsWithSole [tg] e pos.line X.env=pure false:=by rfl) (hw:swappedStores [tg] e X.env=pure none:=by rfl)
  (h1:(assignEach [tg] X.env).map (·.2)=[assign tg X.env]:=by rfl):PS X (.Assign [tg] e pos) (tAsg te g):=by
 intro pins s σ H D I h
 refine wpAny_Assign_stores (thn (he pins s σ H _ I h) fun v s1 ⟨x,H1,I1,r1,q1⟩=>?_) hs hw
 rw [h1]
 exact thn (hg pins s1 σ H1 x v _ I1 r1 q1) fun _ s2 q=>q
theorem zam {i:Nat} {x:Str} {e:Expr} {te:TE} {pos':Pos} (hN:X.N.Nodup) (hi:X.N[i]?=some x) (hx:Loc X.env.scope x) (he:PE X e te) (hs:swapsWith e (some (.Name x pos')) pos.line X.env=pure false:=by rfl) (hf:X.fn x=true∨X.env.scope.names.lookup x=some .local:=by first | exact .inl rfl | exact .inr rfl | assumption) :
  PS X (.Assign [.Name x pos'] e pos) (tAsg te (gName i)):=by
 intro pins s σ H D I h
 refine wpAny_Assign_Name (thn (he pins s σ H _ I h) fun v s1 ⟨y,H1,I1,r1,q1⟩=>?_) hs
 exact store_ok I1 hN hi hx r1 (fun s2 I2=>⟨_,H1,I2,q1⟩) hf
end
section
variable {X:Cx} {pos:Pos}
def tWhile (c:TT) (tb:TS):TS:=fun D σ H=>∃ W:Nat→St→Hp→Prop,(∃ m,W m σ H)∧∀ m σ H,W m σ H →
 c σ H fun b H1=>if b=true then ∃ N:St→Hp→Prop,(∀ σ' H',N σ' H'→∃ m',m' < m∧W m' σ' H')∧tb { D with nx:=N,ct:=N,bk:=D.nx } σ H1 else D.nx σ H1
theorem zec {c:Expr} {body:List Stmt} {tc:TT} {tb:TS} (hp:PassesOwn (model X.prog X.w) X.A X.env X.xe) (hc:PT X c tc) (hb:PSs X body tb):PS X (.While c body [] pos) (tWhile tc tb):=by
 intro pins s σ H D I h
 obtain ⟨W,⟨m0,w0⟩,turn⟩:=h
 refine wpAny_While (codeAny_whileLoop (fun n s'=>∃ σ' H',Inv X pins σ' H' s'∧W n σ' H') ?_ m0 ⟨σ,H,I,w0⟩)
 rintro n s1 ⟨σ1,H1,I1,w1⟩
 refine wpAny_passesOwn hp (thn (hc pins s1 σ1 H1 _ I1 (turn n σ1 H1 w1)) fun b s2 ⟨H2,I2,q2⟩=>?_)
 cases b with
 | true =>
  obtain ⟨N,hN,q2⟩:=q2
  rw [if_pos rfl]
  refine wpAny_passesOwn hp (thn (hb pins s2 σ1 H2 _ I2 q2) fun f s3 q3=>?_)
  cases f with
  | next =>
   obtain ⟨σ3,H3,I3,n3⟩:=q3
   obtain ⟨m',hm,w3⟩:=hN σ3 H3 n3
   exact ⟨m',hm,σ3,H3,I3,w3⟩
  | cont =>
   obtain ⟨σ3,H3,I3,n3⟩:=q3
   obtain ⟨m',hm,w3⟩:=hN σ3 H3 n3
   exact ⟨m',hm,σ3,H3,I3,w3⟩
  | brk=>exact q3
  | ret v=>exact q3
 | false =>
  rw [if_neg Zb]
  exact wpAny_execs_nil ⟨σ1,H2,I2,q2⟩
end
structure It where
 go:Nat→Hp→Prop
 yld:Nat→Hp→V→Hp→Prop
 stop:Nat→Hp→Prop
def FpOk (X:Cx) (pins:List (Addr×Obj)) (H:Hp) (b:Addr):Prop :=
 H b=none∧b≠X.env.locals∧b∉X.fs∧(b∈X.ex∨X.s₀.heap.objs.size≤b)∧(∀ x c,X.env.cells.lookup x=some c→c≠b)∧∀ p∈X.pn++pins,p.1≠b
theorem Inv.fpOk {X:Cx} {pins:List (Addr×Obj)} {σ:St} {H H':Hp} {s:Shared} {b:Addr} (I:Inv X pins σ H s) (hb:s.heap.objs.size≤b) (hn:H' b=none):FpOk X pins H' b:=by
 refine ⟨hn,Wd (Zx I.lt hb),I.nofs hb,.inr (Zf I.sz hb),fun x c e z=>?_,fun p hp z=>?_⟩
 ·obtain ⟨v,q⟩:=I.cell x c e
  exact absurd (Zx q.lt (by rw [z];exact hb)) (Wc _)
 ·exact absurd (Zx (Qx (I.pin p hp).1) (by rw [z];exact hb)) (Wc _)
structure Turn (P:Program) (w:World) (K:PySem.W.Frag) (tg:Expr) (J:It) (fp:List Addr) (it:Addr) (tn:Nat→Heap→Prop):Prop where
 mem:it∈fp
 obj:∀ i h,tn i h→∀ b∈fp,∃ o,h.get? b=some o∧∀ v,o.data≠.cell v
 keep:∀ i h h',tn i h→(∀ b∈fp,∀ o,h.get? b=some o→h'.get? b=some o)→tn i h'
 item:∀ (X:Cx),X.prog=P→X.w=w→X.K=K→X.calm=true→∀ (i:Nat) (pins:List (Addr×Obj)) (s:Shared) (σ:St) (H:Hp) (E:Value→Shared→Prop),Inv X pins σ H s→(∀ b∈fp,FpOk X pins H b)→tn i s.heap→J.go i H →
  wpAny (model P w) X.A (pyNext (.ref it)) (fun r s1=>∃ u,r=some u ∧
   wpAny (model P w) X.A (letOwnedTupleGo tg (.ref it) u) (fun _ s2=>∃ x H',Inv X pins σ H' s2∧RelV x u∧J.yld i H x H'∧tn (i+1) s2.heap∧∀ b∈fp,H' b=none) E s1) E s
 done:∀ (X:Cx),X.prog=P→X.w=w→X.K=K→X.calm=true→∀ (i:Nat) (pins:List (Addr×Obj)) (s:Shared) (σ:St) (H:Hp) (E:Value→Shared→Prop),Inv X pins σ H s→(∀ b∈fp,FpOk X pins H b)→tn i s.heap→J.stop i H →
  wpAny (model P w) X.A (pyNext (.ref it)) (fun r s1=>r=none∧Inv X pins σ H s1) E s
 self:∀ (A:Around) (i:Nat) (s:Shared) (Q:Value→Shared→Prop) (E:Value→Shared→Prop),tn i s.heap→Q (.ref it) s→wpAny (model P w) A (pyIter (.ref it)) Q E s
abbrev TI:=St→Hp→(It→Hp→Prop)→Prop
inductive PIE (X:Cx) (pins:List (Addr×Obj)) (σ:St) (tg:Expr) (R:It→Hp→Prop) (itv:Value) (s2:Shared):Prop
 | mk (it:Addr) (fp:List Addr) (tn:Nat→Heap→Prop) (J:It) (H':Hp) (h0:itv=.ref it) (h1:Inv X pins σ H' s2) (h2:Turn X.prog X.w X.K tg J fp it tn) (h3:tn 0 s2.heap) (h4:(∀ b∈fp,FpOk X pins H' b)) (h5:R J H'):PIE X pins σ tg R itv s2
def PI (X:Cx) (tg iter:Expr) (wi:TI):Prop :=
 ∀ (pins:List (Addr×Obj)) (s:Shared) (σ:St) (H:Hp) (R:It→Hp→Prop),Inv X pins σ H s→wi σ H R →
  wpAny (model X.prog X.w) X.A (eval iter X.env) (fun v s1=>wpAny (model X.prog X.w) X.A (pyIter v) (PIE X pins σ tg R) X.xe s1) X.xe s
theorem go_of {M:Model} {A:Around} {E:Value→Shared→Prop} {s:Shared} {tg:Expr} {it:Addr} {u:Value} {o:Obj} {n:String} {vs:Array Value} {Q:Unit→Shared→Prop} (ho:s.heap.get? it=some o) (hc:o.cls=.type n) (hd:o.data=.fields vs)
  (hn:["enumerate", "zip", "dict_itemiterator", "dict_reverseitemiterator", "odict_iterator", "itertools.zip_longest", "itertools.pairwise"].contains n=false) (hQ:Q () s):wpAny M A (letOwnedTupleGo tg (.ref it) u) Q E s:=by
 unfold letOwnedTupleGo
 cases tg <;> first
  | exact wpAny_pure hQ
  | (cases u <;> first
    | exact wpAny_pure hQ
    | (refine wpAny_bind (wpAny_load ho ?_)
       rw [hc,hd]
       show wpAny M A (if (["enumerate", "zip", "dict_itemiterator", "dict_reverseitemiterator", "odict_iterator", "itertools.zip_longest", "itertools.pairwise"].contains n && vs[0]? == some (rawInt _))=true then _ else _) Q E s
       rw [if_neg (by intro h;rw [hn,Bool.false_and] at h;cases h)]
       exact wpAny_pure hQ))
def Itl (K:PySem.W.Frag) (a:Addr):It :=
 ⟨fun i H=>∃ xs x,SqL K H a xs∧xs[i]?=some x,fun i H x H'=>H'=H∧∀ xs,SqL K H a xs→xs[i]?=some x,fun i H=>∃ xs,SqL K H a xs∧xs.length≤i⟩
def Itt (K:PySem.W.Frag) (a:Addr):It :=
 ⟨fun i H=>∃ xs x,SqT K H a xs∧xs[i]?=some x,fun i H x H'=>H'=H∧∀ xs,SqT K H a xs→xs[i]?=some x,fun i H=>∃ xs,SqT K H a xs∧xs.length≤i⟩
def Itr (lo:Int) (n:Nat):It:=⟨fun i _=>i < n,fun i H x H'=>H'=H∧x=.int (lo+i),fun i _=>n≤i⟩
theorem turn_list {P:Program} {w:World} {K:PySem.W.Frag} {tg:Expr} (a it:Addr):Turn P w K tg (Itl K a) [it] it (fun i h=>h.IsListIter it a i) where
 mem:=by simp
 obj:=fun i h st b hb=>by
  have e:b=it:=by simpa using hb
  subst e
  obtain ⟨o,e,c,d⟩:=st
  exact ⟨o,e,fun v z=>by rw [d] at z;cases z⟩
 keep:=fun i h h' st k=>st.at fun o e=>k it (by simp) o e
 item:=by
  intro X hP hw hK hc i pins s σ H E I hf st hg
  subst hP hw hK
  obtain ⟨xs,x,hq,hx⟩:=hg
  obtain ⟨its,rv,p,hz⟩:=I.list hq
  obtain ⟨u,hu,ru⟩:=rv.get hx
  obtain ⟨f0,f1,f2,f3,f4,f5⟩:=hf it (by simp)
  refine wpAny_pyNext_list_item st p.isList (x:=u) (by simpa using hu) fun h' st' sb=>?_
  have I1:Inv X pins σ H { s with heap:=h' }:=I.turned (t':=s.toks) (fun b o hb e=>(sb.2 b hb).trans e) f0 f1 f3 f4 f5
  obtain ⟨o,e,c,d⟩:=id st'
  exact ⟨u,rfl,go_of (s:={ s with heap:=h' }) e c d (by decide) ⟨x,H,I1,ru,⟨rfl,fun ys hy=>by rw [I.list_inj hy hq];exact hx⟩,st',fun b hb=>(hf b hb).1⟩⟩
 done:=by
  intro X hP hw hK hc i pins s σ H E I hf st hg
  subst hP hw hK
  obtain ⟨xs,hq,hx⟩:=hg
  obtain ⟨its,rv,p,hz⟩:=I.list hq
  obtain ⟨f0,f1,f2,f3,f4,f5⟩:=hf it (by simp)
  have hl:=rv.length
  exact wpAny_pyNext_list_end (I.ok.hd hc) st p.isList (by simp;exact zd5 ‹_› ‹_›) fun h' eb=>⟨rfl,I.turned (t':=s.toks) (fun b o hb e=>eb b o hb e) f0 f1 f3 f4 f5⟩
 self:=fun _ _ _ _ _ st h=>wpAny_pyIter_listiter st h
theorem turn_tuple {P:Program} {w:World} {K:PySem.W.Frag} {tg:Expr} (a it:Addr):Turn P w K tg (Itt K a) [it] it (fun i h=>h.IsTupleIter it a i) where
 mem:=by simp
 obj:=fun i h st b hb=>by
  have e:b=it:=by simpa using hb
  subst e
  obtain ⟨o,e,c,d⟩:=st
  exact ⟨o,e,fun v z=>by rw [d] at z;cases z⟩
 keep:=fun i h h' st k=>st.at fun o e=>k it (by simp) o e
 item:=by
  intro X hP hw hK hc i pins s σ H E I hf st hg
  subst hP hw hK
  obtain ⟨xs,x,hq,hx⟩:=hg
  obtain ⟨its,rv,p,hz⟩:=I.tuple hq
  obtain ⟨u,hu,ru⟩:=rv.get hx
  obtain ⟨f0,f1,f2,f3,f4,f5⟩:=hf it (by simp)
  refine wpAny_pyNext_tuple_item st (show s.heap.IsTuple a its.toArray from p) (x:=u) (by simpa using hu) fun h' st' sb=>?_
  have I1:Inv X pins σ H { s with heap:=h' }:=I.turned (t':=s.toks) (fun b o hb e=>(sb.2 b hb).trans e) f0 f1 f3 f4 f5
  obtain ⟨o,e,c,d⟩:=id st'
  exact ⟨u,rfl,go_of (s:={ s with heap:=h' }) e c d (by decide) ⟨x,H,I1,ru,⟨rfl,fun ys hy=>by rw [I.tuple_inj hy hq];exact hx⟩,st',fun b hb=>(hf b hb).1⟩⟩
 done:=by
  intro X hP hw hK hc i pins s σ H E I hf st hg
  subst hP hw hK
  obtain ⟨xs,hq,hx⟩:=hg
  obtain ⟨its,rv,p,hz⟩:=I.tuple hq
  obtain ⟨f0,f1,f2,f3,f4,f5⟩:=hf it (by simp)
  have hl:=rv.length
  exact wpAny_pyNext_tuple_end (I.ok.hd hc) st (show s.heap.IsTuple a its.toArray from p) (by simp;exact zd5 ‹_› ‹_›) fun h' eb=>⟨rfl,I.turned (t':=s.toks) (fun b o hb e=>eb b o hb e) f0 f1 f3 f4 f5⟩
 self:=fun _ _ _ _ _ st h=>wpAny_pyIter_tupleiter st h
theorem turn_range {P:Program} {w:World} {K:PySem.W.Frag} {tg:Expr} (it:Addr) (lo:Int) (n:Nat):Turn P w K tg (Itr lo n) [it] it (fun i h=>IsRangeIter h it (lo+(i:Nat)*1) ((n:Int) - (i:Nat)) 1) where
 mem:=by simp
 obj:=fun i h st b hb=>by
  have e:b=it:=by simpa using hb
  subst e
  exact ⟨_,st,fun v z=>by
   have z':Data.fields _=Data.cell v:=z
   cases z'⟩
 keep:=fun i h h' st k=>k it (by simp) _ st
 item:=by
  intro X hP hw hK hc i pins s σ H E I hf st hg
  subst hP hw hK
  obtain ⟨f0,f1,f2,f3,f4,f5⟩:=hf it (by simp)
  have W:=Walks.range (prog:=X.prog) (w:=X.w) (I.ok.hd hc) it lo 1 n
  refine W.item i s _ _ hg st fun v h' tk hv st' kk=>?_
  obtain ⟨t,rfl⟩:=hv
  have I1:Inv X pins σ H { s with heap:=h',toks:=tk }:=I.turned (fun b o hb e=>kk b o (by simpa using hb) e) f0 f1 f3 f4 f5
  refine ⟨_,rfl,go_of (s:={ s with heap:=h',toks:=tk }) (n := "range_iterator") st' rfl rfl (by decide) ⟨.int (lo+i),H,I1,⟨t,?_⟩,⟨rfl,rfl⟩,st',fun b hb=>(hf b hb).1⟩⟩
  rw [Int.mul_one]
 done:=by
  intro X hP hw hK hc i pins s σ H E I hf st hg
  subst hP hw hK
  obtain ⟨f0,f1,f2,f3,f4,f5⟩:=hf it (by simp)
  exact wpAny_pyNext_range_end (I.ok.hd hc) st (by have:n≤i:=hg;lia) fun h' eb=>⟨rfl,I.turned (t':=s.toks) (fun b o hb e=>eb b o hb e) f0 f1 f3 f4 f5⟩
 self:=fun _ _ _ _ _ st h=>wpAny_pyIter_rangeiter st h
end L2
namespace L2
open PySem PySem.Spec PyProof.Rows
section
variable {X:Cx} {tg:Expr}
inductive RI1 (x:V) (S R:Addr→Prop):Prop
 | mk (a:Addr) (e:x=.ref a) (s:S a) (q:R a):RI1 x S R
def iList (K:PySem.W.Frag) (tl:TE):TI:=fun σ H R=>tl σ H fun x H1=>RI1 x (fun a=>∃ xs,SqL K H1 a xs) fun a=>R (Itl K a) H1
def iTup (K:PySem.W.Frag) (tl:TE):TI:=fun σ H R=>tl σ H fun x H1=>RI1 x (fun a=>∃ xs,SqT K H1 a xs) fun a=>R (Itt K a) H1
theorem zaw {l:Expr} {tl:TE} (hl:PE X l tl):PI X tg l (iList X.K tl):=by
 intro pins s σ H R I h
 refine thn (hl pins s σ H _ I h) fun v s1 ⟨x,H1,I1,r1,q1⟩=>?_
 obtain ⟨a,e,⟨xs,hq⟩,q⟩:=q1
 subst e
 cases r1
 obtain ⟨its,rv,p,hz⟩:=I1.list hq
 refine wpAny_pyIter_list p.isList ?_
 refine ⟨s1.heap.objs.size,[s1.heap.objs.size],_,_,H1,rfl,I1.kept (t':=s1.toks) fun b o e=>Qj _ e,turn_list a _,⟨_,Zc _ rfl,rfl,rfl⟩,fun b hb=>?_,q⟩
 have e:b=s1.heap.objs.size:=by simpa using hb
 subst e
 exact I1.fpOk (Qh _) (I1.hok.fresh (Qh _))
theorem pi_tup {l:Expr} {tl:TE} (hl:PE X l tl):PI X tg l (iTup X.K tl):=by
 intro pins s σ H R I h
 refine thn (hl pins s σ H _ I h) fun v s1 ⟨x,H1,I1,r1,q1⟩=>?_
 obtain ⟨a,e,⟨xs,hq⟩,q⟩:=q1
 subst e
 cases r1
 obtain ⟨its,rv,p,hz⟩:=I1.tuple hq
 refine wpAny_pyIter_tuple (show s1.heap.IsTuple a its.toArray from p) ?_
 refine ⟨s1.heap.objs.size,[s1.heap.objs.size],_,_,H1,rfl,I1.kept (t':=s1.toks) fun b o e=>Qj _ e,turn_tuple a _,⟨_,Zc _ rfl,rfl,rfl⟩,fun b hb=>?_,q⟩
 have e:b=s1.heap.objs.size:=by simpa using hb
 subst e
 exact I1.fpOk (Qh _) (I1.hok.fresh (Qh _))
theorem range_it {pins:List (Addr×Obj)} {σ:St} {H:Hp} {s:Shared} {R:It→Hp→Prop} {E:Value→Shared→Prop} {lo hi:Int} {t u v:Tok} {tk:Nat} (I:Inv X pins σ H s) (h1:-(2 ^ 62)≤lo) (h2:lo < 2 ^ 62) (h3:-(2 ^ 62)≤hi) (h4:hi < 2 ^ 62)
  (q:R (Itr lo (hi - lo).toNat) H):wpAny (model X.prog X.w) X.A (pyIter (.ref s.heap.objs.size)) (PIE X pins σ tg R) E { s with heap:=s.heap.push { cls:=.type "range",data:=.fields #[.int lo t,.int hi u,.int 1 v] },toks:=tk }:=by
 refine wpAny_pyIter_range (IsRange.new ..) (small_one h1 h2 h3 h4) ?_
 have I1:Inv X pins σ H { s with heap:=s.heap.push { cls:=.type "range",data:=.fields #[.int lo t,.int hi u,.int 1 v] },toks:=tk }:=I.kept fun b o e=>Qj _ e
 refine ⟨(s.heap.push { cls:=.type "range",data:=.fields #[.int lo t,.int hi u,.int 1 v] }).objs.size,[(s.heap.push { cls:=.type "range",data:=.fields #[.int lo t,.int hi u,.int 1 v] }).objs.size],_,_,H,rfl,
  I1.kept (t':=tk) fun b o e=>Qj _ e,turn_range _ lo (hi - lo).toNat,?_,fun b hb=>?_,q⟩
 ·have e1:lo+((0:Nat):Int)*1=lo:=by simp
  have e2:(((hi - lo).toNat:Nat):Int) - ((0:Nat):Int)=Builtin.Range.rangeSize lo hi 1:=by rw [rangeSize_one];split <;> lia
  show IsRangeIter _ _ (lo+((0:Nat):Int)*1) ((((hi - lo).toNat:Nat):Int) - ((0:Nat):Int)) 1
  rw [e1,e2]
  exact Zc _ rfl
 ·have e:b=(s.heap.push { cls:=.type "range",data:=.fields #[.int lo t,.int hi u,.int 1 v] }).objs.size:=by simpa using hb
  subst e
  exact I1.fpOk (Qh _) (I1.hok.fresh (Qh _))
inductive RR1 (vs:List V) (R:Int→Prop):Prop
 | mk (j:Int) (e:vs=[.int j]) (l:-(2 ^ 62)≤j) (u:j < 2 ^ 62) (q:R j):RR1 vs R
def iRng1 (ta:TA):TI:=fun σ H R=>ta σ H fun vs H1=>RR1 vs fun j=>R (Itr 0 j.toNat) H1
theorem zbs {a:Expr} {ta:TA} {p pos:Pos} (hg:Gl X "range") (hm:X.mg "range" = none) (ha:PA X [a] ta) (hs:starEach [a] X.env=[(false,eval a X.env)]:=by rfl):PI X tg (.Call (.Name "range" p) [a] [] pos) (iRng1 ta):=by
 intro pins s σ H R I h
 refine Call_ (ld_blt I hg hm boot_range (Jy (thn (ha pos pins s σ H _ I h) fun us s1 ⟨vs,H1,I1,r1,q1⟩=>?_) hs rfl))
 obtain ⟨j,e,q1,q2,q⟩:=q1
 subst e
 cases r1 with
 | cons r rr =>
  cases rr
  obtain ⟨t,rfl⟩:=r
  exact call_range_1 (range_it I1 (by lia) (by lia) q1 q2 (by simpa using q))
def tFor (wi:TI) (g:TG) (tb:TS):TS:=fun D σ H=>wi σ H fun J H1=>∃ W:Nat→Nat→St→Hp→Prop,(∃ m,W 0 m σ H1)∧∀ i m σ H,W i m σ H →
 (J.stop i H∧D.nx σ H)∨(J.go i H∧∃ N:St→Hp→Prop,(∀ σ' H',N σ' H'→∃ m',m' < m∧W (i+1) m' σ' H')∧∀ x H',J.yld i H x H'→g x σ H' fun σ2 H2=>tb { D with nx:=N,ct:=N,bk:=D.nx } σ2 H2)
def zco (fp:List Addr) (h:Heap):List (Addr×Obj):=fp.filterMap fun b=>(h.get? b).map fun o=>(b,o)
theorem zb1 {fp:List Addr} {h:Heap} {b:Addr} {o:Obj} (hb:b∈fp) (e:h.get? b=some o):(b,o)∈zco fp h:=List.mem_filterMap.mpr ⟨b,hb,by rw [e];rfl⟩
theorem zf1 {fp:List Addr} {h:Heap} {p:Addr×Obj} (hp:p∈zco fp h):p.1∈fp∧h.get? p.1=some p.2:=by
 obtain ⟨b,hb,e⟩:=List.mem_filterMap.mp hp
 cases q:h.get? b with
 | none=>rw [q] at e;cases e
 | some o =>
  rw [q] at e
  have e':(b,o)=p:=Qm e
  subst e'
  exact ⟨hb,q⟩
theorem Inv.pinned {pins:List (Addr×Obj)} {σ:St} {H:Hp} {s:Shared} {fp:List Addr} (I:Inv X pins σ H s) (hf:∀ b∈fp,FpOk X pins H b) (ho:∀ b∈fp,∃ o,s.heap.get? b=some o∧∀ v,o.data≠.cell v):Inv X (pins++zco fp s.heap) σ H s :=
 I.pins_of fun p hp=>(Ql.mp hp).elim (fun z=>I.pin p (Qs _ z)) fun z=>by
  obtain ⟨hb,e⟩:=zf1 z
  obtain ⟨f0,f1,f2,_⟩:=hf p.1 hb
  obtain ⟨o,e',d⟩:=ho p.1 hb
  rw [e] at e';cases e'
  exact ⟨e,f0,f1,f2,d⟩
theorem Inv.unpinned {pins pl:List (Addr×Obj)} {σ:St} {H:Hp} {s:Shared} (I:Inv X (pins++pl) σ H s):Inv X pins σ H s:=I.pins_of fun p hp=>I.pin p (Qs _ (Qu _ hp))
theorem zbe {iter:Expr} {body:List Stmt} {wi:TI} {g:TG} {tb:TS} {pos:Pos} (hp:PassesOwn (model X.prog X.w) X.A X.env X.xe) (hc:X.calm=true) (hi:PI X tg iter wi) (hg:PG X tg g) (hb:PSs X body tb)
  (hs:∀ x,foldedSetIterable iter X.env x=pure x:=by intro _;rfl):PS X (.For tg iter body [] pos) (tFor wi g tb):=by
 intro pins s σ H D I h
 refine wpAny_For (thn (hi pins s σ H _ I h) fun v s1 h1=>thn h1 fun itv s2 h2=>?_) hs
 obtain ⟨it,fp,tn,J,H2,e,I2,T,st2,f2,W,⟨m0,w0⟩,turn⟩:=h2
 subst e
 have stat:∀ {H':Hp},(∀ b∈fp,H' b=none)→∀ b∈fp,FpOk X pins H' b:=fun hn b hb=>⟨hn b hb,(f2 b hb).2⟩
 refine codeAny_forLoop_any (fun n s'=>Ex3 fun i σ' H'=>Aj4 (Inv X pins σ' H' s') (tn i s'.heap) (∀ b∈fp,H' b=none) (W i n σ' H')) ?_ m0 ⟨0,σ,H2,I2,st2,fun b hb=>(f2 b hb).1,w0⟩
 rintro n s3 ⟨i,σ3,H3,I3,st3,fr3,w3⟩
 rcases turn i n σ3 H3 w3 with ⟨stop,qn⟩ | ⟨go,N,hN,step⟩
 ·refine wpAny_passesOwn hp (thn (T.done X rfl rfl rfl hc i pins s3 σ3 H3 X.xe I3 (stat fr3) st3 stop) fun r s4 ⟨hr,I4⟩=>?_)
  subst hr
  exact wpAny_execs_nil ⟨σ3,H3,I4,qn⟩
 ·refine wpAny_passesOwn hp (thn (T.item X rfl rfl rfl hc i pins s3 σ3 H3 X.xe I3 (stat fr3) st3 go) fun r s4 ⟨u,hr,h4⟩=>?_)
  subst hr
  refine wpAny_passesOwn hp (thn h4 fun _ s5 ⟨x,H5,I5,r5,y5,st5,fr5⟩=>?_)
  have I5':=I5.pinned (stat fr5) (T.obj _ _ st5)
  refine wpAny_passesOwn hp (thn (hg _ s5 σ3 H5 x u _ I5' r5 (step x H5 y5)) fun _ s6 ⟨σ6,H6,I6,q6⟩=>?_)
  refine wpAny_passesOwn hp (thn (hb _ s6 σ6 H6 _ I6 q6) fun f s7 q7=>?_)
  have again:∀ {σ7:St} {H7:Hp},Inv X (pins++zco fp s5.heap) σ7 H7 s7→N σ7 H7→∃ m,m < n∧Ex3 fun i σ' H'=>Aj4 (Inv X pins σ' H' s7) (tn i s7.heap) (∀ b∈fp,H' b=none) (W i m σ' H'):=fun {σ7 H7} I7 n7=>by
   obtain ⟨m',hm,w7⟩:=hN σ7 H7 n7
   refine ⟨m',hm,i+1,σ7,H7,I7.unpinned,T.keep _ _ _ st5 fun b hb o e=>(I7.pin (b,o) (Qs _ (Qs _ (zb1 hb e)))).1,fun b hb=>?_,w7⟩
   obtain ⟨o,e,d⟩:=T.obj _ _ st5 b hb
   exact (I7.pin (b,o) (Qs _ (Qs _ (zb1 hb e)))).2.1
  cases f with
  | next=>obtain ⟨σ7,H7,I7,n7⟩:=q7;exact again I7 n7
  | cont=>obtain ⟨σ7,H7,I7,n7⟩:=q7;exact again I7 n7
  | brk=>obtain ⟨σ7,H7,I7,q7⟩:=q7;exact ⟨σ7,H7,I7.unpinned,q7⟩
  | ret v=>obtain ⟨x7,σ7,H7,I7,r7,q7⟩:=q7;exact ⟨x7,σ7,H7,I7.unpinned,r7,q7⟩
end
theorem zbm {K:PySem.W.Frag} {a:Addr} {xs:List V} {g:TG} {tb:TS} {D:Ends} {σ:St} {H:Hp} (Pv:Nat→St→Hp→Prop) (h0:Pv 0 σ H) (hl:∀ i σ H,i≤xs.length→Pv i σ H→SqL K H a xs)
  (hs:∀ i x σ H,xs[i]?=some x→Pv i σ H→g x σ H fun σ2 H2=>tb { D with nx:=Pv (i+1),ct:=Pv (i+1),bk:=D.nx } σ2 H2) (hd:∀ σ H,Pv xs.length σ H→D.nx σ H) :
  ∃ W:Nat→Nat→St→Hp→Prop,(∃ m,W 0 m σ H)∧∀ i m σ H,W i m σ H →
   ((Itl K a).stop i H∧D.nx σ H)∨((Itl K a).go i H∧∃ N:St→Hp→Prop,(∀ σ' H',N σ' H'→∃ m',m' < m∧W (i+1) m' σ' H')∧∀ x H',(Itl K a).yld i H x H'→g x σ H' fun σ2 H2=>tb { D with nx:=N,ct:=N,bk:=D.nx } σ2 H2):=by
 refine ⟨fun i m σ H=>m=xs.length - i∧i≤xs.length∧Pv i σ H,⟨xs.length,by simp,Zd _,h0⟩,?_⟩
 rintro i m σ H ⟨rfl,hi,p⟩
 have q:=hl i σ H hi p
 by_cases hlt:i < xs.length
 ·refine .inr ⟨⟨xs,xs[i],q,by simp [hlt]⟩,Pv (i+1),fun σ' H' p'=>⟨xs.length - (i+1),by exact zar1 ‹_›,rfl,hlt,p'⟩,fun x H' y=>?_⟩
  obtain ⟨e,y⟩:=y
  subst e
  exact hs i x σ _ (y xs q) p
 ·have e:i=xs.length:=by exact zar3 ‹_› ‹_›
  subst e
  exact .inl ⟨⟨xs,q,Qh _⟩,hd σ H p⟩
theorem for_tup {K:PySem.W.Frag} {a:Addr} {xs:List V} {g:TG} {tb:TS} {D:Ends} {σ:St} {H:Hp} (Pv:Nat→St→Hp→Prop) (h0:Pv 0 σ H) (hl:∀ i σ H,i≤xs.length→Pv i σ H→SqT K H a xs)
  (hs:∀ i x σ H,xs[i]?=some x→Pv i σ H→g x σ H fun σ2 H2=>tb { D with nx:=Pv (i+1),ct:=Pv (i+1),bk:=D.nx } σ2 H2) (hd:∀ σ H,Pv xs.length σ H→D.nx σ H) :
  ∃ W:Nat→Nat→St→Hp→Prop,(∃ m,W 0 m σ H)∧∀ i m σ H,W i m σ H →
   ((Itt K a).stop i H∧D.nx σ H)∨((Itt K a).go i H∧∃ N:St→Hp→Prop,(∀ σ' H',N σ' H'→∃ m',m' < m∧W (i+1) m' σ' H')∧∀ x H',(Itt K a).yld i H x H'→g x σ H' fun σ2 H2=>tb { D with nx:=N,ct:=N,bk:=D.nx } σ2 H2):=by
 refine ⟨fun i m σ H=>m=xs.length - i∧i≤xs.length∧Pv i σ H,⟨xs.length,by simp,Zd _,h0⟩,?_⟩
 rintro i m σ H ⟨rfl,hi,p⟩
 have q:=hl i σ H hi p
 by_cases hlt:i < xs.length
 ·refine .inr ⟨⟨xs,xs[i],q,by simp [hlt]⟩,Pv (i+1),fun σ' H' p'=>⟨xs.length - (i+1),by exact zar1 ‹_›,rfl,hlt,p'⟩,fun x H' y=>?_⟩
  obtain ⟨e,y⟩:=y
  subst e
  exact hs i x σ _ (y xs q) p
 ·have e:i=xs.length:=by exact zar3 ‹_› ‹_›
  subst e
  exact .inl ⟨⟨xs,q,Qh _⟩,hd σ H p⟩
theorem zck {lo:Int} {n:Nat} {g:TG} {tb:TS} {D:Ends} {σ:St} {H:Hp} (Pv:Nat→St→Hp→Prop) (h0:Pv 0 σ H)
  (hs:∀ i σ H,i < n→Pv i σ H→g (.int (lo+i)) σ H fun σ2 H2=>tb { D with nx:=Pv (i+1),ct:=Pv (i+1),bk:=D.nx } σ2 H2) (hd:∀ σ H,Pv n σ H→D.nx σ H) :
  ∃ W:Nat→Nat→St→Hp→Prop,(∃ m,W 0 m σ H)∧∀ i m σ H,W i m σ H →
   ((Itr lo n).stop i H∧D.nx σ H)∨((Itr lo n).go i H∧∃ N:St→Hp→Prop,(∀ σ' H',N σ' H'→∃ m',m' < m∧W (i+1) m' σ' H')∧∀ x H',(Itr lo n).yld i H x H'→g x σ H' fun σ2 H2=>tb { D with nx:=N,ct:=N,bk:=D.nx } σ2 H2):=by
 refine ⟨fun i m σ H=>m=n - i∧i≤n∧Pv i σ H,⟨n,by simp,Zd _,h0⟩,?_⟩
 rintro i m σ H ⟨rfl,hi,p⟩
 by_cases hlt:i < n
 ·refine .inr ⟨hlt,Pv (i+1),fun σ' H' p'=>⟨n - (i+1),by exact zar1 ‹_›,rfl,hlt,p'⟩,fun x H' y=>?_⟩
  obtain ⟨e,y⟩:=y
  subst e y
  exact hs i σ _ hlt p
 ·have e:i=n:=by exact zar3 ‹_› ‹_›
  subst e
  exact .inl ⟨Qh _,hd σ H p⟩
end L2
namespace L2
open PySem PySem.Spec PyProof.Rows
abbrev R2:=V→V→Hp→VK→Prop
def OpR (X:Cx) (f:Value→Value→Sem Value) (r:R2):Prop :=
 ∀ (pins:List (Addr×Obj)) (s:Shared) (σ:St) (H:Hp) (x y:V) (v u:Value) (Q:VK),Inv X pins σ H s→RelV x v→RelV y u→r x y H Q →
  wpAny (model X.prog X.w) X.A (f v u) (EP X pins σ Q) X.xe s
def UnR (X:Cx) (f:Value→Sem Value) (r:V→Hp→VK→Prop):Prop :=
 ∀ (pins:List (Addr×Obj)) (s:Shared) (σ:St) (H:Hp) (x:V) (v:Value) (Q:VK),Inv X pins σ H s→RelV x v→r x H Q →
  wpAny (model X.prog X.w) X.A (f v) (EP X pins σ Q) X.xe s
def zca (X:Cx) (f:Value) (r:List V→Hp→VK→Prop):Prop :=
 ∀ (pins:List (Addr×Obj)) (s:Shared) (σ:St) (H:Hp) (xs:List V) (us:List Value) (Q:VK),Inv X pins σ H s→Vals xs us→r xs H Q →
  wpAny (model X.prog X.w) X.A (call f us) (EP X pins σ Q) X.xe s
def TruR (X:Cx) (r:V→Hp→(Bool→Hp→Prop)→Prop):Prop :=
 ∀ (pins:List (Addr×Obj)) (s:Shared) (σ:St) (H:Hp) (x:V) (v:Value) (Q:Bool→Hp→Prop),Inv X pins σ H s→RelV x v→r x H Q →
  wpAny (model X.prog X.w) X.A (truthy v) (TP X pins σ Q) X.xe s
def tOp (r:R2) (ta tb:TE):TE:=fun σ H Q=>ta σ H fun x H1=>tb σ H1 fun y H2=>r x y H2 Q
def tUn (r:V→Hp→VK→Prop) (ta:TE):TE:=fun σ H Q=>ta σ H fun x H1=>r x H1 Q
inductive RrI (C:Int→Int→Prop) (g:Int→Int→V) (x:V) (y:V) (H:Hp) (Q:VK):Prop
 | mk (i:_) (j:_) (h0:x=.int i) (h1:y=.int j) (h2:C i j) (h3:Q (g i j) H):RrI C g x y H Q
def rI (C:Int→Int→Prop) (g:Int→Int→V):R2:=fun x y H Q=>RrI C g x y H Q
inductive RrI0 (g:Int→Int→V) (x:V) (y:V) (H:Hp) (Q:VK):Prop
 | mk (i:_) (j:_) (h0:x=.int i) (h1:y=.int j) (h2:Q (g i j) H):RrI0 g x y H Q
def rI0 (g:Int→Int→V):R2:=fun x y H Q=>RrI0 g x y H Q
def rU (g:Int→V):V→Hp→VK→Prop:=fun x H Q=>∃ i,x=.int i∧Q (g i) H
section
variable {X:Cx} {a b c:Expr} {ta tb tc:TE} {pos:Pos}
theorem binT (ha:PE X a ta) (hb:PE X b tb) {pins:List (Addr×Obj)} {s:Shared} {σ:St} {H:Hp} {R:V→V→Hp→Prop} (I:Inv X pins σ H s)
  (h:ta σ H fun x H1=>tb σ H1 fun y H2=>R x y H2) {Q:Value→Shared→Prop} {f:Value→Value→Sem Value}
  (hf:∀ v u s2 x y H2,Inv X pins σ H2 s2→RelV x v→RelV y u→R x y H2→wpAny (model X.prog X.w) X.A (f v u) Q X.xe s2) :
  wpAny (model X.prog X.w) X.A (eval a X.env) (fun v s₁=>wpAny (model X.prog X.w) X.A (eval b X.env) (fun u s₂=>wpAny (model X.prog X.w) X.A (f v u) Q X.xe s₂) X.xe s₁) X.xe s:=by
 refine thn (ha pins s σ H _ I h) fun v s1 ⟨x,H1,I1,r1,q1⟩=>?_
 refine thn (hb pins s1 σ H1 _ I1 q1) fun u s2 ⟨y,H2,I2,r2,q2⟩=>?_
 exact hf v u s2 x y H2 I2 r1 r2 q2
theorem zaz {op:Operator} {r:R2} (ho:OpR X (binaryOp op) r) (ha:PE X a ta) (hb:PE X b tb):PE X (.BinOp a op b pos) (tOp r ta tb):=by
 intro pins s σ H Q I h
 exact wpAny_BinOp (binT ha hb I h fun v u s2 x y H2 I2 rx ry q=>ho pins s2 σ H2 x y v u Q I2 rx ry q)
theorem pe_un {op:UnaryOp} {r:V→Hp→VK→Prop} (ho:UnR X (unaryOp op) r) (ha:PE X a ta):PE X (.UnaryOp op a pos) (tUn r ta):=by
 intro pins s σ H Q I h
 exact UnaryOp_ (thn (ha pins s σ H _ I h) fun v s1 ⟨x,H1,I1,r1,q1⟩=>ho pins s1 σ H1 x v Q I1 r1 q1)
theorem opI {f:Value→Value→Sem Value} {C:Int→Int→Prop} {g:Int→Int→Int}
  (rule:∀ (i j:Int) (t u:Tok) (s:Shared) (Q:Value→Shared→Prop) (E:Value→Shared→Prop),C i j→Q (.int (g i j) s.toks) { s with toks:=s.toks+1 }→wpAny (model X.prog X.w) X.A (f (.int i t) (.int j u)) Q E s) :
  OpR X f (rI C fun i j=>.int (g i j)):=by
 intro pins s σ H x y v u Q I rx ry h
 obtain ⟨i,j,rfl,rfl,hc,q⟩:=h
 obtain ⟨t,rfl⟩:=rx
 obtain ⟨t',rfl⟩:=ry
 exact rule i j t t' s _ _ hc ⟨.int (g i j),H,I.tok _,⟨_,rfl⟩,q⟩
theorem opI0 {f:Value→Value→Sem Value} {g:Int→Int→Int}
  (rule:∀ (i j:Int) (t u:Tok) (s:Shared) (Q:Value→Shared→Prop) (E:Value→Shared→Prop),Q (.int (g i j) s.toks) { s with toks:=s.toks+1 }→wpAny (model X.prog X.w) X.A (f (.int i t) (.int j u)) Q E s) :
  OpR X f (rI0 fun i j=>.int (g i j)):=by
 intro pins s σ H x y v u Q I rx ry h
 obtain ⟨i,j,rfl,rfl,q⟩:=h
 obtain ⟨t,rfl⟩:=rx
 obtain ⟨t',rfl⟩:=ry
 exact rule i j t t' s _ _ ⟨.int (g i j),H,I.tok _,⟨_,rfl⟩,q⟩
theorem opB0 {f:Value→Value→Sem Value} {g:Int→Int→Bool}
  (rule:∀ (i j:Int) (t u:Tok) (s:Shared) (Q:Value→Shared→Prop) (E:Value→Shared→Prop),Q (.bool (g i j)) s→wpAny (model X.prog X.w) X.A (f (.int i t) (.int j u)) Q E s) :
  OpR X f (rI0 fun i j=>.bl (g i j)):=by
 intro pins s σ H x y v u Q I rx ry h
 obtain ⟨i,j,rfl,rfl,q⟩:=h
 obtain ⟨t,rfl⟩:=rx
 obtain ⟨t',rfl⟩:=ry
 exact rule i j t t' s _ _ ⟨.bl (g i j),H,I,rfl,q⟩
def CDiv (i j:Int):Prop:=0 < j∧j < 1073741824
def CPow (i j:Int):Prop:=0≤j∧j≤1000000∧i.natAbs < 2 ^ 64
def CMul (i j:Int):Prop:=(-(2 ^ 64) < i∧i < 2 ^ 64)∨(-(2 ^ 64) < j∧j < 2 ^ 64)
theorem CMul.ok {i j:Int} (h:CMul i j):IntMulOk i j:=by
 rcases h with ⟨h1,h2⟩ | ⟨h1,h2⟩
 ·exact .of_left (intBits_le_64 h1 h2)
 ·exact .of_right (intBits_le_64 h1 h2)
theorem zbl:OpR X (binaryOp .Add) (rI0 fun i j=>.int (i+j)):=opI0 fun _ _ _ _ _ _ _ q=>add_int q
theorem op_sub:OpR X (binaryOp .Sub) (rI0 fun i j=>.int (i - j)):=opI0 fun _ _ _ _ _ _ _ q=>sub_int q
theorem op_mul:OpR X (binaryOp .Mult) (rI CMul fun i j=>.int (i*j)):=opI fun _ _ _ _ _ _ _ hc q=>mul_int q hc.ok
theorem op_fdiv:OpR X (binaryOp .FloorDiv) (rI CDiv fun i j=>.int (i / j)):=opI fun i j _ _ _ _ _ hc q=>by
 have h1:(0:Int) < j:=hc.1
 have h2:j < 1073741824:=hc.2
 exact floordiv_int (by lia) (by rw [Int.fdiv_eq_ediv_of_nonneg i (by lia)];exact q) (.inl (PyProof.noPylong_small (by lia)))
theorem zc7:OpR X (binaryOp .Mod) (rI (fun _ j=>0 < j) fun i j=>.int (i % j)):=opI fun i j _ _ _ _ _ hc q=>by
 have h1:(0:Int) < j:=hc
 exact mod_int' (by lia) (by rw [Int.fmod_eq_emod_of_nonneg i (by lia)];exact q)
theorem op_pow:OpR X (binaryOp .Pow) (rI CPow fun i j=>.int (i ^ j.toNat)):=opI fun _ _ _ _ _ _ _ hc q=>pow_int_small hc.1 hc.2.1 hc.2.2 q
theorem unI {f:Value→Sem Value} {g:Int→Int}
  (rule:∀ (i:Int) (t:Tok) (s:Shared) (Q:Value→Shared→Prop) (E:Value→Shared→Prop),Q (.int (g i) s.toks) { s with toks:=s.toks+1 }→wpAny (model X.prog X.w) X.A (f (.int i t)) Q E s) :
  UnR X f (rU fun i=>.int (g i)):=by
 intro pins s σ H x v Q I rx h
 obtain ⟨i,rfl,q⟩:=h
 obtain ⟨t,rfl⟩:=rx
 exact rule i t s _ _ ⟨.int (g i),H,I.tok _,⟨_,rfl⟩,q⟩
theorem un_neg:UnR X (unaryOp .USub) (rU fun i=>.int (-i)):=unI fun _ _ _ _ _ q=>neg_int q
end
def scal:V→V→Bool
 | .non,.non=>true | .non,.int _=>true | .int _,.non=>true | .non,.bl _=>true | .bl _,.non=>true | .non,.str _=>true | .str _,.non=>true
 | .int _,.int _=>true | .bl _,.bl _=>true | .str _,.str _=>true | .byt _,.byt _=>true
 | .int _,.str _=>true | .str _,.int _=>true | .bl _,.str _=>true | .str _,.bl _=>true
 | _,_=>false
def rEq:R2:=fun x y H Q=>scal x y=true∧Q (.bl (decide (x=y))) H
def rNe:R2:=fun x y H Q=>scal x y=true∧Q (.bl (!decide (x=y))) H
theorem dec_int {i j:Int}:decide (V.int i=V.int j)=(i == j):=by
 rw [Zv]
 simp
theorem dec_bl {i j:Bool}:decide (V.bl i=V.bl j)=(i == j):=by
 rw [Zv]
 simp
theorem dec_str {i j:Str}:decide (V.str i=V.str j)=(i == j):=by
 rw [Zv]
 simp
theorem dec_byt {i j:Array UInt8}:decide (V.byt i=V.byt j)=(i.toList == j.toList):=by
 rw [Zv]
 cases i
 cases j
 simp
section
variable {X:Cx} {a b c:Expr} {ta tb tc:TE} {pos:Pos}
theorem za5 {pins:List (Addr×Obj)} {σ:St} {H:Hp} {s:Shared} {Q:VK} {k k':Bool} (I:Inv X pins σ H s) (q:Q (.bl k) H) (e:k=k'):EP X pins σ Q (.bool k') s:=by
 subst e
 exact ⟨.bl k,H,I,rfl,q⟩
theorem op_eq:OpR X (compareOp .Eq) rEq:=by
 intro pins s σ H x y v u Q I rx ry h
 obtain ⟨hs,q⟩:=h
 cases x with
 | non =>
  cases rx
  cases y with
  | non=>cases ry;exact PySem.EqNone.eq_none_none (za5 I q (by simp))
  | bl j=>cases ry;exact PySem.EqNone.eq_none_bool (za5 I q (by simp))
  | int j=>obtain ⟨t',rfl⟩:=ry;exact PySem.EqNone.eq_none_int (za5 I q (by simp))
  | str j=>obtain ⟨t',rfl⟩:=ry;exact PySem.EqNone.eq_none_str (za5 I q (by simp))
  | _=>exact absurd (show false=true from hs) Zb
 | bl i =>
  cases rx
  cases y with
  | non=>cases ry;exact PySem.EqNone.eq_bool_none (za5 I q (by simp))
  | bl j=>cases ry;exact eq_bool (za5 I q dec_bl)
  | str j=>obtain ⟨t',rfl⟩:=ry;exact PySem.EqMixed.eq_bool_str (za5 I q (by simp))
  | _=>exact absurd (show false=true from hs) Zb
 | int i =>
  obtain ⟨t,rfl⟩:=rx
  cases y with
  | non=>cases ry;exact PySem.EqNone.eq_int_none (za5 I q (by simp))
  | int j=>obtain ⟨t',rfl⟩:=ry;exact eq_int (za5 I q dec_int)
  | str j=>obtain ⟨t',rfl⟩:=ry;exact PySem.EqMixed.eq_int_str (za5 I q (by simp))
  | _=>exact absurd (show false=true from hs) Zb
 | str i =>
  obtain ⟨t,rfl⟩:=rx
  cases y with
  | non=>cases ry;exact PySem.EqNone.eq_str_none (za5 I q (by simp))
  | bl j=>cases ry;exact PySem.EqMixed.eq_str_bool (za5 I q (by simp))
  | int j=>obtain ⟨t',rfl⟩:=ry;exact PySem.EqMixed.eq_str_int (za5 I q (by simp))
  | str j=>obtain ⟨t',rfl⟩:=ry;exact eq_str (za5 I q dec_str)
  | _=>exact absurd (show false=true from hs) Zb
 | byt i =>
  obtain ⟨t,rfl⟩:=rx
  cases y with
  | byt j=>obtain ⟨t',rfl⟩:=ry;exact PySem.W.eq_bytes (za5 I q dec_byt)
  | _=>exact absurd (show false=true from hs) Zb
 | _=>cases y <;> exact absurd (show false=true from hs) Zb
theorem op_ne:OpR X (compareOp .NotEq) rNe:=by
 intro pins s σ H x y v u Q I rx ry h
 obtain ⟨hs,q⟩:=h
 cases x with
 | non =>
  cases rx
  cases y with
  | non=>cases ry;exact PySem.EqNone.ne_none_none (za5 I q (by simp))
  | bl j=>cases ry;exact PySem.EqNone.ne_none_bool (za5 I q (by simp))
  | int j=>obtain ⟨t',rfl⟩:=ry;exact PySem.EqNone.ne_none_int (za5 I q (by simp))
  | str j=>obtain ⟨t',rfl⟩:=ry;exact PySem.EqNone.ne_none_str (za5 I q (by simp))
  | _=>exact absurd (show false=true from hs) Zb
 | bl i =>
  cases rx
  cases y with
  | non=>cases ry;exact PySem.EqNone.ne_bool_none (za5 I q (by simp))
  | bl j=>cases ry;exact ne_bool (za5 I q (congrArg not dec_bl))
  | str j=>obtain ⟨t',rfl⟩:=ry;exact PySem.EqMixed.ne_bool_str (za5 I q (by simp))
  | _=>exact absurd (show false=true from hs) Zb
 | int i =>
  obtain ⟨t,rfl⟩:=rx
  cases y with
  | non=>cases ry;exact PySem.EqNone.ne_int_none (za5 I q (by simp))
  | int j=>obtain ⟨t',rfl⟩:=ry;exact ne_int (za5 I q (congrArg not dec_int))
  | str j=>obtain ⟨t',rfl⟩:=ry;exact PySem.EqMixed.ne_int_str (za5 I q (by simp))
  | _=>exact absurd (show false=true from hs) Zb
 | str i =>
  obtain ⟨t,rfl⟩:=rx
  cases y with
  | non=>cases ry;exact PySem.EqNone.ne_str_none (za5 I q (by simp))
  | bl j=>cases ry;exact PySem.EqMixed.ne_str_bool (za5 I q (by simp))
  | int j=>obtain ⟨t',rfl⟩:=ry;exact PySem.EqMixed.ne_str_int (za5 I q (by simp))
  | str j=>obtain ⟨t',rfl⟩:=ry;exact ne_str (za5 I q (congrArg not dec_str))
  | _=>exact absurd (show false=true from hs) Zb
 | byt i =>
  obtain ⟨t,rfl⟩:=rx
  cases y with
  | byt j=>obtain ⟨t',rfl⟩:=ry;exact PySem.W.ne_bytes (za5 I q (congrArg not dec_byt))
  | _=>exact absurd (show false=true from hs) Zb
 | _=>cases y <;> exact absurd (show false=true from hs) Zb
theorem op_lt:OpR X (compareOp .Lt) (rI0 fun i j=>.bl (decide (i < j))):=opB0 fun _ _ _ _ _ _ _ q=>lt_int q
theorem op_le:OpR X (compareOp .LtE) (rI0 fun i j=>.bl (decide (i≤j))):=opB0 fun _ _ _ _ _ _ _ q=>le_int q
theorem op_gt:OpR X (compareOp .Gt) (rI0 fun i j=>.bl (decide (j < i))):=opB0 fun _ _ _ _ _ _ _ q=>gt_int q
theorem zb0 (b:Expr) {op:CmpOp} (h:op≠.In:=by decide) (h2:op≠.NotIn:=by decide):behindInMarks op b=false:=by
 have e1:(op == CmpOp.In)=false:=by cases op <;> first | rfl | exact absurd rfl h
 have e2:(op == CmpOp.NotIn)=false:=by cases op <;> first | rfl | exact absurd rfl h2
 cases b <;> simp [behindInMarks,e1,e2]
theorem pe_cmpR {op:CmpOp} {r:R2} (ho:OpR X (compareOp op) r) (ha:PE X a ta) (hb:PE X b tb) (hm:behindInMarks op b=false):PE X (.Compare a [op] [b] pos) (tOp r ta tb):=by
 intro pins s σ H Q I h
 exact wpAny_Compare1 (binT ha hb I h fun v u s2 x y H2 I2 rx ry q=>ho pins s2 σ H2 x y v u Q I2 rx ry q) hm
def tTest (t:TE):TT:=fun σ H Q=>t σ H fun x H'=>RB x H' Q
theorem zay {op:CmpOp} {r:R2} (ho:OpR X (compareOp op) r) (ha:PE X a ta) (hb:PE X b tb) (hm:behindInMarks op b=false):PT X (.Compare a [op] [b] pos) (tTest (tOp r ta tb)):=by
 intro pins s σ H Q I h
 refine wpAny_isTrue_Compare1 (thn (ha pins s σ H _ I h) fun v s1 ⟨x,H1,I1,r1,q1⟩=>thn (hb pins s1 σ H1 _ I1 q1) fun u s2 ⟨y,H2,I2,r2,q2⟩ =>
  thn (ho pins s2 σ H2 x y v u _ I2 r1 r2 q2) fun c s3 ⟨z,H3,I3,r3,k,e,q3⟩=>?_) hm
 subst e
 cases r3
 exact wpAny_truthy_bool ⟨H3,I3,q3⟩
def tChain (r r':R2) (ta tb tc:TE):TE:=fun σ H Q=>ta σ H fun x H1=>tb σ H1 fun y H2=>r x y H2 fun z H3=>RB z H3 fun k H3 =>
 (if k=true then tc σ H3 fun w' H4=>r' y w' H4 Q else Q (.bl false) H3)
theorem zhl {op op':CmpOp} {r r':R2} (ho:OpR X (compareOp op) r) (ho':OpR X (compareOp op') r') (ha:PE X a ta) (hb:PE X b tb) (hc:PE X c tc)
  (hm:lastMarks [op,op'] [b,c]=false:=by with_unfolding_all rfl):PE X (.Compare a [op,op'] [b,c] pos) (tChain r r' ta tb tc):=by
 intro pins s σ H Q I h
 refine Compare_chain (thn (ha pins s σ H _ I h) fun v s1 ⟨x,H1,I1,r1,q1⟩=>chain_link (thn (hb pins s1 σ H1 _ I1 q1) fun u s2 ⟨y,H2,I2,r2,q2⟩ =>
  thn (ho pins s2 σ H2 x y v u _ I2 r1 r2 q2) fun d s3 ⟨z,H3,I3,r3,k,e,q3⟩=>?_)) hm
 subst e
 cases r3
 refine wpAny_truthy_bool ?_
 cases k with
 | false=>exact ite_ff ⟨.bl false,H3,I3,rfl,q3⟩
 | true=>exact ite_tt (chain_last (thn (hc pins s3 σ H3 _ I3 q3) fun w' s4 ⟨z',H4,I4,r4,q4⟩=>ho' pins s4 σ H4 y z' u w' Q I4 r2 r4 q4))
def TruV (K:PySem.W.Frag) (x:V) (H:Hp) (k:Bool):Prop :=
 match x with
 | .non=>k=false
 | .bl b=>k=b
 | .int i=>k=(i != 0)
 | .str y=>y.length≤sizeLine∧k=((y.length:Int) != 0)
 | .byt y=>y.size≤sizeLine∧k=((y.size:Int) != 0)
 | .ref p=>(∃ xs,SqL K H p xs∧k=!xs.isEmpty)∨(∃ xs,SqT K H p xs∧k=!xs.isEmpty)∨∃ kvs,H p=some (.dK kvs)∧k=!kvs.isEmpty
 | _=>False
theorem isEmpty_kv {κ:Type} {kvs:List (κ×V)} {vs:List (κ×Value)} (r:KV kvs vs):(!vs.isEmpty)=!kvs.isEmpty:=by
 cases r <;> rfl
theorem zg4 {xs:List V} {its:List Value} (r:Vals xs its):(!its.toArray.isEmpty)=!xs.isEmpty:=by
 cases r <;> simp
theorem zeh:(sizeLine:Nat) < 2 ^ 63:=by rw [sizeLine_eq];decide
inductive RTr (K:PySem.W.Frag) (x:V) (H:Hp) (Q:Bool→Hp→Prop):Prop
 | mk (k:Bool) (t:TruV K x H k) (q:Q k H):RTr K x H Q
theorem tru_ok:TruR X (fun x H Q=>RTr X.K x H Q):=by
 intro pins s σ H x v Q I rx h
 obtain ⟨k,e,q⟩:=h
 have hl:=zeh
 have hs:sizeLine=16777216:=sizeLine_eq
 cases x with
 | non =>
  cases rx
  have e':k=false:=e
  subst e'
  exact truthy_none ⟨H,I,q⟩
 | bl b =>
  cases rx
  have e':k=b:=e
  subst e'
  exact wpAny_truthy_bool ⟨H,I,q⟩
 | int i =>
  obtain ⟨t,rfl⟩:=rx
  have e':k=(i != 0):=e
  subst e'
  exact PySem.P.truthy_int ⟨H,I,q⟩
 | str y =>
  obtain ⟨t,rfl⟩:=rx
  obtain ⟨hy,e'⟩:y.length≤sizeLine∧k=((y.length:Int) != 0):=e
  subst e'
  exact PySem.P.truthy_str (by lia) ⟨H,I.tok _,q⟩
 | byt y =>
  obtain ⟨t,rfl⟩:=rx
  obtain ⟨hy,e'⟩:y.size≤sizeLine∧k=((y.size:Int) != 0):=e
  subst e'
  exact PySem.W.truthy_bytes (by lia) ⟨H,I.tok _,q⟩
 | ref p =>
  cases rx
  have e':(∃ xs,SqL X.K H p xs∧k=!xs.isEmpty)∨(∃ xs,SqT X.K H p xs∧k=!xs.isEmpty)∨∃ kvs,H p=some (.dK kvs)∧k=!kvs.isEmpty:=e
  rcases e' with ⟨xs,hx,e'⟩ | ⟨xs,hx,e'⟩ | ⟨kvs,hx,e'⟩
  ·subst e'
   obtain ⟨its,r,pl,hz⟩:=I.list hx
   have hlen:=r.length
   exact wpAny_truthy_list pl.isList (by simp only [Qv];lia) ⟨H,I.tok _,by rw [zg4 r];exact q⟩
  ·subst e'
   obtain ⟨its,r,pl,hz⟩:=I.tuple hx
   have hlen:=r.length
   exact truthy_tuple pl (by simp only [Qv];lia) ⟨H,I.tok _,by rw [zg4 r];exact q⟩
  ·subst e'
   obtain ⟨hz,hS,vs,r,m⟩:kvs.length≤sizeLine∧(p == sysModules)=false∧∃ vs,KV kvs vs∧s.heap.DictOf (zar X.prog X.w) p vs:=I.hok p _ hx
   have hlen:kvs.length=vs.length:=Ym r
   exact wpAny_truthy_dict hS m (by lia) ⟨H,I.tok _,by rw [isEmpty_kv r];exact q⟩
 | _=>exact (show False from e).elim
theorem zeb (ha:PE X a ta) (he:∀ whole,isTrue a X.env whole=(do let v ← whole;standAt a.pos;holding [v] (truthy v))) :
  PT X a (fun σ H Q=>ta σ H fun x H'=>RTr X.K x H' Q):=by
 intro pins s σ H Q I h
 exact isTrue_plain (thn (ha pins s σ H _ I h) fun v s1 ⟨x,H1,I1,r1,q1⟩=>tru_ok pins s1 σ H1 x v Q I1 r1 q1) (he _)
theorem op_add_str:OpR X (binaryOp .Add) (fun x y H Q=>Ex2 fun i j=>Aj4 (x=.str i) (y=.str j) (i.length+j.length≤sizeLine) (Q (.str (i++j)) H)):=by
 intro pins s σ H x y v u Q I rx ry h
 obtain ⟨i,j,rfl,rfl,hz,q⟩:=h
 obtain ⟨t,rfl⟩:=rx
 obtain ⟨t',rfl⟩:=ry
 exact add_str (fun t' tk=>⟨.str (i++j),H,I.tok _,⟨_,rfl⟩,q⟩) hz
theorem vals1 {x:V} {us:List Value} (r:Vals [x] us):∃ u,us=[u]∧RelV x u:=by
 cases r with
 | cons r1 r2=>cases r2;exact ⟨_,rfl,r1⟩
theorem vals2 {x y:V} {us:List Value} (r:Vals [x,y] us):∃ u w',us=[u,w']∧RelV x u∧RelV y w':=by
 cases r with
 | cons r1 r2 =>
  cases r2 with
  | cons r3 r4=>cases r4;exact ⟨_,_,rfl,r1,r3⟩
theorem call_abs:zca X (.builtin "abs") (fun xs H Q=>Ex1 fun i=>Aj2 (xs=[.int i]) (Q (.int (if i < 0 then -i else i)) H)):=by
 intro pins s σ H xs us Q I r h
 obtain ⟨i,rfl,q⟩:=h
 obtain ⟨u,rfl,t,rfl⟩:=vals1 r
 exact call_abs_int fun u tk=>⟨.int (if i < 0 then -i else i),H,I.tok _,⟨_,rfl⟩,q⟩
theorem call_max2 (hc:X.calm=true):zca X (.builtin "max") (fun xs H Q=>Ex2 fun i j=>Aj2 (xs=[.int i,.int j]) (Q (.int (if j > i then j else i)) H)):=by
 intro pins s σ H xs us Q I r h
 obtain ⟨i,j,rfl,q⟩:=h
 obtain ⟨u,w',rfl,⟨t,rfl⟩,⟨t',rfl⟩⟩:=vals2 r
 refine max_two_ints (I.ok.hd hc) fun h' tk k=>⟨_,H,I.kept k,?_,q⟩
 by_cases hj:j > i
 ·rw [if_pos hj,if_pos hj];exact ⟨_,rfl⟩
 ·rw [if_neg hj,if_neg hj];exact ⟨_,rfl⟩
theorem call_min2 (hc:X.calm=true):zca X (.builtin "min") (fun xs H Q=>Ex2 fun i j=>Aj2 (xs=[.int i,.int j]) (Q (.int (if j < i then j else i)) H)):=by
 intro pins s σ H xs us Q I r h
 obtain ⟨i,j,rfl,q⟩:=h
 obtain ⟨u,w',rfl,⟨t,rfl⟩,⟨t',rfl⟩⟩:=vals2 r
 refine min_two_ints (I.ok.hd hc) fun h' tk k=>⟨_,H,I.kept k,?_,q⟩
 by_cases hj:j < i
 ·rw [if_pos hj,if_pos hj];exact ⟨_,rfl⟩
 ·rw [if_neg hj,if_neg hj];exact ⟨_,rfl⟩
theorem call_divmod:zca X (.builtin "divmod") (fun xs H Q=>Ex2 fun i j=>Aj3 (xs=[.int i,.int j]) (CDiv i j) (∀ p,H p=none→Q (.ref p) (upd H p (.tup [.int (i / j),.int (i % j)])))):=by
 intro pins s σ H xs us Q I r h
 obtain ⟨i,j,rfl,⟨h1,h2⟩,q⟩:=h
 obtain ⟨u,w',rfl,⟨t,rfl⟩,⟨t',rfl⟩⟩:=vals2 r
 refine divmod_int (by lia) ?_ (.inl (PyProof.noPylong_small (by lia)))
 rw [Int.fdiv_eq_ediv_of_nonneg i (by lia),Int.fmod_eq_emod_of_nonneg i (by lia)]
 have hn:H s.heap.objs.size=none:=I.hok.fresh (Qh _)
 refine ⟨.ref s.heap.objs.size,_,?_,rfl,q _ hn⟩
 refine I.laid (fun b o e=>Qj _ e) (Qh _) ⟨by simp only [Qq,Wx];rw [sizeLine_eq];decide,[.int (i / j) s.toks,.int (i % j) (s.toks+1)],.cons ⟨_,rfl⟩ (.cons ⟨_,rfl⟩ .nil),?_⟩
 exact ⟨_,Zc s.heap rfl,rfl,0,rfl⟩
end
end L2
namespace L2
open PySem PySem.Spec PyProof.Rows
structure ObjM (h:Heap) (x dx C:Addr) (mA:Str→Option Value):Prop where
 obj:h.get? x=some (PySem.W.instObj C dx)
 ns:h.Ns1 dx mA
 ne:dx≠x
theorem lookIn_ns {h:Heap} {dx:Addr} {mA:Str→Option Value} (n:h.Ns1 dx mA):∃ od,h.get? dx=some od∧∀ name,PySem.W.lookIn name od=some (mA name):=by
 obtain ⟨o,es,ep,ho,hd,hk,_,hm⟩:=n
 refine ⟨o,ho,fun name=>?_⟩
 have e:=hm name
 unfold nsFind findBy at e
 rw [← Array.find?_toList] at e
 unfold PySem.W.lookIn
 rw [hd]
 dsimp only
 split
 ·rename_i y q
  rw [q] at e
  exact congrArg some e
 ·rename_i q
  rw [q] at e
  have a:es.toList.any (·.refKey)=false:=by
   rw [List.any_eq_false]
   intro y hy
   obtain ⟨z,t,hkey⟩:=hk y (Array.mem_toList_iff.mp hy)
   simp [DictEntry.refKey,hkey]
  have a':¬ es.toList.any (·.refKey)=true:=by rw [a];exact Zb
  rw [if_neg a']
  exact congrArg some e
theorem ObjM.look {h:Heap} {x dx C:Addr} {mA:Str→Option Value} (I:ObjM h x dx C mA):∃ od,PySem.W.InstAt h x (PySem.W.instObj C dx) C (some od)∧∀ name,PySem.W.lookIn name od=some (mA name) :=
 let ⟨od,ho,hl⟩:=lookIn_ns I.ns
 ⟨od,⟨I.obj,rfl,rfl,ho⟩,hl⟩
section
variable {prog:Program} {w:World} {A:Around} {E:Value→Shared→Prop} {s:Shared} {K:PySem.W.Frag} {x dx C f:Addr} {mA:Str→Option Value} {name:Str} {v:Value}
theorem get_map {expr:Bool} {Q:Value→Shared→Prop} (X:K.In s.heap) (I:ObjM s.heap x dx C mA) (hg:PySem.W.plainGet K C name=true) (hh:PySem.W.hasDictIn K C=true)
  (ha:PySem.W.findIn K (.ref C) name=some none) (hv:mA name=some v) (hv':PySem.W.handedIn v=true) (h:Q v { s with toks:=s.toks+1 }) :
  wpAny (model prog w) A (getAttr (.ref x) name expr) Q E s:=by
 obtain ⟨od,J,hl⟩:=I.look
 exact PySem.W.get_value X J (PySem.W.plainGet_of hg).1 (PySem.W.findObj_own hh ha rfl (by rw [hl,hv])) hv' h
theorem get_meth {pl:Sem Bool} {Q:Value×List Value→Shared→Prop} (X:K.In s.heap) (I:ObjM s.heap x dx C mA) (hg:PySem.W.plainGet K C name=true)
  (hf:PySem.W.findIn K (.ref C) name=some (some (.ref f))) (ht:PySem.W.isFn K (.ref f)=true) (hv:mA name=none) (h:Q (.ref f,[.ref x]) s) :
  wpAny (model prog w) A (getMethod (.ref x) name pl) Q E s:=by
 obtain ⟨od,J,hl⟩:=I.look
 exact PySem.W.method_fn X J (PySem.W.plainGet_of hg).1 (PySem.W.plainGet_of hg).2 hf (beq_iff_eq.mp ht) (by show (PySem.W.lookIn name od).map (·.isSome)=some false;rw [hl,hv];rfl) h
theorem set_map {ns:List Str} {Q:Unit→Shared→Prop} (X:K.In s.heap) (I:ObjM s.heap x dx C mA)
  (hs:PySem.W.findIn K (.ref C) "__setattr__" = some (some (.builtin "object.__setattr__"))) (hp:PySem.W.plainOver K C=true) (ht:PySem.W.takerIn K C name=some none) (hh:PySem.W.hasDictIn K C=true)
  (hw:PySem.Within mA ns) (hsz:ns.length≤sizeLine)
  (h:∀ h',ObjM h' x dx C (fun y=>if y=name then some v else mA y)→Heap.SameBut dx s.heap h'→Q () { s with heap:=h',toks:=s.toks+2 }) :
  wpAny (model prog w) A (setAttr (.ref x) name v) Q E s:=by
 obtain ⟨od,J,hl⟩:=I.look
 refine PySem.W.set_plain X J hs (PySem.W.osa_open (s:={ s with toks:=s.toks+1 }) (r:=none) X J hp ht fun b=>?_)
 obtain ⟨cd,hc,hd'⟩:=PySem.W.any_some hh
 have hx:s.heap.get? x=some ⟨.ref C,some dx,.plain,#[]⟩:=I.obj
 refine wpAny_bind (wpAny_pure (wpAny_bind (wpAny_bind (wpAny_loadPart hx (wpAny_bind (PySem.W.Looks.here (s:={ s with toks:=s.toks+1 }) (PySem.W.looks_clsIn X hc) ?_))))))
 rw [hd']
 refine wpAny_pure (a:=some dx) (wpAny_bind (wpAny_pure (wpAny_bind ?_)))
 refine wpAny_nsSet1 (s:={ s with toks:=s.toks+1 }) I.ns fun h' hn2 hs2=>?_
 obtain ⟨oD,esD,epD,hoD,hdD,hcD⟩:=hn2.count (PySem.Within.cons name v hw)
 refine wpAny_bind (wpAny_lookBehind hoD (by rw [hdD];exact pastItsLine_dict (Zf hcD (by rw [Qq];exact zar4 ‹_›))) ?_)
 exact wpAny_pure (h _ ⟨(hs2.2 _ (Zl I.ne)).trans I.obj,hn2,I.ne⟩ hs2)
theorem make_map {R:Result→Shared→Prop} {vs:List Value} {kw:List (Str×Value)} (X:K.In s.heap) (hm:PySem.W.makesIn K C=true)
  (hi:PySem.W.findIn K (.ref C) "__init__" = some (some (.ref f))) (hf:PySem.W.typeIn K (.ref f)=some (.type "function"))
  (h:codeAny (model prog w) (A.under (.builtin "type.__call__" ⟨.ref C::vs,kw⟩)) (.call (.ref f) ⟨.ref (s.heap.objs.size+1)::vs,kw⟩) (PySem.W.InitBack (s.heap.objs.size+1) R)
   {s with heap:=(s.heap.push PySem.W.emptyDict).push (PySem.W.instObj C s.heap.objs.size) }) :
  codeAny (model prog w) A (.call (.ref C) ⟨vs,kw⟩) R s:=by
 obtain ⟨hh,g,d,t,os⟩:=s
 exact PySem.W.make_core (PySem.W.makes_of X hm) (PySem.W.looks_findIn X hi) (fun self=>PySem.W.bind_fn X self hf) (.inl rfl) h
end
def putF (f:Str) (v:V):List (Str×V)→List (Str×V)
 | []=>[(f,v)]
 | (g,x)::r=>if g=f then (g,v)::r else (g,x)::putF f v r
theorem zf8 (f g:Str) (v:V):∀ fs:List (Str×V),(putF f v fs).lookup g=if g=f then some v else fs.lookup g
 | []=>by
  show List.lookup g [(f,v)]=_
  by_cases h:g=f
  ·have hb:(g == f)=true:=beq_iff_eq.mpr h
   simp only [List.lookup,hb,if_pos h]
  ·have hb:(g == f)=false:=beq_eq_false_iff_ne.mpr h
   simp only [List.lookup,hb,if_neg h]
 | (k,x)::r=>by
  have ih:=zf8 f g v r
  rw [show putF f v ((k,x)::r)=(if k=f then (k,v)::r else (k,x)::putF f v r) from rfl]
  by_cases hk:k=f
  ·rw [if_pos hk]
   by_cases h:g=k
   ·have hb:(g == k)=true:=beq_iff_eq.mpr h
    simp only [List.lookup,hb,if_pos (h.trans hk)]
   ·have hb:(g == k)=false:=beq_eq_false_iff_ne.mpr h
    simp only [List.lookup,hb,if_neg (fun e:g=f=>h (e.trans hk.symm))]
  ·rw [if_neg hk]
   by_cases h:g=k
   ·have hb:(g == k)=true:=beq_iff_eq.mpr h
    simp only [List.lookup,hb,if_neg (fun e:g=f=>hk (h.symm.trans e))]
   ·have hb:(g == k)=false:=beq_eq_false_iff_ne.mpr h
    simp only [List.lookup,hb]
    exact ih
theorem zgb (f:Str) (v:V):∀ fs:List (Str×V),f∈(putF f v fs).map (·.1)∧∀ g,g∈fs.map (·.1)→g∈(putF f v fs).map (·.1)
 | []=>⟨by simp [putF],fun g h=>by simp at h⟩
 | (k,x)::r=>by
  obtain ⟨i1,i2⟩:=zgb f v r
  rw [show putF f v ((k,x)::r)=(if k=f then (k,v)::r else (k,x)::putF f v r) from rfl]
  by_cases hk:k=f
  ·rw [if_pos hk]
   subst hk
   exact ⟨by simp,fun g h=>by simpa using h⟩
  ·rw [if_neg hk]
   refine ⟨?_,fun g h=>?_⟩
   ·rw [Qk]
    exact Qf _ i1
   ·rw [Qk] at h ⊢
    rcases Qe.mp h with e | e
    ·exact Qe.mpr (.inl e)
    ·exact Qf _ (i2 g e)
theorem zga (f:Str) (v:V):∀ fs:List (Str×V),(putF f v fs).length≤fs.length+1
 | []=>by simp [putF]
 | (k,x)::r=>by
  have ih:=zga f v r
  rw [show putF f v ((k,x)::r)=(if k=f then (k,v)::r else (k,x)::putF f v r) from rfl]
  by_cases hk:k=f
  ·rw [if_pos hk,Qq,Qq];exact Wr _ _
  ·rw [if_neg hk,Qq,Qq];exact zar4 ‹_›
theorem RelO.some_of {v:V} {o:Option Value} (r:RelO (some v) o):∃ u,o=some u∧RelV v u:=by
 cases o with
 | none=>exact (show False from r).elim
 | some u=>exact ⟨u,rfl,r⟩
theorem RelO.none_of {o:Option Value} (r:RelO none o):o=none:=by
 cases o with
 | none=>rfl
 | some u=>exact (show False from r).elim
theorem handed_of {v:V} {u:Value} (r:RelV v u):PySem.W.handedIn u=true:=by
 cases v with
 | non=>cases (show u=Value.none from r);rfl
 | bl b=>cases (show u=Value.bool b from r);rfl
 | int i=>obtain ⟨t,e⟩:=(show ∃ t,u=Value.int i t from r);cases e;rfl
 | str x=>obtain ⟨t,e⟩:=(show ∃ t,u=Value.str x t from r);cases e;rfl
 | byt b=>obtain ⟨t,e⟩:=(show ∃ t,u=Value.bytes b t from r);cases e;rfl
 | flt b=>obtain ⟨t,e⟩:=(show ∃ t,u=Value.float b t from r);cases e;rfl
 | ref a=>cases (show u=Value.ref a from r);rfl
 | ty n=>cases (show u=Value.type n from r);rfl
section
variable {P:Program} {w:World} {H H':Hp} {h h':Heap} {a C dx:Addr} {fs fs':List (Str×V)}
theorem ins_get (hok:HOk P w H h) (e:H a=some (.ins C dx fs)):∃ mA,ObjM h a dx C mA∧(∀ f,RelO (fs.lookup f) (mA f))∧PySem.Within mA (fs.map (·.1))∧fs.length≤1000∧H dx=some (.own a):=by
 obtain ⟨d,z,ne,ob,mA,n,r,q⟩:=(show zbr P w H h a (.ins C dx fs) from hok a _ e)
 exact ⟨mA,⟨ob,n,ne⟩,r,q,z,d⟩
end
structure Cls (K:PySem.W.Frag) (C:Addr):Prop where
 pg:PySem.W.plainGet K C Str.empty=true
 hd:PySem.W.hasDictIn K C=true
 po:PySem.W.plainOver K C=true
 sa:PySem.W.findIn K (.ref C) "__setattr__" = some (some (.builtin "object.__setattr__"))
theorem Cls.get {K:PySem.W.Frag} {C:Addr} (c:Cls K C) (f:Str):PySem.W.plainGet K C f=true:=c.pg
def zen (K:PySem.W.Frag) (C:Addr) (f:Str):Prop:=PySem.W.findIn K (.ref C) f=some none
theorem zen.taker {K:PySem.W.Frag} {C:Addr} {f:Str} (n:zen K C f):PySem.W.takerIn K C f=some none:=by
 unfold PySem.W.takerIn
 rw [show PySem.W.findIn K (.ref C) f=some none from n]
 rfl
structure Meth (K:PySem.W.Frag) (C:Addr) (m:Str) (f:Addr):Prop where
 at_:PySem.W.findIn K (.ref C) m=some (some (.ref f))
 fn:PySem.W.isFn K (.ref f)=true
 kp:PySem.W.keepIn K (.ref f)=true
section
variable {X:Cx} {pins:List (Addr×Obj)} {σ:St} {H:Hp} {s:Shared} {a C dx:Addr} {fs:List (Str×V)} {f:Str} {v:V} {A:Around} {E:Value→Shared→Prop}
theorem getattr_ok {b:Bool} {Q:Value→Shared→Prop} (I:Inv X pins σ H s) (e:H a=some (.ins C dx fs)) (c:Cls X.K C) (n:zen X.K C f) (l:fs.lookup f=some v)
  (h:∀ u s',Inv X pins σ H s'→RelV v u→Q u s'):wpAny (model X.prog X.w) A (getAttr (.ref a) f b) Q E s:=by
 obtain ⟨mA,O,r,_,_,_⟩:=ins_get I.hok e
 obtain ⟨u,hu,ru⟩:=RelO.some_of (v:=v) (o:=mA f) (by rw [← l];exact r f)
 exact get_map I.kIn O (c.get f) c.hd n hu (handed_of ru) (h u _ (I.tok _) ru)
theorem ze2 {m:Str} {g:Addr} {pl:Sem Bool} {Q:Value×List Value→Shared→Prop} (I:Inv X pins σ H s) (e:H a=some (.ins C dx fs)) (c:Cls X.K C) (k:Meth X.K C m g) (l:fs.lookup m=none)
  (h:Q (.ref g,[.ref a]) s):wpAny (model X.prog X.w) A (getMethod (.ref a) m pl) Q E s:=by
 obtain ⟨mA,O,r,_,_,_⟩:=ins_get I.hok e
 have hn:mA m=none:=RelO.none_of (by rw [← l];exact r m)
 exact get_meth I.kIn O (c.get m) k.at_ k.fn hn h
theorem setattr_ok {y:V} {u:Value} {Q:Unit→Shared→Prop} (I:Inv X pins σ H s) (e:H a=some (.ins C dx fs)) (c:Cls X.K C) (n:zen X.K C f) (hl:fs.length < 1000) (ry:RelV y u)
  (h:∀ s',Inv X pins σ (upd H a (.ins C dx (putF f y fs))) s'→Q () s'):wpAny (model X.prog X.w) A (setAttr (.ref a) f u) Q E s:=by
 obtain ⟨mA,O,r,wi,_,ho⟩:=ins_get I.hok e
 have hz:(fs.map (·.1)).length≤sizeLine:=by rw [Qa,sizeLine_eq];lia
 refine set_map I.kIn O c.sa c.po n.taker c.hd wi hz fun h' O' sb=>h _ ?_
 have hd:∃ o,h'.get? dx=some o:=let ⟨o,_,_,e',_⟩:=O'.ns;⟨o,e'⟩
 refine I.write (x:=a) (e:=dx) (by rw [e];exact True.intro) (.inr ho) (fun b q hb z=>(sb.2 b hb).trans z) hd ?_
 refine ⟨by rw [zad O.ne];exact ho,?_,O.ne,O'.obj,_,O'.ns,fun g=>?_,fun g hg=>?_⟩
 ·have:=zga f y fs;exact Zf ‹_› ‹_›
 ·show RelO ((putF f y fs).lookup g) (if g=f then some u else mA g)
  rw [zf8]
  by_cases q:g=f
  ·rw [if_pos q,if_pos q];exact ry
  ·rw [if_neg q,if_neg q];exact r g
 ·by_cases q:g=f
  ·rw [q];exact (zgb f y fs).1
  ·refine (zgb f y fs).2 g (wi g fun z=>hg ?_)
   show (if g=f then some u else mA g)=none
   rw [if_neg q];exact z
theorem Inv.made (I:Inv X pins σ H s):Inv X pins σ (upd (upd H s.heap.objs.size (.own (s.heap.objs.size+1))) (s.heap.objs.size+1) (.ins C s.heap.objs.size []))
  {s with heap:=(s.heap.push PySem.W.emptyDict).push (PySem.W.instObj C s.heap.objs.size) }:=by
 have e1:(s.heap.push PySem.W.emptyDict).get? s.heap.objs.size=some PySem.W.emptyDict:=Zc s.heap rfl
 have e2:((s.heap.push PySem.W.emptyDict).push (PySem.W.instObj C s.heap.objs.size)).get? (s.heap.objs.size+1)=some (PySem.W.instObj C s.heap.objs.size):=by
  have:=Zc (s.heap.push PySem.W.emptyDict) (o:=PySem.W.instObj C s.heap.objs.size) rfl
  rwa [Ja] at this
 have e3:(s.heap.push PySem.W.emptyDict).Ns s.heap.objs.size (fun _=>none):=⟨PySem.W.emptyDict,#[],_,e1,rfl,(fun e he=>absurd he (by simp)),fun _=>rfl⟩
 have I1:=I.laid (a:=s.heap.objs.size) (o:=.own (s.heap.objs.size+1)) (h':=s.heap.push PySem.W.emptyDict) (t':=s.toks) (fun b u q=>Qj _ q) (Qh _) ⟨_,e1⟩
 refine I1.laid (a:=s.heap.objs.size+1) (o:=.ins C s.heap.objs.size []) (t':=s.toks) (fun b u q=>Qj _ q) (Jz (Ja _ _)) ?_
 have ne:s.heap.objs.size≠s.heap.objs.size+1:=Zh (Wy _)
 refine ⟨by rw [zad ne,zac],Zd _,ne,e2,fun _=>none,(Heap.Ns1.of_empty e3).at fun o q=>Qj _ q,fun _=>True.intro,fun y hy=>absurd rfl hy⟩
theorem attr_of {prog:Program} {w:World} {env:Env} {e:Expr} {f:Str} {pos:Pos} {s:Shared} {Q:Value→Shared→Prop} (hb:attributeBase e f env (eval e env)=eval e env)
  (h:wpAny (model prog w) A (eval e env) (fun o s₁=>wpAny (model prog w) A (getAttr o f true) Q E s₁) E s):wpAny (model prog w) A (eval (.Attribute e f pos) env) Q E s :=
 Attribute_any_ h (by rw [arm_eval_Attribute,hb])
end
inductive RFld (K:PySem.W.Frag) (f:Str) (x:V) (H:Hp) (Q:VK):Prop
 | mk (a C dx:Addr) (fs:List (Str×V)) (v:V) (e:x=.ref a) (h:H a=some (.ins C dx fs)) (c:Cls K C) (n:zen K C f) (l:fs.lookup f=some v) (q:Q v H):RFld K f x H Q
def tFld (K:PySem.W.Frag) (ta:TE) (f:Str):TE:=fun σ H Q=>ta σ H fun x H1=>RFld K f x H1 Q
inductive RFs (K:PySem.W.Frag) (f:Str) (x y:V) (H:Hp) (N:Hp→Prop):Prop
 | mk (a C dx:Addr) (fs:List (Str×V)) (e:x=.ref a) (h:H a=some (.ins C dx fs)) (c:Cls K C) (n:zen K C f) (l:fs.length < 1000) (q:N (upd H a (.ins C dx (putF f y fs)))):RFs K f x y H N
def sFld (K:PySem.W.Frag) (ta tv:TE) (f:Str):TS:=fun D σ H=>tv σ H fun y H1=>ta σ H1 fun x H2=>RFs K f x y H2 (D.nx σ)
def InOp (X:Cx) (op:Operator) (rd:V→V→Hp→VK→Prop):Prop :=
 ∀ (pins:List (Addr×Obj)) (s:Shared) (σ:St) (H:Hp) (x y:V) (u v:Value) (Q:VK),Inv X pins σ H s→RelV x u→RelV y v→rd x y H Q→wpAny (model X.prog X.w) X.A (inplaceOp op u v) (EP X pins σ Q) X.xe s
section
variable {X:Cx} {o e value:Expr} {f:Str} {pos pos' tpos:Pos} {ta tv:TE}
theorem pe_fld (he:PE X e ta) (hb:attributeBase e f X.env (eval e X.env)=eval e X.env):PE X (.Attribute e f pos) (tFld X.K ta f):=by
 intro pins s σ H Q I h
 refine attr_of hb (thn (he pins s σ H _ I h) fun u s1 ⟨x,H1,I1,rx,a,C,dx,fs,v,ex,ea,c,n,l,q⟩=>?_)
 subst ex
 obtain rfl:u=Value.ref a:=rx
 exact getattr_ok I1 ea c n l fun u' s2 I2 ru=>⟨v,H1,I2,ru,q⟩
theorem ps_fld (ha:PE X o ta) (hv:PE X value tv) (hs:swapsWith value (some (.Attribute o f pos')) pos.line X.env=pure false):PS X (.Assign [.Attribute o f pos'] value pos) (sFld X.K ta tv f):=by
 intro pins s σ H D I h
 refine plainObj_wpAny_Assign_Attribute (thn (hv pins s σ H _ I h) fun u s1 ⟨y,H1,I1,ry,q⟩=>thn (ha pins s1 σ H1 _ I1 q) fun ov s2 ⟨x,H2,I2,rx,a,C,dx,fs,ex,ea,c,n,l,q2⟩=>?_) hs
 subst ex
 obtain rfl:ov=Value.ref a:=rx
 exact setattr_ok I2 ea c n l ry fun s3 I3=>⟨σ,_,I3,q2⟩
def rSub:V→V→Hp→VK→Prop:=fun x y H Q=>∃ i j,x=.int i∧y=.int j∧Q (.int (i - j)) H
theorem in_sub:InOp X .Sub rSub:=by
 rintro pins s σ H x y u v Q I rx ry ⟨i,j,rfl,rfl,q⟩
 obtain ⟨t,rfl⟩:=(show ∃ t,u=Value.int i t from rx)
 obtain ⟨t',rfl⟩:=(show ∃ t',v=Value.int j t' from ry)
 exact PyProof.Rows.isub_int ⟨.int (i - j),H,I.tok _,⟨_,rfl⟩,q⟩
theorem methcall_of {pl:Sem Bool} {m:Str} {apos:Pos} {args:List Expr} {pins:List (Addr×Obj)} {s:Shared} {σ:St} {H:Hp} {Q:Value→Shared→Prop} {te:TE} (he:PE X e te) (I:Inv X pins σ H s)
  (h:te σ H fun x H1=>∃ a C dx fs g,x=.ref a∧H1 a=some (.ins C dx fs)∧Cls X.K C∧Meth X.K C m g∧fs.lookup m=none ∧
   ∀ s1,Inv X pins σ H1 s1→wpAny (model X.prog X.w) X.A (callWith pos (.ref g) [.ref a] (backTo pos (starEach args X.env)) (backToKw pos (keywordEach [] X.env))) Q X.xe s1)
  (ht:eval (.Call (.Attribute e m apos) args [] pos) X.env=(do
   let ov ← eval e X.env
   standAt apos.atName
   let (f,first) ← holding [ov] (getMethod ov m pl)
   callWith pos f first (backTo pos (starEach args X.env)) (backToKw pos (keywordEach [] X.env)))) :
  wpAny (model X.prog X.w) X.A (eval (.Call (.Attribute e m apos) args [] pos) X.env) Q X.xe s:=by
 refine Kx (pl:=pl) (thn (he pins s σ H _ I h) fun u s1 ⟨x,H1,I1,rx,a,C,dx,fs,g,ex,ea,c,k,l,q⟩=>?_) ht
 subst ex
 obtain rfl:u=Value.ref a:=rx
 exact ze2 I1 ea c k l (q s1 I1)
end
section
variable {X:Cx} {pins:List (Addr×Obj)} {σ:St} {H:Hp} {s:Shared} {A:Around} {E:Value→Shared→Prop} {Q:Value→Shared→Prop} {c:Value} {b:Bool}
end
end L2
namespace L2
open PySem PySem.Spec PyProof.Rows
structure Room (k:Nat) (A:Around):Prop where
 hd:A.handled=none
 dp:A.depth+3*k+5 < recursionLimit
 un:A.units+16*k+200 < cLine
theorem Room.mono {j k:Nat} {A:Around} (r:Room k A) (h:j≤k):Room j A:=⟨r.hd,by have:=r.dp;lia,by have:=r.un;lia⟩
theorem Room.deeper {k:Nat} {A:Around} (r:Room (k+1) A) (env:Env):Room k (A.deeper env) :=
 ⟨r.hd,by have:=r.dp;show A.depth+1+3*k+5 < _;lia,by have:=r.un;show A.units+3+16*k+200 < _;lia⟩
theorem make_depth {A:Around} {C:Addr} {us:List Value} {kw:List (Str×Value)}:(A.under (.builtin "type.__call__" ⟨.ref C::us,kw⟩)).depth=A.depth+1:=by
 first | rfl | simp [Around.under,Code.weight,Code.isCreation,Code.isGuard,Code.isCaller,Code.frames,Code.isFrame,guardIds]
theorem make_units {A:Around} {C:Addr} {us:List Value} {kw:List (Str×Value)}:(A.under (.builtin "type.__call__" ⟨.ref C::us,kw⟩)).units=A.units+1:=by
 first | rfl | simp [Around.under,Code.cUnits,Code.frames,Code.isFrame]
theorem Room.make {k:Nat} {A:Around} (r:Room (k+1) A) (C:Addr) (us:List Value) (kw:List (Str×Value)):Room k (A.under (.builtin "type.__call__" ⟨.ref C::us,kw⟩)) :=
 ⟨r.hd,by have:=r.dp;rw [make_depth];lia,by have:=r.un;rw [make_units];lia⟩
theorem Room.depth {k:Nat} {A:Around} (r:Room k A):A.depth < recursionLimit:=by have:=r.dp;lia
theorem Room.units {k:Nat} {A:Around} (r:Room k A):A.units+64 < cLine:=by have:=r.un;lia
def tNil:TA:=fun _ H Q=>Q [] H
def tCons (ta:TE) (tr:TA):TA:=fun σ H Q=>ta σ H fun x H1=>tr σ H1 fun xs H2=>Q (x::xs) H2
section
variable {X:Cx} {e:Expr} {es:List Expr} {te:TE} {t:TA} {pos:Pos}
theorem zag:PA X [] tNil:=fun _ _ _ _ H Q I h=>Calls.spliced_nil ⟨[],H,I,.nil,h⟩
theorem zab (ha:PE X e te) (hr:PA X es t) (hs:starEach (e::es) X.env=(false,eval e X.env)::starEach es X.env:=by rfl):PA X (e::es) (tCons te t):=by
 intro pos pins s σ H Q I h
 rw [hs]
 show wpAny _ _ (spliced ((false,eval e X.env)::backTo pos (starEach es X.env))) _ _ s
 refine Calls.spliced_cons (thn (ha pins s σ H _ I h) fun u s1 ⟨x,H1,I1,r1,q1⟩=>?_)
 exact thn (hr pos pins s1 σ H1 _ I1 q1) fun us s2 ⟨xs,H2,I2,r2,q2⟩=>⟨x::xs,H2,I2,.cons r1 r2,q2⟩
def tTup (t:TA):TE:=fun σ H Q=>t σ H fun xs H1=>xs.length≤sizeLine∧∀ p,H1 p=none→Q (.ref p) (upd H1 p (.tup xs))
def tLst (t:TA):TE:=fun σ H Q=>t σ H fun xs H1=>xs.length≤sizeLine∧∀ p,H1 p=none→Q (.ref p) (upd H1 p (.lst xs))
theorem zfx {x1} (h:PA X es t):PE X (.Tuple es x1 pos) (tTup t):=by
 intro pins s σ H Q I hq
 refine wpAny_Tuple_spliced (thn (h pos pins s σ H _ I hq) fun us s1 ⟨xs,H1,I1,r,z,q⟩=>⟨by rw [← r.length];exact z,?_⟩)
 have hf:H1 s1.heap.objs.size=none:=I1.hok.fresh (Qh _)
 refine ⟨.ref s1.heap.objs.size,upd H1 s1.heap.objs.size (.tup xs),I1.laid (t':=s1.toks) (fun b u e=>Qj _ e) (Qh _) ?_,rfl,q _ hf⟩
 exact ⟨z,us,r,⟨_,Zc _ rfl,rfl,_,rfl⟩⟩
theorem zbd (h:PA X es t):PE X (.List es pos) (tLst t):=by
 intro pins s σ H Q I hq
 refine wpAny_List_spliced (thn (h pos pins s σ H _ I hq) fun us s1 ⟨xs,H1,I1,r,z,q⟩=>⟨by rw [← r.length];exact z,?_⟩)
 have hf:H1 s1.heap.objs.size=none:=I1.hok.fresh (Qh _)
 refine ⟨.ref s1.heap.objs.size,upd H1 s1.heap.objs.size (.lst xs),I1.laid (t':=s1.toks) (fun b u e=>Qj _ e) (Qh _) ?_,rfl,q _ hf⟩
 exact ⟨z,us,0,r,Zc _ rfl⟩
end
abbrev Sp:=List V→Hp→VK→XK→Prop
abbrev CXT:=List Env→Hp→Shared→XK→Value→Shared→Prop
structure Env0 (P:Program) (w:World) (K:PySem.W.Frag) (mg:Str→Option Value) (base:Heap) (A:Around) (outer:List Env) (s:Shared) (H:Hp):Prop where
 frames:A.frames=some outer
 mod:Mod K mg base
 bs:∀ b o,base.get? b=some o→s.heap.get? b=some o∧H b=none
 bsz:base.objs.size≤s.heap.objs.size
 funs:s.heap.FunFrames base outer
 frf:∀ b∈frs outer,H b=none
 hok:HOk P w H s.heap
 bare:AllBare s.gens
inductive CE (outer:List Env) (P:Program) (w:World) (H:Hp) (s:Shared) (Q:VK) (u:Value) (s':Shared):Prop
 | mk (v:_) (H':_) (h0:s'.os=s.os) (h1:AllBare s'.gens) (h2:Un (frs outer) [] H H' s.heap s'.heap) (h3:HOk P w H' s'.heap) (h4:RelV v u) (h5:Q v H'):CE outer P w H s Q u s'
def CR (CX:CXT) (outer:List Env) (P:Program) (w:World) (H:Hp) (s:Shared) (Q:VK) (E:XK) (r:Result) (s':Shared):Prop :=
 match r with
 | .ok (.ret u)=>CE outer P w H s Q u s'
 | .ok _=>False
 | .error e=>CX outer H s E e s'
structure FnOk (P:Program) (w:World) (K:PySem.W.Frag) (mg:Str→Option Value) (base:Heap) (CX:CXT) (k:Nat) (f:Addr) (fd:FuncData) (ps:List Str) (sp:Sp):Prop where
 len:∀ vs H Q E,sp vs H Q E→vs.length=ps.length
 run:∀ (A:Around) (outer:List Env) (s:Shared) (H:Hp) (args:Args) (us:List Value) (vs:List V) (Q:VK) (E:XK),Room k A→Env0 P w K mg base A outer s H→BindsTo s fd args (ps.zip us)→Vals vs us→sp vs H Q E →
  codeAny (model P w) A (.call (.ref f) args) (CR CX outer P w H s Q E) s
theorem Env0.make {P:Program} {w:World} {K:PySem.W.Frag} {mg:Str→Option Value} {base:Heap} {A:Around} {outer:List Env} {s:Shared} {H:Hp} (e:Env0 P w K mg base A outer s H) (C:Addr) (us:List Value) (kw:List (Str×Value)) :
  Env0 P w K mg base (A.under (.builtin "type.__call__" ⟨.ref C::us,kw⟩)) outer s H:=⟨by first | exact e.frames | (simpa [Around.under,Code.envs,Code.isFrame,pushEnvs] using e.frames),e.mod,e.bs,e.bsz,e.funs,e.frf,e.hok,e.bare⟩
section
variable {X:Cx} {pins:List (Addr×Obj)} {σ:St} {H:Hp} {s s':Shared}
theorem Inv.env0 (I:Inv X pins σ H s):Env0 X.prog X.w X.K X.mg X.base X.A X.stack s H :=
 ⟨I.ok.frames,I.ok.mod,I.bs,Zf I.ok.bsz I.sz,I.stack,I.stkFree,I.hok,I.bare⟩
theorem Inv.after {Q:VK} {u:Value} (I:Inv X pins σ H s) (h:CE X.stack X.prog X.w H s Q u s'):EP X pins σ Q u s':=by
 obtain ⟨v,H',os,bare,un,hok,r,q⟩:=h
 obtain ⟨hh,g,d,t,os'⟩:=s'
 obtain rfl:os'=s.os:=os
 exact ⟨v,H',I.call (h':=hh) (g':=g) (d':=d) (t':=t) (ch:=[]) un hok bare (fun b z=>absurd z (by simp)),r,q⟩
end
def tCall (sp:Sp) (dvs:List V) (E:XK) (t:TA):TE:=fun σ H Q=>t σ H fun vs H1=>sp (vs++dvs) H1 Q E
inductive RMe (C:Addr) (m:Str) (x:V) (H:Hp) (R:Prop):Prop
 | mk (a dx:Addr) (fs:List (Str×V)) (e:x=.ref a) (h:H a=some (.ins C dx fs)) (l:fs.lookup m=none) (q:R):RMe C m x H R
def tMeth (C:Addr) (m:Str) (sp:Sp) (dvs:List V) (E:XK) (ta:TE) (t:TA):TE:=fun σ H Q=>ta σ H fun x H1=>RMe C m x H1 <|
 t σ H1 fun vs H2=>sp (x::(vs++dvs)) H2 Q E
def tMake (C:Addr) (sp:Sp) (dvs:List V) (E:XK) (t:TA):TE:=fun σ H Q=>t σ H fun vs H1=>∀ x dx,H1 x=none→H1 dx=none→dx≠x →
 sp (.ref x::(vs++dvs)) (upd (upd H1 dx (.own x)) x (.ins C dx [])) (fun v H2=>v=.non∧Q (.ref x) H2) E
def Binds (K:PySem.W.Frag) (fd:FuncData) (ps:List Str) (ds:List Value):Prop :=
 ∀ (s:Shared) (us:List Value),K.In s.heap→(us++ds).length=ps.length→BindsTo s fd ⟨us,[]⟩ (ps.zip (us++ds))
theorem Binds.all {K:PySem.W.Frag} {fd:FuncData} {ps:List Str} (h:∀ us:List Value,us.length=ps.length→bindArgs fd ⟨us,[]⟩=pure (ps.zip us)):Binds K fd ps []:=fun s us _ hl=>by
 rw [Zr] at hl ⊢
 exact .of_eq (h us hl)
def zgn (CX:CXT) (X:Cx) (E:XK):Prop:=∀ (pins:List (Addr×Obj)) (σ:St) (H:Hp) (s:Shared) (e:Value) (s':Shared),Inv X pins σ H s→CX X.stack H s E e s'→X.xe e s'
section
variable {X:Cx} {CX:CXT} {k:Nat} {f C:Addr} {fd:FuncData} {ps:List Str} {sp:Sp} {dvs:List V} {ds:List Value} {E:XK} {x m:Str} {p pos apos:Pos} {e o:Expr} {es:List Expr} {ta:TE} {t:TA}
theorem run_fn {pins:List (Addr×Obj)} {σ:St} {H:Hp} {s:Shared} {Q:VK} {us:List Value} {vs:List V} (F:FnOk X.prog X.w X.K X.mg X.base CX k f fd ps sp) (hr:Room k X.A) (hb:Binds X.K fd ps ds) (hd:Vals dvs ds) (hx:zgn CX X E)
  (I:Inv X pins σ H s) (r:Vals vs us) (h:sp (vs++dvs) H Q E):wpAny (model X.prog X.w) X.A (call (.ref f) us) (EP X pins σ Q) X.xe s:=by
 have r2:Vals (vs++dvs) (us++ds):=r.append hd
 have hl:(us++ds).length=ps.length:=by rw [← r2.length];exact F.len _ _ _ _ h
 refine wpAny_call (codeAny_mono (F.run X.A X.stack s H ⟨us,[]⟩ (us++ds) (vs++dvs) Q E hr I.env0 (hb s us I.kIn hl) r2 h) fun r s' hq=>?_)
 cases r with
 | error e=>exact hx pins σ H s e s' I hq
 | ok fl =>
  cases fl with
  | ret u=>exact I.after hq
  | next=>exact False.elim hq
  | brk=>exact False.elim hq
  | cont=>exact False.elim hq
theorem zal (F:FnOk X.prog X.w X.K X.mg X.base CX k f fd ps sp) (hr:Room k X.A) (hg:Gl X x) (hm:X.mg x=some (.ref f)) (hk:PySem.W.keepIn X.K (.ref f)=true) (hb:Binds X.K fd ps ds) (hd:Vals dvs ds) (hx:zgn CX X E)
  (ha:PA X (e::es) t) (hdb:(x == ("__debug__" : Str))=false:=by decide) (he:starEach (e::es) X.env=(false,eval e X.env)::starEach es X.env:=by rfl) (hpl:(backTo pos (starEach es X.env)).any (·.1)=false:=by rfl) :
  PE X (.Call (.Name x p) (e::es) [] pos) (tCall sp dvs E t):=by
 intro pins s σ H Q I h
 refine wpAny_Call_Name_kw (ld_glob I hg hm ?_ hdb)
 refine PySem.W.callWith_K (h₀:=X.base) I.ok.mod.kin hk (thn (ha pos pins s σ H _ I h) fun us s1 ⟨vs,H1,I1,r,q⟩=>⟨I1.kIn,?_⟩) he hpl
 exact run_fn F hr hb hd hx I1 r q
theorem pe_meth {pl:Sem Bool} (he:PE X o ta) (c:Cls X.K C) (hm:Meth X.K C m f) (F:FnOk X.prog X.w X.K X.mg X.base CX k f fd ps sp) (hr:Room k X.A) (hb:Binds X.K fd ps ds) (hd:Vals dvs ds) (hx:zgn CX X E) (ha:PA X (e::es) t)
  (hst:starEach (e::es) X.env=(false,eval e X.env)::starEach es X.env:=by rfl) (hpl:(backTo pos (starEach es X.env)).any (·.1)=false:=by rfl)
  (ht:eval (.Call (.Attribute o m apos) (e::es) [] pos) X.env=(do
   let ov ← eval o X.env
   standAt apos.atName
   let (f,first) ← holding [ov] (getMethod ov m pl)
   callWith pos f first (backTo pos (starEach (e::es) X.env)) (backToKw pos (keywordEach [] X.env))):=by rfl) :
  PE X (.Call (.Attribute o m apos) (e::es) [] pos) (tMeth C m sp dvs E ta t):=by
 intro pins s σ H Q I h
 refine Kx (pl:=pl) (thn (he pins s σ H _ I h) fun u s1 ⟨x,H1,I1,rx,a,dx,fs,ex,ea,l,q⟩=>?_) ht
 subst ex
 obtain rfl:u=Value.ref a:=rx
 refine ze2 I1 ea c hm l ?_
 refine PySem.W.callWith_K (first:=[.ref a]) (h₀:=X.base) I.ok.mod.kin hm.kp (thn (ha pos pins s1 σ H1 _ I1 q) fun us s2 ⟨vs,H2,I2,r,q2⟩=>⟨I2.kIn,?_⟩) hst hpl
 exact run_fn (us:=.ref a::us) (vs:=.ref a::vs) F hr hb hd hx I2 (.cons rfl r) q2
theorem pe_meth0 {pl:Sem Bool} (he:PE X o ta) (c:Cls X.K C) (hm:Meth X.K C m f) (F:FnOk X.prog X.w X.K X.mg X.base CX k f fd ps sp) (hr:Room k X.A) (hb:Binds X.K fd ps ds) (hd:Vals dvs ds) (hx:zgn CX X E)
  (ht:eval (.Call (.Attribute o m apos) [] [] pos) X.env=(do
   let ov ← eval o X.env
   standAt apos.atName
   let (f,first) ← holding [ov] (getMethod ov m pl)
   callWith pos f first (backTo pos (starEach [] X.env)) (backToKw pos (keywordEach [] X.env))):=by rfl) :
  PE X (.Call (.Attribute o m apos) [] [] pos) (tMeth C m sp dvs E ta tNil):=by
 intro pins s σ H Q I h
 refine Kx (pl:=pl) (thn (he pins s σ H _ I h) fun u s1 ⟨x,H1,I1,rx,a,dx,fs,ex,ea,l,q⟩=>?_) ht
 subst ex
 obtain rfl:u=Value.ref a:=rx
 refine ze2 I1 ea c hm l ?_
 exact PySem.W.callWith_K0 (first:=[.ref a]) I1.kIn hm.kp (run_fn (us:=[.ref a]) (vs:=[.ref a]) F hr hb hd hx I1 (.cons rfl .nil) q)
structure Mk (K:PySem.W.Frag) (C f:Addr):Prop where
 makes:PySem.W.makesIn K C=true
 init:PySem.W.findIn K (.ref C) "__init__" = some (some (.ref f))
 fn:PySem.W.isFn K (.ref f)=true
 kp:PySem.W.keepIn K (.ref C)=true
theorem run_make {pins:List (Addr×Obj)} {σ:St} {H:Hp} {s:Shared} {Q:VK} {us:List Value} {vs:List V} (M:Mk X.K C f) (F:FnOk X.prog X.w X.K X.mg X.base CX k f fd ps sp) (hr:Room (k+1) X.A) (hb:Binds X.K fd ps ds) (hd:Vals dvs ds)
  (hx:zgn CX X E) (I:Inv X pins σ H s) (r:Vals vs us)
  (h:∀ x dx,H x=none→H dx=none→dx≠x→sp (.ref x::(vs++dvs)) (upd (upd H dx (.own x)) x (.ins C dx [])) (fun v H2=>v=.non∧Q (.ref x) H2) E) :
  wpAny (model X.prog X.w) X.A (call (.ref C) us) (EP X pins σ Q) X.xe s:=by
 have hq:=h (s.heap.objs.size+1) s.heap.objs.size (I.hok.fresh (Nat.le_succ _)) (I.hok.fresh (Qh _)) (Zh (Wy _))
 have I2:=Inv.made (C:=C) I
 have r2:Vals (V.ref (s.heap.objs.size+1)::(vs++dvs)) (Value.ref (s.heap.objs.size+1)::(us++ds)):=.cons rfl (r.append hd)
 have hl:(Value.ref (s.heap.objs.size+1)::us++ds).length=ps.length:=by
  have e:=r2.length
  rw [F.len _ _ _ _ hq] at e
  exact e.symm
 refine wpAny_call (make_map (f:=f) I.kIn M.makes M.init (beq_iff_eq.mp M.fn) (codeAny_mono (F.run _ X.stack _ _ ⟨Value.ref (s.heap.objs.size+1)::us,[]⟩ (Value.ref (s.heap.objs.size+1)::(us++ds)) _ _ E (hr.make C us [])
  (I2.env0.make C us []) (hb _ (Value.ref (s.heap.objs.size+1)::us) I2.kIn hl) r2 hq) fun r s' hq'=>?_))
 cases r with
 | error e=>exact hx pins σ _ _ e s' I2 hq'
 | ok fl =>
  cases fl with
  | ret u =>
   obtain ⟨v,H',I3,rv,ev,q3⟩:=I2.after hq'
   subst ev
   exact ⟨rv,⟨V.ref (s.heap.objs.size+1),H',I3,rfl,q3⟩⟩
  | next=>exact False.elim hq'
  | brk=>exact False.elim hq'
  | cont=>exact False.elim hq'
theorem pe_make (M:Mk X.K C f) (F:FnOk X.prog X.w X.K X.mg X.base CX k f fd ps sp) (hr:Room (k+1) X.A) (hg:Gl X x) (hm:X.mg x=some (.ref C)) (hb:Binds X.K fd ps ds) (hd:Vals dvs ds) (hx:zgn CX X E)
  (ha:PA X (e::es) t) (hdb:(x == ("__debug__" : Str))=false:=by decide) (he:starEach (e::es) X.env=(false,eval e X.env)::starEach es X.env:=by rfl) (hpl:(backTo pos (starEach es X.env)).any (·.1)=false:=by rfl) :
  PE X (.Call (.Name x p) (e::es) [] pos) (tMake C sp dvs E t):=by
 intro pins s σ H Q I h
 refine wpAny_Call_Name_kw (ld_glob I hg hm ?_ hdb)
 refine PySem.W.callWith_K (h₀:=X.base) I.ok.mod.kin M.kp (thn (ha pos pins s σ H _ I h) fun us s1 ⟨vs,H1,I1,r,q⟩=>⟨I1.kIn,?_⟩) he hpl
 exact run_make M F hr hb hd hx I1 r q
end
section
variable {X:Cx} {CX:CXT} {k:Nat} {f C:Addr} {fd:FuncData} {ps ks:List Str} {sp:Sp} {E:XK} {x m:Str} {p pos apos kpos:Pos} {e o:Expr} {es:List Expr} {kws:List Keyword} {te ta:TE} {t tk:TA} {nm:Option Str}
variable {g:List Value→List Value→List Value} {gV:List V→List V→List V}
end
structure zas (N P:List Str) (sc:Scope):Prop where
 kind:sc.kind=.function
 co:sc.isCoroutine=false
 gen:sc.isGenerator=false
 nd:N.Nodup
 pre:N.take P.length=P
 par:∀ x∈P,sc.names.lookup x=some .local∨sc.names.lookup x=some .cell
 nofree:∀ y∈sc.names,y.2≠.free
theorem bindL_out {kindOf:Str→Option NameKind} {x:Str}:∀ {binds:List (Str×Value)} {m:Str→Option Value},(∀ v,(x,v)∉binds)→bindL kindOf binds m x=m x
 | [],_,_=>rfl
 | (n,v)::r,m,h=>by
  unfold bindL
  rw [bindL_out fun w hw=>h w (Qf _ hw)]
  split
  ·have:x≠n:=by rintro rfl;exact h v Qb
   simp [this]
  ·rfl
theorem bindC_out {kindOf:Str→Option NameKind} {x:Str}:∀ {binds:List (Str×Value)} {m:Str→Option Value},(∀ v,(x,v)∉binds)→bindC kindOf binds m x=m x
 | [],_,_=>rfl
 | (n,v)::r,m,h=>by
  unfold bindC
  rw [bindC_out fun w hw=>h w (Qf _ hw)]
  split
  ·rfl
  ·have:x≠n:=by rintro rfl;exact h v Qb
   simp [this]
theorem bindL_get {kindOf:Str→Option NameKind} {x:Str} {v:Value}:∀ {P:List Str} {vs:List Value} {i:Nat} {m:Str→Option Value},P.Nodup→P[i]?=some x→vs[i]?=some v→kindOf x=some .local →
  bindL kindOf (P.zip vs) m x=some v
 | [],_,_,_,_,h,_,_=>by simp at h
 | _::_,[],_,_,_,_,h,_=>by simp at h
 | p::P,w::vs,0,m,nd,h1,h2,hk=>by
  simp at h1 h2;subst h1;subst h2
  show bindL kindOf ((p,w)::P.zip vs) m p=_
  unfold bindL
  rw [bindL_out fun v hv=>(Qt.mp nd).1 (List.of_mem_zip hv).1,if_pos hk]
  simp
 | p::P,w::vs,i+1,m,nd,h1,h2,hk=>by
  show bindL kindOf ((p,w)::P.zip vs) m x=_
  unfold bindL
  exact bindL_get (i:=i) (Qt.mp nd).2 (by simpa using h1) (by simpa using h2) hk
theorem bindC_get {kindOf:Str→Option NameKind} {x:Str} {v:Value}:∀ {P:List Str} {vs:List Value} {i:Nat} {m:Str→Option Value},P.Nodup→P[i]?=some x→vs[i]?=some v→kindOf x≠some .local →
  bindC kindOf (P.zip vs) m x=some v
 | [],_,_,_,_,h,_,_=>by simp at h
 | _::_,[],_,_,_,_,h,_=>by simp at h
 | p::P,w::vs,0,m,nd,h1,h2,hk=>by
  simp at h1 h2;subst h1;subst h2
  show bindC kindOf ((p,w)::P.zip vs) m p=_
  unfold bindC
  rw [bindC_out fun v hv=>(Qt.mp nd).1 (List.of_mem_zip hv).1,if_neg hk]
  simp
 | p::P,w::vs,i+1,m,nd,h1,h2,hk=>by
  show bindC kindOf ((p,w)::P.zip vs) m x=_
  unfold bindC
  exact bindC_get (i:=i) (Qt.mp nd).2 (by simpa using h1) (by simpa using h2) hk
def start (N:List Str) (vs:List V):St:=vs.map some++List.replicate (N.length - vs.length) none
def cxOf (CX:CXT) (P:Program) (w:World) (K:PySem.W.Frag) (mg:Str→Option Value) (base:Heap) (N:List Str) (qual:Str) (scope:Scope) (f:Addr) (cd:Value) (A:Around) (outer:List Env) (s:Shared) (H:Hp) (E:XK):Cx where
 prog:=P
 w:=w
 K:=K
 mg:=mg
 base:=base
 A:=A.deeper (envOfC qual scope s.heap.objs.size f cd)
 N:=N
 s₀:=s
 H₀:=H
 env:=envOfC qual scope s.heap.objs.size f cd
 outer:=outer
 stack:=envOfC qual scope s.heap.objs.size f cd::outer
 ex:=[]
 calm:=true
 fn:=fun _=>true
 pn:=[]
 xe:=fun e s'=>wpAny (model P w) (A.deeper (envOfC qual scope s.heap.objs.size f cd)) (leaving (envOfC qual scope s.heap.objs.size f cd) e) (fun _ s''=>CX outer H s E e s'') (fun e' s''=>CX outer H s E e' s'') s'
theorem cell_has {sc:Scope} {n:Nat} {x:Str} (h:sc.names.lookup x=some .cell):∃ c,(cellsFrom n sc.names []).lookup x=some c:=by
 have q:=PySem.W.cellsFrom_some sc.names n [] (.inl h)
 exact Option.isSome_iff_exists.mp q
theorem inv_start {CX:CXT} {P:Program} {w:World} {K:PySem.W.Frag} {mg:Str→Option Value} {base:Heap} {N ps:List Str} {qual:Str} {scope:Scope} {f:Addr} {cd:Value} {A:Around} {outer:List Env} {s s1:Shared} {H:Hp} {E:XK} {us:List Value} {vs:List V}
  (S:zas N ps scope) (hd:A.handled=none) (e0:Env0 P w K mg base A outer s H) (hl:vs.length=ps.length) (r:Vals vs us)
  (x:InCallC s s.heap.objs.size (bindL (envOfC qual scope s.heap.objs.size f cd).kindOf (ps.zip us) fun _=>none) (cellsFrom (s.heap.objs.size+1) scope.names []) (bindC (envOfC qual scope s.heap.objs.size f cd).kindOf (ps.zip us) fun _=>none) s1) :
  Inv (cxOf CX P w K mg base N qual scope f cd A outer s H E) [] (start N vs) H s1:=by
 have hpl:ps.length≤N.length:=by have:=congrArg List.length S.pre;rw [Zm] at this;lia
 obtain ⟨h1,tk,rfl,hk⟩:=x.done
 have noA:∀ b:Addr,b∉(cxOf CX P w K mg base N qual scope f cd A outer s H E).ex:=fun b z=>absurd (show b∈([]:List Addr) from z) (by simp)
 refine ⟨⟨e0.mod,S.kind,rfl,rfl,Qh _,fun y z c h1 h2=>?_,fun y hy=>?_,fun y c _ h=>?_,fun _=>hd,Around.frames_deeper e0.frames,.inr ⟨rfl,rfl⟩,fun b z=>absurd z (noA b),e0.bs,e0.bsz,fun b _ _=>noA b,fun b z=>absurd z (noA b),e0.funs,e0.frf⟩,
  rfl,e0.bare,Un.kept hk,⟨_,x.toInCall.ns,fun i y v h1 h2 h3=>?_⟩,fun y c h=>⟨_,x.cell y c h⟩,e0.hok.fresh (Qh _),fun y c h=>?_,fun p hp=>absurd (show p∈([]:List (Addr×Obj)) from hp) (by simp),e0.hok.kept hk,?_⟩
 ·exact name_of_addr x.apart (Ud h1) (Ud h2)
 ·have hy:scope.names.lookup y=some .cell∨scope.names.lookup y=some .free:=hy
  rcases hy with hy | hy
  ·exact cell_has hy
  ·exact absurd rfl (S.nofree _ (Ud hy))
 ·exact Wt (x.above y c (Ud h))
 ·have hi:i < vs.length:=by
   unfold start at h2
   by_cases hi:i < vs.length
   ·exact hi
   ·rw [Ur (by simpa using hi)] at h2
    rw [List.getElem?_replicate] at h2
    split at h2 <;> cases h2
  have ha:vs[i]?=some v:=by
   unfold start at h2
   rw [List.getElem?_append_left (by simpa using hi),Qn] at h2
   cases e:vs[i]? with
   | none=>rw [e] at h2;cases h2
   | some a=>rw [e] at h2;cases h2;rfl
  obtain ⟨u,hu,rv⟩:=r.get ha
  have hp:ps[i]?=some y:=by
   rw [← S.pre,List.getElem?_take_of_lt (by exact zar7 ‹_› ‹_›)];exact h1
  have ndP:ps.Nodup:=by rw [← S.pre];exact S.nd.sublist (Ul _ _)
  refine ⟨u,rv,?_⟩
  rcases S.par y (Yn hp) with k | k
  ·exact .inl ⟨k,bindL_get ndP hp hu k⟩
  ·obtain ⟨c,e⟩:=cell_has (n:=s.heap.objs.size+1) k
   refine .inr ⟨.inl k,c,e,?_⟩
   have q:=x.cell y c e
   rw [bindC_get ndP hp hu (by show scope.names.lookup y≠_;rw [k];decide)] at q
   exact q
 ·exact e0.hok.fresh (Wt (x.above y c (Ud h)))
 ·unfold start
  show _=N.length
  rw [Qw,Qa,Uk]
  lia
theorem fn_of {CX:CXT} {P:Program} {w:World} {K:PySem.W.Frag} {mg:Str→Option Value} {base:Heap} {k:Nat} {f:Addr} {name qual:Str} {params:Arguments} {body:List Stmt} {scope:Scope} {dV kV doc pm cdv ct oc:Value} {an od:Option Addr}
  {osl:Array (Option Value)} {N ps:List Str} {sp:Sp} (lk:K.lookup f=some ⟨oc,od,.func (PySem.W.fnOf name qual params body scope dV kV doc pm an cdv ct),osl⟩) (hcd:PySem.W.codeIn K cdv qual=true) (S:zas N ps scope)
  (len:∀ vs H Q E,sp vs H Q E→vs.length=ps.length)
  (hbody:∀ (A:Around) (outer:List Env) (s:Shared) (H:Hp) (vs:List V) (Q:VK) (E:XK),Room k (A.deeper (envOfC qual scope s.heap.objs.size f cdv))→sp vs H Q E →
   ∃ t,PSs (cxOf CX P w K mg base N qual scope f cdv A outer s H E) body t∧t { nx:=fun _ H'=>Q .non H',rt:=Q } (start N vs) H) :
  FnOk P w K mg base CX (k+1) f (PySem.W.fnOf name qual params body scope dV kV doc pm an cdv ct) ps sp:=by
 refine ⟨len,fun A outer s H args us vs Q E hr e0 hb r hsp=>?_⟩
 have hl:=len _ _ _ _ hsp
 have KX:K.In s.heap:=e0.mod.kin.keeps fun b o e=>(e0.bs b o e).1
 have lim:s.heap.NoLimit:=e0.mod.nolimit.keeps fun b o e=>(e0.bs b o e).1
 have hkind:∀ y∈ps.zip us,scope.names.lookup y.1=some .local∨(scope.names.lookup y.1=some .cell∧((cellsFrom (s.heap.objs.size+1) scope.names []).lookup y.1).isSome=true):=fun ⟨n,v⟩ hy=>by
  rcases S.par n (List.of_mem_zip hy).1 with q | q
  ·exact .inl q
  ·exact .inr ⟨q,PySem.W.cellsFrom_some _ _ _ (.inl q)⟩
 refine codeAny_call_function hr.depth (KX _ _ lk) rfl S.co S.gen rfl (PySem.W.codeRec_of KX hcd) (hb _ _ _ _ ?_)
 refine wpAny_newFunctionEnv_cells S.kind hkind fun env he s1 x=>?_
 subst he
 refine ⟨lim.keeps x.toInCall.keep,codeAny_func ?_⟩
 obtain ⟨t,ht,hq⟩:=hbody A outer s H vs Q E (hr.deeper _) hsp
 have I:Inv (cxOf CX P w K mg base N qual scope f cdv A outer s H E) [] (start N vs) H s1:=inv_start S hr.hd e0 hl r x
 refine wpAny_mono (ht [] s1 (start N vs) H _ I hq) (fun fl s' hs=>?_) fun e s' hs=>hs
 have fin:∀ {σ':St} {H':Hp} {v:V} {u:Value},Inv (cxOf CX P w K mg base N qual scope f cdv A outer s H E) [] σ' H' s'→RelV v u→Q v H'→CE outer P w H s Q u s' :=
  fun {σ' H' v u} J rv q=>⟨v,H',J.os,J.bare,J.base,J.hok,rv,q⟩
 cases fl with
 | ret u =>
  obtain ⟨v,σ',H',J,rv,q⟩:=hs
  exact fin J rv q
 | next =>
  obtain ⟨σ',H',J,q⟩:=hs
  exact fin (v:=V.non) (u:=Value.none) J rfl q
 | brk =>
  obtain ⟨_,_,_,q⟩:=hs
  exact False.elim q
 | cont =>
  obtain ⟨_,_,_,q⟩:=hs
  exact False.elim q
end L2
namespace L2
open PySem PySem.Spec PyProof.Rows
section
variable {X:Cx} {x:Str} {p pos:Pos} {e:Expr} {es:List Expr} {t:TA} {id T:String} {r:List V→Hp→VK→Prop}
def tCB (r:List V→Hp→VK→Prop) (t:TA):TE:=fun σ H Q=>t σ H fun vs H1=>r vs H1 Q
theorem zak (hc:zca X (.builtin id) r) (hg:Gl X x) (hm:X.mg x=none) (hv:bootBuiltins x=some (.builtin id)) (ha:PA X (e::es) t) (hn:x ≠ "__name__" := by decide) (hdb:(x == ("__debug__" : Str))=false:=by decide)
  (he:starEach (e::es) X.env=(false,eval e X.env)::starEach es X.env:=by rfl) (hpl:(backTo pos (starEach es X.env)).any (·.1)=false:=by rfl):PE X (.Call (.Name x p) (e::es) [] pos) (tCB r t):=by
 intro pins s σ H Q I h
 refine wpAny_Call_Name_kw (ld_blt I hg hm hv ?_ hn hdb)
 exact PyProof.Rows.callWith_builtin1 (thn (ha pos pins s σ H _ I h) fun us s1 ⟨vs,H1,I1,r1,q1⟩=>hc pins s1 σ H1 vs us Q I1 r1 q1) he hpl
theorem zdg (hc:zca X (.type T) r) (hg:Gl X x) (hm:X.mg x=none) (hv:bootBuiltins x=some (.type T)) (ha:PA X (e::es) t) (hn:x ≠ "__name__" := by decide) (hdb:(x == ("__debug__" : Str))=false:=by decide)
  (he:starEach (e::es) X.env=(false,eval e X.env)::starEach es X.env:=by rfl) (hpl:(backTo pos (starEach es X.env)).any (·.1)=false:=by rfl):PE X (.Call (.Name x p) (e::es) [] pos) (tCB r t):=by
 intro pins s σ H Q I h
 refine wpAny_Call_Name_kw (ld_blt I hg hm hv ?_ hn hdb)
 exact Jy (thn (ha pos pins s σ H _ I h) fun us s1 ⟨vs,H1,I1,r1,q1⟩=>hc pins s1 σ H1 vs us Q I1 r1 q1) he hpl
end
end L2
namespace L2
open PySem PySem.Spec PyProof.Rows
section
variable {κ:Type} [DecidableEq κ]
def valV (kvs:List (κ×V)) (k:κ):Option V:=(kvs.find? fun kv=>decide (kv.1=k)).map (·.2)
def putK (kvs:List (κ×V)) (k:κ) (v:V):List (κ×V) :=
 if (kvs.any fun kv=>decide (kv.1=k))=true then kvs.map (fun kv=>if kv.1=k then (kv.1,v) else kv) else kvs++[(k,v)]
def dropK (kvs:List (κ×V)) (k:κ):List (κ×V):=kvs.filter fun kv=>decide (kv.1≠k)
theorem zcm {p:κ×V} {r:List (κ×V)} {k:κ} (e:p.1=k):valV (p::r) k=some p.2:=by simp [valV,Jd,e]
theorem zbp {p:κ×V} {r:List (κ×V)} {k:κ} (e:¬ p.1=k):valV (p::r) k=valV r k:=by simp [valV,Jd,e]
theorem zhe (k:κ):∀ kvs:List (κ×V),(kvs.any fun kv=>decide (kv.1=k))=(valV kvs k).isSome
 | []=>rfl
 | p::r=>by
  rw [Uz]
  by_cases e:p.1=k
  ·simp only [zcm e,decide_eq_true e,Bool.true_or,Option.isSome_some]
  ·rw [zbp e,decide_eq_false e,Bool.false_or];exact zhe k r
theorem zd3 (kvs:List (κ×V)) (k:κ) (v:V):(putK kvs k v).length≤kvs.length+1:=by
 unfold putK
 split
 ·rw [Qa];exact Wr _ _
 ·rw [Qw,Qq,Wx];exact Qh _
theorem zea {kvs:List (κ×V)} {k:κ} (v:V) (h:valV kvs k=none):putK kvs k v=kvs++[(k,v)]:=by
 unfold putK
 rw [zhe,h]
 exact if_neg (by decide)
theorem RelO.isSome_eq {o:Option V} {u:Option Value} (r:RelO o u):o.isSome=u.isSome:=by
 cases o with
 | none=>cases u with
  | none=>rfl
  | some _=>exact (show False from r).elim
 | some _=>cases u with
  | none=>exact (show False from r).elim
  | some _=>rfl
theorem RelO.getD {o:Option V} {u:Option Value} {d:V} {d':Value} (r:RelO o u) (rd:RelV d d'):RelV (o.getD d) (u.getD d'):=by
 cases o with
 | none=>cases u with
  | none=>exact rd
  | some _=>exact (show False from r).elim
 | some _=>cases u with
  | none=>exact (show False from r).elim
  | some _=>exact r
theorem KV.val {kvs:List (κ×V)} {vs:List (κ×Value)} (r:KV kvs vs) (k:κ):RelO (valV kvs k) (valueAt vs k):=by
 unfold KV at r
 induction r with
 | nil=>exact True.intro
 | @cons p q ps qs h t ih =>
  obtain ⟨h1,h2⟩:=h
  by_cases e:p.1=k
  ·have e':q.1=k:=h1.symm.trans e
   have b:valueAt (q::qs) k=some q.2:=by simp [valueAt,Jd,e']
   rw [zcm e,b];exact h2
  ·have e':¬ q.1=k:=fun z=>e (h1.trans z)
   have b:valueAt (q::qs) k=valueAt qs k:=by simp [valueAt,Jd,e']
   rw [zbp e,b];exact ih
theorem KV.any {kvs:List (κ×V)} {vs:List (κ×Value)} (r:KV kvs vs) (k:κ):(kvs.any fun kv=>decide (kv.1=k))=vs.any fun kv=>decide (kv.1=k):=by
 unfold KV at r
 induction r with
 | nil=>rfl
 | cons h t ih=>rw [Uz,Uz,ih,h.1]
theorem KV.repl {kvs:List (κ×V)} {vs:List (κ×Value)} (r:KV kvs vs) (k:κ) {y:V} {u:Value} (ry:RelV y u) :
  KV (kvs.map fun kv=>if kv.1=k then (kv.1,y) else kv) (vs.map fun kv=>if kv.1=k then (kv.1,u) else kv):=by
 unfold KV at r ⊢
 induction r with
 | nil=>exact .nil
 | @cons p q ps qs h t ih =>
  rw [Qk,Qk]
  refine .cons ?_ ih
  obtain ⟨h1,h2⟩:=h
  by_cases e:p.1=k
  ·rw [if_pos e,if_pos (h1.symm.trans e)];exact ⟨h1,ry⟩
  ·rw [if_neg e,if_neg (fun z=>e (h1.trans z))];exact ⟨h1,h2⟩
theorem KV.put {kvs:List (κ×V)} {vs:List (κ×Value)} (r:KV kvs vs) (k:κ) {y:V} {u:Value} (ry:RelV y u):KV (putK kvs k y) (stored vs k u):=by
 unfold putK stored
 rw [r.any k]
 by_cases e:(vs.any fun kv=>decide (kv.1=k))=true
 ·rw [if_pos e,if_pos e];exact r.repl k ry
 ·rw [if_neg e,if_neg e];exact Paired.snoc r ⟨rfl,ry⟩
theorem KV.drop {kvs:List (κ×V)} {vs:List (κ×Value)} (r:KV kvs vs) (k:κ):KV (dropK kvs k) (without vs k):=by
 unfold KV at r ⊢
 unfold dropK without
 induction r with
 | nil=>exact .nil
 | @cons p q ps qs h t ih =>
  obtain ⟨h1,h2⟩:=h
  rw [List.filter_cons,List.filter_cons]
  by_cases e:p.1=k
  ·have a:¬ decide (p.1≠k)=true:=by simp [e]
   have b:¬ decide (q.1≠k)=true:=by simp [h1.symm.trans e]
   rw [if_neg a,if_neg b];exact ih
  ·have e':¬ q.1=k:=fun z=>e (h1.trans z)
   have a:decide (p.1≠k)=true:=by simp [e]
   have b:decide (q.1≠k)=true:=by simp [e']
   rw [if_pos a,if_pos b];exact .cons ⟨h1,h2⟩ ih
theorem KV.length {kvs:List (κ×V)} {vs:List (κ×Value)} (r:KV kvs vs):kvs.length=vs.length:=Ym r
theorem dropK_le (kvs:List (κ×V)) (k:κ):(dropK kvs k).length≤kvs.length:=Yl _ _
end
theorem kV_is {P:Program} {w:World} {k:Key} {u:Value} (r:RelV (kV k) u):(zar P w).is k u=true:=by
 cases k with
 | inl i=>obtain ⟨t,e⟩:=(show ∃ t,u=Value.int i t from r);subst e;exact mixKind_int P w i t
 | inr x=>obtain ⟨t,e⟩:=(show ∃ t,u=Value.str x t from r);subst e;exact zf7 P w x t
theorem items_are {P:Program} {w:World}:∀ {ks:List Key} {us:List Value},Vals (ks.map kV) us→ItemsAre (zar P w) ks us
 | [],_,r=>by rw [Jj] at r;cases r;exact .nil
 | k::ks,_,r=>by
  rw [Qk] at r
  cases r with
  | cons h t=>exact .cons (kV_is h) (items_are t)
abbrev KT (H:Hp):List (List Key×V)→List (List Key×Addr×Value)→Prop:=Paired fun p q=>p.1=q.1∧H q.2.1=some (.tup (p.1.map kV))∧RelV p.2 q.2.2
theorem KT.val {H:Hp} {kvs:List (List Key×V)} {xs:List (List Key×Addr×Value)} (r:KT H kvs xs) (k:List Key):RelO (valV kvs k) ((atKey xs k).map (·.2)):=by
 induction r with
 | nil=>exact True.intro
 | @cons p q ps qs h t ih =>
  obtain ⟨h1,_,h2⟩:=h
  by_cases e:p.1=k
  ·have e':q.1=k:=h1.symm.trans e
   have b:atKey (q::qs) k=some q.2:=by simp [atKey,Jd,e']
   rw [zcm e,b];exact h2
  ·have e':¬ q.1=k:=fun z=>e (h1.trans z)
   have b:atKey (q::qs) k=atKey qs k:=by simp [atKey,Jd,e']
   rw [zbp e,b];exact ih
theorem KT.repl {H:Hp} {kvs:List (List Key×V)} {xs:List (List Key×Addr×Value)} (r:KT H kvs xs) (k:List Key) {y:V} {u:Value} (ry:RelV y u) :
  KT H (kvs.map fun kv=>if kv.1=k then (kv.1,y) else kv) (xs.map (putAt k u)):=by
 induction r with
 | nil=>exact .nil
 | @cons p q ps qs h t ih =>
  rw [Qk,Qk]
  refine .cons ?_ ih
  obtain ⟨h1,h2,h3⟩:=h
  unfold putAt
  by_cases e:p.1=k
  ·rw [if_pos e,if_pos (h1.symm.trans e)];exact ⟨h1,h2,ry⟩
  ·rw [if_neg e,if_neg (fun z=>e (h1.trans z))];exact ⟨h1,h2,h3⟩
theorem KT.put {H:Hp} {kvs:List (List Key×V)} {xs:List (List Key×Addr×Value)} (r:KT H kvs xs) (k:List Key) {b:Addr} {y:V} {u:Value} (hb:H b=some (.tup (k.map kV))) (ry:RelV y u) :
  KT H (putK kvs k y) (storedH xs k b u):=by
 have e:(kvs.any fun kv=>decide (kv.1=k))=(atKey xs k).isSome:=by
  rw [zhe,(r.val k).isSome_eq,Option.isSome_map]
 unfold putK storedH
 rw [e]
 by_cases q:(atKey xs k).isSome=true
 ·rw [if_pos q,if_pos q];exact r.repl k ry
 ·rw [if_neg q,if_neg q];exact Paired.snoc r ⟨rfl,hb,ry⟩
theorem KT.keeps {H H':Hp} {kvs:List (List Key×V)} {xs:List (List Key×Addr×Value)} (r:KT H kvs xs) (ht:∀ b ys,H b=some (.tup ys)→H' b=some (.tup ys)):KT H' kvs xs :=
 Paired.mapP r fun _ _ z=>⟨z.1,ht _ _ z.2.1,z.2.2⟩
section
variable {P:Program} {w:World} {H:Hp} {h:Heap} {a:Addr}
theorem rd_of {u:HO} (ok:HOk P w H h) (e:Rd H a u):zbr P w H h a u:=e.ok ok
theorem dk_rd {kvs:List (Key×V)} (ok:HOk P w H h) (e:Rd H a (.dK kvs)):kvs.length≤sizeLine∧(a == sysModules)=false∧∃ vs,KV kvs vs∧h.DictOf (zar P w) a vs :=
 show zbr P w H h a (.dK kvs) from rd_of ok e
theorem dk_of {kvs:List (Key×V)} (ok:HOk P w H h) (e:H a=some (.dK kvs)):kvs.length≤sizeLine∧(a == sysModules)=false∧∃ vs,KV kvs vs∧h.DictOf (zar P w) a vs:=dk_rd ok (.inl e)
theorem zg3 {ks:List Key} (ok:HOk P w H h) (e:H a=some (.tup (ks.map kV))):(tupleKind (zar P w)).is h ks a:=by
 obtain ⟨_,its,r,o,h1,h2,n,h3⟩:=(show zbr P w H h a (.tup (ks.map kV)) from ok a _ e)
 exact ⟨o,its.toArray,n,h1,h2,h3,by simpa using items_are r⟩
theorem dt_rd {kvs:List (List Key×V)} (ok:HOk P w H h) (e:Rd H a (.dT kvs)):kvs.length≤sizeLine∧(a == sysModules)=false ∧
  ∃ xs,KT H kvs xs∧h.DictOfH (tupleKind (zar P w)) a xs:=by
 obtain ⟨z,y,xs,r,o,es,ep,h1,h2,h3,h4,h5⟩:=(show zbr P w H h a (.dT kvs) from rd_of ok e)
 refine ⟨z,y,xs,r,o,es,ep,h1,h2,h3,h4,fun x hx=>?_,h5⟩
 have all:∀ {l:List (List Key×V)} {m:List (List Key×Addr×Value)},KT H l m→∀ x∈m,(tupleKind (zar P w)).is h x.1 x.2.1:=by
  intro l m q
  induction q with
  | nil=>intro x hx;exact nomatch hx
  | @cons p q ps qs hq t ih =>
   intro x hx
   rcases Qe.mp hx with e | hx
   ·subst e
    exact zg3 ok (by rw [← hq.1];exact hq.2.1)
   ·exact ih x hx
 exact all r x hx
theorem dt_of {kvs:List (List Key×V)} (ok:HOk P w H h) (e:H a=some (.dT kvs)):kvs.length≤sizeLine∧(a == sysModules)=false ∧
  ∃ xs,KT H kvs xs∧h.DictOfH (tupleKind (zar P w)) a xs:=dt_rd ok (.inl e)
end
def DGet (H:Hp) (a:Addr) (y:V) (r:Option V):Prop :=
 (∃ kvs k,Rd H a (.dK kvs)∧y=kV k∧r=valV kvs k)∨∃ kvs k b,Rd H a (.dT kvs)∧y=.ref b∧H b=some (.tup (k.map kV))∧r=valV kvs k
def DPut (H:Hp) (a:Addr) (y v:V) (H':Hp):Prop :=
 (∃ kvs k,H a=some (.dK kvs)∧y=kV k∧kvs.length < sizeLine∧H'=upd H a (.dK (putK kvs k v))) ∨
 ∃ kvs k b,H a=some (.dT kvs)∧y=.ref b∧H b=some (.tup (k.map kV))∧kvs.length < sizeLine∧H'=upd H a (.dT (putK kvs k v))
theorem DGet.k {H:Hp} {a:Addr} {kvs:List (Key×V)} {k:Key} (e:H a=some (.dK kvs)):DGet H a (kV k) (valV kvs k):=.inl ⟨kvs,k,.inl e,rfl,rfl⟩
theorem DGet.t {H:Hp} {a b:Addr} {kvs:List (List Key×V)} {k:List Key} (e:H a=some (.dT kvs)) (eb:H b=some (.tup (k.map kV))):DGet H a (.ref b) (valV kvs k):=.inr ⟨kvs,k,b,.inl e,rfl,eb,rfl⟩
theorem DPut.k {H:Hp} {a:Addr} {kvs:List (Key×V)} {k:Key} {v:V} (e:H a=some (.dK kvs)) (hl:kvs.length < sizeLine):DPut H a (kV k) v (upd H a (.dK (putK kvs k v))):=.inl ⟨kvs,k,e,rfl,hl,rfl⟩
theorem DPut.t {H:Hp} {a b:Addr} {kvs:List (List Key×V)} {k:List Key} {v:V} (e:H a=some (.dT kvs)) (eb:H b=some (.tup (k.map kV))) (hl:kvs.length < sizeLine) :
  DPut H a (.ref b) v (upd H a (.dT (putK kvs k v))):=.inr ⟨kvs,k,b,e,rfl,eb,hl,rfl⟩
section
variable {X:Cx} {pins:List (Addr×Obj)} {σ:St} {H:Hp} {s:Shared} {a:Addr} {y v:V} {u r:Value} {o:Option V} {A:Around} {E:Value→Shared→Prop}
theorem Inv.big (I:Inv X pins σ H s):sysModules < s.heap.objs.size:=by
 have h:mainGlobals < s.heap.objs.size:=(I.mod.glob.keeps I.bk).lt
 exact Ws (by decide) h
theorem d_getItem {Q:Value→Shared→Prop} (hu:A.units+1 < cLine) (I:Inv X pins σ H s) (g:DGet H a y (some v)) (ry:RelV y u) (h:∀ w' s',Inv X pins σ H s'→RelV v w'→Q w' s') :
  wpAny (model X.prog X.w) A (getItem (.ref a) u) Q E s:=by
 rcases g with ⟨kvs,k,e,ey,l⟩ | ⟨kvs,k,b,e,ey,eb,l⟩
 ·subst ey
  obtain ⟨z,hd,vs,rel,dd⟩:=dk_rd I.hok e
  obtain ⟨w',hw,rw'⟩:=RelO.some_of (v:=v) (o:=valueAt vs k) (by rw [l];exact rel.val k)
  exact wpAny_getItem_of (kV_is ry) dd.mapOf hw (h w' _ (I.tok _) rw')
 ·subst ey
  cases (show u=Value.ref b from ry)
  obtain ⟨z,hd,xs,rel,dd⟩:=dt_rd I.hok e
  obtain ⟨w',hw,rw'⟩:=RelO.some_of (v:=v) (o:=(atKey xs k).map (·.2)) (by rw [l];exact rel.val k)
  obtain ⟨p,hp,hp2⟩:=Option.map_eq_some_iff.mp hw
  refine wpAny_getItem_heap (tupleKind_room_in1 hu) (zg3 I.hok eb) dd hp ?_
  rw [hp2]
  exact h w' _ (I.tok _) rw'
theorem d_in {Q:Value→Shared→Prop} (hu:A.units+1 < cLine) (I:Inv X pins σ H s) (g:DGet H a y o) (ry:RelV y u) (h:∀ s',Inv X pins σ H s'→Q (.bool o.isSome) s') :
  wpAny (model X.prog X.w) A (compareOp .In u (.ref a)) Q E s:=by
 rcases g with ⟨kvs,k,e,ey,l⟩ | ⟨kvs,k,b,e,ey,eb,l⟩
 ·subst ey
  obtain ⟨z,hd,vs,rel,dd⟩:=dk_rd I.hok e
  refine wpAny_in_of (kV_is ry) hd dd.mapOf ?_
  rw [← (rel.val k).isSome_eq,← l]
  exact h _ (I.tok _)
 ·subst ey
  cases (show u=Value.ref b from ry)
  obtain ⟨z,hd,xs,rel,dd⟩:=dt_rd I.hok e
  refine wpAny_in_heap (tupleKind_room_in1 hu) (zg3 I.hok eb) hd dd ?_
  have q:=(rel.val k).isSome_eq
  rw [Option.isSome_map] at q
  rw [← q,← l]
  exact h _ (I.tok _)
theorem d_notIn {Q:Value→Shared→Prop} (hu:A.units+1 < cLine) (I:Inv X pins σ H s) (g:DGet H a y o) (ry:RelV y u) (h:∀ s',Inv X pins σ H s'→Q (.bool (!o.isSome)) s') :
  wpAny (model X.prog X.w) A (compareOp .NotIn u (.ref a)) Q E s:=by
 rcases g with ⟨kvs,k,e,ey,l⟩ | ⟨kvs,k,b,e,ey,eb,l⟩
 ·subst ey
  obtain ⟨z,hd,vs,rel,dd⟩:=dk_rd I.hok e
  refine wpAny_notIn_of (kV_is ry) hd dd.mapOf ?_
  rw [← (rel.val k).isSome_eq,← l]
  exact h _ (I.tok _)
 ·subst ey
  cases (show u=Value.ref b from ry)
  obtain ⟨z,hd,xs,rel,dd⟩:=dt_rd I.hok e
  refine wpAny_notIn_heap (tupleKind_room_in1 hu) (zg3 I.hok eb) hd dd ?_
  have q:=(rel.val k).isSome_eq
  rw [Option.isSome_map] at q
  rw [← q,← l]
  exact h _ (I.tok _)
theorem zgg {h':Heap} {t':Nat} {ob:HO} (I:Inv X pins σ H s) (mu:Mut (H a)) (hs:Heap.SameBut a s.heap h') (he:∃ q,h'.get? a=some q) (new:zbr X.prog X.w (upd H a ob) h' a ob) :
  Inv X pins σ (upd H a ob) { s with heap:=h',toks:=t' } :=
 I.write (x:=a) (e:=a) mu (.inl rfl) (fun b q hb z=>(hs.2 b hb).trans z) he new
theorem dk_new {P:Program} {w:World} {H':Hp} {h':Heap} {kvs:List (Key×V)} {vs:List (Key×Value)} (z:kvs.length≤sizeLine) (hd:(a == sysModules)=false) (rel:KV kvs vs) (dd:h'.DictOf (zar P w) a vs) :
  zbr P w H' h' a (.dK kvs):=⟨z,hd,vs,rel,dd⟩
theorem d_setItem {H':Hp} {Q:Unit→Shared→Prop} (hu:A.units+1 < cLine) (I:Inv X pins σ H s) (g:DPut H a y v H') (ry:RelV y u) (rv:RelV v r) (h:∀ s',Inv X pins σ H' s'→Q () s') :
  wpAny (model X.prog X.w) A (setItem (.ref a) u r) Q E s:=by
 rcases g with ⟨kvs,k,e,ey,l,eH⟩ | ⟨kvs,k,b,e,ey,eb,l,eH⟩
 ·subst ey eH
  obtain ⟨z,hd,vs,rel,dd⟩:=dk_of I.hok e
  have hz:vs.length≤sizeLine:=by rw [← rel.length];exact z
  have hl:(putK kvs k v).length≤sizeLine:=by have:=zd3 kvs k v;exact Zf ‹_› ‹_›
  refine wpAny_setItem_pairs (hsz:=hz) (kV_is ry) dd fun h' dd' hs=>h _ ?_
  have he:∃ q,h'.get? a=some q:=let ⟨q,_,_,hq,_⟩:=dd';⟨q,hq⟩
  exact zgg I (by rw [e];exact True.intro) hs he (dk_new hl hd (rel.put k rv) dd')
 ·subst ey eH
  cases (show u=Value.ref b from ry)
  obtain ⟨z,hd,xs,rel,dd⟩:=dt_of I.hok e
  have hz:xs.length≤sizeLine:=by rw [← Ym rel];exact z
  have hl:(putK kvs k v).length≤sizeLine:=by have:=zd3 kvs k v;exact Zf ‹_› ‹_›
  refine wpAny_setItem_heap (hsz:=hz) (tupleKind_room_in1 hu) (zg3 I.hok eb) dd fun h' dd' hs=>h _ ?_
  obtain ⟨q,es,ep,hq,h2,h3,h4,_,h5⟩:=dd'
  refine zgg I (by rw [e];exact True.intro) hs ⟨q,hq⟩ ⟨hl,hd,_,(rel.put k eb rv).keeps fun c ys ec=>?_,q,es,ep,hq,h2,h3,h4,h5⟩
  rw [zad (za0 ec e (fun z=>nomatch z))]
  exact ec
end
section
variable {X:Cx} {pins:List (Addr×Obj)} {σ:St} {H:Hp} {s:Shared} {a:Addr} {kvs:List (Key×V)} {k:Key} {u:Value} {A:Around} {E:Value→Shared→Prop}
theorem d_delItem {Q:Unit→Shared→Prop} (I:Inv X pins σ H s) (e:H a=some (.dK kvs)) (ry:RelV (kV k) u) (l:(valV kvs k).isSome=true) (h:∀ s',Inv X pins σ (upd H a (.dK (dropK kvs k))) s'→Q () s') :
  wpAny (model X.prog X.w) A (delItem (.ref a) u) Q E s:=by
 obtain ⟨z,hd,vs,rel,dd⟩:=dk_of I.hok e
 refine wpAny_delItem_slot dd.typeIs (by decide) PySem.F.slot_dict_delitem
  (call_meetsIn PySem.F.slot_dict_delitem dd.typeIs PySem.F.entry_dict_delitem (PySem.F.args_dict_delitem_2 _ _) (meets_dict_delitem_pairs (zar X.prog X.w) a (kV_is ry)) ⟨vs,dd,by rw [← rel.length];exact z,by rw [← (rel.val k).isSome_eq];exact l,fun h' dd' hs=>h _ ?_⟩)
 have he:∃ q,h'.get? a=some q:=let ⟨q,_,_,hq,_⟩:=dd';⟨q,hq⟩
 exact zgg I (by rw [e];exact True.intro) hs he (dk_new (Zf (dropK_le kvs k) z) hd (rel.drop k) dd')
end
def NoSl (i:Expr):Prop:=∀ ov iv,subscripted i false ov iv=operate [ov,iv] (getItem ov iv)
theorem subD_of {prog:Program} {w:World} {A:Around} {E:Value→Shared→Prop} {s:Shared} {env:Env} {value slice:Expr} {pos:Pos} {T id:String} {Q:Value→Shared→Prop}
  (hl:typeLookup (.type T) "__getitem__" = pure (some (.builtin id))) (hs:NoSl slice)
  (h:wpAny (model prog w) A (eval value env) (fun o s₁=>wpAny (model prog w) A (eval slice env) (fun i s₂=>s₂.TypeIs o T∧wpAny (model prog w) A (getItem o i) Q E s₂) E s₁) E s) :
  wpAny (model prog w) A (eval (.Subscript value slice pos) env) Q E s:=by
 refine Subscript_ (wpAny_mono h (fun o s₁ h₁=>wpAny_mono h₁ (fun i s₂ h₂=>?_) fun _ _ x=>x) fun _ _ x=>x)
 obtain ⟨hT,h₂⟩:=h₂
 unfold subscriptTail
 refine wpAny_bind ?_
 rw [getitemInPython_of_ne hT.not_modules]
 refine wpAny_bind (wpAny_specialOf hT hl ?_)
 have fin:wpAny (model prog w) A (subscripted slice false o i) (fun r s₃=>wpAny (model prog w) A (letTemporaryGo value o r >>= fun _=>pure r) Q E s₃) E s₂:=by
  rw [hs o i]
  exact wpAny_operating (wpAny_mono h₂ (fun r s₃ h₃=>wpAny_bind (wpAny_letTemporaryGo (wpAny_pure h₃))) fun _ _ x=>x)
 first
  | exact wpAny_pure (wpAny_bind fin)
  | exact wpAny_bind (wpAny_pure (wpAny_bind fin))
  | exact wpAny_bind fin
theorem dict_typeIs {X:Cx} {pins:List (Addr×Obj)} {σ:St} {H:Hp} {s:Shared} {a:Addr} {y:V} {o:Option V} (I:Inv X pins σ H s) (g:DGet H a y o):s.TypeIs (.ref a) "dict" := by
 rcases g with ⟨kvs,k,e,_,_⟩ | ⟨kvs,k,b,e,_,_,_⟩
 ·obtain ⟨_,_,vs,_,dd⟩:=dk_rd I.hok e
  exact dd.typeIs
 ·obtain ⟨_,_,xs,_,dd⟩:=dt_rd I.hok e
  exact dd.typeIs
inductive RDG (x y:V) (H:Hp) (Q:VK):Prop
 | mk (a:Addr) (v:V) (e:x=.ref a) (g:DGet H a y (some v)) (q:Q v H):RDG x y H Q
inductive RDI (x y:V) (H:Hp) (R:Option V→Prop):Prop
 | mk (a:Addr) (o:Option V) (e:x=.ref a) (g:DGet H a y o) (q:R o):RDI x y H R
inductive RDP (x y v:V) (H:Hp) (N:Hp→Prop):Prop
 | mk (a:Addr) (H4:Hp) (e:x=.ref a) (p:DPut H a y v H4) (q:N H4):RDP x y v H N
def tDGet (td ty:TE):TE:=fun σ H Q=>td σ H fun x H1=>ty σ H1 fun y H2=>RDG x y H2 Q
def tDIn (ty td:TE):TE:=fun σ H Q=>ty σ H fun y H1=>td σ H1 fun x H2=>RDI x y H2 fun o=>Q (.bl o.isSome) H2
def tDNotIn (ty td:TE):TE:=fun σ H Q=>ty σ H fun y H1=>td σ H1 fun x H2=>RDI x y H2 fun o=>Q (.bl (!o.isSome)) H2
def sDPut (td ty tv:TE):TS:=fun D σ H=>tv σ H fun v H1=>td σ H1 fun x H2=>ty σ H2 fun y H3=>RDP x y v H3 (D.nx σ)
def sDAug (td ty tv:TE) (rd:V→V→Hp→VK→Prop):TS:=fun D σ H=>td σ H fun x H1=>ty σ H1 fun y H2=>∃ a v,x=.ref a∧DGet H2 a y (some v) ∧
 tv σ H2 fun y2 H3=>rd v y2 H3 fun z H4=>∃ H5,DPut H4 a y z H5∧D.nx σ H5
def sDDel (td ty:TE):TS:=fun D σ H=>td σ H fun x H1=>ty σ H1 fun y H2=>∃ a kvs k,x=.ref a∧H2 a=some (.dK kvs)∧y=kV k∧(valV kvs k).isSome=true∧D.nx σ (upd H2 a (.dK (dropK kvs k)))
section
variable {X:Cx} {o i e value:Expr} {pos pos' tpos:Pos} {td ty tv:TE}
theorem zau (hu:X.A.units+1 < cLine) (ho:PE X o td) (hi:PE X i ty) (hs:NoSl i):PE X (.Subscript o i pos) (tDGet td ty):=by
 intro pins s σ H Q I h
 refine subD_of PySem.F.slot_dict_getitem.lookup hs (thn (ho pins s σ H _ I h) fun u s1 ⟨x,H1,I1,rx,q1⟩=>thn (hi pins s1 σ H1 _ I1 q1) fun iv s2 ⟨y,H2,I2,ry,a,v,ex,g,q2⟩=>?_)
 subst ex
 obtain rfl:u=Value.ref a:=rx
 exact ⟨dict_typeIs I2 g,d_getItem hu I2 g ry fun w' s3 I3 rw'=>⟨v,H2,I3,rw',q2⟩⟩
theorem pc_din (hu:X.A.units+1 < cLine) (hi:PE X i ty) (ho:PE X o td):PC X .In i o (tDIn ty td):=by
 intro pins s σ H Q I h
 refine thn (hi pins s σ H _ I h) fun iv s1 ⟨y,H1,I1,ry,q1⟩=>thn (ho pins s1 σ H1 _ I1 q1) fun u s2 ⟨x,H2,I2,rx,a,ov,ex,g,q2⟩=>?_
 subst ex
 obtain rfl:u=Value.ref a:=rx
 exact d_in hu I2 g ry fun s3 I3=>⟨.bl ov.isSome,H2,I3,rfl,q2⟩
theorem zef (hu:X.A.units+1 < cLine) (hi:PE X i ty) (ho:PE X o td):PC X .NotIn i o (tDNotIn ty td):=by
 intro pins s σ H Q I h
 refine thn (hi pins s σ H _ I h) fun iv s1 ⟨y,H1,I1,ry,q1⟩=>thn (ho pins s1 σ H1 _ I1 q1) fun u s2 ⟨x,H2,I2,rx,a,ov,ex,g,q2⟩=>?_
 subst ex
 obtain rfl:u=Value.ref a:=rx
 exact d_notIn hu I2 g ry fun s3 I3=>⟨.bl (!ov.isSome),H2,I3,rfl,q2⟩
theorem zbv (hu:X.A.units+1 < cLine) (ho:PE X o td) (hi:PE X i ty) (hv:PE X value tv) (hs:swapsWith value (some (.Subscript o i pos')) pos.line X.env=pure false) :
  PS X (.Assign [.Subscript o i pos'] value pos) (sDPut td ty tv):=by
 intro pins s σ H D I h
 refine wpAny_Assign_Subscript (thn (hv pins s σ H _ I h) fun r s1 ⟨v,H1,I1,rv,q1⟩=>thn (ho pins s1 σ H1 _ I1 q1) fun u s2 ⟨x,H2,I2,rx,q2⟩=>thn (hi pins s2 σ H2 _ I2 q2) fun iv s3 ⟨y,H3,I3,ry,a,H4,ex,g,q3⟩=>?_) hs
 subst ex
 obtain rfl:u=Value.ref a:=rx
 exact d_setItem hu I3 g ry rv fun s4 I4=>⟨σ,H4,I4,q3⟩
theorem ps_daug {op:Operator} {rd:V→V→Hp→VK→Prop} (hu:X.A.units+1 < cLine) (ho:PE X o td) (hi:PE X i ty) (hv:PE X value tv) (hop:InOp X op rd)
  (ha:∀ ov iv new,augStore i ov iv new=(do holding [new,ov,iv] (setItem ov iv new);release [new,ov,iv] [];pure .next)):PS X (.AugAssign (.Subscript o i tpos) op value pos) (sDAug td ty tv rd):=by
 intro pins s σ H D I h
 refine wpAny_AugAssign_SubscriptAny (thn (ho pins s σ H _ I h) fun u s1 ⟨x,H1,I1,rx,q1⟩=>thn (hi pins s1 σ H1 _ I1 q1) fun iv s2 ⟨y,H2,I2,ry,a,v,ex,g,q2⟩=>?_) ha
 subst ex
 obtain rfl:u=Value.ref a:=rx
 refine d_getItem hu I2 g ry fun w' s3 I3 rw'=>thn (hv pins s3 σ H2 _ I3 q2) fun w2 s4 ⟨y2,H3,I4,ry2,q3⟩=>thn (hop pins s4 σ H3 v y2 w' w2 _ I4 rw' ry2 q3) fun w3 s5 ⟨z,H4,I5,rz,H5,g5,q4⟩=>?_
 exact d_setItem hu I5 g5 ry rz fun s6 I6=>⟨σ,H5,I6,q4⟩
theorem ps_ddel (ho:PE X o td) (hi:PE X i ty):PS X (.Delete [.Subscript o i tpos] pos) (sDDel td ty):=by
 intro pins s σ H D I h
 refine wpAny_Delete (wpAny_deleteEach_cons (wpAny_delete_Subscript (thn (ho pins s σ H _ I h) fun u s1 ⟨x,H1,I1,rx,q1⟩=>thn (hi pins s1 σ H1 _ I1 q1) fun iv s2 ⟨y,H2,I2,ry,a,kvs,k,ex,e,ey,l,q2⟩=>?_)))
 subst ex ey
 obtain rfl:u=Value.ref a:=rx
 exact d_delItem I2 e ry l fun s3 I3=>wpAny_deleteEach_nil ⟨σ,_,I3,q2⟩
end
theorem dk_empty {P:Program} {w:World} {H:Hp} (h:Heap) (hb:sysModules < h.objs.size):zbr P w H (h.push { cls:=.type "dict",data:=.dict #[] }) h.objs.size (.dK []) :=
 ⟨Zd _,beq_eq_false_iff_ne.mpr (Zl (Zh hb)),[],.nil,Heap.DictOf.new h⟩
theorem dt_empty {P:Program} {w:World} {H:Hp} (h:Heap) (hb:sysModules < h.objs.size):zbr P w H (h.push { cls:=.type "dict",data:=.dict #[] }) h.objs.size (.dT []) :=
 ⟨Zd _,beq_eq_false_iff_ne.mpr (Zl (Zh hb)),[],.nil,_,#[],0,Zc _ rfl,⟨rfl,rfl,rfl⟩,rfl,rfl,Zo⟩
def tDNewK:TE:=fun _ H Q=>∀ p,H p=none→Q (.ref p) (upd H p (.dK []))
def tDNewT:TE:=fun _ H Q=>∀ p,H p=none→Q (.ref p) (upd H p (.dT []))
section
variable {X:Cx} {pos:Pos}
theorem zed:PE X (.Dict [] [] pos) tDNewK:=fun pins s σ H Q I h =>
 wpAny_Dict_empty ⟨.ref s.heap.objs.size,_,I.laid (a:=s.heap.objs.size) (o:=.dK []) (t':=s.toks) (fun _ _ q=>Qj _ q) (Qh _) (dk_empty s.heap I.big),rfl,h _ (I.hok.fresh (Qh _))⟩
theorem pe_dnewT:PE X (.Dict [] [] pos) tDNewT:=fun pins s σ H Q I h =>
 wpAny_Dict_empty ⟨.ref s.heap.objs.size,_,I.laid (a:=s.heap.objs.size) (o:=.dT []) (t':=s.toks) (fun _ _ q=>Qj _ q) (Qh _) (dt_empty s.heap I.big),rfl,h _ (I.hok.fresh (Qh _))⟩
end
def tPairs:List (TE×TE)→St→Hp→(List (V×V)→Hp→Prop)→Prop
 | [],_,H,Q=>Q [] H
 | (tk,tv)::r,σ,H,Q=>tk σ H fun x H1=>tv σ H1 fun y H2=>tPairs r σ H2 fun ps H3=>Q ((x,y)::ps) H3
abbrev VV:List (V×V)→List (Value×Value)→Prop:=Paired fun p q=>RelV p.1 q.1∧RelV p.2 q.2
def PPs (X:Cx) (pos:Pos) (keys:List (Option Expr)) (values:List Expr) (trs:List (TE×TE)):Prop :=
 ∀ (pins:List (Addr×Obj)) (s:Shared) (σ:St) (H:Hp) (Q:List (V×V)→Hp→Prop),Inv X pins σ H s→tPairs trs σ H Q →
  wpAny (model X.prog X.w) X.A (evalPairs (pairTrees keys values X.env pos)) (fun vs s'=>∃ ps H',Inv X pins σ H' s'∧VV ps vs∧Q ps H') X.xe s
theorem pps_nil {X:Cx} {pos:Pos}:PPs X pos [] [] []:=fun pins s σ H Q I h=>pairTrees_nil_walk ⟨[],H,I,.nil,h⟩
theorem pps_cons {X:Cx} {pos:Pos} {k v:Expr} {ks:List (Option Expr)} {vs:List Expr} {tk tv:TE} {trs:List (TE×TE)} (hk:PE X k tk) (hv:PE X v tv) (hr:PPs X pos ks vs trs) :
  PPs X pos (some k::ks) (v::vs) ((tk,tv)::trs):=fun pins s σ H Q I h =>
 pairTrees_cons_walk (thn (hk pins s σ H _ I h) fun u s1 ⟨x,H1,I1,rx,q1⟩=>thn (hv pins s1 σ H1 _ I1 q1) fun w2 s2 ⟨y,H2,I2,ry,q2⟩ =>
  thn (hr pins s2 σ H2 _ I2 q2) fun ws s3 ⟨ps,H3,I3,rel,q3⟩=>⟨(x,y)::ps,H3,I3,.cons ⟨rx,ry⟩ rel,q3⟩)
def zg2 (kvs more:List (Key×V)):List (Key×V):=more.foldl (fun acc kv=>putK acc kv.1 kv.2) kvs
theorem KV.merge:∀ {more:List (Key×V)} {rs:List (Key×Value)} {kvs:List (Key×V)} {vs:List (Key×Value)},KV more rs→KV kvs vs→KV (zg2 kvs more) (merged vs rs):=by
 intro more rs kvs vs r
 unfold KV at r
 induction r generalizing kvs vs with
 | nil=>intro q;exact q
 | @cons p q ps qs h t ih =>
  intro r0
  have e:KV (putK kvs p.1 p.2) (stored vs q.1 q.2):=by
   have:=r0.put p.1 h.2
   rw [← h.1];exact this
  exact ih e
theorem zei:∀ (more kvs:List (Key×V)),(zg2 kvs more).length≤kvs.length+more.length
 | [],kvs=>by show kvs.length≤kvs.length+0;exact Qh _
 | p::r,kvs=>by
  have h1:=zei r (putK kvs p.1 p.2)
  have h2:=zd3 kvs p.1 p.2
  show (zg2 (putK kvs p.1 p.2) r).length≤_
  rw [Qq];lia
theorem zg9 {P:Program} {w:World}:∀ {kvs:List (Key×V)} {ws:List (Value×Value)},VV (kvs.map fun kv=>(kV kv.1,kv.2)) ws→∃ rs,Carries (zar P w) ws rs∧KV kvs rs
 | [],_,r=>by rw [Jj] at r;cases r;exact ⟨[],True.intro,.nil⟩
 | p::kvs,_,r=>by
  rw [Qk] at r
  cases r with
  | @cons a b as bs h t =>
   obtain ⟨rs,c,q⟩:=zg9 (P:=P) (w:=w) t
   obtain ⟨b1,b2⟩:=b
   exact ⟨(p.1,b2)::rs,⟨kV_is h.1,rfl,c⟩,.cons ⟨rfl,h.2⟩ q⟩
def tDisp (trs:List (TE×TE)):TE:=fun σ H Q=>∀ p,H p=none→tPairs trs σ (upd H p (.dK [])) fun ps H2=>H2 p=some (.dK [])∧∃ kvs:List (Key×V),ps=kvs.map (fun kv=>(kV kv.1,kv.2))∧kvs.length≤15∧Q (.ref p) (upd H2 p (.dK (zg2 [] kvs)))
theorem pe_disp {X:Cx} {pos:Pos} {keys:List (Option Expr)} {values:List Expr} {trs:List (TE×TE)} (h:PPs X pos keys values trs) (hall:keys.all (·.isSome)=true) (hl:keys.length=values.length) (h0:keys≠[])
  (h15:keys.length≤15):PE X (.Dict keys values pos) (tDisp trs):=by
 intro pins s σ H Q I q
 have hn:=I.hok.fresh (Qh s.heap.objs.size)
 have I1:=I.laid (a:=s.heap.objs.size) (o:=.dK []) (h':=s.heap.push { cls:=.type "dict",data:=.dict #[] }) (t':=s.toks) (fun _ _ q=>Qj _ q) (Qh _) (dk_empty s.heap I.big)
 refine wpAny_Dict_walk (knd:=zar X.prog X.w) hall hl h0 h15 (thn (h pins _ σ _ _ I1 (q _ hn)) fun ws s2 ⟨ps,H2,I2,rel,e,kvs,ep,lk,q2⟩=>?_)
 subst ep
 obtain ⟨rs,c,rk⟩:=zg9 (P:=X.prog) (w:=X.w) rel
 obtain ⟨z,hd,vs0,r0,dd⟩:=dk_of I2.hok e
 cases r0
 refine ⟨rs,c,dd,fun h' dd' hs=>⟨.ref s.heap.objs.size,_,?_,rfl,q2⟩⟩
 have hz:(zg2 [] kvs).length≤sizeLine:=by
  have h1:=zei kvs []
  rw [Wx] at h1
  rw [sizeLine_eq];lia
 have he:∃ q,h'.get? s.heap.objs.size=some q:=let ⟨q,_,_,hq,_⟩:=dd';⟨q,hq⟩
 exact zgg I2 (by rw [e];exact True.intro) hs he (dk_new hz hd (rk.merge .nil) dd')
structure M2 (X:Cx) (o:Expr) (m:Str) (apos:Pos) (e f:Expr) (cpos:Pos):Prop where
 base:attributeBase o m X.env (eval o X.env)=eval o X.env
 few:((backTo cpos (starEach [e,f] X.env)).all (fun x=>!x.1) && (backToKw cpos (keywordEach [] X.env)).all (fun x=>x.1.isSome)
  && decide (([e,f]:List Expr).length+([]:List Keyword).length+(if ([]:List Keyword).isEmpty then 0 else 1) < 30))=true
 line:(apos.endLine == cpos.line)=true
 trees:backTo cpos (starEach [e,f] X.env)=[(false,eval e X.env),(false,eval f X.env)]
def IsD (H:Hp) (a:Addr):Prop:=(∃ kvs,Rd H a (.dK kvs))∨∃ kvs,Rd H a (.dT kvs)
theorem isD_at {X:Cx} {pins:List (Addr×Obj)} {σ:St} {H:Hp} {s:Shared} {a:Addr} (I:Inv X pins σ H s) (d:IsD H a) :
  s.TypeIs (.ref a) "dict" ∧ (∀ b,Value.ref a=.ref b→∃ ob,s.heap.get? b=some ob∧ob.dict=none)∧(a == sysModules)=false:=by
 rcases d with ⟨kvs,e⟩ | ⟨kvs,e⟩
 ·obtain ⟨_,hd,vs,_,dd⟩:=dk_rd I.hok e
  refine ⟨dd.typeIs,fun b q=>?_,hd⟩
  cases q
  obtain ⟨ob,_,_,h1,h2,_⟩:=dd
  exact ⟨ob,h1,h2.2.1⟩
 ·obtain ⟨_,hd,xs,_,dd⟩:=dt_rd I.hok e
  refine ⟨dd.typeIs,fun b q=>?_,hd⟩
  cases q
  obtain ⟨ob,_,_,h1,h2,_⟩:=dd
  exact ⟨ob,h1,h2.2.1⟩
section
variable {X:Cx} {pins:List (Addr×Obj)} {σ:St} {H:Hp} {s:Shared} {a:Addr} {y d:V} {u r:Value} {o:Option V} {A:Around} {E:Value→Shared→Prop}
theorem d_get2 {Q:Value→Shared→Prop} (hu:A.units+1 < cLine) (I:Inv X pins σ H s) (g:DGet H a y o) (ry:RelV y u) (rd:RelV d r) (h:∀ w' s',Inv X pins σ H s'→RelV (o.getD d) w'→Q w' s') :
  wpAny (model X.prog X.w) A (call (.builtin "dict.get") [.ref a,u,r]) Q E s:=by
 rcases g with ⟨kvs,k,e,ey,l⟩ | ⟨kvs,k,b,e,ey,eb,l⟩
 ·subst ey
  obtain ⟨z,hd,vs,rel,dd⟩:=dk_rd I.hok e
  refine call_meetsIn Ky dd.typeIs PySem.F.entry_dict_get (PySem.F.args_dict_get_3 _ _ _) (meets_dict_get_default (zar X.prog X.w) a (kV_is ry) hd r) ⟨_,dd.mapOf,h _ _ (I.tok _) ?_⟩
  rw [l]
  exact (rel.val k).getD rd
 ·subst ey
  cases (show u=Value.ref b from ry)
  obtain ⟨z,hd,xs,rel,dd⟩:=dt_rd I.hok e
  refine call_meetsIn Ky dd.typeIs PySem.F.entry_dict_get (PySem.F.args_dict_get_3 _ _ _) (meetsH_dict_get_default (tupleKind (zar X.prog X.w)) a b hd r) ⟨tupleKind_room_in1 hu,k,xs,zg3 I.hok eb,dd,h _ _ (I.tok _) ?_⟩
  rw [l]
  exact (rel.val k).getD rd
end
def tDGet2 (td ty tx:TE):TE:=fun σ H Q=>td σ H fun x H1=>∃ a,x=.ref a∧IsD H1 a∧ty σ H1 fun y H2=>tx σ H2 fun z H3=>∃ o,DGet H3 a y o∧Q (o.getD z) H3
section
variable {X:Cx} {o e f:Expr} {apos cpos:Pos} {td ty tx:TE}
theorem pe_dget2 (hu:X.A.units+1 < cLine) (ho:PE X o td) (he:PE X e ty) (hf:PE X f tx) (m:M2 X o "get" apos e f cpos):PE X (.Call (.Attribute o "get" apos) [e,f] [] cpos) (tDGet2 td ty tx):=by
 intro pins s σ H Q I h
 refine wpAny_Call_method m.base m.few m.line PySem.F.plainAttrs_dict Ky PySem.F.type_dict_get (thn (ho pins s σ H _ I h) fun u s1 ⟨x,H1,I1,rx,a,ex,d,q1⟩=>?_)
 subst ex
 obtain rfl:u=Value.ref a:=rx
 obtain ⟨t1,t2,_⟩:=isD_at I1 d
 refine ⟨t1,t2,?_⟩
 rw [m.trees]
 refine Calls.callWith_builtin rfl (Calls.evalArgs_plain (Calls.spliced_cons (thn (he pins s1 σ H1 _ I1 q1) fun iv s2 ⟨y,H2,I2,ry,q2⟩ =>
  Calls.spliced_cons (thn (hf pins s2 σ H2 _ I2 q2) fun fv s3 ⟨z,H3,I3,rz,ov,g,q3⟩=>Calls.spliced_nil ?_))))
 exact d_get2 hu I3 g ry rz fun w' s4 I4 rw'=>⟨_,H3,I4,rw',q3⟩
end
section
variable {X:Cx} {pins:List (Addr×Obj)} {σ:St} {H:Hp} {s:Shared} {a:Addr} {kvs:List (Key×V)} {A:Around} {E:Value→Shared→Prop}
end
section
variable {X:Cx} {pins:List (Addr×Obj)} {σ:St} {H:Hp} {s:Shared} {a:Addr} {y:V} {u:Value} {A:Around} {E:Value→Shared→Prop}
end
end L2
namespace HT
open PySem PyProof.Rows
theorem eqAt_int (A:Around) (s:Shared) (a:Int) (t:Tok) (c:Int) (u:Tok):∃ e,SeqAt.EqAt A s (.int a t) (.int c u) e∧(e=true↔a=c) :=
 ⟨(a == c),SeqAt.EqAt.int_int a t c u,by simp⟩
theorem rcLt_int (A:Around) (s:Shared) (a:Int) (t:Tok) (c:Int) (u:Tok) (prog:Program) (w:World) (E:Value→Shared→Prop) (Q:Value→Shared→Prop) (h:Q (.bool (decide (a < c))) s) :
  wpAny (model prog w) A (richCompare .Lt (.int a t) (.int c u)) Q E s :=
 (PyProof.Rows.lt_int h:wpAny (model prog w) A (compareOp .Lt (.int a t) (.int c u)) Q E s)
section
open PySem.SeqAt
open PySem.AutoSeq1 (wpAny_loadPart')
open PySem.MeetsSeq PySem.MeetsSeq2 PySem.MeetsSeq3
end
section
variable {prog:Program} {w:World} {A:Around} {E:Value→Shared→Prop} {s:Shared}
def sIx (n d:Nat):Option Int→Nat
 | none=>d
 | some v=>if v < 0 then (v+(n:Int)).toNat else min v.toNat n
theorem sIx_nat (n d k:Nat):sIx n d (some (k:Int))=min k n:=by
 show (if (k:Int) < 0 then ((k:Int)+(n:Int)).toNat else min (k:Int).toNat n)=min k n
 rw [if_neg (by lia),Wj]
end
end HT
namespace L2
open PySem PySem.Spec PyProof.Rows
abbrev TO:=St→Hp→(Option Int→Hp→Prop)→Prop
def PO (X:Cx) (e:Option Expr) (t:TO):Prop :=
 ∀ (pins:List (Addr×Obj)) (s:Shared) (σ:St) (H:Hp) (Q:Option Int→Hp→Prop),Inv X pins σ H s→t σ H Q →
  wpAny (model X.prog X.w) X.A (evalPart e X.env) (fun u s'=>∃ o H',Inv X pins σ H' s'∧IsPart u o∧Q o H') X.xe s
def tNoPart:TO:=fun _ H Q=>Q none H
inductive RPt (x:V) (R:Int→Prop):Prop
 | mk (i:Int) (e:x=.int i) (q:R i):RPt x R
def tPart (t:TE):TO:=fun σ H Q=>t σ H fun x H1=>RPt x fun i=>Q (some i) H1
section
variable {X:Cx} {e:Expr} {te:TE} {lo hi:Option Expr} {tl th:TO} {pos p2:Pos}
theorem zct:PO X none tNoPart:=by
 intro pins s σ H Q I h
 rw [evalPart_none]
 exact wpAny_pure ⟨none,H,I,.none,h⟩
theorem zc1 (h:PE X e te):PO X (some e) (tPart te):=by
 intro pins s σ H Q I hw
 rw [evalPart_some]
 refine thn (h pins s σ H _ I hw) fun u s1 ⟨x,H1,I1,r1,q1⟩=>?_
 obtain ⟨i,rfl,q⟩:=q1
 obtain ⟨t,rfl⟩:=r1
 exact ⟨some i,H1,I1,.int i t,q⟩
def SlR (X:Cx) (r:V→Option Int→Option Int→Hp→VK→Prop):Prop :=
 ∀ (pins:List (Addr×Obj)) (s:Shared) (σ:St) (H:Hp) (x:V) (v vl vu:Value) (lo hi:Option Int) (sl:Addr) (Q:VK),Inv X pins σ H s→RelV x v→s.heap.IsSliceOf sl vl vu .none→IsPart vl lo→IsPart vu hi→r x lo hi H Q →
  ∃ T id,typeLookup (.type T) "__getitem__" = pure (some (.builtin id))∧s.TypeIs v T∧wpAny (model X.prog X.w) X.A (getItem v (.ref sl)) (EP X pins σ Q) X.xe s
def tSl (r:V→Option Int→Option Int→Hp→VK→Prop) (te:TE) (tl th:TO):TE:=fun σ H Q=>te σ H fun x H1=>tl σ H1 fun l H2=>th σ H2 fun u H3=>r x l u H3 Q
theorem zcp {r:V→Option Int→Option Int→Hp→VK→Prop} (hr:SlR X r) (he:PE X e te) (hl:PO X lo tl) (hu:PO X hi th):PE X (.Subscript e (.Slice lo hi none p2) pos) (tSl r te tl th):=by
 intro pins s σ H Q I h
 refine Subscript_ (thn (he pins s σ H _ I h) fun v s1 ⟨x,H1,I1,r1,q1⟩=>?_)
 refine wpAny_Slice (thn (hl pins s1 σ H1 _ I1 q1) fun vl s2 ⟨l,H2,I2,pl,q2⟩=>thn (hu pins s2 σ H2 _ I2 q2) fun vu s3 ⟨u,H3,I3,pu,q3⟩=>?_)
 rw [evalPart_none]
 refine wpAny_pure ?_
 have I4:Inv X pins σ H3 { s3 with heap:=s3.heap.push { cls:=.type "slice",data:=.fields #[vl,vu,.none] } }:=I3.kept (t':=s3.toks) fun b ob q=>Qj _ q
 obtain ⟨T,id,hT,ht,hg⟩:=hr pins { s3 with heap:=s3.heap.push { cls:=.type "slice",data:=.fields #[vl,vu,.none] } } σ H3 x v vl vu l u s3.heap.objs.size Q I4 r1 (Heap.IsSliceOf.new ..) pl pu q3
 show wpAny (model X.prog X.w) X.A (subscriptTail e (.Slice lo hi none p2) v (.ref s3.heap.objs.size)) (EP X pins σ Q) X.xe { s3 with heap:=s3.heap.push { cls:=.type "slice",data:=.fields #[vl,vu,.none] } }
 exact tail_any (ops:=[.ref s3.heap.objs.size,v]) ht hT hg (by with_unfolding_all rfl)
def cutV (xs:List V) (lo hi:Option Int):List V:=(xs.drop (HT.sIx xs.length 0 lo)).take (HT.sIx xs.length xs.length hi - HT.sIx xs.length 0 lo)
theorem za1 (xs:List V) (lo hi:Option Int):(cutV xs lo hi).length≤xs.length:=by
 unfold cutV
 rw [Zm,List.length_drop]
 lia
end
end L2
namespace L2
open PySem PySem.Spec PyProof.Rows
def ixN (n:Nat) (i:Int):Option Nat:=if 0≤i then (if i < n then some i.toNat else none) else if -(n:Int)≤i then some (i+n).toNat else none
def atI {α:Type} (xs:List α) (i:Int):Option α:=(ixN xs.length i).bind fun j=>xs[j]?
theorem ixN_seq {n:Nat} {i:Int} {j:Nat} (h:ixN n i=some j):seqIndex? i n=some j∧j < n∧-(n:Int)≤i∧i < n:=by
 unfold ixN at h
 by_cases h0:0≤i
 ·rw [if_pos h0] at h
  by_cases h1:i < n
  ·rw [if_pos h1] at h
   have e:i.toNat=j:=Qm h
   exact ⟨by rw [seqIndex_of h0 h1,e],by lia,by lia,h1⟩
  ·rw [if_neg h1] at h;cases h
 ·rw [if_neg h0] at h
  by_cases h1:-(n:Int)≤i
  ·rw [if_pos h1] at h
   have e:(i+n).toNat=j:=Qm h
   exact ⟨by rw [seqIndex_neg (by lia) h1,e],by lia,h1,by lia⟩
  ·rw [if_neg h1] at h;cases h
theorem atI_get {α:Type} {xs:List α} {i:Int} {v:α} (h:atI xs i=some v):∃ j,seqIndex? i xs.length=some j∧xs[j]?=some v∧j < xs.length∧-(xs.length:Int)≤i∧i < xs.length:=by
 unfold atI at h
 cases e:ixN xs.length i with
 | none=>rw [e] at h;cases h
 | some j =>
  rw [e] at h
  obtain ⟨h1,h2,h3,h4⟩:=ixN_seq e
  exact ⟨j,h1,h,h2,h3,h4⟩
theorem zbo {α:Type} {xs:List α} {j:Nat} {v:α} (h:xs[j]?=some v):atI xs (j:Int)=some v:=by
 have hj:j < xs.length:=(Qz.mp h).1
 have e:ixN xs.length (j:Int)=some j:=by
  unfold ixN
  rw [if_pos (by lia),if_pos (by exact zar9 ‹_›)];simp
 unfold atI;rw [e];exact h
def PlainIx (b:Expr):Prop:=∀ o i,subscripted b false o i=operate [o,i] (getItem o i)
def IxR (X:Cx) (r:R2):Prop :=
 ∀ (value slice:Expr) (pins:List (Addr×Obj)) (s:Shared) (σ:St) (H:Hp) (x y:V) (v u:Value) (Q:VK),Inv X pins σ H s→RelV x v→RelV y u→r x y H Q →
  subscripted slice false v u=operate [v,u] (getItem v u)→wpAny (model X.prog X.w) X.A (subscriptTail value slice v u) (EP X pins σ Q) X.xe s
def MtR (X:Cx) (id:String) (r:V→List V→Hp→VK→Prop):Prop :=
 ∀ (pins:List (Addr×Obj)) (s:Shared) (σ:St) (H:Hp) (x:V) (xs:List V) (v:Value) (us:List Value) (Q:VK),Inv X pins σ H s→RelV x v→Vals xs us→r x xs H Q →
  wpAny (model X.prog X.w) X.A (call (.builtin id) (v::us)) (EP X pins σ Q) X.xe s
section
variable {X:Cx} {a b:Expr} {ta tb:TE} {pos:Pos}
theorem zbb {r:R2} (hr:IxR X r) (ha:PE X a ta) (hb:PE X b tb) (hs:PlainIx b):PE X (.Subscript a b pos) (tOp r ta tb):=by
 intro pins s σ H Q I h
 exact Subscript_ (binT ha hb I h fun v u s2 x y H2 I2 rx ry q=>hr a b pins s2 σ H2 x y v u Q I2 rx ry q (hs _ _))
inductive RrIxL (K:PySem.W.Frag) (x:V) (y:V) (H:Hp) (Q:VK):Prop
 | mk (p:_) (xs:_) (i:_) (v:_) (h0:x=.ref p) (h1:y=.int i) (h2:SqL K H p xs) (h3:atI xs i=some v) (h4:Q v H):RrIxL K x y H Q
def rIxL (K:PySem.W.Frag):R2:=fun x y H Q=>RrIxL K x y H Q
inductive RrIxT (K:PySem.W.Frag) (x:V) (y:V) (H:Hp) (Q:VK):Prop
 | mk (p:_) (xs:_) (i:_) (v:_) (h0:x=.ref p) (h1:y=.int i) (h2:SqT K H p xs) (h3:atI xs i=some v) (h4:Q v H):RrIxT K x y H Q
def rIxT (K:PySem.W.Frag):R2:=fun x y H Q=>RrIxT K x y H Q
inductive RrIxS (x:V) (y:V) (H:Hp) (Q:VK):Prop
 | mk (z:_) (i:_) (c:_) (h0:x=.str z) (h1:y=.int i) (h2:z.length≤sizeLine) (h3:atI z.cps.toList i=some c) (h4:Q (.str ⟨#[c]⟩) H):RrIxS  x y H Q
def rIxS:R2:=fun x y H Q=>RrIxS  x y H Q
theorem zat:IxR X (rIxL X.K):=by
 intro value slice pins s σ H x y v u Q I rx ry h hs
 obtain ⟨p,xs,i,z,rfl,rfl,hq,he,q⟩:=h
 cases rx
 obtain ⟨t,rfl⟩:=ry
 obtain ⟨its,r,pl,hz⟩:=I.list hq
 obtain ⟨j,h1,h2,h3,h4,h5⟩:=atI_get he
 obtain ⟨w,ew,rw'⟩:=r.get h2
 have hl:=r.length
 have hn:=zeh
 have fin:EP X pins σ Q w s:=⟨z,H,I,rw',q⟩
 by_cases h0:0≤i
 ·have hj:i.toNat=j:=by
   rw [seqIndex_of h0 h5] at h1
   exact Qm h1
  exact item_listR pl.isList h0 (by lia) (by rw [hj];simpa using ew) fin hs
 ·have hj:(i+(its.toArray.size:Int)).toNat=j:=by
   rw [seqIndex_neg (by lia) h4] at h1
   rw [Qv,← hl]
   exact Qm h1
  exact subscriptTail_builtinR (x:=w) pl.isList.typeIs slot_list_getitem.lookup
   (wpAny_getItem_list_neg (Q:=fun r s'=>r=w∧EP X pins σ Q r s') pl.isList (by lia) (by rw [Qv] <;> lia) (by lia) (by rw [hj];simpa using ew) ⟨rfl,fin⟩) hs
theorem zgc:IxR X (rIxT X.K):=by
 intro value slice pins s σ H x y v u Q I rx ry h hs
 obtain ⟨p,xs,i,z,rfl,rfl,hq,he,q⟩:=h
 cases rx
 obtain ⟨t,rfl⟩:=ry
 obtain ⟨its,r,pl,hz⟩:=I.tuple hq
 obtain ⟨j,h1,h2,h3,h4,h5⟩:=atI_get he
 obtain ⟨w,ew,rw'⟩:=r.get h2
 have hl:=r.length
 have hn:=zeh
 have fin:EP X pins σ Q w s:=⟨z,H,I,rw',q⟩
 exact subscriptTail_builtinR (x:=w) pl.typeIs slot_tuple_getitem.lookup
  (getItem_tuple (j:=j) (Q:=fun r s'=>r=w∧EP X pins σ Q r s') pl (by lia) (by lia) (by rw [Qv,← hl];exact h1) (by simpa using ew) ⟨rfl,fin⟩) hs
theorem ix_str:IxR X rIxS:=by
 intro value slice pins s σ H x y v u Q I rx ry h hs
 obtain ⟨z,i,c,rfl,rfl,hz,he,q⟩:=h
 obtain ⟨t,rfl⟩:=rx
 obtain ⟨t',rfl⟩:=ry
 obtain ⟨j,h1,h2,h3,h4,h5⟩:=atI_get he
 have hl:z.cps.toList.length=z.length:=by simp [Str.length]
 rw [hl] at h1 h4 h5
 have hn:=zeh
 exact tail_any (typeIs_str s z t) slot_str_getitem.lookup (getItem_str (c:=c) (by
  have e1:decide (i < -(2 ^ 63:Int))=false:=decide_eq_false (by lia)
  have e2:decide (i≥2 ^ 63)=false:=decide_eq_false (by lia)
  rw [e1,e2,Bool.or_false]) (by rw [h1];simpa using h2) ⟨.str ⟨#[c]⟩,H,I.tok _,⟨_,rfl⟩,q⟩) hs
theorem mapSeq_set (its:List Value) (n j:Nat) (u:Value):Obj.mapSeq (·.setIfInBounds j u) { cls:=.type "list",data:=.seq its.toArray n }={ cls:=.type "list",data:=.seq (its.set j u).toArray n }:=by
 simp [Obj.mapSeq]
theorem Inv.lst {pins:List (Addr×Obj)} {σ:St} {H:Hp} {s:Shared} {p:Addr} {xs:List V} (I:Inv X pins σ H s) (h:H p=some (.lst xs)) :
  ∃ (its:List Value) (n:Nat),Vals xs its∧s.heap.get? p=some { cls:=.type "list",data:=.seq its.toArray n }∧xs.length≤sizeLine:=by
 obtain ⟨z,its,n,r,e⟩:=I.hok p _ h
 exact ⟨its,n,r,e,z⟩
theorem Inv.lstUpd {pins:List (Addr×Obj)} {σ:St} {H:Hp} {s:Shared} {p:Addr} {xs ys:List V} {its its':List Value} {n n':Nat} {f:Obj→Obj} (I:Inv X pins σ H s) (h:H p=some (.lst xs))
  (ho:s.heap.get? p=some { cls:=.type "list",data:=.seq its.toArray n }) (hf:f { cls:=.type "list",data:=.seq its.toArray n }={ cls:=.type "list",data:=.seq its'.toArray n' }) (r:Vals ys its') (hz:ys.length≤sizeLine) (t:Nat) :
  Inv X pins σ (upd H p (.lst ys)) { s with heap:=s.heap.update p f,toks:=t }:=by
 have e:(s.heap.update p f).get? p=some { cls:=.type "list",data:=.seq its'.toArray n' }:=by
  rw [Uu f ho (by rw [hf] <;> rfl),hf]
 refine I.write (x:=p) (e:=p) (by rw [h];trivial) (.inl rfl) (fun b u hb q=>(Yo _ _ (Zl hb)).trans q) ⟨_,e⟩ ?_
 exact ⟨hz,its',n',r,e⟩
inductive RrSetL (o:V) (i:V) (v:V) (H:Hp) (Q:Hp→Prop):Prop
 | mk (p:_) (xs:_) (k:_) (j:_) (h0:o=.ref p) (h1:i=.int k) (h2:H p=some (.lst xs)) (h3:ixN xs.length k=some j) (h4:Q (upd H p (.lst (xs.set j v)))):RrSetL  o i v H Q
def rSetL:V→V→V→Hp→(Hp→Prop)→Prop:=fun o i v H Q=>RrSetL  o i v H Q
theorem set_list:PSet X rSetL:=by
 intro pins s σ H o i v ov iv u Q I ro ri rv h
 obtain ⟨p,xs,k,j,rfl,rfl,hp,hj,q⟩:=h
 cases ro
 obtain ⟨t,rfl⟩:=ri
 obtain ⟨its,n,r,ho,hz⟩:=I.lst hp
 obtain ⟨h1,h2,h3,h4⟩:=ixN_seq hj
 have hl:=r.length
 have hn:=zeh
 have I':Inv X pins σ (upd H p (.lst (xs.set j v))) { s with heap:=s.heap.update p (Obj.mapSeq (·.setIfInBounds j u)) } :=
  I.lstUpd hp ho (mapSeq_set its n j u) (r.set rv j) (by rw [List.length_set];exact hz) s.toks
 by_cases h0:0≤k
 ·have hk:k.toNat=j:=by
   rw [seqIndex_of h0 h4] at h1
   exact Qm h1
  exact PySem.W.ki_setAt ho h0 (by lia) (by rw [Qv,← hl];exact h4) (by rw [hk];exact ⟨_,I',q⟩)
 ·have hk:(k+(its.toArray.size:Int)).toNat=j:=by
   rw [seqIndex_neg (by lia) h3] at h1
   rw [Qv,← hl]
   exact Qm h1
  exact PySem.W.ki_setBack ho (by lia) (by rw [Qv,← hl];exact h3) (by lia) (by rw [hk];exact ⟨_,I',q⟩)
theorem slice_bounds (lo hi:Option Int) (n:Nat):(sliceBounds lo hi none n).1=((HT.sIx n 0 lo:Nat):Int)∧(sliceBounds lo hi none n).2.1=((HT.sIx n n hi:Nat):Int)∧(sliceBounds lo hi none n).2.2=1:=by
 refine ⟨?_,?_,rfl⟩
 ·cases lo with
  | none=>simp [sliceBounds,HT.sIx]
  | some i =>
   simp only [sliceBounds,HT.sIx,Option.getD_none,show (1:Int) > 0 by decide,if_true]
   by_cases h:i < 0
   ·simp only [h,if_true] <;> lia
   ·simp only [h,if_false] <;> lia
 ·cases hi with
  | none=>simp [sliceBounds,HT.sIx]
  | some i =>
   simp only [sliceBounds,HT.sIx,Option.getD_none,show (1:Int) > 0 by decide,if_true]
   by_cases h:i < 0
   ·simp only [h,if_true] <;> lia
   ·simp only [h,if_false] <;> lia
theorem zhg (its:List Value) (lo hi:Option Int):slicePick its.toArray lo hi none=((its.drop (HT.sIx its.length 0 lo)).take (HT.sIx its.length its.length hi - HT.sIx its.length 0 lo)).toArray:=by
 obtain ⟨h1,h2,h3⟩:=slice_bounds lo hi its.toArray.size
 unfold slicePick
 rw [h1,h2,h3]
 simp only [sliceRange_one,pick_run,Qv] <;> rfl
inductive RrSlL (K:PySem.W.Frag) (x:V) (lo:Option Int) (hi:Option Int) (H:Hp) (Q:VK):Prop
 | mk (a:_) (xs:_) (h0:x=.ref a) (h1:SqL K H a xs) (h2:∀ p,H p=none→Q (.ref p) (upd H p (.lst (cutV xs lo hi)))):RrSlL K x lo hi H Q
def rSlL (K:PySem.W.Frag):V→Option Int→Option Int→Hp→VK→Prop:=fun x lo hi H Q=>RrSlL K x lo hi H Q
theorem zda:SlR X (rSlL X.K):=by
 intro pins s σ H x v vl vu lo hi sl Q I rx hs pl pu h
 obtain ⟨a,xs,rfl,hx,q⟩:=h
 cases rx
 obtain ⟨its,r,ht,hz⟩:=I.list hx
 have hlen:=r.length
 refine ⟨"list",_,slot_list_getitem.lookup,ht.isList.typeIs,?_⟩
 refine wpAny_getItem_list_slice ht.isList hs pl pu .none (by simp) ?_ (by rw [Qv] <;> exact zd5 ‹_› ‹_›)
 rw [zhg,← hlen]
 refine ⟨.ref s.heap.objs.size,_,I.laid (t':=s.toks) (o:=.lst (cutV xs lo hi)) (fun b ob q=>Qj _ q) (Qh _) ?_,rfl,q _ (I.hok.fresh (Qh _))⟩
 exact ⟨Zf (za1 xs lo hi) hz,_,0,(r.drop (HT.sIx xs.length 0 lo)).take (HT.sIx xs.length xs.length hi - HT.sIx xs.length 0 lo),Zc _ rfl⟩
def zdu:V→Bool
 | .non=>true
 | .bl _=>true
 | .int _=>true
 | .str _=>true
 | _=>false
def eqV:V→V→Bool
 | .non,.non=>true
 | .bl a,.bl b=>a == b
 | .bl a,.int b=>(if a then 1 else 0) == b
 | .int a,.bl b=>a == (if b then 1 else 0)
 | .int a,.int b=>a == b
 | .str a,.str b=>a == b
 | _,_=>false
theorem eqAt_V {A:Around} {s:Shared} {y x:V} {u v:Value} (ry:RelV y u) (rx:RelV x v) (fy:zdu y=true) (fx:zdu x=true):SeqAt.EqAt A s u v (eqV y x):=by
 cases y with
 | non =>
  cases ry
  cases x with
  | non=>cases rx;exact SeqAt.EqAt.same _
  | bl b=>cases rx;exact SeqAt.EqAt.none_bool b
  | int b=>obtain ⟨t,rfl⟩:=rx;exact SeqAt.EqAt.none_int b t
  | str b=>obtain ⟨t,rfl⟩:=rx;exact SeqAt.EqAt.none_str b t
  | _=>exact absurd (show false=true from fx) Zb
 | bl a =>
  cases ry
  cases x with
  | non=>cases rx;exact SeqAt.EqAt.bool_none a
  | bl b=>cases rx;exact SeqAt.EqAt.bool_bool a b
  | int b=>obtain ⟨t,rfl⟩:=rx;exact SeqAt.EqAt.bool_int a b t
  | str b=>obtain ⟨t,rfl⟩:=rx;exact SeqAt.EqAt.bool_str a b t
  | _=>exact absurd (show false=true from fx) Zb
 | int a =>
  obtain ⟨t',rfl⟩:=ry
  cases x with
  | non=>cases rx;exact SeqAt.EqAt.int_none a t'
  | bl b=>cases rx;exact SeqAt.EqAt.int_bool a t' b
  | int b=>obtain ⟨t,rfl⟩:=rx;exact SeqAt.EqAt.int_int a t' b t
  | str b=>obtain ⟨t,rfl⟩:=rx;exact SeqAt.EqAt.int_str a t' b t
  | _=>exact absurd (show false=true from fx) Zb
 | str a =>
  obtain ⟨t',rfl⟩:=ry
  cases x with
  | non=>cases rx;exact SeqAt.EqAt.str_none a t'
  | bl b=>cases rx;exact SeqAt.EqAt.str_bool a t' b
  | int b=>obtain ⟨t,rfl⟩:=rx;exact SeqAt.EqAt.str_int a t' b t
  | str b=>obtain ⟨t,rfl⟩:=rx;exact Jl a t' b t
  | _=>exact absurd (show false=true from fx) Zb
 | _=>exact absurd (show false=true from fy) Zb
def eqU (x:V) (u:Value):Bool:=match u with
 | .none=>eqV .non x
 | .bool b=>eqV (.bl b) x
 | .int i _=>eqV (.int i) x
 | .str z _=>eqV (.str z) x
 | _=>false
theorem eqU_of {x y:V} {u:Value} (r:RelV y u) (f:zdu y=true):eqU x u=eqV y x:=by
 cases y with
 | non=>cases r;rfl
 | bl b=>cases r;rfl
 | int i=>obtain ⟨t,rfl⟩:=r;rfl
 | str z=>obtain ⟨t,rfl⟩:=r;rfl
 | _=>exact absurd (show false=true from f) Zb
theorem zgl {x:V}:∀ {xs:List V} {us:List Value},Vals xs us→xs.all zdu=true→us.any (eqU x)=xs.any fun y=>eqV y x
 | _,_,.nil,_=>rfl
 | y::xs,u::us,.cons r t,f=>by
  rw [List.all_cons,Ks] at f
  rw [Uz,Uz,eqU_of r f.1,zgl t f.2]
theorem zdt {A:Around} {s:Shared} {x:V} {v:Value} (rx:RelV x v) (fx:zdu x=true):∀ {xs:List V} {us:List Value},Vals xs us→xs.all zdu=true→∀ u∈us,SeqAt.EqAt A s u v (eqU x u)
 | _,_,.nil,_=>fun u hu=>by cases hu
 | y::xs,u::us,.cons r t,f=>fun u' hu=>by
  rw [List.all_cons,Ks] at f
  rcases Qe.mp hu with rfl | hu
  ·rw [eqU_of r f.1];exact eqAt_V r rx f.1 fx
  ·exact zdt rx fx t f.2 u' hu
def inV (x:V) (xs:List V):Bool:=xs.any fun y=>eqV y x
inductive RrIn (K:PySem.W.Frag) (neg:Bool) (x:V) (y:V) (H:Hp) (Q:VK):Prop
 | mk (p:_) (xs:_) (h0:y=.ref p) (h1:(SqL K H p xs∨SqT K H p xs)) (h2:zdu x=true) (h3:xs.all zdu=true) (h4:Q (.bl (if neg then !inV x xs else inV x xs)) H):RrIn K neg x y H Q
def rIn (K:PySem.W.Frag) (neg:Bool):R2:=fun x y H Q=>RrIn K neg x y H Q
theorem op_in_seq:OpR X (compareOp .In) (rIn X.K false):=by
 intro pins s σ H x y v u Q I rx ry h
 obtain ⟨p,xs,rfl,hq,fx,fs,q⟩:=h
 cases ry
 rcases hq with hq | hq
 ·obtain ⟨its,r,pl,hz⟩:=I.list hq
  refine SeqAt.in_listAt (eqU x) pl.isList (fun w hw=>zdt rx fx r fs w (by simpa using hw)) ⟨.bl _,H,I,rfl,?_⟩
  rw [show its.toArray.any (eqU x)=its.any (eqU x) by simp,zgl r fs]
  exact q
 ·obtain ⟨its,r,pl,hz⟩:=I.tuple hq
  refine SeqAt.in_tupleAt (eqU x) pl (fun w hw=>zdt rx fx r fs w (by simpa using hw)) ⟨.bl _,H,I,rfl,?_⟩
  rw [show its.toArray.any (eqU x)=its.any (eqU x) by simp,zgl r fs]
  exact q
theorem zcq:OpR X (compareOp .NotIn) (rIn X.K true):=by
 intro pins s σ H x y v u Q I rx ry h
 obtain ⟨p,xs,rfl,hq,fx,fs,q⟩:=h
 cases ry
 rcases hq with hq | hq
 ·obtain ⟨its,r,pl,hz⟩:=I.list hq
  refine SeqAt.notIn_listAt (eqU x) pl.isList (fun w hw=>zdt rx fx r fs w (by simpa using hw)) ⟨.bl _,H,I,rfl,?_⟩
  rw [show its.toArray.any (eqU x)=its.any (eqU x) by simp,zgl r fs]
  exact q
 ·obtain ⟨its,r,pl,hz⟩:=I.tuple hq
  refine SeqAt.notIn_tupleAt (eqU x) pl (fun w hw=>zdt rx fx r fs w (by simpa using hw)) ⟨.bl _,H,I,rfl,?_⟩
  rw [show its.toArray.any (eqU x)=its.any (eqU x) by simp,zgl r fs]
  exact q
theorem zaq:zca X (.builtin "len") (fun xs H Q=>Ex2 fun p ys=>Aj3 (xs=[.ref p]) ((SqL X.K H p ys)∨( SqT X.K H p ys)) (Q (.int ys.length) H)):=by
 intro pins s σ H xs us Q I r h
 obtain ⟨p,ys,rfl,hq,q⟩:=h
 obtain ⟨u,rfl,rx⟩:=vals1 r
 cases rx
 have hn:=zeh
 rcases hq with hq | hq
 ·obtain ⟨its,r',pl,hz⟩:=I.list hq
  have hlen:=r'.length
  exact Calls.call_len_list pl.isList (by simp only [Qv] <;> lia) ⟨.int ys.length,H,I.tok _,⟨s.toks+1,by rw [Qv,hlen]⟩,q⟩
 ·obtain ⟨its,r',pl,hz⟩:=I.tuple hq
  have hlen:=r'.length
  exact len_tuple pl (by simp only [Qv] <;> lia) ⟨.int ys.length,H,I.tok _,⟨s.toks+1,by rw [Qv,hlen]⟩,q⟩
theorem call_len_str:zca X (.builtin "len") (fun xs H Q=>Ex1 fun z=>Aj3 (xs=[.str z]) (z.length≤sizeLine) (Q (.int z.length) H)):=by
 intro pins s σ H xs us Q I r h
 obtain ⟨z,rfl,hz,q⟩:=h
 obtain ⟨u,rfl,t,rfl⟩:=vals1 r
 have hn:=zeh
 exact len_str (by lia) ⟨.int z.length,H,I.tok _,⟨_,rfl⟩,q⟩
theorem call_list_of:zca X (.type "list") (fun xs H Q=>Ex2 fun p ys=>Aj3 (xs=[.ref p]) ((SqL X.K H p ys)∨( SqT X.K H p ys)) (∀ l,H l=none→Q (.ref l) (upd H l (.lst ys)))):=by
 intro pins s σ H xs us Q I r h
 obtain ⟨p,ys,rfl,hq,q⟩:=h
 obtain ⟨u,rfl,rx⟩:=vals1 r
 cases rx
 have fin:∀ (its:List Value),Vals ys its→ys.length≤sizeLine→∀ (h':Heap) (c':Nat),(∀ b o',s.heap.get? b=some o'→h'.get? b=some o') →
   h'.get? s.heap.objs.size=some { cls:=.type "list",dict:=none,data:=.seq its.toArray c',slots:=#[] }→EP X pins σ Q (.ref s.heap.objs.size) { s with heap:=h' }:=fun its r' hz h' c' kp e =>
  ⟨.ref s.heap.objs.size,_,I.laid (t':=s.toks) kp (Qh _) (show zbr X.prog X.w _ h' _ (.lst ys) from ⟨hz,its,c',r',e⟩),rfl,q _ (I.hok.fresh (Qh _))⟩
 rcases hq with hq | hq
 ·obtain ⟨its,r',pl,hz⟩:=I.list hq
  have hlen:=r'.length
  obtain ⟨o,ho,hc,n,hd⟩:=pl.isList
  exact call_list_seq p (.inl rfl) ho hc hd (fun h' c' kp e=>fin its r' hz h' c' kp e) (by simp only [Qv] <;> exact zd5 ‹_› ‹_›)
 ·obtain ⟨its,r',pl,hz⟩:=I.tuple hq
  have hlen:=r'.length
  obtain ⟨o,ho,hc,n,hd⟩:=pl
  exact call_list_seq p (.inr rfl) ho hc hd (fun h' c' kp e=>fin its r' hz h' c' kp e) (by simp only [Qv] <;> exact zd5 ‹_› ‹_›)
theorem zh5:zca X (.type "tuple") (fun xs H Q=>Ex2 fun p ys=>Aj2 (xs=[.ref p]) ((Aj2 (SqL X.K H p ys) (∀ l,H l=none→Q (.ref l) (upd H l (.tup ys))))∨(Aj2 (SqT X.K H p ys) (Q (.ref p) H)))):=by
 intro pins s σ H xs us Q I r h
 obtain ⟨p,ys,rfl,h⟩:=h
 obtain ⟨u,rfl,rx⟩:=vals1 r
 cases rx
 rcases h with ⟨hq,q⟩ | ⟨hq,q⟩
 ·obtain ⟨its,r',pl,hz⟩:=I.list hq
  have hlen:=r'.length
  refine call_tuple_list pl.isList (fun h' kp=>?_) (by simp only [Qv] <;> exact zd5 ‹_› ‹_›)
  have I1:Inv X pins σ H { s with heap:=h' }:=I.kept (t':=s.toks) kp
  have I2:Inv X pins σ (upd H h'.objs.size (.tup ys)) { s with heap:=h'.push { cls:=.type "tuple",data:=.seq its.toArray } } :=
   I1.laid (t':=s.toks) (fun b o e=>Qj _ e) (Qh _) (show zbr X.prog X.w _ _ _ (.tup ys) from ⟨hz,its,r',IsTup.new _ _⟩)
  exact ⟨.ref h'.objs.size,_,I2,rfl,q _ (I1.hok.fresh (Qh _))⟩
 ·obtain ⟨its,r',pl,hz⟩:=I.tuple hq
  exact call_tuple_same pl ⟨.ref p,H,I,rfl,q⟩
def tyV (K:PySem.W.Frag) (T:String) (x:V) (H:Hp):Prop:=match x with
 | .str _=>T = "str"
 | .int _=>T = "int"
 | .ref p=>(T = "list" ∧ ∃ xs,SqL K H p xs)∨(T = "tuple" ∧ ∃ o,K.lookup p=some o∧o.cls=.type "tuple" ∧ o.dict=none) ∨
   (T = "dict" ∧ ((∃ kvs,H p=some (.dK kvs))∨∃ kvs,H p=some (.dT kvs)))∨(T = "set" ∧ ∃ S n,H p=some (.set S n))
 | _=>False
theorem tyV_is {pins:List (Addr×Obj)} {σ:St} {H:Hp} {s:Shared} {T:String} {x:V} {v:Value} (I:Inv X pins σ H s) (r:RelV x v) (ty:tyV X.K T x H) :
  s.TypeIs v T∧∀ a,v=.ref a→∃ ob,s.heap.get? a=some ob∧ob.dict=none:=by
 cases x with
 | str z =>
  obtain ⟨t,rfl⟩:=r
  cases (show T = "str" from ty)
  exact ⟨typeIs_str s z t,fun _ e=>nomatch e⟩
 | int i =>
  obtain ⟨t,rfl⟩:=r
  cases (show T = "int" from ty)
  exact ⟨typeIs_int s i t,fun _ e=>nomatch e⟩
 | ref p =>
  cases r
  rcases ty with ⟨rfl,xs,hq⟩ | ⟨rfl,o,hk,hc,hd⟩ | ⟨rfl,hk⟩ | ⟨rfl,S,n,hk⟩
  ·obtain ⟨its,_,pl,_⟩:=I.list hq
   refine ⟨pl.isList.typeIs,fun a e=>?_⟩
   cases e
   obtain ⟨o,n,e,c,hd,_⟩:=pl
   exact ⟨o,e,hd⟩
  ·refine ⟨⟨o,I.kIn p o hk,hc⟩,fun a e=>?_⟩
   cases e
   exact ⟨o,I.kIn _ o hk,hd⟩
  ·have z:∃ o,s.heap.get? p=some o∧o.ExactDict:=by
    rcases hk with ⟨kvs,hk⟩ | ⟨kvs,hk⟩
    ·obtain ⟨_,_,_,_,o,_,_,e,ex,_⟩:=I.hok p _ hk
     exact ⟨o,e,ex⟩
    ·obtain ⟨_,_,_,_,o,_,_,e,ex,_⟩:=I.hok p _ hk
     exact ⟨o,e,ex⟩
   obtain ⟨o,e,ex⟩:=z
   refine ⟨⟨o,e,ex.1⟩,fun a e2=>?_⟩
   cases e2
   exact ⟨o,e,ex.2.1⟩
  ·obtain ⟨o,_,_,_,e,ex,_⟩:=I.hok p _ hk
   refine ⟨⟨o,e,ex.1⟩,fun a e2=>?_⟩
   cases e2
   exact ⟨o,e,ex.2.1⟩
 | _=>exact False.elim ty
def tBM0 (K:PySem.W.Frag) (T:String) (r:V→List V→Hp→VK→Prop) (to:TE):TE:=fun σ H Q=>to σ H fun x H1=>tyV K T x H1∧r x [] H1 Q
def tBM (K:PySem.W.Frag) (T:String) (r:V→List V→Hp→VK→Prop) (to:TE) (t:TA):TE:=fun σ H Q=>to σ H fun x H1=>tyV K T x H1∧t σ H1 fun xs H2=>r x xs H2 Q
variable {o e:Expr} {es:List Expr} {to:TE} {t:TA} {name:Str} {apos cpos:Pos} {T id:String} {r:V→List V→Hp→VK→Prop}
theorem pe_bm0 (pa:PlainAttrs T) (slot:Slot T name id) (hty:typeOf (.builtin id)=pure (.type "method_descriptor")) (hm:MtR X id r) (ho:PE X o to)
  (hbase:attributeBase o name X.env (eval o X.env)=eval o X.env:=by rfl) (hline:(apos.endLine == cpos.line)=true:=by rfl):PE X (.Call (.Attribute o name apos) [] [] cpos) (tBM0 X.K T r to):=by
 intro pins s σ H Q I h
 refine wpAny_Call_method0_late hbase hline (thn (ho pins s σ H _ I h) fun v s1 ⟨x,H1,I1,r1,ty,q1⟩=>?_)
 obtain ⟨h1,h2⟩:=tyV_is I1 r1 ty
 exact ⟨T,id,pa,slot,hty,h1,h2,Calls.callWith_builtin rfl (PySem.evalArgs_none (hm pins s1 σ H1 x [] v [] Q I1 r1 .nil q1))⟩
theorem zee (pa:PlainAttrs T) (slot:Slot T name id) (hty:typeOf (.builtin id)=pure (.type "method_descriptor")) (hm:MtR X id r) (ho:PE X o to) (ha:PA X (e::es) t)
  (hbase:attributeBase o name X.env (eval o X.env)=eval o X.env:=by rfl)
  (hfew:((backTo cpos (starEach (e::es) X.env)).all (fun x=>!x.1) && (backToKw cpos (keywordEach [] X.env)).all (fun x=>x.1.isSome)
   && decide ((e::es).length+([]:List Keyword).length+(if ([]:List Keyword).isEmpty then 0 else 1) < 30))=true:=by rfl)
  (hline:(apos.endLine == cpos.line)=true:=by rfl) (hs:starEach (e::es) X.env=(false,eval e X.env)::starEach es X.env:=by rfl) (hplain:(backTo cpos (starEach es X.env)).any (·.1)=false:=by rfl) :
  PE X (.Call (.Attribute o name apos) (e::es) [] cpos) (tBM X.K T r to t):=by
 intro pins s σ H Q I h
 refine wpAny_Call_method_late hbase hfew hline rfl (thn (ho pins s σ H _ I h) fun v s1 ⟨x,H1,I1,r1,ty,q1⟩=>?_)
 obtain ⟨h1,h2⟩:=tyV_is I1 r1 ty
 refine ⟨T,id,pa,slot,hty,h1,h2,?_⟩
 have hA:=ha cpos pins s1 σ H1 _ I1 q1
 rw [hs] at hA ⊢
 refine Calls.callWith_builtin (by show (false || (backTo cpos (starEach es X.env)).any (·.1))=false;rw [hplain] <;> rfl) (Calls.evalArgs_plain ?_)
 exact thn hA fun us s2 ⟨vs,H2,I2,r2,q2⟩=>hm pins s2 σ H2 x vs v us Q I2 r1 r2 q2
end
end L2
namespace L2
open PySem PySem.Spec PyProof.Rows
def MtM (X:Cx) (id:String) (r:V→List V→Hp→VK→Prop):Prop :=
 ∀ (pins:List (Addr×Obj)) (s:Shared) (σ:St) (H:Hp) (x:V) (xs:List V) (v:Value) (us:List Value) (Q:VK),Inv X pins σ H s→RelV x v→Vals xs us→r x xs H Q →
  wpAny (model X.prog X.w) X.A (call (.builtin id) (v::us)) (EP X pins σ Q) X.xe s
theorem Vals.one:∀ {x:V} {us:List Value},Vals [x] us→∃ u,us=[u]∧RelV x u
 | _,_,.cons r .nil=>⟨_,rfl,r⟩
theorem Vals.two:∀ {x y:V} {us:List Value},Vals [x,y] us→∃ u v,us=[u,v]∧RelV x u∧RelV y v
 | _,_,_,.cons r (.cons q .nil)=>⟨_,_,rfl,r,q⟩
theorem Vals.zero:∀ {us:List Value},Vals [] us→us=[]
 | _,.nil=>rfl
theorem Vals.dropLast {xs:List V} {us:List Value} (h:Vals xs us):Vals xs.dropLast us.dropLast:=by
 induction h with
 | nil=>exact .nil
 | cons r t ih =>
  cases t with
  | nil=>exact .nil
  | cons q t'=>exact .cons r ih
theorem Vals.eraseIdx:∀ {xs:List V} {us:List Value} (i:Nat),Vals xs us→Vals (xs.eraseIdx i) (us.eraseIdx i)
 | _,_,_,.nil=>.nil
 | _,_,0,.cons _ t=>t
 | _,_,i+1,.cons r t=>.cons r (Vals.eraseIdx i t)
theorem Vals.reverse {xs:List V} {us:List Value} (h:Vals xs us):Vals xs.reverse us.reverse:=by
 induction h with
 | nil=>exact .nil
 | cons r t ih=>rw [List.reverse_cons,List.reverse_cons];exact Vals.append ih (.cons r .nil)
theorem erase_last {α:Type} (l:List α):l.eraseIdx (l.length - 1)=l.dropLast:=by
 induction l with
 | nil=>rfl
 | cons a r ih =>
  cases r with
  | nil=>rfl
  | cons b r =>
   have e:(a::b::r).length - 1=((b::r).length - 1)+1:=by
    have h1:(a::b::r).length=r.length+2:=rfl
    have h2:(b::r).length=r.length+1:=rfl
    assumption
   rw [e,List.eraseIdx_cons_succ,ih]
   all_goals rfl
section
variable {X:Cx} {pins:List (Addr×Obj)} {σ:St} {H:Hp} {s:Shared} {l b:Addr} {xs ys zs:List V}
theorem Inv.lset {its its':List Value} {n:Nat} {f:Array Value→Array Value} {t':Nat} (I:Inv X pins σ H s) (hH:H l=some (.lst xs))
  (e:s.heap.get? l=some { cls:=.type "list",data:=.seq its.toArray n }) (hf:f its.toArray=its'.toArray) (hv:Vals ys its') (hz:ys.length≤sizeLine) :
  Inv X pins σ (upd H l (.lst ys)) { s with heap:=s.heap.update l (Obj.mapSeq f),toks:=t' }:=by
 have q:=PySem.IsL.update e f
 rw [hf] at q
 refine I.write (x:=l) (e:=l) (by rw [hH];exact trivial) (.inl rfl) (fun b' u hb hu=>(Yo s.heap (Obj.mapSeq f) (Zl hb)).trans hu) ⟨_,q⟩ ?_
 exact ⟨hz,its',_,hv,q⟩
theorem Inv.lnew {its:List Value} {t':Nat} (I:Inv X pins σ H s) (hv:Vals ys its) (hz:ys.length≤sizeLine) :
  Inv X pins σ (upd H s.heap.objs.size (.lst ys)) { s with heap:=s.heap.push { cls:=.type "list",data:=.seq its.toArray },toks:=t' } :=
 I.laid (fun _ _ q=>Qj _ q) (Qh _) ⟨hz,its,0,hv,Zc _ rfl⟩
theorem Inv.fresh (I:Inv X pins σ H s):H s.heap.objs.size=none:=I.hok.fresh (Qh _)
theorem Inv.lstM (I:Inv X pins σ H s) (hH:H l=some (.lst xs)):xs.length≤sizeLine∧∃ (its:List Value) (n:Nat),Vals xs its∧xs.length=its.length∧s.heap.get? l=some { cls:=.type "list",data:=.seq its.toArray n }:=by
 obtain ⟨z,its,n,r,e⟩:=I.hok l _ hH
 exact ⟨z,its,n,r,r.length,e⟩
end
section
variable {X:Cx}
inductive RrAppend (x:V) (vs:List V) (H:Hp) (Q:VK):Prop
 | mk (l:_) (xs:_) (y:_) (h0:x=.ref l) (h1:vs=[y]) (h2:H l=some (.lst xs)) (h3:xs.length < sizeLine) (h4:Q .non (upd H l (.lst (xs++[y])))):RrAppend  x vs H Q
def rAppend:V→List V→Hp→VK→Prop:=fun x vs H Q=>RrAppend  x vs H Q
theorem zcc:MtM X "list.append" rAppend:=by
 intro pins s σ H x vs v us Q I rx rv h
 obtain ⟨l,xs,y,rfl,rfl,hH,hz,q⟩:=h
 cases rx
 obtain ⟨u,rfl,ru⟩:=rv.one
 obtain ⟨z,its,n,r,hl,e⟩:=I.lstM hH
 refine call_meets F.slot_list_append ⟨_,e,rfl⟩ F.entry_list_append (F.args_list_append_2 _ _) (PySem.list_append l its.toArray n u (by rw [Qv];exact zd5 ‹_› ‹_›)) ⟨e,?_⟩
 refine ⟨.non,_,I.lset (its':=its++[u]) hH e (by simp) (r.append (.cons ru .nil)) ?_,rfl,q⟩
 rw [Qw,Wp]
 assumption
inductive RrPop (x:V) (vs:List V) (H:Hp) (Q:VK):Prop
 | mk (l:_) (xs:_) (y:_) (h0:x=.ref l) (h1:vs=[]) (h2:H l=some (.lst xs)) (h3:xs[xs.length - 1]?=some y) (h4:Q y (upd H l (.lst xs.dropLast))):RrPop  x vs H Q
def rPop:V→List V→Hp→VK→Prop:=fun x vs H Q=>RrPop  x vs H Q
theorem mt_pop:MtM X "list.pop" rPop:=by
 intro pins s σ H x vs v us Q I rx rv h
 obtain ⟨l,xs,y,rfl,rfl,hH,hy,q⟩:=h
 cases rx
 have hus:=rv.zero
 subst hus
 obtain ⟨z,its,n,r,hl,e⟩:=I.lstM hH
 obtain ⟨u,hu,ru⟩:=r.get hy
 have hy':its.toArray[its.toArray.size - 1]?=some u:=by
  show its.toArray[its.length - 1]?=some u
  rw [← Ua,← hl]
  exact hu
 refine call_meets F.slot_list_pop ⟨_,e,rfl⟩ F.entry_list_pop (F.args_list_pop_1 _) (MeetsSeq.list_pop_last l its.toArray n u hy' (by rw [Qv];exact zd5 ‹_› ‹_›)) ⟨e,?_⟩
 refine ⟨y,_,I.lset (its':=its.dropLast) hH e ?_ r.dropLast ?_,ru,q⟩
 ·show its.toArray.eraseIdxIfInBounds (its.toArray.size - 1)=its.dropLast.toArray
  rw [Qv,List.eraseIdxIfInBounds_toArray,erase_last]
 ·rw [List.length_dropLast]
  lia
inductive RrCat (x:V) (y:V) (H:Hp) (Q:VK):Prop
 | mk (l:_) (b:_) (xs:_) (zs:_) (h0:x=.ref l) (h1:y=.ref b) (h2:H l=some (.lst xs)) (h3:H b=some (.lst zs)) (h4:xs.length+zs.length≤sizeLine) (h5:∀ p,H p=none→Q (.ref p) (upd H p (.lst (xs++zs)))):RrCat  x y H Q
def rCat:R2:=fun x y H Q=>RrCat  x y H Q
theorem zf0:OpR X (binaryOp .Add) rCat:=by
 intro pins s σ H x y v u Q I rx ry h
 obtain ⟨l,b,xs,zs,rfl,rfl,hH,hB,hz,q⟩:=h
 cases rx
 cases ry
 obtain ⟨z,its,n,r,hl,e⟩:=I.lstM hH
 obtain ⟨z2,its2,n2,r2,hl2,e2⟩:=I.lstM hB
 refine PySem.P.add_list e e2 ?_ (by rw [Qv,Qv];lia)
 have ea:its.toArray++its2.toArray=(its++its2).toArray:=by simp
 rw [ea]
 exact ⟨.ref _,_,I.lnew (t':=s.toks) (r.append r2) (by rw [Qw];assumption),rfl,q _ I.fresh⟩
end
section
variable {prog:Program} {w:World} {A:Around} {E:Value→Shared→Prop} {s:Shared}
end
section
variable {X:Cx}
end
end L2
namespace Att
open PySem PySem.W PySem.Calls PyProof.Rows
theorem zgd {P:Params} {h:Heap}:∀ (ns:List Int) (vs:List Value),WellAll P h vs (ns.map WData.int)→IntsAre vs ns:=by
 intro ns
 induction ns with
 | nil =>
  intro vs w
  rw [Jj] at w
  cases w
  exact .nil
 | cons n ns ih =>
  intro vs w
  rw [Qk] at w
  cases w with
  | cons a b =>
   cases a
   exact .cons _ _ (ih _ b)
theorem script_of {l:OpenLaw} {n:Nat} (hn:l.most=some n) {P:Params} {h:Heap} {args:List WData} {vals:List Value}
  (hpre:l.row.toRowW.claim.pre args=true) (hwl:WellAll P h vals args) :
  ∃ a vs ns,vals=[Value.ref a]∧args=[WData.list (ns.map WData.int)]∧h.get? a=some { cls:=.type "list",data:=.seq vs.toArray }∧IntsAre vs ns∧ns.length≤n:=by
 have hsh:WShape.hasAll [] args [.list .int]=true:=(pre_splitW hpre).1
 have hc:l.pre.holds [] { args:=args }=true:=(pre_splitW hpre).2
 obtain ⟨d,r,rfl,h1,h2⟩:=hasAllW_cons hsh
 obtain rfl:=hasAllW_nil h2
 obtain ⟨xs,rfl,h3⟩:=hasW_list h1
 obtain ⟨ns,rfl⟩:=items_int h3
 have hlen:ns.length≤n:=by
  unfold OpenLaw.pre at hc
  have h4:(WTm.not (.lt (.lit (.int (n:Int))) (.len (.arg 0)))).holds [] { args:=[.list (ns.map .int)] }=true:=by
   have h4:=(holds_andW hc).1
   rw [hn] at h4
   exact h4
  have h5:=condW_of h4 (w_not (w_lt w_lit (w_len_list (w_arg rfl))))
  rw [Qa] at h5
  refine Nat.le_of_not_lt fun q=>?_
  have q':(n:Int) < ((ns.length:Nat):Int):=by exact zar9 ‹_›
  first
   | (rw [decide_eq_true q'] at h5;exact absurd h5 (by decide))
   | (simp at h5;lia)
 cases hwl with
 | cons w1 w2 =>
  cases w2
  cases w1 with
  | list ho hall=>exact ⟨_,_,ns,rfl,rfl,ho,zgd ns _ hall,hlen⟩
theorem post_true (l:OpenLaw) (args:List WData):l.row.toRowW.claim.post args (.bool true) args=true :=
 postW_of (r:=l.row.toRowW) (X:=(true == true))
  (show WShape.has [] (.bool true) .bool=true by first | rfl | decide | simp [WShape.has,WShape.arms,WShape.armsAll])
  (show (WTm.eq .res (.lit (.bool true))).value [] { args:=args,res:=some (.bool true),after:=args }=some (.bool (true == true)) from w_eq_bool (w_res rfl) w_lit) rfl
theorem attach_call {l:OpenLaw} {n:Nat} {q:Program} {loose:List Str} {XP:(Str→Option Value)→Heap→Prop} {YP:World→Heap→Prop} {d:DefRec}
  (hn:l.most=some n) (hdf:d.params.defaults=[])
  (call:∀ (w:World) (s₀ s₁:Shared) (mg mb:Str→Option Value) (fa:Addr) (o:Obj) (pm cd doc:Value) (a:Addr) (vs:List Value) (ns:List Int),
   Ground q loose [] XP w s₀ mg mb s₁.heap→YP w s₁.heap →
   s₁.heap.get? fa=some o→o.data=.func (docDef d.name d.params d.body d.scope pm cd doc)→s₁.heap.CodeRec cd d.name→mg d.name=some (.ref fa) →
   s₁.heap.get? a=some { cls:=.type "list",data:=.seq vs.toArray }→IntsAre vs ns→ns.length≤n→s₁.gens=#[] →
   codeAny (model l.prog w) callerA (.call (.ref fa) ⟨[.ref a],[]⟩) (fun r s'=>r=.ok (.ret (.bool true))∧OldK s₁.heap s'.heap∧s'.os=s₁.os∧AllBare s'.gens) s₁) :
  WalkO q loose XP YP l.row.toRowW d [] (fun f vs=>PySem.call f vs):=by
 intro w s₀ s₁ mg mb G Y fa o pm cd doc dV kV ho hd hcd hD hmg hg args vals as hpre hlay hrd hwl hlo
 obtain rfl:dV=.none:=Dflts.none hD hdf
 obtain rfl:kV=.none:=Dflts.noKw hD
 obtain ⟨a,vs,ns,rfl,rfl,hobj,hints,hlen⟩:=script_of hn hpre hwl
 refine enter_call (codeAny_mono (call w s₀ s₁ mg mb fa o pm cd doc a vs ns G Y ho (fd_plain hd) hcd hmg hobj hints hlen hg) fun r s' hq=>?_)
 obtain ⟨rfl,h2,h3,h4⟩:=hq
 exact ⟨.inl ⟨.bool true,.bool true,[],rfl,fun _=>rfl,.bool true,post_true l _,fun _=>⟨List.Pairwise.nil,fun _ hm=>(nomatch hm)⟩⟩,h2,h3,h4⟩
section
variable {prog:Program} {w:World} {A:Around} {E:Value→Shared→Prop} {s:Shared} {K:Frag}
end
end Att
namespace L2
open PySem PySem.Spec PyProof.Rows
theorem vals_ints:∀ {vs:List Value} {ns:List Int},IntsAre vs ns→Vals (ns.map V.int) vs
 | _,_,.nil=>.nil
 | _,_,.cons n t h=>.cons ⟨t,rfl⟩ (vals_ints h)
def Only (H:Hp):Prop:=∀ b,H b=none∨∃ o xs,H b=some (.frz o (.lst xs))
theorem law_call {P:Program} {w:World} {K:PySem.W.Frag} {mg mb:Str→Option Value} {CX:CXT} {k:Nat} {fa a:Addr} {fd:FuncData} {x:Str} {sp:Sp} {s₁:Shared} {vs:List Value} {ns:List Int}
  (KX:K.In s₁.heap) (hns:s₁.heap.Ns mainGlobals mg) (hb:s₁.heap.Ns builtinsNs mb) (hbb:∀ x:Str,x ≠ "__name__" → mb x=bootBuiltins x) (hlim:s₁.heap.NoLimit) (hg:s₁.gens=#[])
  (ha:s₁.heap.get? a=some { cls:=.type "list",data:=.seq vs.toArray }) (hi:IntsAre vs ns) (hl:ns.length≤sizeLine) (hr:Room k callerA)
  (F:∀ base:Heap,K.In base→base.Ns mainGlobals mg→FnOk P w K mg base CX k fa fd [x] sp) (hbind:∀ (s:Shared) (u:Value),BindsTo s fd ⟨[u],[]⟩ [(x,u)])
  (hsp:∀ H:Hp,Only H→SqL K H a (ns.map V.int)→sp [.ref a] H (fun v _=>v=.bl true) fun _ _ _=>False)
  (hCX:∀ H e s',CX [] H s₁ (fun _ _ _=>False) e s'→False) :
  codeAny (model P w) callerA (.call (.ref fa) ⟨[.ref a],[]⟩) (fun r s'=>r=.ok (.ret (.bool true))∧OldK s₁.heap s'.heap∧s'.os=s₁.os∧AllBare s'.gens) s₁:=by
 have rv:=vals_ints hi
 have lenV:=hi.length
 have core:∀ H:Hp,Only H→SqL K H a (ns.map V.int)→HOk P w H s₁.heap→(∀ b,H b≠none→b=a)→(H a≠none→K.lookup a=none) →
   codeAny (model P w) callerA (.call (.ref fa) ⟨[.ref a],[]⟩) (fun r s'=>r=.ok (.ret (.bool true))∧OldK s₁.heap s'.heap∧s'.os=s₁.os∧AllBare s'.gens) s₁:=by
  intro H hO hS hok hA hK
  have base_of:∀ {b:Addr} {o:Obj},s₁.heap.get? b=some o→H b=none→(hidT s₁.heap H).get? b=some o:=fun e n=>hidT_get e n
  have noA:∀ {b:Addr} {o:Obj} {es:Array DictEntry} {ep:Nat},s₁.heap.get? b=some o→o.data=.dict es ep→H b=none:=fun {b o es ep} e d=>by
   cases q:H b with
   | none=>rfl
   | some u =>
    have e':b=a:=hA b (by rw [q];simp)
    subst e'
    rw [ha] at e;cases e
    have d':Data.seq vs.toArray _=Data.dict es ep:=d
    cases d'
  have nsK:∀ {b:Addr} {m:Str→Option Value},s₁.heap.Ns b m→(hidT s₁.heap H).Ns b m:=fun {b m} ⟨o,es,ep,e,d,r⟩=>⟨o,es,ep,base_of e (noA e d),d,r⟩
  have hKb:K.In (hidT s₁.heap H):=fun b o e=>base_of (KX b o e) (by
   cases q:H b with
   | none=>rfl
   | some u =>
    have e':b=a:=hA b (by rw [q];simp)
    subst e'
    rw [hK (by rw [q];simp)] at e;cases e)
  have hM:Mod K mg (hidT s₁.heap H):=⟨hKb,nsK hns,⟨mb,nsK hb,hbb⟩,let ⟨mc,h1,h2⟩:=hlim;⟨mc,nsK h1,h2⟩⟩
  have e0:Env0 P w K mg (hidT s₁.heap H) callerA [] s₁ H:=⟨rfl,hM,fun b o e=>of_hidT e,Jz (hidT_size _ _),trivial,fun b hb=>absurd (show b∈([]:List Addr) from hb) (by simp),hok,.of_eq hg⟩
  refine codeAny_mono ((F _ hKb (nsK hns)).run callerA [] s₁ H ⟨[.ref a],[]⟩ [.ref a] [.ref a] _ _ hr e0 (hbind s₁ (.ref a)) (.cons rfl .nil) (hsp H hO hS)) fun r s' h=>?_
  cases r with
  | error e=>exact (hCX H e s' h).elim
  | ok fl =>
   cases fl with
   | next=>exact False.elim h
   | brk=>exact False.elim h
   | cont=>exact False.elim h
   | ret u =>
    obtain ⟨v,H',os,bare,un,hok',r',q⟩:=h
    have q':v=.bl true:=q
    subst q'
    obtain rfl:u=Value.bool true:=r'
    refine ⟨rfl,OldK.of_keep fun b o e=>?_,os,bare⟩
    cases q:H b with
    | none=>exact un.keep b o e q (by intro z;exact absurd (show b∈([]:List Addr) from z) (by simp)) (by simp)
    | some u =>
     rcases hO b with z | ⟨ob,xs,z⟩
     ·rw [q] at z;cases z
     ·have z2:=un.frzs b ob _ z
      obtain ⟨e1,_⟩:=hok b _ z
      obtain ⟨e2,_⟩:=hok' b _ z2
      rw [e] at e1;cases e1
      exact e2
 cases hk:K.lookup a with
 | some o =>
  have e:=KX a o hk
  rw [ha] at e
  cases e
  refine core (fun _=>none) (fun _=>.inl rfl) (.inr ⟨_,vs.toArray,_,hk,rfl,rfl,rfl,by rw [Qv,lenV];exact hl,by simpa using rv⟩) (fun b u z=>by have z':(none:Option HO)=some u:=z;cases z') (fun b z=>absurd rfl z) fun z=>absurd rfl z
 | none =>
  refine core (fun b=>if b=a then some (.frz { cls:=.type "list",data:=.seq vs.toArray } (.lst (ns.map V.int))) else none) (fun b=>?_) (.inl (.inr ⟨{ cls:=.type "list",data:=.seq vs.toArray },if_pos rfl⟩)) (fun b u z=>?_) (fun b z=>?_) fun _=>hk
  ·by_cases hb:b=a
   ·exact .inr ⟨_,_,if_pos hb⟩
   ·exact .inl (if_neg hb)
  ·by_cases hb:b=a
   ·have z':=(if_pos hb).symm.trans z
    cases z'
    subst hb
    exact ⟨ha,by rw [Qa];exact hl,vs,_,rv,ha⟩
   ·have z':=(if_neg hb).symm.trans z
    cases z'
  ·by_cases hb:b=a
   ·exact hb
   ·exact absurd (if_neg hb) z
end L2
namespace L2
open PySem PySem.Spec PyProof.Rows
theorem walk_of {l:PySem.W.OpenLaw} {n k:Nat} {q:Program} {loose:List Str} {XP:(Str→Option Value)→Heap→Prop} {YP:World→Heap→Prop} {d:DefRec} {K:Params→PySem.W.Frag} {CX:World→CXT} {sp:World→Sp} {x:Str}
  (hn:l.most=some n) (hn2:n≤sizeLine) (hdf:d.params.defaults=[]) (hr:Room k callerA)
  (hY:∀ (w:World) (h:Heap),YP w h→(K w.params).In h)
  (F:∀ (w:World) (mg:Str→Option Value) (fa:Addr) (h:Heap),(K w.params).In h→h.Ns mainGlobals mg→mg d.name=some (.ref fa) →
   ∃ fd:FuncData,(∀ (s:Shared) (u:Value),BindsTo s fd ⟨[u],[]⟩ [(x,u)]) ∧
    ∀ base:Heap,(K w.params).In base→base.Ns mainGlobals mg→FnOk l.prog w (K w.params) mg base (CX w) k fa fd [x] (sp w))
  (hsp:∀ (w:World) (H:Hp) (a:Addr) (ns:List Int),ns.length≤n→Only H→SqL (K w.params) H a (ns.map V.int)→sp w [.ref a] H (fun v _=>v=.bl true) fun _ _ _=>False)
  (hCX:∀ (w:World) (H:Hp) (s:Shared) (e:Value) (s':Shared),CX w [] H s (fun _ _ _=>False) e s'→False) :
  PySem.W.WalkO q loose XP YP l.row.toRowW d [] (fun f vs=>PySem.call f vs):=by
 refine Att.attach_call hn hdf fun w s₀ s₁ mg mb fa o pm cd doc a vs ns G Y ho hd hcd hmg hobj hints hlen hg=>?_
 have KX:=hY w _ Y
 obtain ⟨fd,hb,hF⟩:=F w mg fa _ KX G.T.g hmg
 exact law_call KX G.T.g G.T.b G.T.builtins G.T.nolimit hg hobj hints (Zf hlen hn2) hr hF hb (fun H hO hS=>hsp w H a ns hlen hO hS) fun H e s'=>hCX w H s₁ e s'
end L2
namespace L2
open PySem PySem.Spec PyProof.Rows
def inClass (s:Stmt) (j:Nat):Stmt:=match s with
 | .ClassDef _ _ _ body _ _ _ _ _ _ _=>body.getD j (.Pass ⟨0,0,0,0⟩)
 | _=>.Pass ⟨0,0,0,0⟩
def zap (s:Stmt):Arguments:=match s with
 | .FunctionDef _ a _ _ _ _ _ _ _ _=>a
 | _=>{ posonlyargs:=[],args:=[],vararg:=none,kwonlyargs:=[],kw_defaults:=[],kwarg:=none,defaults:=[] }
def zao (s:Stmt):List Stmt:=match s with
 | .FunctionDef _ _ b _ _ _ _ _ _ _=>b
 | _=>[]
def zaf (s:Stmt):Scope:=match s with
 | .FunctionDef _ _ _ _ _ _ sc _ _ _=>sc
 | _=>{ kind:=.function,names:=[],isGenerator:=false,isCoroutine:=false }
abbrev CX0:CXT:=fun _ _ _ _ _ _=>False
abbrev E0:XK:=fun _ _ _=>False
theorem zax {X:Cx}:zgn CX0 X E0:=fun _ _ _ _ _ _ _ h=>h.elim
structure Fun (K:PySem.W.Frag) (x qual:Str) (st:Stmt) (f:Addr) (fd:FuncData):Prop where
 ex:∃ (oc:Value) (od:Option Addr) (kV doc pm:Value) (an:Option Addr) (cdv ct:Value) (osl:Array (Option Value)),
  fd=PySem.W.fnOf x qual (zap st) (zao st) (zaf st) .none kV doc pm an cdv ct∧K.lookup f=some ⟨oc,od,.func fd,osl⟩∧PySem.W.codeIn K cdv qual=true
 kp:PySem.W.keepIn K (.ref f)=true
section
variable {P:Program} {w:World} {K:PySem.W.Frag} {mg:Str→Option Value} {base:Heap}
theorem Fun.ok {x qual:Str} {st:Stmt} {f:Addr} {fd:FuncData} {N ps:List Str} {k:Nat} {sp:Sp} (F:Fun K x qual st f fd) (S:zas N ps (zaf st)) (len:∀ vs H Q E,sp vs H Q E→vs.length=ps.length)
  (hbody:∀ (cdv:Value) (A:Around) (outer:List Env) (s:Shared) (H:Hp) (vs:List V) (Q:VK) (E:XK),Room k (A.deeper (envOfC qual (zaf st) s.heap.objs.size f cdv))→sp vs H Q E →
   ∃ t,PSs (cxOf CX0 P w K mg base N qual (zaf st) f cdv A outer s H E).nox (zao st) t∧t { nx:=fun _ H'=>Q .non H',rt:=Q } (start N vs) H):FnOk P w K mg base CX0 (k+1) f fd ps sp:=by
 obtain ⟨oc,od,kV,doc,pm,an,cdv,ct,osl,rfl,lk,hcd⟩:=F.ex
 refine fn_of lk hcd S len fun A outer s H vs Q E hr hsp=>?_
 obtain ⟨t,h,q⟩:=hbody cdv A outer s H vs Q E hr hsp
 exact ⟨t,h.nox,q⟩
theorem Fun.binds {x qual:Str} {st:Stmt} {f:Addr} {fd:FuncData} {ps:List Str} (F:Fun K x qual st f fd)
  (h:∀ (kV doc pm:Value) (an:Option Addr) (cdv ct:Value) (us:List Value),us.length=ps.length→bindArgs (PySem.W.fnOf x qual (zap st) (zao st) (zaf st) .none kV doc pm an cdv ct) ⟨us,[]⟩=pure (ps.zip us)):Binds K fd ps []:=by
 obtain ⟨oc,od,kV,doc,pm,an,cdv,ct,osl,rfl,lk,hcd⟩:=F.ex
 exact .all (h kV doc pm an cdv ct)
theorem za6 {x qual:Str} {st:Stmt} {f:Addr} {oc:Value} {od an:Option Addr} {osl:Array (Option Value)} {kV doc pm cdv ct:Value} (l:K.lookup f=some ⟨oc,od,.func (PySem.W.fnOf x qual (zap st) (zao st) (zaf st) .none kV doc pm an cdv ct),osl⟩)
  (c:PySem.W.codeIn K cdv qual=true) (k:PySem.W.keepIn K (.ref f)=true):Fun K x qual st f (PySem.W.fnOf x qual (zap st) (zao st) (zaf st) .none kV doc pm an cdv ct):=⟨⟨oc,od,kV,doc,pm,an,cdv,ct,osl,rfl,l,c⟩,k⟩
end
theorem zce {A:Around} {k:Nat} (hr:Room k A):A.units+1 < cLine:=Ka (Nat.add_le_add_left (by decide:1≤64) _) hr.units
theorem small1000 {n:Nat} (h:n≤1000):n < sizeLine:=Ka h (by decide)
section
variable {X:Cx}
theorem pv (i:Nat) {x:Str} {pos:Pos} (hN:X.N[i]?=some x:=by rfl) (hv:Vis X.env.scope x:=by first | exact Or.inl rfl | exact Or.inr (Or.inl rfl) | exact Or.inr (Or.inr rfl)) (hd:(x == ("__debug__" : Str))=false:=by decide)
  (hcd:(x == ("__classdict__" : Str))=false:=by decide):PE X (.Name x pos) (tVar i):=pe_var hN hv hd hcd
end
theorem iteF {A B:Prop} (h:B):if false=true then A else B:=by
 rw [if_neg Zb]
 exact h
theorem iteT {A B:Prop} (h:A):if true=true then A else B:=by
 rw [if_pos rfl]
 exact h
theorem ite2 {c A B:Prop} [Decidable c] (h1:c→A) (h2:¬ c→B):if c then A else B:=by
 by_cases h:c
 ·rw [if_pos h]
  exact h1 h
 ·rw [if_neg h]
  exact h2 h
section
variable {κ:Type} [DecidableEq κ]
end
end L2
end
section
namespace L2
open PySem PySem.Spec PyProof.Rows
def clOf (sc:Scope) (env:Env):List (Str×Addr):=sc.names.foldl (fun cs y=>if (y.2 == NameKind.free)=true then (y.1,(env.cells.lookup y.1).getD 0)::cs else cs) []
theorem cl_fold {env:Env}:∀ (l:List (Str×NameKind)) (cs:List (Str×Addr)),(∀ y∈l,y.2=.free→∃ c,env.cells.lookup y.1=some c) →
  (forIn l cs (fun (y:Str×NameKind) (r:List (Str×Addr))=>(do
   let (name,kind):=y
   if (kind == .free)=true then do
    let a ← cellOf env name
    pure (ForInStep.yield ((name,a)::r))
   else pure (ForInStep.yield r):Sem (ForInStep (List (Str×Addr))))))=(pure (l.foldl (fun cs y=>if (y.2 == NameKind.free)=true then (y.1,(env.cells.lookup y.1).getD 0)::cs else cs) cs):Sem (List (Str×Addr)))
 | [],cs,_=>rfl
 | (n,k)::r,cs,h=>by
  rw [List.forIn_cons]
  have ih:=fun cs=>cl_fold (env:=env) r cs fun y hy=>h y (Qf _ hy)
  by_cases hk:(k == NameKind.free)=true
  ·obtain ⟨c,hc⟩:=h (n,k) Qb (by simpa using hk)
   have hc':env.cells.lookup n=some c:=hc
   have e:cellOf env n=pure c:=by unfold cellOf;rw [hc']
   rw [Jc]
   dsimp only
   rw [if_pos hk,if_pos hk,e,hc']
   exact ih _
  ·rw [Jc]
   dsimp only
   rw [if_neg hk,if_neg hk]
   exact ih _
theorem zb7 {sc:Scope} {env:Env} (h:∀ y∈sc.names,y.2=.free→∃ c,env.cells.lookup y.1=some c):closureFor sc env=pure (clOf sc env):=by
 unfold closureFor
 have e:=cl_fold (env:=env) sc.names [] h
 exact (congrArg (fun t:Sem (List (Str×Addr))=>t >>= fun cs=>pure cs) e).trans rfl
theorem clOf_in {env:Env} {x:Str} {c:Addr}:∀ (l:List (Str×NameKind)) (cs:List (Str×Addr)),(∀ y∈l,y.2=.free→∃ c,env.cells.lookup y.1=some c)→(∀ x c,cs.lookup x=some c→env.cells.lookup x=some c) →
  (l.foldl (fun cs y=>if (y.2 == NameKind.free)=true then (y.1,(env.cells.lookup y.1).getD 0)::cs else cs) cs).lookup x=some c→env.cells.lookup x=some c
 | [],cs,_,hc,e=>hc _ _ e
 | (n,k)::r,cs,h,hc,e=>by
  rw [Jc] at e
  refine clOf_in r _ (fun y hy=>h y (Qf _ hy)) ?_ e
  by_cases hk:(k == NameKind.free)=true
  ·obtain ⟨a,ha⟩:=h (n,k) Qb (by simpa using hk)
   have ha':env.cells.lookup n=some a:=ha
   dsimp only
   rw [if_pos hk,ha']
   intro x c q
   rw [Ue] at q
   cases hx:x == n with
   | true =>
    rw [hx] at q
    have q':a=c:=Qm q
    have:x=n:=by simpa using hx
    rw [this,← q'];exact ha'
   | false =>
    rw [hx] at q
    exact hc x c q
  ·dsimp only
   rw [if_neg hk]
   exact hc
theorem zh3 {env:Env} {x:Str}:∀ (l:List (Str×NameKind)) (cs:List (Str×Addr)),((x,NameKind.free)∈l∨∃ c,cs.lookup x=some c) →
  ∃ c,(l.foldl (fun cs y=>if (y.2 == NameKind.free)=true then (y.1,(env.cells.lookup y.1).getD 0)::cs else cs) cs).lookup x=some c
 | [],cs,h=>by
  rcases h with h | h
  ·exact absurd h (by simp)
  ·exact h
 | (n,k)::r,cs,h=>by
  rw [Jc]
  refine zh3 r _ ?_
  rcases h with h | ⟨c,h⟩
  ·rcases Qe.mp h with e | e
   ·obtain ⟨rfl,rfl⟩:=Jo e
    exact .inr ⟨(env.cells.lookup x).getD 0,by dsimp only;rw [if_pos (by rfl),List.lookup_cons];simp⟩
   ·exact .inl e
  ·refine .inr ?_
   dsimp only
   by_cases hk:(k == NameKind.free)=true
   ·rw [if_pos hk,Ue]
    cases hx:x == n with
    | true=>exact ⟨_,rfl⟩
    | false=>exact ⟨c,h⟩
   ·rw [if_neg hk];exact ⟨c,h⟩
structure Blk (X:Cx) (sc:Scope) (M:List Str) (ix:List (Option Nat)):Prop where
 kind:sc.kind=.function
 nocell:∀ y∈sc.names,y.2≠.cell
 names:∀ y∈sc.names,y.2=.local→sc.names.lookup y.1=some .local
 frees:∀ y∈sc.names,y.2=.free→X.env.scope.names.lookup y.1=some .cell∨X.env.scope.names.lookup y.1=some .free
 len:ix.length=M.length
 nd:M.Nodup
 caps:∀ (j i:Nat) (x:Str),M[j]?=some x→ix[j]?=some (some i)→X.N[i]?=some x∧sc.names.lookup x=some .free
def inner (ix:List (Option Nat)) (σ:St):St:=ix.map fun o=>match o with | none=>none | some i=>(σ[i]?).join
def zcf (X:Cx) (sc:Scope) (M:List Str) (C:Addr) (pins:List (Addr×Obj)) (ex:List Addr) (s:Shared) (H:Hp):Cx :=
 {X with N:=M,s₀:=s,H₀:=H,env:=compEnvC sc (clOf sc X.env) C X.env,outer:=X.stack,ex:=ex,fn:=fun _=>false,pn:=X.pn++pins,xe:=fun _ _=>False }
theorem relabel_kind {sc:Scope} {env:Env} {x:Str} (hn:∀ y∈sc.names,y.2≠.cell):((relabel sc env).names.lookup x=some .cell∨(relabel sc env).names.lookup x=some .free)→(x,NameKind.free)∈sc.names:=by
 have go:∀ (l:List (Str×NameKind)),(∀ y∈l,y.2≠.cell)→((l.map fun (y:Str×NameKind)=>match y with | (n,k)=>if (k == NameKind.free && env.scope.kind == .function && env.kindOf n == some .cell) then (n,NameKind.cell) else (n,k)).lookup x=some .cell ∨
   (l.map fun (y:Str×NameKind)=>match y with | (n,k)=>if (k == NameKind.free && env.scope.kind == .function && env.kindOf n == some .cell) then (n,NameKind.cell) else (n,k)).lookup x=some .free)→(x,NameKind.free)∈l:=by
  intro l
  induction l with
  | nil=>intro _ h;rcases h with h | h <;> cases h
  | cons y r ih =>
   obtain ⟨n,k⟩:=y
   intro hc h
   rw [Qk] at h
   dsimp only at h
   by_cases hb:(k == NameKind.free && env.scope.kind == .function && env.kindOf n == some .cell)=true
   ·rw [if_pos hb] at h
    have hk:k=.free:=by
     have:=(Bool.and_eq_true_iff.mp (Bool.and_eq_true_iff.mp hb).1).1
     simpa using this
    rw [Ue] at h
    cases hx:x == n with
    | true =>
     have e:x=n:=by simpa using hx
     rw [e,hk];exact Qb
    | false =>
     rw [hx] at h
     exact Qf _ (ih (fun y hy=>hc y (Qf _ hy)) h)
   ·rw [if_neg hb] at h
    rw [Ue] at h
    cases hx:x == n with
    | true =>
     rw [hx] at h
     have e:x=n:=by simpa using hx
     have hk:k=.free:=by
      rcases h with h | h
      ·exact absurd (Qm h) (hc (n,k) Qb)
      ·exact Qm h
     rw [e,hk];exact Qb
    | false =>
     rw [hx] at h
     exact Qf _ (ih (fun y hy=>hc y (Qf _ hy)) h)
 exact go sc.names hn
section
variable {X:Cx} {sc:Scope} {M:List Str} {ix:List (Option Nat)} {pins:List (Addr×Obj)} {σ:St} {H:Hp} {s:Shared}
theorem Blk.clos (B:Blk X sc M ix) (I:Inv X pins σ H s):∀ y∈sc.names,y.2=.free→∃ c,X.env.cells.lookup y.1=some c:=fun y hy hf =>
 I.ok.has y.1 (by rcases B.frees y hy hf with z | z;exact .inl z;exact .inr z)
theorem inv_blk {ex:List Addr} {s':Shared} {C:Addr} (B:Blk X sc M ix) (I:Inv X pins σ H s) (hx:∀ b∈ex,FpOk X pins H b) (hlt:∀ b∈ex,b < s.heap.objs.size) (hC:C=s.heap.objs.size)
  (hn:s'.heap.Ns C fun _=>none) (hk:∀ b o,s.heap.get? b=some o→s'.heap.get? b=some o) (hg:s'.gens=s.gens) (ho:s'.os=s.os):Inv (zcf X sc M C pins ex s H) [] (inner ix σ) H s':=by
 have cls:=B.clos I
 have cin:∀ x c,(clOf sc X.env).lookup x=some c→X.env.cells.lookup x=some c:=fun x c e=>clOf_in sc.names [] cls (fun _ _ z=>by cases z) e
 have cne:∀ x c,(clOf sc X.env).lookup x=some c→c < s.heap.objs.size:=fun x c e=>by
  obtain ⟨v,q⟩:=I.cell x c (cin x c e)
  exact q.lt
 refine ⟨⟨I.ok.mod,?_,I.ok.glob,I.ok.blt,?_,fun x y c h1 h2=>I.ok.inj x y c (cin x c h1) (cin y c h2),fun x hx=>zh3 sc.names [] (.inl (relabel_kind B.nocell hx)),fun x c h=>absurd h (by simp [zcf]),I.ok.hd,I.ok.frames,.inl rfl,fun b hb=>?_,I.bs,?_,fun b o e hb=>?_,fun b hb=>?_,I.stack,I.stkFree⟩,
  ?_,?_,Un.kept hk,⟨_,hn,fun j x v e1 e2 e3=>?_⟩,fun x c e=>?_,?_,fun x c e=>?_,fun p hp=>?_,I.hok.kept hk,?_⟩
 ·show (relabel sc X.env).kind=.function
  exact B.kind
 ·show s.heap.objs.size≤C
  rw [hC];exact Qh _
 ·have:=hlt b hb
  refine ⟨fun z=>?_,fun x c e=>(hx b hb).2.2.2.2.1 x c (cin x c e)⟩
  have z':b=C:=z
  rw [z',hC] at this
  exact Wc _ this
 ·exact Zf I.ok.bsz I.sz
 ·rcases (hx b hb).2.2.2.1 with z | z
  ·exact I.ok.noex b o e z
  ·have h1:b < X.base.objs.size:=Qx e
   have h2:=I.ok.bsz
   have h3:X.s₀.heap.objs.size≤b:=z
   exact absurd (Zx h1 (Zf h2 h3)) (Wc _)
 ·intro z
  rcases Qe.mp (I.stkSub b z) with q | q
  ·exact (hx b hb).2.1 q
  ·exact (hx b hb).2.2.1 q
 ·exact ho
 ·rw [hg];exact I.bare
 ·have hj:∃ i,ix[j]?=some (some i)∧σ[i]?=some (some v):=by
   unfold inner at e2
   rw [Qn] at e2
   cases q:ix[j]? with
   | none=>rw [q] at e2;cases e2
   | some o =>
    rw [q] at e2
    cases o with
    | none=>cases e2
    | some i =>
     have e2':(σ[i]?).join=some v:=Qm e2
     cases q2:σ[i]? with
     | none=>rw [q2] at e2';cases e2'
     | some w=>rw [q2] at e2';exact ⟨i,rfl,by rw [q2];exact congrArg some e2'⟩
  obtain ⟨i,hi,hσ⟩:=hj
  obtain ⟨hN,hfree⟩:=B.caps j i x e1 hi
  have hm:=Ud hfree
  have hkind:=B.frees (x,.free) hm rfl
  obtain ⟨m,_,hl⟩:=I.loc
  obtain ⟨u,ru,lk⟩:=hl i x v hN hσ (by rcases hkind with z | z;exact .inr (.inl z);exact .inr (.inr z))
  refine ⟨u,ru,.inr ?_⟩
  obtain ⟨c,hc⟩:=zh3 (env:=X.env) sc.names [] (.inl hm)
  have hc':=cin x c hc
  have lk2:s.heap.IsCell c (some u):=by
   rcases lk with ⟨k,_⟩ | ⟨_,c',e',z⟩
   ·have k':X.env.scope.names.lookup x=some .local:=k
    rcases hkind with q | q <;> (rw [show X.env.scope.names.lookup x=_ from q] at k';cases k')
   ·rw [hc'] at e';cases e';exact z
  refine ⟨?_,c,hc,?_⟩
  ·have e3':Vis (relabel sc X.env) x:=e3
   rcases e3' with z | z | z
   ·exfalso
    have:=@lookup_relabel_local
    have hno:∀ (l:List (Str×NameKind)),l.lookup x=some .free→(l.map fun (y:Str×NameKind)=>match y with | (n,k)=>if (k == NameKind.free && X.env.scope.kind == .function && X.env.kindOf n == some .cell) then (n,NameKind.cell) else (n,k)).lookup x≠some .local:=by
     intro l
     induction l with
     | nil=>intro h;cases h
     | cons y r ih =>
      obtain ⟨n,k⟩:=y
      intro h
      rw [Ue] at h
      rw [Qk]
      dsimp only
      by_cases hb:(k == NameKind.free && X.env.scope.kind == .function && X.env.kindOf n == some .cell)=true
      ·rw [if_pos hb,Ue]
       cases hx:x == n with
       | true=>intro q;cases q
       | false=>rw [hx] at h;exact ih h
      ·rw [if_neg hb,Ue]
       cases hx:x == n with
       | true =>
        rw [hx] at h
        intro q
        have h':k=NameKind.free:=Qm h
        have q':k=NameKind.local:=Qm q
        rw [h'] at q';cases q'
       | false=>rw [hx] at h;exact ih h
    exact hno sc.names hfree z
   ·exact .inl z
   ·exact .inr z
  ·obtain ⟨o,ho',hd'⟩:=lk2
   exact ⟨o,hk c o ho',hd'⟩
 ·obtain ⟨v,o,ho',hd'⟩:=I.cell x c (cin x c e)
  exact ⟨v,o,hk c o ho',hd'⟩
 ·show H C=none
  rw [hC]
  exact I.hok.fresh (Qh _)
 ·exact I.freeC x c (cin x c e)
 ·have hp':p∈X.pn++pins:=by
   have:p∈(X.pn++pins)++[]:=hp
   rwa [Zr] at this
  obtain ⟨e,n,ne,nf,d⟩:=I.pin p hp'
  refine ⟨hk _ _ e,n,?_,fun z=>?_,d⟩
  ·intro z
   have z':p.1=C:=z
   have:=Qx e
   rw [z',hC] at this
   exact Wc _ this
  ·rcases Qe.mp (I.stkSub _ z) with q | q
   ·exact ne q
   ·exact nf q
 ·unfold inner
  rw [Qa]
  exact B.len
def PTs (X:Cx) (ifs:List Expr) (t:TT):Prop :=
 ∀ (pins:List (Addr×Obj)) (s:Shared) (σ:St) (H:Hp) (Q:Bool→Hp→Prop),Inv X pins σ H s→t σ H Q →
  wpAny (model X.prog X.w) X.A (forIn ifs true fun c r=>if r=true then do let ok ← isTrue c X.env (eval c X.env);pure (ForInStep.yield ok) else pure (ForInStep.yield r)) (TP X pins σ Q) X.xe s
def tAll:TT:=fun _ H Q=>Q true H
theorem zb9 {X:Cx}:PTs X [] tAll:=fun _ _ _ H _ I h=>wpAny_tests_nil ⟨H,I,h⟩
theorem zc0 {X:Cx} {c:Expr} {t:TT} (h:PT X c t):PTs X [c] t:=fun pins s σ H Q I q=>wpAny_tests_one (h pins s σ H Q I q)
theorem compLoop_any {prog:Program} {w:World} {A:Around} {s:Shared} {elt target iter:Expr} {ifs:List Expr} {scope:Scope} {pos:Pos} {it acc:Value} {env:Env} {R:Result→Shared→Prop} (I:Nat→Shared→Prop)
  (turn:∀ n s,I n s→wpAny (model prog w) A (pyNext it) (fun r s₁=>match r with
   | none=>R (.ok .next) s₁
   | some v=>wpAny (model prog w) A (letOwnedTupleGo target it v) (fun _ s₁'=>wpAny (model prog w) A (assign target env v) (fun _ s₂ =>
     wpAny (model prog w) A (forIn ifs true fun c r=>if r=true then do let ok ← isTrue c env (eval c env);pure (ForInStep.yield ok) else pure (ForInStep.yield r)) (fun ok s₃ =>
      if ok=true then wpAny (model prog w) A (eval elt env) (fun x s₄ =>
       wpAny (model prog w) A (call (.builtin "list.append") [acc,x]) (fun _ s₅=>∃ m,m < n∧I m s₅) (fun _ _=>False) s₄) (fun _ _=>False) s₃
      else ∃ m,m < n∧I m s₃) (fun _ _=>False) s₂) (fun _ _=>False) s₁') (fun _ _=>False) s₁) (fun _ _=>False) s)
  (n:Nat) (h:I n s):codeAny (model prog w) A (.compLoop (.ListComp elt [⟨target,iter,ifs,0⟩] scope pos) 0 it acc env) R s:=by
 refine codeAny_loop rfl I (fun n s hI=>?_) n h
 show wpAny _ A ((compTurn (.ListComp elt [⟨target,iter,ifs,0⟩] scope pos) 0 it acc env).onRaise (fun x=>do noteFrame x env;theTreesLotGoes x)) _ _ s
 refine wpAny_noted ?_
 rw [compTurn_list]
 refine wpAny_bind (wpAny_standAt (wpAny_bind (wpAny_mono (turn n s hI) (fun r s₁ h₁=>?_) fun _ _ h'=>h'.elim)))
 cases r with
 | none=>exact wpAny_pure h₁
 | some v =>
  refine wpAny_bind (wpAny_mono h₁ (fun _ s₁' h₁'=>?_) fun _ _ h'=>h'.elim)
  refine wpAny_bind (wpAny_mono h₁' (fun _ s₂ h₂=>wpAny_bind (wpAny_mono h₂ (fun ok s₃ h₃=>?_) fun _ _ h'=>h'.elim)) fun _ _ h'=>h'.elim)
  cases ok with
  | false=>exact wpAny_pure ⟨rfl,h₃⟩
  | true =>
   exact wpAny_bind (wpAny_bind (wpAny_mono h₃ (fun x s₄ h₄=>wpAny_bind (wpAny_mono h₄ (fun _ s₅ h₅=>wpAny_pure (wpAny_pure ⟨rfl,h₅⟩)) fun _ _ h'=>h'.elim)) fun _ _ h'=>h'.elim))
def rLC (g:TG) (tc:TT) (te:TE) (Q:VK) (J:It) (τ:St) (H1:Hp):Prop:=∃ W:Nat→Nat→List V→St→Hp→Prop,(∃ m,W 0 m [] τ H1)∧∀ i m ys τ H,W i m ys τ H →
 (J.stop i H∧∀ D,H D=none→Q (.ref D) (upd H D (.lst ys))) ∨
 (J.go i H∧ys.length < sizeLine∧∀ x H',J.yld i H x H'→g x τ H' fun τ2 H2=>tc τ2 H2 fun b H3=>if b=true then te τ2 H3 fun y H4=>∃ m',m' < m∧W (i+1) m' (ys++[y]) τ2 H4 else ∃ m',m' < m∧W (i+1) m' ys τ2 H3)
def tLC (ix:List (Option Nat)) (wi:TI) (g:TG) (tc:TT) (te:TE):TE:=fun σ H Q=>wi σ H fun J H1=>rLC g tc te Q J (inner ix σ) H1
theorem lc_block {tg elt iter:Expr} {ifs:List Expr} {pos:Pos} {g:TG} {tc:TT} {te:TE} {fp:List Addr} {it:Addr} {tn:Nat→Heap→Prop} {J:It} {Q:VK} {RR:Value→Addr→Result→Shared→Prop} {E:Value→Shared→Prop}
  (B:Blk X sc M ix) (hc:X.calm=true)
  (hg:∀ C ex s H,PG (zcf X sc M C pins ex s H) tg g) (ht:∀ C ex s H,PTs (zcf X sc M C pins ex s H) ifs tc) (he:∀ C ex s H,PE (zcf X sc M C pins ex s H) elt te)
  (I:Inv X pins σ H s) (T:Turn X.prog X.w X.K tg J fp it tn) (h0:tn 0 s.heap) (hf:∀ b∈fp,FpOk X pins H b) (q:rLC g tc te Q J (inner ix σ) H)
  (hRR:∀ D C m ys H' s',Inv X pins σ (upd H' D (.lst ys)) s'→Q (.ref D) (upd H' D (.lst ys))→s'.heap.Ns C m→upd H' D (.lst ys) C=none→s.heap.objs.size < C→RR (.ref D) C (.ok .next) s') :
  wpAny (model X.prog X.w) X.A (newList []) (fun acc s₃=>wpAny (model X.prog X.w) X.A (newFunctionEnv sc X.env.globals (clOf sc X.env) [] X.env.qual none .none (some X.env)) (fun cenv s₄ =>
   codeAny (model X.prog X.w) X.A (.compStart (.ListComp elt [⟨tg,iter,ifs,0⟩] sc pos) 0 (.ref it) acc { cenv with scope:=relabel sc X.env }) (RR acc cenv.locals) s₄) E s₃) E s:=by
 refine wpAny_newObj_type (wpAny_newFunctionEnv B.nocell (by intro y hy;simp at hy) (fun h₁ hns₁ hsb₁=>?_) B.kind)
 dsimp only at hns₁ hsb₁ ⊢
 generalize hD:s.heap.objs.size=D at hns₁ hsb₁ ⊢
 generalize hH2:s.heap.push { cls:=.type "list",dict:=none,data:=.seq ([]:List Value).toArray }=g2 at hns₁ hsb₁ ⊢
 have hC:g2.objs.size=D+1:=by rw [← hH2,Ja,hD]
 have k2:∀ b o,s.heap.get? b=some o→g2.get? b=some o:=fun b o e=>by rw [← hH2];exact Qj _ e
 have I3:Inv X pins σ H { s with heap:=g2 }:=I.kept (t':=s.toks) k2
 have HD:H D=none:=I.hok.fresh (by rw [hD];exact Qh _)
 have fD:FpOk X pins H D:=I.fpOk (by rw [hD];exact Qh _) HD
 have D2:g2.get? D=some { cls:=.type "list",dict:=none,data:=.seq ([]:List Value).toArray }:=by rw [← hH2,← hD];exact Zc _ rfl
 have k1:∀ b o,g2.get? b=some o→h₁.get? b=some o:=fun b o e=>by
  have hb:b≠g2.objs.size:=Zh (Qx e)
  exact (hsb₁.2 b hb).trans (Qj _ e)
 have fpx:∀ b∈D::fp,FpOk X pins H b:=fun b hb=>by
  rcases Qe.mp hb with e | e
  ·rw [e];exact fD
  ·exact hf b e
 have fplt:∀ b∈D::fp,b < g2.objs.size:=fun b hb=>by
  rcases Qe.mp hb with e | e
  ·rw [e,hC];exact Wy _
  ·obtain ⟨o,q,_⟩:=T.obj _ _ h0 b e
   exact Qx (k2 b o q)
 have fpD:D∉fp:=fun hm=>by
  obtain ⟨o,q,_⟩:=T.obj _ _ h0 D hm
  have:=Qx q
  rw [hD] at this
  exact Wc _ this
 generalize hX':zcf X sc M g2.objs.size pins (D::fp) { s with heap:=g2 } H=Y
 have IY:Inv Y [] (inner ix σ) H { s with heap:=h₁,toks:=s.toks+([]:List (Str×Value)).length }:=by
  rw [← hX']
  exact inv_blk B I3 fpx fplt rfl hns₁ k1 rfl rfl
 have Yg:=hX' ▸ hg g2.objs.size (D::fp) { s with heap:=g2 } H
 have Yt:=hX' ▸ ht g2.objs.size (D::fp) { s with heap:=g2 } H
 have Ye:=hX' ▸ he g2.objs.size (D::fp) { s with heap:=g2 } H
 have eP:Y.prog=X.prog:=by rw [← hX'];rfl
 have eW:Y.w=X.w:=by rw [← hX'];rfl
 have eK:Y.K=X.K:=by rw [← hX'];rfl
 have eA:Y.A=X.A:=by rw [← hX'];rfl
 have eC:Y.calm=true:=by rw [← hX'];exact hc
 have eE:Y.env=compEnvC sc (clOf sc X.env) g2.objs.size X.env:=by rw [← hX'];rfl
 have eX:Y.xe=fun _ _=>False:=by rw [← hX'];rfl
 have eEx:Y.ex=D::fp:=by rw [← hX'];rfl
 have eFs:Y.fs=frs X.stack:=by rw [← hX'];rfl
 have ePn:Y.pn=X.pn++pins:=by rw [← hX'];rfl
 have eL:Y.env.locals=g2.objs.size:=by rw [eE];rfl
 have eH0:Y.H₀=H:=by rw [← hX'];rfl
 have eS0:Y.s₀={ s with heap:=g2 }:=by rw [← hX'];rfl
 have fY:∀ {H':Hp} {pl:List (Addr×Obj)} {b:Addr},b∈D::fp→H' b=none→(∀ p∈pl,p.1≠b)→FpOk Y pl H' b:=fun {H' pl b} hb hn hp=>by
  obtain ⟨f0,f1,f2,f3,f4,f5⟩:=fpx b hb
  refine ⟨hn,?_,?_,.inl (by rw [eEx];exact hb),IY.ok.exf b (by rw [eEx];exact hb) |>.2,fun p hp'=>?_⟩
  ·rw [eL];exact Zh (fplt b hb)
  ·rw [eFs]
   intro z
   rcases Qe.mp (I3.stkSub b z) with q | q
   ·exact f1 q
   ·exact f2 q
  ·rw [ePn] at hp'
   rcases Ql.mp hp' with z | z
   ·exact f5 p z
   ·exact hp p z
 obtain ⟨W,⟨m0,w0⟩,turn⟩:=q
 have loop:∀ sN:Shared,sN={ s with heap:=h₁,toks:=s.toks+([]:List (Str×Value)).length } →
   codeAny (model X.prog X.w) X.A (.compLoop (.ListComp elt [⟨tg,iter,ifs,0⟩] sc pos) 0 (.ref it) (.ref D) (compEnvC sc (clOf sc X.env) g2.objs.size X.env)) (RR (.ref D) g2.objs.size) sN:=by
  rintro sN rfl
  refine compLoop_any (fun n s'=>Ex6 fun i τ H' ys its k=>Aj7 (Inv Y [] τ H' s') (tn i s'.heap) (∀ b∈D::fp,H' b=none) (s'.heap.get? D=some { cls:=.type "list",data:=.seq (its:List Value).toArray k }) (Vals ys its) (ys.length≤sizeLine) (W i n ys τ H')) ?_ m0
   ⟨0,inner ix σ,H,[],[],0,IY,T.keep _ _ _ h0 fun b _ o e=>k1 b o (k2 b o e),fun b hb=>(fpx b hb).1,k1 _ _ D2,.nil,Zd _,w0⟩
  rintro n s5 ⟨i,τ,H5,ys,its,k,I5,t5,n5,d5,v5,z5,w5⟩
  have oD:∀ {s':Shared} {its':List Value} {k':Nat},s'.heap.get? D=some { cls:=.type "list",data:=.seq its'.toArray k' }→∀ b∈[D],∃ o,s'.heap.get? b=some o∧∀ v,o.data≠.cell v:=fun {s' its' k'} e b hb=>by
   rw [Qd.mp hb]
   exact ⟨_,e,fun v z=>by cases z⟩
  have I5':Inv Y ([]++zco [D] s5.heap) τ H5 s5:=I5.pinned (fun b hb=>fY (by rw [Qd.mp hb];exact Qb) (n5 b (by rw [Qd.mp hb];exact Qb)) (by simp)) (oD d5)
  have pD:∀ p∈zco [D] s5.heap,p.1=D∧p.2={ cls:=.type "list",data:=.seq its.toArray k }:=fun p hp=>by
   obtain ⟨e1,e2⟩:=zf1 hp
   have e1':p.1=D:=Qd.mp e1
   rw [e1',d5] at e2
   exact ⟨e1',(Qm e2).symm⟩
  have fN:∀ {H':Hp},(∀ b∈fp,H' b=none)→∀ b∈fp,FpOk Y ([]++zco [D] s5.heap) H' b:=fun hn b hb=>fY (Qf _ hb) (hn b hb) fun p hp z=>by
   rw [Jt] at hp
   rw [(pD p hp).1] at z
   exact fpD (z ▸ hb)
  rcases turn i n ys τ H5 w5 with ⟨stop,qn⟩ | ⟨go,zl,step⟩
  ·have h6:=T.done Y eP eW eK eC i _ s5 τ H5 (fun _ _=>False) I5' (fN fun b hb=>n5 b (Qf _ hb)) t5 stop
   rw [eA] at h6
   refine thn h6 fun r s6 ⟨hr,I6⟩=>?_
   subst hr
   have d6:s6.heap.get? D=some { cls:=.type "list",data:=.seq its.toArray k }:=by
    have hp:=zb1 (fp:=[D]) (Qd.mpr rfl) d5
    exact (I6.pin (D,_) (Qs _ hp)).1
   have H5D:H5 D=none:=n5 D Qb
   obtain ⟨mL,nL,_⟩:=I6.loc
   rw [eL] at nL
   have CD:g2.objs.size≠D:=by rw [hC];exact Nat.succ_ne_self _
   refine hRR D _ mL ys H5 s6 ?_ (qn D H5D) nL ?_ (by rw [hC,hD];exact Wy _)
   ·have u6:=I6.base
    rw [eFs,eEx,eH0,eS0] at u6
    refine I3.call' (ch:=D::fp) (I6.os.trans (by rw [eS0])) ⟨u6.keep,u6.slot,fun b o e n hx=>?_,u6.there,fun b xs e=>?_,fun b o u e=>?_,fun b ps e=>?_⟩ ?_ I6.bare fun b hb=>?_
    ·rw [zad (fun z=>hx (by rw [z];exact Qb))];exact u6.free b o e n hx
    ·rw [zad (zaa e HD)];exact u6.tups b xs e
    ·rw [zad (zaa e HD)];exact u6.frzs b o u e
    ·rw [zad (zaa e HD)];exact u6.tbls b ps e
    ·have ok6:=I6.hok
     rw [eP,eW] at ok6
     intro b u e
     by_cases hb:b=D
     ·subst hb
      rw [zac] at e
      cases e
      exact ⟨z5,its,k,v5,d6⟩
     ·rw [zad hb] at e
      exact (ok6 b u e).stay (fun c v _ q=>q) (fun c q=>by rw [zad (zaa q H5D)];exact q) fun c xs q=>by rw [zad (zaa q H5D)];exact q
    ·obtain ⟨f0,f1,f2,f3,f4,f5⟩:=fpx b hb
     exact ⟨f3,f1,f4,f5⟩
   ·rw [zad CD]
    have:=I6.free
    rw [eL] at this
    exact this
  ·have h6:=T.item Y eP eW eK eC i _ s5 τ H5 (fun _ _=>False) I5' (fN fun b hb=>n5 b (Qf _ hb)) t5 go
   rw [eA] at h6
   refine thn h6 fun r s6 ⟨u,hr,h7⟩=>?_
   subst hr
   refine thn h7 fun _ s7 ⟨x,H7,I7,r7,y7,t7,n7⟩=>?_
   have I7':=I7.pinned (fN n7) (T.obj _ _ t7)
   have h8:=Yg _ s7 τ H7 x u _ I7' r7 (step x H7 y7)
   rw [eP,eW,eA,eX,eE] at h8
   refine thn h8 fun _ s8 ⟨τ8,H8,I8,q8⟩=>?_
   have h9:=Yt _ s8 τ8 H8 _ I8 q8
   rw [eP,eW,eA,eX,eE] at h9
   refine thn h9 fun ok s9 ⟨H9,I9,q9⟩=>?_
   have again:∀ {τ':St} {H':Hp} {s':Shared},Inv Y (([]++zco [D] s5.heap)++zco fp s7.heap) τ' H' s'→s'.heap.get? D=some { cls:=.type "list",data:=.seq its.toArray k }∧H' D=none∧tn (i+1) s'.heap∧∀ b∈fp,H' b=none:=fun {τ' H' s'} I'=>by
    have pp:∀ {b:Addr} {o:Obj},b∈fp→s7.heap.get? b=some o→s'.heap.get? b=some o∧H' b=none:=fun {b o} hb e =>
     let z:=I'.pin (b,o) (Qs _ (Qs _ (zb1 hb e)))
     ⟨z.1,z.2.1⟩
    have hp:=zb1 (fp:=[D]) (Qd.mpr rfl) d5
    have z:=I'.pin (D,_) (Qs _ (Qu _ hp))
    refine ⟨z.1,z.2.1,T.keep _ _ _ t7 fun b hb o e=>(pp hb e).1,fun b hb=>?_⟩
    obtain ⟨o,e,_⟩:=T.obj _ _ t7 b hb
    exact (pp hb e).2
   have drop:∀ {pl:List (Addr×Obj)} {τ':St} {H':Hp} {s':Shared},Inv Y pl τ' H' s'→Inv Y [] τ' H' s':=fun I'=>I'.pins_of (by simp)
   cases ok with
   | false =>
    rw [if_neg (by decide)] at q9 ⊢
    obtain ⟨m',hm,w9⟩:=q9
    obtain ⟨d9,H9D,t9,n9⟩:=again I9
    exact ⟨m',hm,i+1,τ8,H9,ys,its,k,drop I9,t9,fun b hb=>(Qe.mp hb).elim (fun e=>e ▸ H9D) (n9 b),d9,v5,z5,w9⟩
   | true =>
    rw [if_pos rfl] at q9 ⊢
    have h10:=Ye _ s9 τ8 H9 _ I9 q9
    rw [eP,eW,eA,eX,eE] at h10
    refine thn h10 fun y s10 ⟨yv,H10,I10,r10,m',hm,w10⟩=>?_
    obtain ⟨d10,H10D,t10,n10⟩:=again I10
    refine call_meets F.slot_list_append ⟨_,d10,rfl⟩ F.entry_list_append (F.args_list_append_2 _ _) (PySem.list_append D its.toArray k y (by rw [Qv,← v5.length];assumption)) ⟨d10,?_⟩
    have q:=PySem.IsL.update d10 (fun a=>a.push y)
    have e11:(its.toArray.push y)=(its++[y]).toArray:=by simp
    rw [e11] at q
    have kk:∀ b o,b≠D→s10.heap.get? b=some o→(s10.heap.update D (Obj.mapSeq fun a=>a.push y)).get? b=some o:=fun b o hb e=>(Yo s10.heap (Obj.mapSeq fun a=>a.push y) (Zl hb)).trans e
    obtain ⟨g0,g1,g2',g3,g4,g5⟩:=fY (pl:=[]) (H':=H10) (b:=D) Qb H10D (by simp)
    have I11:=(drop I10).turned (h':=s10.heap.update D (Obj.mapSeq fun a=>a.push y)) (t':=s10.toks) (it:=D) kk H10D g1 g3 g4 g5
    exact ⟨m',hm,i+1,τ8,H10,ys++[yv],its++[y],_,I11,T.keep _ _ _ t10 fun b hb o e=>kk b o (fun z=>fpD (z ▸ hb)) e,fun b hb=>(Qe.mp hb).elim (fun e=>e ▸ H10D) (n10 b),q,v5.append (.cons r10 .nil),
     by rw [Qw,Wp];assumption,w10⟩
 exact codeAny_compStart_list (loop _ rfl) (T.self _ 0 _ _ _ (T.keep _ _ _ h0 fun b _ o e=>k1 b o (k2 b o e)) (loop _ rfl))
theorem Inv.letgo {C:Addr} {m:Str→Option Value} {h':Heap} {s₀:Heap} (I:Inv X pins σ H s) (hn:s.heap.Ns C m) (hC:H C=none) (hlt:X.env.locals < s₀.objs.size) (hcl:∀ x c,X.env.cells.lookup x=some c→c < s₀.objs.size)
  (hp:∀ p∈X.pn++pins,p.1 < s₀.objs.size) (hs0:X.s₀.heap.objs.size≤s₀.objs.size) (hc:s₀.objs.size < C) (hs:Heap.SameBut C s.heap h'):Inv X pins σ H { s with heap:=h' } :=
 I.turned (t':=s.toks) (it:=C) (fun b o hb e=>(hs.2 b hb).trans e) hC (Wd (Ws hlt hc)) (.inr (Zf hs0 (Wt hc))) (fun x c e=>Zh (Ws (hcl x c e) hc)) fun p q=>Zh (Ws (hp p q) hc)
theorem Inv.cl_lt (I:Inv X pins σ H s):∀ x c,X.env.cells.lookup x=some c→c < s.heap.objs.size:=fun x c e=>by
 obtain ⟨v,q⟩:=I.cell x c e
 exact q.lt
theorem Inv.pin_lt (I:Inv X pins σ H s):∀ p∈X.pn++pins,p.1 < s.heap.objs.size:=fun p hp=>Qx (I.pin p hp).1
theorem zd1 {tg elt iter:Expr} {ifs:List Expr} {pos:Pos} {wi:TI} {g:TG} {tc:TT} {te:TE} (B:Blk X sc M ix) (hc:X.calm=true) (hi:PI X tg iter wi)
  (hg:∀ C pins ex s H,PG (zcf X sc M C pins ex s H) tg g) (ht:∀ C pins ex s H,PTs (zcf X sc M C pins ex s H) ifs tc) (he:∀ C pins ex s H,PE (zcf X sc M C pins ex s H) elt te)
  (hs:∀ x,foldedSetIterable iter X.env x=pure x:=by intro _;rfl):PE X (.ListComp elt [⟨tg,iter,ifs,0⟩] sc pos) (tLC ix wi g tc te):=by
 intro pins s σ H Q I h
 rw [eval_ListComp]
 refine wpAny_comprehension_free (use:=none) rfl hs (zb7 (B.clos I)) B.kind B.names (thn (hi pins s σ H _ I h) fun v s1 h1=>thn h1 fun itv s2 h2=>?_)
 obtain ⟨it,fp,tn,J,H2,e,I2,T,st2,f2,q⟩:=h2
 subst e
 refine lc_block (RR:=fun acc C=>compPost (model X.prog X.w) X.A X.xe none (EP X pins σ Q) acc C) B hc (hg · pins) (ht · pins) (he · pins) I2 T st2 f2 q ?_
 intro D C m ys H' s' I' q' hn hC hlt
 refine ⟨m,hn,fun h' hs'=>⟨.ref D,_,I'.letgo hn hC I2.lt I2.cl_lt I2.pin_lt I2.sz hlt hs',rfl,q'⟩⟩
theorem ps_lc {i:Nat} {y:Str} {tg elt iter:Expr} {ifs:List Expr} {pos spos py:Pos} {wi:TI} {g:TG} {tc:TT} {te:TE} (hN:X.N.Nodup) (hi':X.N[i]?=some y) (hy:X.env.scope.names.lookup y=some .local)
  (B:Blk X sc M ix) (hc:X.calm=true) (hi:PI X tg iter wi)
  (hg:∀ C pins ex s H,PG (zcf X sc M C pins ex s H) tg g) (ht:∀ C pins ex s H,PTs (zcf X sc M C pins ex s H) ifs tc) (he:∀ C pins ex s H,PE (zcf X sc M C pins ex s H) elt te)
  (hsw:swapsWith (.ListComp elt [⟨tg,iter,ifs,0⟩] sc pos) (some (.Name y py)) spos.line X.env=pure true)
  (hs:∀ x,foldedSetIterable iter X.env x=pure x:=by intro _;rfl):PS X (.Assign [.Name y py] (.ListComp elt [⟨tg,iter,ifs,0⟩] sc pos) spos) (tAsg (tLC ix wi g tc te) (gName i)):=by
 intro pins s σ H D' I h
 rw [exec_Assign_Name_used _ _ _ _ hsw]
 refine wpAny_bind (wpAny_standAt (wpAny_bind ?_))
 show wpAny _ X.A (do let _ ← comprehension (.ListComp elt [⟨tg,iter,ifs,0⟩] sc pos) sc X.env _ (newList []) false (eval iter X.env) (some (assign (.Name y py) X.env))) _ _ s
 refine wpAny_bind (wpAny_mono (wpAny_comprehension_free (use:=some (assign (.Name y py) X.env)) (Q:=fun _ s'=>SP X pins D' .next s') rfl hs (zb7 (B.clos I)) B.kind B.names
  (thn (hi pins s σ H _ I h) fun v s1 h1=>thn h1 fun itv s2 h2=>?_)) (fun _ s' hq=>wpAny_pure (wpAny_pure hq)) fun _ _ e=>e)
 obtain ⟨it,fp,tn,J,H2,e,I2,T,st2,f2,q⟩:=h2
 subst e
 refine lc_block (RR:=fun acc C=>compPost (model X.prog X.w) X.A X.xe (some (assign (.Name y py) X.env)) (fun _ s'=>SP X pins D' .next s') acc C) B hc (hg · pins) (ht · pins) (he · pins) I2 T st2 f2 q ?_
 intro D C m ys H' s' I' q' hn hC hlt
 show wpAny _ X.A (assign (.Name y py) X.env (.ref D)) _ _ s'
 refine wpAny_assign_Name (zfp I' hN hi' (.inl hy) (v:=.ref D) rfl (fun s'' I'' ⟨a,sb,ha⟩=>?_) (.inr hy))
 have aC:C≠a:=by
  rcases ha with z | z
  ·rw [z];exact Wd (Ws I2.lt hlt)
  ·exact Wd (Ws (I2.cl_lt _ _ z) hlt)
 have hn2:=hn.sameBut sb aC
 exact ⟨m,hn2,fun h' hs'=>⟨_,_,I''.letgo hn2 hC I2.lt I2.cl_lt I2.pin_lt I2.sz hlt hs',q'⟩⟩
end
end L2
end
section
namespace Tm
open PySem PyProof.Rows
def gallopT:Bool→Keyed→Array Keyed→Nat→Nat→Nat→StateT SortSt Sem (Option Nat):=sortPriv% PySem.Builtin.gallop
def mergeLoT:Array Keyed→Array Keyed→StateT SortSt Sem (Array Keyed):=sortPriv% PySem.Builtin.mergeLo
def mergeHiT:Array Keyed→Array Keyed→StateT SortSt Sem (Array Keyed):=sortPriv% PySem.Builtin.mergeHi
section
variable {σ α β:Type} {M:Model} {A:Around} {E:Value→Shared→Prop} {s:Shared} {Q:α→σ→Prop} {st:σ} {c:Prop} [Decidable c]
theorem zc2 {m:StateT σ Sem α} (h:∀ Q0:α→σ→Prop,(∀ r st',Q r st'→Q0 r st')→wpS M A E s m Q0 st):wpS M A E s m Q st:=h Q fun _ _ z=>z
theorem jp_if {f:Unit→β→StateT σ Sem α} {x y:β} (h:∀ z,wpS M A E s (f () z) Q st):wpS M A E s (if c then f () x else f () y) Q st:=by
 split
 ·exact h _
 ·exact h _
theorem zan {x y:StateT σ Sem α} (h1:c→wpS M A E s x Q st) (h2:¬ c→wpS M A E s y Q st):wpS M A E s (if c then x else y) Q st:=by
 split
 next z=>exact h1 z
 next z=>exact h2 z
end
section
variable {prog:Program} {w:World} {A:Around} {E:Value→Shared→Prop} {s:Shared} {kd:SortKind} {a₀:Array Keyed}
def Cmp (prog:Program) (w:World) (A:Around) (E:Value→Shared→Prop) (s:Shared) (kd:SortKind) (a₀:Array Keyed):Prop :=
 ∀ (x y:Keyed) (st:SortSt) (Q:Option Bool→SortSt→Prop),x∈a₀.toList→y∈a₀.toList→kindOf st=kd→(∀ b,Q (some b) st)→wpS (model prog w) A E s (lt' x y) Q st
def Of (a₀ xs:Array Keyed):Prop:=∀ (i:Nat) (p:Keyed),xs[i]?=some p→p∈a₀.toList
theorem zav {arr:Array Keyed} {i:Nat} {p:Keyed} {Q:Keyed→SortSt→Prop} {st:SortSt} (h:arr[i]?=some p) (q:Q p st):wpS (model prog w) A E s (elem' arr i) Q st:=by
 rw [elem'_eq,h];exact wpS_pure q
def beyondT (left:Bool) (ky:Keyed) (arr:Array Keyed) (i:Nat):StateT SortSt Sem (Option Bool):=do
 let x ← elem' arr i
 if left=true then lt' x ky else do
  let r ← lt' ky x
  pure (r.map fun z=>!z)
theorem wpS_beyond {left:Bool} {ky:Keyed} {arr:Array Keyed} {i:Nat} {Q:Option Bool→SortSt→Prop} {st:SortSt} (C:Cmp prog w A E s kd a₀) (hk:kindOf st=kd) (hO:Of a₀ arr) (hy:ky∈a₀.toList) (hi:i < arr.size)
  (q:∀ b,Q (some b) st):wpS (model prog w) A E s (beyondT left ky arr i) Q st:=by
 have e:=getElem?_pos arr i hi
 unfold beyondT
 refine wpS_bind (zav e ?_)
 have m:=hO _ _ e
 cases left with
 | true=>exact C _ _ _ _ m hy hk q
 | false=>exact wpS_bind (C _ _ _ _ hy m hk fun b=>wpS_pure (q _))
theorem zci {left:Bool} {ky:Keyed} {arr:Array Keyed} {base n hint:Nat} {Q:Option Nat→SortSt→Prop} {st:SortSt} (C:Cmp prog w A E s kd a₀) (hk:kindOf st=kd) (hO:Of a₀ arr) (hy:ky∈a₀.toList)
  (hb:base+n≤arr.size) (hh:hint < n) (h:∀ k,k≤n→Q (some k) st):wpS (model prog w) A E s (gallopT left ky arr base n hint) Q st:=by
 have ask:∀ {i:Nat} {Q':Option Bool→SortSt→Prop},i < n→(∀ b,Q' (some b) st)→wpS (model prog w) A E s (beyondT left ky arr (base+i)) Q' st:=fun {i Q'} hi q=>wpS_beyond C hk hO hy (by omega) q
 have last:∀ (f:Nat→(Option (Option Nat)×Nat×Nat)→StateT SortSt Sem (ForInStep (Option (Option Nat)×Nat×Nat))) (lo hi:Nat),lo≤hi→hi≤n →
   (∀ x l r Q',l≥r→Q' (ForInStep.done (none,l,r)) st→wpS (model prog w) A E s (f x (none,l,r)) Q' st) →
   (∀ x l r Q',¬ l≥r→r≤n→Q' (ForInStep.yield (none,l+(r - l) / 2+1,r)) st→Q' (ForInStep.yield (none,l,l+(r - l) / 2)) st→wpS (model prog w) A E s (f x (none,l,r)) Q' st) →
   wpS (model prog w) A E s (forIn [:n] (none,lo,hi) f) (fun c st'=>st'=st∧∃ k,c=(none,k,k)∧k≤n) st:=by
  intro f lo hi h1 h2 f1 f2
  refine wpS_forRange (I:=fun x c st'=>Aj2 (st'=st) (Ex2 fun l r=>Aj4 (c=(none,l,r)) (l≤r) (r≤n) (r - l≤n - x))) ?step ?fin ?init
  case init=>exact ⟨rfl,lo,hi,rfl,h1,h2,by omega⟩
  case fin =>
   rintro c st' ⟨rfl,l,r,rfl,a1,a2,a3⟩
   have:l=r:=by omega
   subst this
   exact ⟨rfl,l,rfl,a2⟩
  case step =>
   rintro x c st' _ hx ⟨rfl,l,r,rfl,a1,a2,a3⟩
   by_cases hge:l≥r
   ·refine f1 x l r _ hge ?_
    have:l=r:=Nat.le_antisymm a1 hge
    subst this
    exact ⟨rfl,l,rfl,a2⟩
   ·exact f2 x l r _ hge a2 ⟨rfl,_,_,rfl,by omega,a2,by omega⟩ ⟨rfl,_,_,rfl,Wr _ _,by omega,by omega⟩
 unfold gallopT
 refine wpS_bind (ask (i:=hint) hh fun b0=>?_)
 cases b0 with
 | true =>
  refine wpS_bind (wpS_mono (wpS_forRange
   (I:=fun x c st'=>Aj2 (st'=st) (Ex2 fun la of=>Aj4 (c=(none,la,of)) (hint+la < n) (la < of) (x < of)))
   (Q:=fun c st'=>Aj2 (st'=st) (Ex2 fun la of=>Aj3 (c=(none,la,of)) (hint+la < n) (la < of))) ?step ?fin ?init) ?post)
  case init=>exact ⟨rfl,0,1,rfl,hh,Qh _,Qh _⟩
  case fin =>
   rintro c st' ⟨rfl,la,of,rfl,a2,a3,a4⟩
   exact ⟨rfl,la,of,rfl,a2,a3⟩
  case step =>
   rintro x c st' _ hx ⟨rfl,la,of,rfl,a2,a3,a4⟩
   dsimp only
   refine zan (fun _=>wpS_pure ⟨rfl,la,of,rfl,a2,a3⟩) fun hge=>wpS_bind (ask (i:=hint+of) (by omega) fun b=>?_)
   cases b with
   | true=>exact wpS_pure ⟨rfl,of,2*of+1,rfl,by omega,by omega,by omega⟩
   | false=>exact wpS_pure ⟨rfl,la,of,rfl,a2,a3⟩
  case post =>
   rintro c st' ⟨rfl,la,of,rfl,a2,a3⟩
   refine wpS_bind (wpS_mono (last _ (hint+la+1) (hint+min of (n - hint)) (by omega) (by omega) ?_ ?_) ?_)
   ·intro x l r Q' hge q
    exact zan (fun _=>wpS_pure q) fun z=>absurd hge z
   ·intro x l r Q' hge hr q1 q2
    refine zan (fun z=>absurd z hge) fun _=>wpS_bind (ask (i:=l+(r - l) / 2) (by omega) fun b=>?_)
    cases b with
    | true=>exact wpS_pure q1
    | false=>exact wpS_pure q2
   ·rintro c st' ⟨rfl,k,rfl,b1⟩
    exact wpS_pure (h k b1)
 | false =>
  refine wpS_bind (wpS_mono (wpS_forRange
   (I:=fun x c st'=>Aj2 (st'=st) (Ex2 fun la of=>Aj4 (c=(none,la,of)) (la≤hint) (la < of) (x < of)))
   (Q:=fun c st'=>Aj2 (st'=st) (Ex2 fun la of=>Aj3 (c=(none,la,of)) (la≤hint) (la < of))) ?step ?fin ?init) ?post)
  case init=>exact ⟨rfl,0,1,rfl,Zd _,Qh _,Qh _⟩
  case fin =>
   rintro c st' ⟨rfl,la,of,rfl,a2,a3,a4⟩
   exact ⟨rfl,la,of,rfl,a2,a3⟩
  case step =>
   rintro x c st' _ hx ⟨rfl,la,of,rfl,a2,a3,a4⟩
   dsimp only
   refine zan (fun _=>wpS_pure ⟨rfl,la,of,rfl,a2,a3⟩) fun hge=>wpS_bind (ask (i:=hint - of) (by omega) fun b=>?_)
   cases b with
   | true=>exact wpS_pure ⟨rfl,la,of,rfl,a2,a3⟩
   | false=>exact wpS_pure ⟨rfl,of,2*of+1,rfl,by omega,by omega,by omega⟩
  case post =>
   rintro c st' ⟨rfl,la,of,rfl,a2,a3⟩
   refine wpS_bind (wpS_mono (last _ (hint+1 - min of (hint+1)) (hint - la) (by omega) (by omega) ?_ ?_) ?_)
   ·intro x l r Q' hge q
    exact zan (fun _=>wpS_pure q) fun z=>absurd hge z
   ·intro x l r Q' hge hr q1 q2
    refine zan (fun z=>absurd z hge) fun _=>wpS_bind (ask (i:=l+(r - l) / 2) (by omega) fun b=>?_)
    cases b with
    | true=>exact wpS_pure q1
    | false=>exact wpS_pure q2
   ·rintro c st' ⟨rfl,k,rfl,b1⟩
    exact wpS_pure (h k b1)
end
section
variable {prog:Program} {w:World} {A:Around} {E:Value→Shared→Prop} {s:Shared} {kd:SortKind} {a₀:Array Keyed}
variable {all out ra rb seg:List Keyed}
def Pm (all out ra rb:List Keyed):Prop:=(out++(ra++rb)).Perm all
theorem Pm.appA (j:Pm all out (seg++ra) rb):Pm all (out++seg) ra rb:=by
 unfold Pm at *
 rw [Qy,← Qy seg];exact j
theorem Pm.appB (j:Pm all out ra (seg++rb)):Pm all (out++seg) ra rb:=by
 unfold Pm at *
 rw [Qy]
 refine List.Perm.trans (Yc _ ?_) j
 rw [← Qy,← Qy]
 exact Wf.append_right _
theorem drop_cons {a:Array Keyed} {i:Nat} (h:i < a.size):a.toList.drop i=a[i]::a.toList.drop (i+1):=by
 rw [Uv (by simpa using h)];simp
theorem zc3 {a:Array Keyed} {i:Nat}:(a.extract i a.size).toList=a.toList.drop i:=by
 simp [Qp]
theorem zge {a:Array Keyed} {i k:Nat} (h:i+k≤a.size):(a.extract i (i+k)).toList++a.toList.drop (i+k)=a.toList.drop i:=by
 rw [Array.toList_extract,Kf]
 have:i+k - i=k:=by omega
 rw [this,← List.drop_drop,Yq]
abbrev Pa (a b o:Array Keyed) (i k:Nat):Prop:=Pm (a.toList++b.toList) o.toList (a.toList.drop i) (b.toList.drop k)
variable {a b o:Array Keyed} {i k n:Nat}
theorem Pa.pushA (j:Pa a b o i k) (h:i < a.size):Pa a b (o.push a[i]) (i+1) k:=by
 have:=Pm.appA (seg:=[a[i]]) (ra:=a.toList.drop (i+1)) (by rw [Wn,← drop_cons h];exact j)
 rwa [← Jk] at this
theorem Pa.pushB (j:Pa a b o i k) (h:k < b.size):Pa a b (o.push b[k]) i (k+1):=by
 have:=Pm.appB (seg:=[b[k]]) (rb:=b.toList.drop (k+1)) (by rw [Wn,← drop_cons h];exact j)
 rwa [← Jk] at this
theorem Pa.runA (j:Pa a b o i k) (h:i+n≤a.size):Pa a b (o++a.extract i (i+n)) (i+n) k:=by
 have:=Pm.appA (seg:=(a.extract i (i+n)).toList) (ra:=a.toList.drop (i+n)) (by rw [zge h];exact j)
 show Pm _ (o++a.extract i (i+n)).toList _ _
 rw [Zz];exact this
theorem Pa.runB (j:Pa a b o i k) (h:k+n≤b.size):Pa a b (o++b.extract k (k+n)) i (k+n):=by
 have:=Pm.appB (seg:=(b.extract k (k+n)).toList) (rb:=b.toList.drop (k+n)) (by rw [zge h];exact j)
 show Pm _ (o++b.extract k (k+n)).toList _ _
 rw [Zz];exact this
theorem Pa.end1 (j:Pa a b o i k):(o++a.extract i++b.extract k).toList.Perm (a.toList++b.toList):=by
 rw [Zz,Zz,zc3,zc3,Qy];exact j
theorem Pa.end2 (j:Pa a b o i k):(o++b.extract k++a.extract i).toList.Perm (a.toList++b.toList):=by
 rw [Zz,Zz,zc3,zc3,Qy]
 exact (Yc _ Wf).trans j
def SG (st st':SortSt):Prop:=∃ g,st'=SortSt.mk' (kindOf st) (arrOf st) (pendingOf st) g (failedOf st)
theorem wpS_mergeLo {Q:Array Keyed→SortSt→Prop} {st:SortSt} (C:Cmp prog w A E s kd a₀) (hk:kindOf st=kd) (oa:Of a₀ a) (ob:Of a₀ b) (ha:0 < a.size) (hb:0 < b.size)
  (h:∀ (res:Array Keyed) (st':SortSt),res.toList.Perm (a.toList++b.toList)→SG st st'→Q res st'):wpS (model prog w) A E s (mergeLoT a b) Q st:=by
 have ia_:∀ i (hi:i < a.size),a[i]∈a₀.toList:=fun i hi=>oa i _ (getElem?_pos a i hi)
 have ib_:∀ i (hi:i < b.size),b[i]∈a₀.toList:=fun i hi=>ob i _ (getElem?_pos b i hi)
 have ea:∀ i (hi:i < a.size),a[i]?=some a[i]:=fun i hi=>getElem?_pos a i hi
 have eb:∀ i (hi:i < b.size),b[i]?=some b[i]:=fun i hi=>getElem?_pos b i hi
 have sgk:∀ {st'},SG st st'→kindOf st'=kd:=fun ⟨g,e⟩=>by rw [e];exact hk
 unfold mergeLoT
 refine wpS_bind (wpS_lift (wpAny_rule ⟨rfl,?_⟩))
 refine wpS_bind (zav (eb 0 hb) ?_)
 have j0:Pa a b (#[b[0]]:Array Keyed) 0 1:=by
  have j:Pa a b (#[]:Array Keyed) 0 0:=by show List.Perm _ _;simp
  exact j.pushB hb
 refine zan (fun c1=>wpS_pure (h _ _ j0.end1 ⟨_,rfl⟩)) fun c1=>zan (fun c2=>wpS_pure (h _ _ j0.end2 ⟨_,rfl⟩)) fun c2=>?_
 have c1':¬ b.size=1:=fun z=>c1 (by simp [z])
 have c2':¬ a.size=1:=fun z=>c2 (by simp [z])
 refine wpS_bind (wpS_get ?_)
 refine wpS_bind (wpS_mono (wpS_forRange
  (I:=fun x c st'=>Aj2 (SG st st') (Ex4 fun o i k g=>Aj5 (c=(none,o,i,k,g)) (i+1 < a.size) (k < b.size) (Pa a b o i k) (x≤i+k)))
  (Q:=fun c st'=>Aj2 (SG st st') (Ex2 fun res r=>Aj2 (c=(some res,r)) (res.toList.Perm (a.toList++b.toList)))) ?step ?fin ?init) ?post)
 case init=>exact ⟨⟨_,rfl⟩,_,0,1,_,rfl,by omega,by omega,j0,by omega⟩
 case fin =>
  rintro c st' ⟨_,o,i,k,g,rfl,a1,a2,a3,a4⟩
  exfalso;omega
 case post =>
  rintro c st' ⟨g,res,r,rfl,m⟩
  exact wpS_pure (h res st' m g)
 case step =>
  rintro x c st1 _ hx ⟨g1,o1,i1,k1,mg,rfl,a1,a2,a3,a4⟩
  dsimp -zeta only
  refine wpS_bind (wpS_mono (wpS_forRange
   (I:=fun y c st'=>Aj2 (st'=st1) (Ex5 fun o i k ac bc=>Aj5 (c=(none,o,i,k,ac,bc)) (i+1 < a.size) (k < b.size) (Pa a b o i k) (i1+k1+y≤i+k)))
   (Q:=fun c st'=>Aj2 (st'=st1) ((Ex2 fun res r=>Aj2 (c=(some res,r)) (res.toList.Perm (a.toList++b.toList)))∨Ex5 fun o i k ac bc=>Aj5 (c=(none,o,i,k,ac,bc)) (i+1 < a.size) (k < b.size) (Pa a b o i k) (i1+k1 < i+k))) ?step1 ?fin1 ?init1) ?post1)
  case init1=>exact ⟨rfl,o1,i1,k1,0,0,rfl,a1,a2,a3,Qh _⟩
  case fin1 =>
   rintro c st' ⟨_,o,i,k,ac,bc,rfl,b1,b2,b3,b4⟩
   exfalso;omega
  case step1 =>
   rintro y c st2 _ hy ⟨rfl,o,i,k,ac,bc,rfl,b1,b2,b3,b4⟩
   have b1':i < a.size:=by omega
   dsimp -zeta only
   refine wpS_bind (zav (eb k b2) (wpS_bind (zav (ea i b1') (wpS_bind (C _ _ _ _ (ib_ k b2) (ia_ i b1') (sgk g1) fun e=>?_)))))
   dsimp -zeta only
   refine zan (fun _=>?_) (fun _=>?_)
   ·refine wpS_bind (zav (eb k b2) ?_)
    have j:=b3.pushB b2
    refine zan (fun _=>wpS_pure ⟨rfl,.inl ⟨_,_,rfl,j.end1⟩⟩) fun d1=>?_
    have d1':¬ k+1=b.size:=fun z=>d1 (beq_iff_eq.mpr z)
    exact zan (fun _=>wpS_pure ⟨rfl,.inr ⟨_,i,k+1,_,_,rfl,b1,by omega,j,by omega⟩⟩) fun _=>wpS_pure ⟨rfl,_,i,k+1,_,_,rfl,b1,by omega,j,by omega⟩
   ·refine wpS_bind (zav (ea i b1') ?_)
    have j:=b3.pushA b1'
    refine zan (fun _=>wpS_pure ⟨rfl,.inl ⟨_,_,rfl,j.end2⟩⟩) fun d1=>?_
    have d1':¬ i+1+1=a.size:=fun z=>d1 (beq_iff_eq.mpr z)
    exact zan (fun _=>wpS_pure ⟨rfl,.inr ⟨_,i+1,k,_,_,rfl,by omega,b2,j,by omega⟩⟩) fun _=>wpS_pure ⟨rfl,_,i+1,k,_,_,rfl,by omega,b2,j,by omega⟩
  case post1 =>
   rintro c st2 ⟨rfl,⟨res,r,rfl,m⟩ | ⟨o2,i2,k2,ac2,bc2,rfl,b1,b2,b3,b4⟩⟩
   ·exact wpS_pure ⟨g1,res,_,rfl,m⟩
   dsimp -zeta only
   refine wpS_bind (wpS_lift (wpAny_rule ⟨rfl,?_⟩))
   refine wpS_bind (wpS_mono (wpS_forRange
    (I:=fun y c st'=>Aj2 (SG st st') (Ex6 fun o i k g ac bc=>Aj5 (c=(none,o,i,k,g,ac,bc)) (i+1 < a.size) (k < b.size) (Pa a b o i k) (i2+k2≤i+k)))
    (Q:=fun c st'=>Aj2 (SG st st') ((Ex2 fun res r=>Aj2 (c=(some res,r)) (res.toList.Perm (a.toList++b.toList)))∨Ex6 fun o i k g ac bc=>Aj5 (c=(none,o,i,k,g,ac,bc)) (i+1 < a.size) (k < b.size) (Pa a b o i k) (i2+k2≤i+k))) ?step2 ?fin2 ?init2) ?post2)
   case init2=>exact ⟨g1,o2,i2,k2,_,_,_,rfl,b1,b2,b3,Qh _⟩
   case fin2 =>
    rintro c st' ⟨g,o,i,k,g',ac,bc,rfl,c1,c2,c3,c4⟩
    exact ⟨g,.inr ⟨o,i,k,g',ac,bc,rfl,c1,c2,c3,c4⟩⟩
   case post2 =>
    rintro c st3 ⟨g3,⟨res,r,rfl,m⟩ | ⟨o3,i3,k3,g',ac3,bc3,rfl,c1,c2,c3,c4⟩⟩
    ·exact wpS_pure ⟨g3,res,_,rfl,m⟩
    dsimp -zeta only
    refine wpS_bind (wpS_modify ?_)
    obtain ⟨gg,e3⟩:=g3
    exact wpS_pure ⟨⟨_,by rw [e3]⟩,o3,i3,k3,_,rfl,c1,c2,c3,by omega⟩
   case step2 =>
    rintro y c st3 _ hy ⟨g3,o3,i3,k3,mg3,ac3,bc3,rfl,c1,c2,c3,c4⟩
    refine zc2 fun Q0 hQ0=>?_
    dsimp -zeta only
    have sgm:∀ g',SG st (SortSt.mk' (kindOf st3) (arrOf st3) (pendingOf st3) g' (failedOf st3)):=fun g'=>by
     obtain ⟨g,e⟩:=g3
     exact ⟨g',by rw [e]⟩
    extract_lets -underBinder +onlyGivenNames s1 out s2 ia s3 ib s4 mn s5 ac bc jp
    refine jp_if (f:=jp) fun m'=>?_
    refine wpS_bind (wpS_modify ?_)
    refine wpS_bind (zav (eb k3 c2) ?_)
    refine wpS_bind (zci (base:=i3) (n:=a.size - i3) (hint:=0) C (sgk (sgm _)) oa (ib_ k3 c2) (by omega) (by omega) fun k q1=>?_)
    dsimp -zeta only
    have jr:=c3.runA (n:=k) (by omega)
    extract_lets -underBinder +onlyGivenNames ac' jp2
    have h2:∀ (n':Nat) (o':Array Keyed) (f1:n'+1 < a.size),i3≤n'→Pa a b o' n' k3→wpS (model prog w) A E s (jp2 () o' n') Q0 (SortSt.mk' (kindOf st3) (arrOf st3) (pendingOf st3) m' (failedOf st3)):=by
     intro n' o' f1 f2 fJ
     have f0:n' < a.size:=by omega
     refine wpS_bind (zav (eb k3 c2) ?_)
     have fK:=fJ.pushB c2
     refine zan (fun _=>wpS_pure (hQ0 _ _ ⟨sgm _,.inl ⟨_,_,rfl,fK.end1⟩⟩)) fun d=>?_
     have d':¬ k3+1=b.size:=fun z=>d (beq_iff_eq.mpr z)
     refine wpS_bind (zav (ea n' f0) ?_)
     refine wpS_bind (zci (base:=k3+1) (n:=b.size - (k3+1)) (hint:=0) C (sgk (sgm _)) ob (ia_ n' f0) (by omega) (by omega) fun k' r1=>?_)
     dsimp -zeta only
     have js:=fK.runB (n:=k') (by omega)
     extract_lets -underBinder +onlyGivenNames bc' jp3
     have h3:∀ (m2:Nat) (o2:Array Keyed) (p1:m2 < b.size),k3+1≤m2→Pa a b o2 n' m2→wpS (model prog w) A E s (jp3 () o2 m2) Q0 (SortSt.mk' (kindOf st3) (arrOf st3) (pendingOf st3) m' (failedOf st3)):=by
      intro m2 o2 p1 p2 pJ
      refine wpS_bind (zav (ea n' f0) ?_)
      have pK:=pJ.pushA f0
      refine zan (fun _=>wpS_pure (hQ0 _ _ ⟨sgm _,.inl ⟨_,_,rfl,pK.end2⟩⟩)) fun d=>?_
      have d2:¬ n'+1+1=a.size:=fun z=>d (beq_iff_eq.mpr z)
      exact zan (fun _=>wpS_pure (hQ0 _ _ ⟨sgm _,.inr ⟨_,n'+1,m2,_,_,_,rfl,by omega,p1,pK,by omega⟩⟩)) fun _=>wpS_pure (hQ0 _ _ ⟨sgm _,_,n'+1,m2,_,_,_,rfl,by omega,p1,pK,by omega⟩)
     refine zan (fun kz=>?_) (fun kz=>?_)
     ·refine zan (fun _=>wpS_pure (hQ0 _ _ ⟨sgm _,.inl ⟨_,_,rfl,js.end1⟩⟩)) fun d4=>?_
      have d4':¬ k3+1+k'=b.size:=fun z=>d4 (beq_iff_eq.mpr z)
      exact h3 (k3+1+k') _ (by omega) (Wr _ _) js
     ·exact h3 (k3+1) _ (by omega) (Qh _) fK
    refine zan (fun kz=>?_) (fun kz=>?_)
    ·refine zan (fun _=>wpS_pure (hQ0 _ _ ⟨sgm _,.inl ⟨_,_,rfl,jr.end2⟩⟩)) fun d=>zan (fun _=>wpS_pure (hQ0 _ _ ⟨sgm _,.inl ⟨_,_,rfl,jr.end1⟩⟩)) fun e=>?_
     have d':¬ i3+k+1=a.size:=fun z=>d (beq_iff_eq.mpr z)
     have e':¬ i3+k=a.size:=fun z=>e (beq_iff_eq.mpr z)
     exact h2 (i3+k) _ (by omega) (Wr _ _) jr
    ·exact h2 i3 _ c1 (Qh _) c3
end
section
variable {prog:Program} {w:World} {A:Around} {E:Value→Shared→Prop} {s:Shared} {kd:SortKind} {a₀:Array Keyed}
variable {a b o:Array Keyed} {na nb at_:Nat}
theorem zfj {a:Array Keyed} {n:Nat}:(a.extract 0 n).toList=a.toList.take n:=by simp
theorem zfe {a:Array Keyed} {i n:Nat} (hi:i≤n) (h:n≤a.size):a.toList.take i++(a.extract i n).toList=a.toList.take n:=by
 rw [Array.toList_extract,Kf]
 have e:a.toList.take i=(a.toList.take n).take i:=by rw [List.take_take];congr 1;omega
 have e2:(a.toList.drop i).take (n - i)=(a.toList.take n).drop i:=by rw [List.drop_take]
 rw [e,e2,Yq]
def Ph (a b o:Array Keyed) (na nb:Nat):Prop:=(a.toList.take na++(b.toList.take nb++o.toList)).Perm (a.toList++b.toList)
theorem mvA {t sg sg' u r all:List Keyed} (h:((t++sg)++(u++r)).Perm all) (hs:sg'.Perm sg):(t++(u++(r++sg'))).Perm all:=by
 refine List.Perm.trans ?_ h
 rw [Qy,← Qy u]
 exact Yc _ ((Yc _ hs).trans Wf)
theorem mvB {t sg sg' u r all:List Keyed} (h:(t++((u++sg)++r)).Perm all) (hs:sg'.Perm sg):(t++(u++(r++sg'))).Perm all:=by
 refine List.Perm.trans ?_ h
 rw [Qy]
 exact Yc _ (Yc _ ((Yc _ hs).trans Wf))
theorem Ph.runA (j:Ph a b o na nb) (hi:at_≤na) (h:na≤a.size):Ph a b (o++(a.extract at_ na).reverse) at_ nb:=by
 unfold Ph at *
 rw [← zfe hi h] at j
 rw [Zz,Js]
 exact mvA j (Wv _)
theorem Ph.runB (j:Ph a b o na nb) (hi:at_≤nb) (h:nb≤b.size):Ph a b (o++(b.extract at_ nb).reverse) na at_:=by
 unfold Ph at *
 rw [← zfe hi h] at j
 rw [Zz,Js]
 exact mvB j (Wv _)
theorem Ph.pushA (j:Ph a b o (na+1) nb) (h:na < a.size):Ph a b (o.push a[na]) na nb:=by
 unfold Ph at *
 rw [Qg (by simpa using h)] at j
 rw [Jk]
 exact mvA j (by simp)
theorem Ph.pushB (j:Ph a b o na (nb+1)) (h:nb < b.size):Ph a b (o.push b[nb]) na nb:=by
 unfold Ph at *
 rw [Qg (by simpa using h)] at j
 rw [Jk]
 exact mvB j (by simp)
theorem Ph.end1 (j:Ph a b o na nb):(a.extract 0 na++b.extract 0 nb++o.reverse).toList.Perm (a.toList++b.toList):=by
 rw [Zz,Zz,Js,zfj,zfj,Qy]
 exact (Yc _ (Yc _ (Wv _))).trans j
theorem Ph.end2 (j:Ph a b o na nb):(b.extract 0 nb++a.extract 0 na++o.reverse).toList.Perm (a.toList++b.toList):=by
 rw [Zz,Zz,Js,zfj,zfj]
 refine List.Perm.trans ?_ j
 rw [← Qy]
 exact (Wf).append (Wv _)
theorem wpS_mergeHi {Q:Array Keyed→SortSt→Prop} {st:SortSt} (C:Cmp prog w A E s kd a₀) (hk:kindOf st=kd) (oa:Of a₀ a) (ob:Of a₀ b) (ha:0 < a.size) (hb:0 < b.size)
  (h:∀ (res:Array Keyed) (st':SortSt),res.toList.Perm (a.toList++b.toList)→SG st st'→Q res st'):wpS (model prog w) A E s (mergeHiT a b) Q st:=by
 have ia_:∀ i (hi:i < a.size),a[i]∈a₀.toList:=fun i hi=>oa i _ (getElem?_pos a i hi)
 have ib_:∀ i (hi:i < b.size),b[i]∈a₀.toList:=fun i hi=>ob i _ (getElem?_pos b i hi)
 have ea:∀ i (hi:i < a.size),a[i]?=some a[i]:=fun i hi=>getElem?_pos a i hi
 have eb:∀ i (hi:i < b.size),b[i]?=some b[i]:=fun i hi=>getElem?_pos b i hi
 have sgk:∀ {st'},SG st st'→kindOf st'=kd:=fun ⟨g,e⟩=>by rw [e];exact hk
 obtain ⟨n0,hn0⟩:∃ n0,a.size=n0+1:=⟨a.size - 1,by omega⟩
 have hn1:n0 < a.size:=by omega
 have j0:Ph a b (#[a[n0]]:Array Keyed) n0 b.size:=by
  have j:Ph a b (#[]:Array Keyed) (n0+1) b.size:=by
   have e1:a.toList.take (n0+1)=a.toList:=Qp (by simp;omega)
   have e2:b.toList.take b.size=b.toList:=Qp (by simp)
   unfold Ph;rw [e1,e2];simp
  exact j.pushA hn1
 unfold mergeHiT
 refine wpS_bind (wpS_lift (wpAny_rule ⟨rfl,?_⟩))
 have e2:a.size - 1=n0:=by omega
 simp -zeta only [e2]
 refine wpS_bind (zav (ea n0 hn1) ?_)
 refine zan (fun c1=>wpS_pure (h _ _ j0.end1 ⟨_,rfl⟩)) fun c1=>zan (fun c2=>wpS_pure (h _ _ j0.end2 ⟨_,rfl⟩)) fun c2=>?_
 have c1':¬ n0=0:=fun z=>c1 (by simp [z])
 have c2':¬ b.size=1:=fun z=>c2 (by simp [z])
 refine wpS_bind (wpS_get ?_)
 obtain ⟨n1,rfl⟩:∃ n1,n0=n1+1:=⟨n0 - 1,by omega⟩
 obtain ⟨m1,hm2⟩:∃ m1,b.size=m1+1+1:=⟨b.size - 2,by omega⟩
 rw [hm2] at j0
 refine wpS_bind (wpS_mono (wpS_forRange
  (I:=fun x c st'=>Aj2 (SG st st') (Ex4 fun o i k g=>Aj5 (c=(none,i+1,k+1+1,o,g)) (i < a.size) (k+1 < b.size) (Ph a b o (i+1) (k+1+1)) (i+k+x+4≤a.size+b.size)))
  (Q:=fun c st'=>Aj2 (SG st st') (Ex2 fun res r=>Aj2 (c=(some res,r)) (res.toList.Perm (a.toList++b.toList)))) ?step ?fin ?init) ?post)
 case init=>exact ⟨⟨_,rfl⟩,_,n1,m1,_,by rw [hm2],by omega,by omega,j0,by omega⟩
 case fin =>
  rintro c st' ⟨_,o,i,k,g,rfl,a1,a2,a3,a4⟩
  exfalso;omega
 case post =>
  rintro c st' ⟨g,res,r,rfl,m⟩
  exact wpS_pure (h res st' m g)
 case step =>
  rintro x c st1 _ hx ⟨g1,o1,i1,k1,mg,rfl,a1,a2,a3,a4⟩
  dsimp -zeta only
  refine wpS_bind (wpS_mono (wpS_forRange
   (I:=fun y c st'=>Aj2 (st'=st1) (Ex5 fun o i k ac bc=>Aj5 (c=(none,i+1,k+1+1,o,ac,bc)) (i < a.size) (k+1 < b.size) (Ph a b o (i+1) (k+1+1)) (i+k+y≤i1+k1)))
   (Q:=fun c st'=>Aj2 (st'=st1) ((Ex2 fun res r=>Aj2 (c=(some res,r)) (res.toList.Perm (a.toList++b.toList)))∨Ex5 fun o i k ac bc=>Aj5 (c=(none,i+1,k+1+1,o,ac,bc)) (i < a.size) (k+1 < b.size) (Ph a b o (i+1) (k+1+1)) (i+k < i1+k1))) ?step1 ?fin1 ?init1) ?post1)
  case init1=>exact ⟨rfl,o1,i1,k1,0,0,rfl,a1,a2,a3,Qh _⟩
  case fin1 =>
   rintro c st' ⟨_,o,i,k,ac,bc,rfl,b1,b2,b3,b4⟩
   exfalso;omega
  case step1 =>
   rintro y c st2 _ hy ⟨rfl,o,i,k,ac,bc,rfl,b1,b2,b3,b4⟩
   dsimp -zeta only
   refine wpS_bind (zav (eb (k+1) b2) (wpS_bind (zav (ea i b1) (wpS_bind (C _ _ _ _ (ib_ (k+1) b2) (ia_ i b1) (sgk g1) fun e=>?_)))))
   dsimp -zeta only
   refine zan (fun _=>?_) (fun _=>?_)
   ·refine wpS_bind (zav (ea i b1) ?_)
    have j:=b3.pushA b1
    refine zan (fun _=>wpS_pure ⟨rfl,.inl ⟨_,_,rfl,j.end1⟩⟩) fun d1=>?_
    have d1':¬ i=0:=fun z=>d1 (beq_iff_eq.mpr z)
    cases i with
    | zero=>exact absurd rfl d1'
    | succ i'=>exact zan (fun _=>wpS_pure ⟨rfl,.inr ⟨_,i',k,_,_,rfl,by omega,b2,j,by omega⟩⟩) fun _=>wpS_pure ⟨rfl,_,i',k,_,_,rfl,by omega,b2,j,by omega⟩
   ·refine wpS_bind (zav (eb (k+1) b2) ?_)
    have j:=b3.pushB b2
    refine zan (fun _=>wpS_pure ⟨rfl,.inl ⟨_,_,rfl,j.end2⟩⟩) fun d1=>?_
    have d1':¬ k+1=1:=fun z=>d1 (beq_iff_eq.mpr z)
    cases k with
    | zero=>exact absurd rfl d1'
    | succ k'=>exact zan (fun _=>wpS_pure ⟨rfl,.inr ⟨_,i,k',_,_,rfl,b1,by omega,j,by omega⟩⟩) fun _=>wpS_pure ⟨rfl,_,i,k',_,_,rfl,b1,by omega,j,by omega⟩
  case post1 =>
   rintro c st2 ⟨rfl,⟨res,r,rfl,m⟩ | ⟨o2,i2,k2,ac2,bc2,rfl,b1,b2,b3,b4⟩⟩
   ·exact wpS_pure ⟨g1,res,_,rfl,m⟩
   dsimp -zeta only
   refine wpS_bind (wpS_lift (wpAny_rule ⟨rfl,?_⟩))
   refine wpS_bind (wpS_mono (wpS_forRange
    (I:=fun y c st'=>Aj2 (SG st st') (Ex6 fun o i k g ac bc=>Aj5 (c=(none,i+1,k+1+1,o,g,ac,bc)) (i < a.size) (k+1 < b.size) (Ph a b o (i+1) (k+1+1)) (i+k≤i2+k2)))
    (Q:=fun c st'=>Aj2 (SG st st') ((Ex2 fun res r=>Aj2 (c=(some res,r)) (res.toList.Perm (a.toList++b.toList)))∨Ex6 fun o i k g ac bc=>Aj5 (c=(none,i+1,k+1+1,o,g,ac,bc)) (i < a.size) (k+1 < b.size) (Ph a b o (i+1) (k+1+1)) (i+k≤i2+k2))) ?step2 ?fin2 ?init2) ?post2)
   case init2=>exact ⟨g1,o2,i2,k2,_,_,_,rfl,b1,b2,b3,Qh _⟩
   case fin2 =>
    rintro c st' ⟨g,o,i,k,g',ac,bc,rfl,c1,c2,c3,c4⟩
    exact ⟨g,.inr ⟨o,i,k,g',ac,bc,rfl,c1,c2,c3,c4⟩⟩
   case post2 =>
    rintro c st3 ⟨g3,⟨res,r,rfl,m⟩ | ⟨o3,i3,k3,g',ac3,bc3,rfl,c1,c2,c3,c4⟩⟩
    ·exact wpS_pure ⟨g3,res,_,rfl,m⟩
    dsimp -zeta only
    refine wpS_bind (wpS_modify ?_)
    obtain ⟨gg,e3⟩:=g3
    exact wpS_pure ⟨⟨_,by rw [e3]⟩,o3,i3,k3,_,rfl,c1,c2,c3,by omega⟩
   case step2 =>
    rintro y c st3 _ hy ⟨g3,o3,i3,k3,mg3,ac3,bc3,rfl,c1,c2,c3,c4⟩
    refine zc2 fun Q0 hQ0=>?_
    dsimp -zeta only
    have sgm:∀ g',SG st (SortSt.mk' (kindOf st3) (arrOf st3) (pendingOf st3) g' (failedOf st3)):=fun g'=>by
     obtain ⟨g,e⟩:=g3
     exact ⟨g',by rw [e]⟩
    extract_lets -underBinder +onlyGivenNames s1 na s2 nb s3 out s4 mn s5 ac bc jp
    refine jp_if (f:=jp) fun m'=>?_
    refine wpS_bind (wpS_modify ?_)
    refine wpS_bind (zav (eb (k3+1) c2) ?_)
    refine wpS_bind (zci (n:=i3+1) (hint:=i3) C (sgk (sgm _)) oa (ib_ (k3+1) c2) (by omega) (by omega) fun at1 q1=>?_)
    dsimp -zeta only
    have jr:=c3.runA (at_:=at1) q1 (by omega)
    extract_lets -underBinder +onlyGivenNames kk ac' jp2
    have h2:∀ (n':Nat) (o':Array Keyed) (f1:n' < a.size),n'≤i3→Ph a b o' (n'+1) (k3+1+1)→wpS (model prog w) A E s (jp2 () (n'+1) o') Q0 (SortSt.mk' (kindOf st3) (arrOf st3) (pendingOf st3) m' (failedOf st3)):=by
     intro n' o' f1 f2 fJ
     refine wpS_bind (zav (eb (k3+1) c2) ?_)
     have fK:=fJ.pushB c2
     refine zan (fun _=>wpS_pure (hQ0 _ _ ⟨sgm _,.inl ⟨_,_,rfl,fK.end2⟩⟩)) fun d=>?_
     have d':¬ k3+1=1:=fun z=>d (beq_iff_eq.mpr z)
     refine wpS_bind (zav (ea n' f1) ?_)
     refine wpS_bind (zci (n:=k3+1) (hint:=k3) C (sgk (sgm _)) ob (ia_ n' f1) (by omega) (by omega) fun at2 r1=>?_)
     dsimp -zeta only
     have js:=fK.runB (at_:=at2) r1 (by omega)
     extract_lets -underBinder +onlyGivenNames kk2 bc' jp3
     have h3:∀ (m2:Nat) (o2:Array Keyed) (p1:m2+1 < b.size),m2≤k3→Ph a b o2 (n'+1) (m2+1+1)→wpS (model prog w) A E s (jp3 () (m2+1+1) o2) Q0 (SortSt.mk' (kindOf st3) (arrOf st3) (pendingOf st3) m' (failedOf st3)):=by
      intro m2 o2 p1 p2 pJ
      refine wpS_bind (zav (ea n' f1) ?_)
      have pK:=pJ.pushA f1
      refine zan (fun _=>wpS_pure (hQ0 _ _ ⟨sgm _,.inl ⟨_,_,rfl,pK.end1⟩⟩)) fun d=>?_
      have d2:¬ n'=0:=fun z=>d (beq_iff_eq.mpr z)
      cases n' with
      | zero=>exact absurd rfl d2
      | succ t=>exact zan (fun _=>wpS_pure (hQ0 _ _ ⟨sgm _,.inr ⟨_,t,m2,_,_,_,rfl,by omega,p1,pK,by omega⟩⟩)) fun _=>wpS_pure (hQ0 _ _ ⟨sgm _,_,t,m2,_,_,_,rfl,by omega,p1,pK,by omega⟩)
     refine zan (fun kz=>?_) (fun kz=>?_)
     ·refine zan (fun _=>wpS_pure (hQ0 _ _ ⟨sgm _,.inl ⟨_,_,rfl,js.end2⟩⟩)) fun d4=>zan (fun _=>wpS_pure (hQ0 _ _ ⟨sgm _,.inl ⟨_,_,rfl,js.end1⟩⟩)) fun d5=>?_
      have d4':¬ at2=1:=fun z=>d4 (beq_iff_eq.mpr z)
      have d5':¬ at2=0:=fun z=>d5 (beq_iff_eq.mpr z)
      obtain ⟨m2,e2⟩:∃ m2,at2=m2+1+1:=⟨at2 - 2,by omega⟩
      have:=h3 m2 _ (by omega) (by omega) (by rw [← e2];exact js)
      rw [← e2] at this
      exact this
     ·obtain ⟨m2,e2⟩:∃ m2,k3=m2+1:=⟨k3 - 1,by omega⟩
      have:=h3 m2 _ (by omega) (by omega) (by rw [← e2];exact fK)
      rw [← e2] at this
      exact this
    refine zan (fun kz=>?_) (fun kz=>?_)
    ·refine zan (fun _=>wpS_pure (hQ0 _ _ ⟨sgm _,.inl ⟨_,_,rfl,jr.end1⟩⟩)) fun d=>?_
     have d':¬ at1=0:=fun z=>d (beq_iff_eq.mpr z)
     obtain ⟨n',e1⟩:∃ n',at1=n'+1:=⟨at1 - 1,by omega⟩
     have:=h2 n' _ (by omega) (by omega) (by rw [← e1];exact jr)
     rw [← e1] at this
     exact this
    ·exact h2 i3 _ c1 (Qh _) c3
end
section
variable {prog:Program} {w:World} {A:Around} {E:Value→Shared→Prop} {s:Shared} {kd:SortKind} {a₀:Array Keyed} {p:Array (Nat×Nat×Nat)} {lo:Nat}
structure Bs (kd:SortKind) (a₀:Array Keyed) (p:Array (Nat×Nat×Nat)) (st:SortSt):Prop where
 kind:kindOf st=kd
 failed:failedOf st=none
 pend:pendingOf st=p
 perm:(arrOf st).Perm a₀
theorem Bs.size {st:SortSt} (B:Bs kd a₀ p st):(arrOf st).size=a₀.size:=B.perm.size_eq
theorem Bs.mem {st:SortSt} (B:Bs kd a₀ p st) {i:Nat} (hi:i < a₀.size):∃ q,(arrOf st)[i]?=some q∧q∈a₀.toList:=by
 have hi':i < (arrOf st).size:=by rw [B.size];exact hi
 exact ⟨_,getElem?_pos _ i hi',(Wa.mp B.perm).mem_iff.mp (by simp)⟩
theorem zgx {st:SortSt} {i j:Nat} {Q:Option Bool→SortSt→Prop} (C:Cmp prog w A E s kd a₀) (B:Bs kd a₀ p st) (hi:i < a₀.size) (hj:j < a₀.size)
  (h:∀ b,Q (some b) st):wpS (model prog w) A E s (ltAt' i j) Q st:=by
 obtain ⟨x,e1,m1⟩:=B.mem hi
 obtain ⟨y,e2,m2⟩:=B.mem hj
 rw [ltAt'_eq]
 refine wpS_bind (wpS_get ?_)
 refine wpS_bind (zav e1 (wpS_bind (zav e2 ?_)))
 exact C x y st Q m1 m2 B.kind h
theorem Bs.mirror {st:SortSt} (B:Bs kd a₀ p st) (i j k:Nat):Bs kd a₀ p (setArr st (mirror (arrOf st) i j k)):=⟨B.kind,B.failed,B.pend,(mirror_perm _ _ _ _).trans B.perm⟩
theorem Bs.bubble {st:SortSt} (B:Bs kd a₀ p st) (src d:Nat):Bs kd a₀ p (setArr st (bubble (arrOf st) src d)):=⟨B.kind,B.failed,B.pend,(bubble_perm _ _ _).trans B.perm⟩
theorem wpS_binary {st:SortSt} {n ok:Nat} {Q:Bool→SortSt→Prop} (C:Cmp prog w A E s kd a₀) (hn:lo+n≤a₀.size) (B:Bs kd a₀ p st)
  (h:∀ st',Bs kd a₀ p st'→Q true st'):wpS (model prog w) A E s (binarySort' lo n ok) Q st:=by
 rw [binarySort'_eq]
 refine wpS_bind (wpS_mono (wpS_forRange (I:=fun k c st'=>Aj2 (c=(none,())) (Bs kd a₀ p st')) (Q:=fun c st'=>Aj2 (c=(none,())) (Bs kd a₀ p st')) ?step (fun _ _ z=>z) ⟨rfl,B⟩) ?post)
 case post =>
  rintro c st' ⟨rfl,B'⟩
  exact wpS_pure (h st' B')
 case step =>
  rintro k c st' hak hkn ⟨rfl,B'⟩
  refine wpS_bind (wpS_mono (wpS_forRange
   (I:=fun x c st''=>Aj2 (st''=st') (Ex2 fun l r=>Aj4 (c=(none,l,r)) (l≤r) (r≤k) (r - l≤k - x)))
   (Q:=fun c st''=>Aj2 (st''=st') (Ex1 fun l=>Aj2 (c=(none,l,l)) (l≤k))) ?is ?if_ ?ii) ?ip)
  case ii=>exact ⟨rfl,0,k,rfl,Zd _,Qh _,Qh _⟩
  case if_ =>
   rintro c st'' ⟨rfl,l,r,rfl,b1,b2,b3⟩
   have:l=r:=by omega
   subst this
   exact ⟨rfl,l,rfl,b2⟩
  case is =>
   rintro x c st'' _ hx ⟨rfl,l,r,rfl,b1,b2,b3⟩
   dsimp only
   refine zan (fun ge=>?_) fun ge=>wpS_bind (zgx C B' (by omega) (by omega) fun b=>?_)
   ·have:l=r:=Nat.le_antisymm b1 ge
    subst this
    exact wpS_pure ⟨rfl,l,rfl,b2⟩
   ·cases b with
    | true=>exact wpS_pure ⟨rfl,l,(l+r) / 2,rfl,by omega,by omega,by omega⟩
    | false=>exact wpS_pure ⟨rfl,(l+r) / 2+1,r,rfl,by omega,b2,by omega⟩
  case ip =>
   rintro c st'' ⟨rfl,l,rfl,b2⟩
   show wpS _ _ _ _ (do moveDown' (lo+k) (lo+l);pure (ForInStep.yield (none,()))) _ _
   rw [moveDown'_eq]
   exact wpS_bind (wpS_modify (wpS_pure ⟨rfl,B'.bubble _ _⟩))
theorem jp_rev {α:Type} {c:Prop} [Decidable c] {i j:Nat} {f:Unit→StateT SortSt Sem α} {Q:α→SortSt→Prop} {st:SortSt} (B:Bs kd a₀ p st) (h:∀ st',Bs kd a₀ p st'→wpS (model prog w) A E s (f ()) Q st'):wpS (model prog w) A E s (if c then reverseSlice' i j >>= f else f ()) Q st:=by
 split
 ·exact wpS_bind (wpS_reverse (h _ (B.mirror _ _ _)))
 ·exact h _ B
theorem wpS_count {st:SortSt} {nrem:Nat} {Q:Option Nat→SortSt→Prop} (C:Cmp prog w A E s kd a₀) (hn:lo+nrem≤a₀.size) (h1:1≤nrem) (B:Bs kd a₀ p st)
  (h:∀ m st',Bs kd a₀ p st'→1≤m→m≤nrem→Q (some m) st'):wpS (model prog w) A E s (countRun' lo nrem) Q st:=by
 have asc:∀ (f:Nat→(Option (Option Nat)×Nat)→StateT SortSt Sem (ForInStep (Option (Option Nat)×Nat))) (a:Nat) (st1:SortSt),1≤a→a≤nrem →
   (∀ x y Q',1≤y→y < nrem→Q' (ForInStep.done (none,y)) st1→Q' (ForInStep.yield (none,y+1)) st1→wpS (model prog w) A E s (f x (none,y)) Q' st1) →
   wpS (model prog w) A E s (forIn [a:nrem] (none,a) f) (fun c st'=>Aj2 (st'=st1) (Ex1 fun n=>Aj3 (c=(none,n)) (a≤n) (n≤nrem))) st1:=by
  intro f a st1 a1 a2 hf
  refine wpS_forRange (I:=fun x c st'=>Aj2 (st'=st1) (c=(none,x))) ?step ?fin ⟨rfl,rfl⟩
  case fin =>
   rintro c st' ⟨rfl,rfl⟩
   rw [show max a nrem=nrem by omega]
   exact ⟨rfl,nrem,rfl,a2,Qh _⟩
  case step =>
   rintro x c st' g1 g2 ⟨rfl,rfl⟩
   exact hf x x _ (by omega) g2 ⟨rfl,x,rfl,g1,Wt g2⟩ ⟨rfl,rfl⟩
 have two:∀ {st1:SortSt},Bs kd a₀ p st1→∀ {y:Nat},1≤y→y < nrem→lo+y < a₀.size∧lo+y - 1 < a₀.size:=fun _ y y1 y2=>⟨by omega,by omega⟩
 rw [countRun'_eq]
 refine wpS_bind (wpS_mono (asc _ 1 st (Qh _) h1 ?_) ?_)
 ·intro x y Q' y1 y2 q1 q2
  refine wpS_bind (zgx C B (two B y1 y2).1 (two B y1 y2).2 fun b=>?_)
  cases b with
  | true=>exact wpS_pure q1
  | false=>exact wpS_pure q2
 rintro c st' ⟨rfl,n,rfl,n1,n2⟩
 refine zc2 fun Q0 hQ0=>?_
 refine zan (fun d=>wpS_pure (hQ0 _ _ (h n _ B n1 n2))) fun d=>?_
 have d':n < nrem:=by have:¬ n=nrem:=fun z=>d (beq_iff_eq.mpr z);omega
 extract_lets -underBinder +onlyGivenNames jp
 have hjp:∀ st1,Bs kd a₀ p st1→wpS (model prog w) A E s (jp ()) Q0 st1:=by
  intro st1 B1
  refine wpS_bind (wpS_lift (wpAny_rule ⟨rfl,?_⟩))
  refine wpS_bind (wpS_mono (wpS_forRange
   (I:=fun x c st2=>Ex1 fun q=>Aj4 (c=(none,x,q)) (Bs kd a₀ p st2) (2≤x) (x≤nrem))
   (Q:=fun c st2=>Ex2 fun x q=>Aj4 (c=(none,x,q)) (Bs kd a₀ p st2) (2≤x) (x≤nrem)) ?step ?fin ⟨0,rfl,B1,by omega,d'⟩) ?post)
  case fin =>
   rintro c st2 ⟨q,rfl,b1,b2,b3⟩
   exact ⟨_,q,rfl,b1,b2,b3⟩
  case step =>
   rintro x c st2 x1 x2 ⟨q,rfl,b1,b2,b3⟩
   refine zc2 fun Q1 hQ1=>?_
   refine wpS_bind (zgx (i:=lo+x) (j:=lo+x - 1) C b1 (by omega) (by omega) fun e1=>?_)
   cases e1 with
   | true =>
    refine zan (fun _=>?_) (fun z=>absurd rfl z)
    exact jp_rev b1 fun st3 B3=>wpS_pure (hQ1 _ _ ⟨0,rfl,B3,by omega,x2⟩)
   | false =>
    refine zan (fun z=>absurd z (by decide)) fun _=>wpS_bind (zgx (i:=lo+x - 1) (j:=lo+x) C b1 (by omega) (by omega) fun e2=>?_)
    cases e2 with
    | true=>exact zan (fun _=>wpS_pure (hQ1 _ _ ⟨x,q,rfl,b1,b2,b3⟩)) (fun z=>absurd rfl z)
    | false=>exact zan (fun z=>absurd z (by decide)) fun _=>wpS_pure (hQ1 _ _ ⟨q+1,rfl,b1,by omega,x2⟩)
  case post =>
   rintro c st2 ⟨x,q,rfl,b1,b2,b3⟩
   refine jp_rev b1 fun st3 B3=>?_
   refine wpS_bind (wpS_reverse ?_)
   have B6:=B3.mirror lo (lo+x) ((lo+x - lo) / 2)
   refine wpS_bind (wpS_mono (asc _ x _ (by omega) b3 ?_) ?_)
   ·intro z y Q' y1 y2 q1 q2
    refine wpS_bind (zgx C B6 (two B6 y1 y2).1 (two B6 y1 y2).2 fun b=>?_)
    cases b with
    | true=>exact wpS_pure q1
    | false=>exact wpS_pure q2
   ·rintro c st6 ⟨rfl,m,rfl,m1,m2⟩
    exact wpS_pure (hQ0 _ _ (h m _ B6 (by omega) m2))
 refine zan (fun d2=>?_) fun d2=>hjp _ B
 refine wpS_bind (zgx C B (by omega) (by omega) fun e=>?_)
 cases e with
 | true=>exact zan (fun _=>wpS_pure (hQ0 _ _ (h n _ B n1 n2))) (fun z=>absurd rfl z)
 | false=>exact zan (fun z=>absurd z (by decide)) fun _=>wpS_bind (wpS_reverse (hjp _ (B.mirror _ _ _)))
end
def PL:List (Nat×Nat×Nat)→Nat→Nat→Prop
 | [],off,tot=>off=tot
 | q::ps,off,tot=>q.1=off∧0 < q.2.1∧PL ps (off+q.2.1) tot
theorem PL.split {ps2:List (Nat×Nat×Nat)} {tot:Nat}:∀ {ps1:List (Nat×Nat×Nat)} {off:Nat},PL (ps1++ps2) off tot→∃ mid,PL ps1 off mid∧PL ps2 mid tot:=by
 intro ps1
 induction ps1 with
 | nil=>intro off h;exact ⟨off,rfl,h⟩
 | cons q ps ih =>
  intro off h
  obtain ⟨mid,a,b⟩:=ih h.2.2
  exact ⟨mid,⟨h.1,h.2.1,a⟩,b⟩
theorem PL.join {ps2:List (Nat×Nat×Nat)} {mid tot:Nat}:∀ {ps1:List (Nat×Nat×Nat)} {off:Nat},PL ps1 off mid→PL ps2 mid tot→PL (ps1++ps2) off tot:=by
 intro ps1
 induction ps1 with
 | nil=>intro off a b;cases (show off=mid from a);exact b
 | cons q ps ih=>intro off a b;exact ⟨a.1,a.2.1,ih a.2.2 b⟩
theorem PL.len {tot:Nat}:∀ {ps:List (Nat×Nat×Nat)} {off:Nat},PL ps off tot→off+ps.length≤tot:=by
 intro ps
 induction ps with
 | nil=>intro off h;exact Jz h
 | cons q ps ih =>
  intro off h
  have:=ih h.2.2
  have:=h.2.1
  rw [Qq];omega
theorem put_back {sa:Nat}:∀ (l:List Keyed) (n:Nat) (arr:Array Keyed) (F M S:List Keyed),arr.toList=F++(M++S)→F.length=sa+n→M.length=l.length →
  ((l.zipIdx n).foldl (fun (a:Array Keyed) (q:Keyed×Nat)=>a.setIfInBounds (sa+q.2) q.1) arr).toList=F++(l++S):=by
 intro l
 induction l with
 | nil =>
  intro n arr F M S e _ hl
  have:M=[]:=Kq.mp (by simpa using hl)
  rw [this] at e
  simpa using e
 | cons p l ih =>
  intro n arr F M S e hf hl
  cases M with
  | nil=>simp at hl
  | cons m M =>
   rw [List.zipIdx_cons,Jc]
   have e2:(arr.setIfInBounds (sa+n) p).toList=(F++[p])++(M++S):=by
    rw [Array.toList_setIfInBounds,e,← hf,List.set_append_right _ _ (Qh _),Nat.sub_self]
    simp
   rw [ih (n+1) _ (F++[p]) M S e2 (by rw [Qw];simp;omega) (by simpa using hl)]
   simp
section
variable {prog:Program} {w:World} {A:Around} {E:Value→Shared→Prop} {s:Shared} {kd:SortKind} {a₀:Array Keyed}
structure Rn (kd:SortKind) (a₀:Array Keyed) (tot:Nat) (st:SortSt):Prop where
 kind:kindOf st=kd
 failed:failedOf st=none
 perm:(arrOf st).Perm a₀
 pend:PL (pendingOf st).toList 0 tot
 le:tot≤a₀.size
theorem of_perm {xs:Array Keyed} (h:xs.Perm a₀):Of a₀ xs:=fun i p e=>by
 refine (Wa.mp h).mem_iff.mp ?_
 have:xs.toList[i]?=some p:=by simpa using e
 exact Yn this
theorem of_ext {xs:Array Keyed} (h:xs.Perm a₀) (i j:Nat):Of a₀ (xs.extract i j):=fun k p e=>by
 have e1:(xs.extract i j).toList[k]?=some p:=by rw [Ua];exact e
 have:=Yn e1
 rw [Array.toList_extract,Kf] at this
 exact (Wa.mp h).mem_iff.mp (Ub (Uq this))
theorem wpS_set {Q:PUnit→SortSt→Prop} {st st':SortSt} (h:Q ⟨⟩ st'):wpS (model prog w) A E s (set st':StateT SortSt Sem PUnit) Q st:=by
 unfold wpS;rw [StateT.run_set];exact wpAny_pure ⟨rfl,h⟩
theorem zfl {i tot:Nat} {Q:Bool→SortSt→Prop} {st:SortSt} (C:Cmp prog w A E s kd a₀) (R:Rn kd a₀ tot st) (hi:i+1 < (pendingOf st).size)
  (h:∀ st',Rn kd a₀ tot st'→(pendingOf st').size+1=(pendingOf st).size→Q true st'):wpS (model prog w) A E s (mergeAt' i) Q st:=by
 obtain ⟨ps1,q1,q2,ps2,hp,hl⟩:∃ ps1 q1 q2 ps2,(pendingOf st).toList=ps1++q1::q2::ps2∧ps1.length=i:=by
  have h1:i < (pendingOf st).toList.length:=by simp;omega
  have h2:i+1 < (pendingOf st).toList.length:=by simp;omega
  refine ⟨(pendingOf st).toList.take i,(pendingOf st).toList[i],(pendingOf st).toList[i+1],(pendingOf st).toList.drop (i+2),?_,by rw [Zm];omega⟩
  rw [← Uv h2,← Uv h1,Yq]
 have pr:=R.pend
 rw [hp] at pr
 obtain ⟨sa,pr1,e1,hA,e2,hB,pr3⟩:=pr.split
 obtain ⟨sa',na,pw⟩:=q1
 obtain ⟨sb',nb,pw2⟩:=q2
 dsimp only at e1 hA e2 hB pr3
 subst e1 e2
 have x1:(pendingOf st)[i]?=some (sa',na,pw):=by
  have:(pendingOf st)[i]?=(pendingOf st).toList[i]?:=by simp
  rw [this,hp,← hl];simp
 have x2:(pendingOf st)[i+1]?=some (sa'+na,nb,pw2):=by
  have:(pendingOf st)[i+1]?=(pendingOf st).toList[i+1]?:=by simp
  rw [this,hp,← hl];simp
 have hsz:sa'+na+nb≤(arrOf st).size:=by
  have:=pr3.len
  have:=R.le
  rw [R.perm.size_eq];omega
 have oA:=of_perm R.perm
 have mem:∀ j (hj:j < (arrOf st).size),(arrOf st)[j]∈a₀.toList:=fun j hj=>oA j _ (getElem?_pos _ j hj)
 have fin:∀ (st':SortSt),kindOf st'=kd→failedOf st'=none→(arrOf st').Perm a₀→pendingOf st'=((pendingOf st).setIfInBounds i (sa',na+nb,pw)).eraseIdxIfInBounds (i+1)→Q true st':=by
  intro st' m3 m4 m5 m6
  have e:(pendingOf st').toList=ps1++(sa',na+nb,pw)::ps2:=by
   rw [m6]
   have e1:((pendingOf st).setIfInBounds i (sa',na+nb,pw)).toList=ps1++(sa',na+nb,pw)::(sa'+na,nb,pw2)::ps2:=by
    rw [Array.toList_setIfInBounds,hp,← hl,List.set_append_right _ _ (Qh _),Nat.sub_self]
    rfl
   rw [Array.toList_eraseIdxIfInBounds,e1,← hl,List.eraseIdx_append_of_length_le (Wr _ _)]
   simp
  refine h st' ⟨m3,m4,m5,?_,R.le⟩ ?_
  ·rw [e]
   exact pr1.join ⟨rfl,Nat.add_pos_left hA _,by rw [← Nat.add_assoc];exact pr3⟩
  ·rw [← Yz,← Yz,e,hp];simp;omega
 unfold mergeAt'
 refine wpS_bind (wpS_get ?_)
 rw [x1,x2]
 dsimp only
 refine wpS_bind (wpS_set ?_)
 have hb0:sa'+na < (arrOf st).size:=by omega
 refine wpS_bind (zav (getElem?_pos (arrOf st) (sa'+na) hb0) ?_)
 refine wpS_bind (zci (arr:=arrOf st) (base:=sa') (n:=na) (hint:=0) C R.kind oA (mem _ hb0) (by omega) hA fun k k1=>?_)
 refine zan (fun c1=>wpS_pure (fin _ R.kind R.failed R.perm rfl)) fun c1=>?_
 have c1':¬ na - k=0:=fun z=>c1 (beq_iff_eq.mpr z)
 have hla:sa'+k+(na - k) - 1 < (arrOf st).size:=by omega
 refine wpS_bind (zav (getElem?_pos (arrOf st) (sa'+k+(na - k) - 1) hla) ?_)
 refine wpS_bind (zci (arr:=arrOf st) (base:=sa'+na) (n:=nb) (hint:=nb - 1) C R.kind oA (mem _ hla) (by omega) (by omega) fun m n1=>?_)
 refine zan (fun c2=>wpS_pure (fin _ R.kind R.failed R.perm rfl)) fun c2=>?_
 have c2':¬ m=0:=fun z=>c2 (beq_iff_eq.mpr z)
 have arr2:(arrOf st).toList=(arrOf st).toList.take (sa'+k)++((((arrOf st).extract (sa'+k) (sa'+na)).toList++((arrOf st).extract (sa'+na) (sa'+na+m)).toList)++(arrOf st).toList.drop (sa'+na+m)):=by
  rw [← Qy,← Qy,zfe (by omega) (by omega),zfe (by omega) (by omega),Yq]
 have oX:=of_ext R.perm (sa'+k) (sa'+na)
 have oY:=of_ext R.perm (sa'+na) (sa'+na+m)
 have zX:0 < ((arrOf st).extract (sa'+k) (sa'+na)).size:=by rw [Array.size_extract];omega
 have zY:0 < ((arrOf st).extract (sa'+na) (sa'+na+m)).size:=by rw [Array.size_extract];omega
 have done:∀ (res:Array Keyed) (st':SortSt),res.toList.Perm (((arrOf st).extract (sa'+k) (sa'+na)).toList++((arrOf st).extract (sa'+na) (sa'+na+m)).toList)→SG (SortSt.mk' (kindOf st) (arrOf st) (((pendingOf st).setIfInBounds i (sa',na+nb,pw)).eraseIdxIfInBounds (i+1)) (gallopOf st) (failedOf st)) st' →
   wpS (model prog w) A E s (do
    modify fun z=>SortSt.mk' (kindOf z) (res.toList.zipIdx.foldl (fun (a:Array Keyed) (q:Keyed×Nat)=>a.setIfInBounds (sa'+k+q.2) q.1) (arrOf z)) (pendingOf z) (gallopOf z) (failedOf z)
    let z ← get
    pure (failedOf z).isNone) Q st':=by
  intro res st' mg ⟨g,est⟩
  subst est
  refine wpS_bind (wpS_modify (wpS_bind (wpS_get ?_)))
  have hnone:failedOf st=none:=R.failed
  show wpS _ _ _ _ (pure (failedOf st).isNone) _ _
  rw [hnone]
  refine wpS_pure (fin _ R.kind rfl ?_ rfl)
  have pb:=put_back (sa:=sa'+k) res.toList 0 (arrOf st) _ _ _ arr2 (by rw [Zm,Yz];omega) mg.length_eq.symm
  refine Wa.mpr (List.Perm.trans ?_ (Wa.mp R.perm))
  refine List.Perm.trans (List.Perm.of_eq pb) ?_
  conv=>rhs;rw [arr2]
  exact Yc _ (List.Perm.append_right _ mg)
 exact zan (fun _=>wpS_bind (wpS_mergeLo C R.kind oX oY zX zY done)) fun _=>wpS_bind (wpS_mergeHi C R.kind oX oY zX zY done)
end
section
variable {prog:Program} {w:World} {A:Around} {E:Value→Shared→Prop} {s:Shared} {kd:SortKind} {a₀:Array Keyed}
theorem PL.congr {tot:Nat}:∀ {ps ps':List (Nat×Nat×Nat)} {off:Nat},(ps.map fun q=>(q.1,q.2.1))=(ps'.map fun q=>(q.1,q.2.1))→PL ps off tot→PL ps' off tot:=by
 intro ps
 induction ps with
 | nil =>
  intro ps' off e h
  cases ps' with
  | nil=>exact h
  | cons q r=>cases e
 | cons q ps ih =>
  intro ps' off e h
  cases ps' with
  | nil=>cases e
  | cons q' r =>
   rw [Qk,Qk] at e
   obtain ⟨e1,e2⟩:=List.cons.inj e
   obtain ⟨e3,e4⟩:=Jo e1
   exact ⟨e3.symm.trans h.1,e4 ▸ h.2.1,ih e2 (e4 ▸ h.2.2)⟩
theorem map_mod (f:Nat×Nat×Nat→Nat×Nat×Nat) (hf:∀ q,((f q).1,(f q).2.1)=(q.1,q.2.1)) (l:List (Nat×Nat×Nat)) (i:Nat):((l.modify i f).map fun q=>(q.1,q.2.1))=l.map fun q=>(q.1,q.2.1):=by
 apply List.ext_getElem?
 intro k
 rw [Qn,Qn,List.getElem?_modify]
 cases l[k]? with
 | none=>simp
 | some q =>
  by_cases e:i=k
  ·simp [e];exact Jo (hf q)
  ·simp [e]
theorem Rn.mod {tot:Nat} {st:SortSt} (R:Rn kd a₀ tot st) (i:Nat) (f:Nat×Nat×Nat→Nat×Nat×Nat) (hf:∀ q,((f q).1,(f q).2.1)=(q.1,q.2.1)):Rn kd a₀ tot (setPending st ((pendingOf st).modify i f)) :=
 ⟨R.kind,R.failed,R.perm,by
  show PL ((pendingOf st).modify i f).toList 0 tot
  rw [Array.toList_modify]
  exact R.pend.congr (map_mod f hf _ i).symm,R.le⟩
theorem zfk {st:SortSt} {Q:Unit→SortSt→Prop} (C:Cmp prog w A E s kd a₀) (hk:kindOf st=kd) (hf:failedOf st=none) (hp:(arrOf st).Perm a₀) (hpe:pendingOf st=#[])
  (h:∀ st',(arrOf st').Perm a₀→failedOf st'=none→Q () st'):wpS (model prog w) A E s sortRuns' Q st:=by
 have R0:Rn kd a₀ 0 st:=⟨hk,hf,hp,by rw [hpe];rfl,Zd _⟩
 rw [sortRuns'_eq]
 refine wpS_bind (wpS_get ?_)
 dsimp -zeta only
 have hz:(arrOf st).size=a₀.size:=hp.size_eq
 rw [hz]
 refine wpS_bind (wpS_mono (wpS_forRange
  (I:=fun x c st'=>Ex1 fun tot=>Aj3 (c=(none,tot)) (Rn kd a₀ tot st') (x≤tot))
  (Q:=fun c st'=>Ex1 fun tot=>Aj3 (c=(none,tot)) (Rn kd a₀ tot st') (a₀.size≤tot)) ?step ?fin ⟨0,rfl,R0,Zd _⟩) ?post)
 case fin =>
  rintro c st' ⟨tot,rfl,R,hx⟩
  exact ⟨tot,rfl,R,by omega⟩
 case step =>
  rintro x c st1 _ hx ⟨tot,rfl,R,hx2⟩
  refine zc2 fun Q0 hQ0=>?_
  refine zan (fun c0=>wpS_pure (hQ0 _ _ ⟨tot,rfl,R,c0⟩)) fun c0=>?_
  have B0:Bs kd a₀ (pendingOf st1) st1:=⟨R.kind,R.failed,rfl,R.perm⟩
  refine wpS_bind (wpS_count (lo:=tot) (nrem:=a₀.size - tot) C (by omega) (by omega) B0 fun m st2 B2 m1 m2=>?_)
  dsimp -zeta only
  extract_lets -underBinder +onlyGivenNames n0 jp
  have hjp:∀ (n':Nat) (st3:SortSt),1≤n'→tot+n'≤a₀.size→Bs kd a₀ (pendingOf st1) st3→wpS (model prog w) A E s (jp () n') Q0 st3:=by
   intro n' st3 l1 l2 B3
   have R3:Rn kd a₀ tot st3:=⟨B3.kind,B3.failed,B3.perm,by rw [B3.pend];exact R.pend,R.le⟩
   have push:∀ st4,Rn kd a₀ tot st4→Rn kd a₀ (tot+n') (setPending st4 ((pendingOf st4).push (tot,n',0))):=fun st4 R4 =>
    ⟨R4.kind,R4.failed,R4.perm,by show PL ((pendingOf st4).push _).toList 0 _;rw [Jk];exact R4.pend.join ⟨rfl,l1,rfl⟩,l2⟩
   refine wpS_bind (wpS_get ?_)
   extract_lets -underBinder +onlyGivenNames jp2
   have hjp2:∀ st4,Rn kd a₀ tot st4→wpS (model prog w) A E s (jp2 ()) Q0 st4:=fun st4 R4=>wpS_bind (wpS_modify (wpS_pure (hQ0 _ _ ⟨tot+n',rfl,push st4 R4,by omega⟩)))
   cases (pendingOf st3).back? with
   | none=>exact hjp2 _ R3
   | some q =>
    obtain ⟨s1,n1,o1⟩:=q
    refine wpS_bind (wpS_mono (wpS_forRange (I:=fun _ c st4=>Aj2 (c=(none,())) (Rn kd a₀ tot st4)) (Q:=fun c st4=>Aj2 (c=(none,())) (Rn kd a₀ tot st4)) ?istep (fun _ _ z=>z) ⟨rfl,R3⟩) ?ipost)
    case istep =>
     rintro y c st4 _ _ ⟨rfl,R4⟩
     refine zc2 fun Q1 hQ1=>wpS_bind (wpS_get ?_)
     dsimp only
     by_cases hs:(pendingOf st4).size > 1
     ·rw [if_pos hs,getElem?_pos (pendingOf st4) ((pendingOf st4).size - 2) (by omega)]
      refine zan (fun _=>wpS_pure (hQ1 _ _ ⟨rfl,R4⟩)) fun _=>wpS_bind (zfl C R4 (by omega) fun st5 R5 _=>?_)
      exact zan (fun z=>absurd z (by decide)) fun _=>wpS_pure (hQ1 _ _ ⟨rfl,R5⟩)
     ·rw [if_neg hs]
      exact wpS_pure (hQ1 _ _ ⟨rfl,R4⟩)
    case ipost =>
     rintro c st4 ⟨rfl,R4⟩
     exact wpS_bind (wpS_modify (hjp2 _ (R4.mod _ _ fun q=>rfl)))
  refine zan (fun c1=>?_) fun c1=>hjp m st2 m1 (by omega) B2
  have c1':m < minRun' a₀.size a₀.size 0:=c1
  refine wpS_bind (wpS_lift (wpAny_rule ⟨rfl,?_⟩))
  refine wpS_bind (wpS_binary (lo:=tot) (n:=min (a₀.size - tot) (minRun' a₀.size a₀.size 0)) C (by omega) B2 fun st3 B3=>?_)
  exact zan (fun z=>absurd z (by decide)) fun _=>hjp _ st3 (by omega) (by omega) B3
 case post =>
  rintro c st1 ⟨tot,rfl,R,hx⟩
  refine wpS_bind (wpS_mono (wpS_forRange (I:=fun _ c st4=>Aj2 (c=(none,())) (Rn kd a₀ tot st4)) (Q:=fun c st4=>Aj2 (c=(none,())) (Rn kd a₀ tot st4)) ?istep (fun _ _ z=>z) ⟨rfl,R⟩) ?ipost)
  case istep =>
   rintro y c st4 _ _ ⟨rfl,R4⟩
   refine zc2 fun Q1 hQ1=>wpS_bind (wpS_get ?_)
   dsimp only
   refine zan (fun _=>wpS_pure (hQ1 _ _ ⟨rfl,R4⟩)) fun hs=>wpS_bind (zfl C R4 ?_ fun st5 R5 _=>?_)
   ·repeat' split
    all_goals omega
   ·exact zan (fun z=>absurd z (by decide)) fun _=>wpS_pure (hQ1 _ _ ⟨rfl,R5⟩)
  case ipost =>
   rintro c st4 ⟨rfl,R4⟩
   exact wpS_pure (h st4 R4.perm R4.failed)
end
end Tm
end
section
namespace Tm
open PySem PyProof.Rows PySem.W
open AutoSeq1 (wpAny_loadPart')
open MeetsSeq MeetsSeq2 MeetsSeq3 SeqRoads2
section
variable {prog:Program} {w:World} {A:Around} {E:Value→Shared→Prop} {s:Shared} {R:List Value→Prop} {vs:List Value}
structure zch (prog:Program) (w:World) (A:Around) (E:Value→Shared→Prop) (s:Shared) (R:List Value→Prop) (vs:List Value):Prop where
 few:vs.length < 2→R vs
 go:2≤vs.length→∃ kd:SortKind,(∀ Q:SortKind→Shared→Prop,Q kd s→wpAny (model prog w) A (keyKind' vs.toArray) Q E s) ∧
  ∀ Q:Unit→SortSt→Prop,(∀ st',(arrOf st').Perm (pairsOf vs)→failedOf st'=none→R ((arrOf st').toList.map (·.2))→Q () st')→wpS (model prog w) A E s sortRuns' Q (SortSt.mk' kd (vs.toArray.zip vs.toArray) #[] 7 none)
theorem zcj (vs:List Value):(pairsOf vs).toList=vs.map fun v=>(v,v):=by
 rw [pairsOf_toList]
 induction vs with
 | nil=>rfl
 | cons v r ih=>rw [Je,Qk,ih]
theorem perm_back {l:List Keyed} {vs:List Value} (h:l.Perm (vs.map fun v=>(v,v))):(l.map (·.2)).Perm vs:=by
 have:=h.map (·.2)
 rwa [Zn,show ((fun (p:Keyed)=>p.2) ∘ fun v=>(v,v))=id from rfl,List.map_id] at this
theorem cmp_of {kd:SortKind} (h:∀ x y,x∈vs→y∈vs→∀ (Q:Bool→Shared→Prop) (E':Value→Shared→Prop),(∀ b,Q b s)→wpAny (model prog w) A (keyLt' kd x y) Q E' s):Cmp prog w A E s kd (pairsOf vs):=by
 intro x y st Q hx hy hk q
 rw [zcj] at hx hy
 obtain ⟨v,hv,rfl⟩:=Qi.mp hx
 obtain ⟨u,hu,rfl⟩:=Qi.mp hy
 rw [lt'_eq]
 refine wpS_bind (wpS_get ?_)
 rw [hk]
 refine wpS_bind (wpS_lift (wpAny_attempt (h v u hv hu _ _ fun b=>⟨rfl,?_⟩)))
 exact wpS_pure (q b)
theorem zch.any (h:2≤vs.length→∃ kd:SortKind,(∀ Q:SortKind→Shared→Prop,Q kd s→wpAny (model prog w) A (keyKind' vs.toArray) Q E s)∧∀ x y,x∈vs→y∈vs→∀ (Q:Bool→Shared→Prop) (E':Value→Shared→Prop),(∀ b,Q b s)→wpAny (model prog w) A (keyLt' kd x y) Q E' s):zch prog w A E s (fun _=>True) vs :=
 ⟨fun _=>trivial,fun h2=>by
  obtain ⟨kd,a1,a2⟩:=h h2
  exact ⟨kd,a1,fun Q q=>zfk (cmp_of a2) rfl rfl (Array.Perm.refl _) rfl fun st' p1 p2=>q st' p1 p2 trivial⟩⟩
def kvS (v:Value):List Nat:=(strOf v).cps.toList
theorem zd7 (hv:∀ v∈vs,∃ x t,v=.str x t):zch prog w A E s (fun ws=>vs.length < 64→ws.Pairwise fun x y=>¬ kvS y < kvS x) vs:=by
 have ask:2≤vs.length→∀ Q:SortKind→Shared→Prop,Q oneType' s→wpAny (model prog w) A (keyKind' vs.toArray) Q E s:=fun h2 Q q=>kas_kind (T:=.type "str") h2 (fun v hm=>by
  obtain ⟨x,t,rfl⟩:=hv v hm
  exact Looks.of_pure rfl) (by decide) (by decide) q
 refine ⟨fun h2 _=>?_,fun h2=>⟨oneType',ask h2,fun Q q=>?_⟩⟩
 ·obtain _ | ⟨v,_ | ⟨v',r⟩⟩:=vs
  ·exact List.Pairwise.nil
  ·exact Ko _ _
  ·exact absurd h2 (by simp)
 by_cases h64:vs.length < 64
 ·refine wpS_sortRunsK (κ:=strKind) strKind_oneLt (a₀:=pairsOf vs) (fun p hp=>?_) ⟨Array.Perm.refl _,rfl,rfl,rfl⟩ (by rw [pairsOf_size];exact h2) (by rw [pairsOf_size];exact h64) fun st' a1 a2 a3=>q st' a1 a2 fun _=>?_
  ·rw [zcj] at hp
   obtain ⟨v,hm,rfl⟩:=Qi.mp hp
   obtain ⟨x,t,rfl⟩:=hv v hm
   exact ⟨_,rfl⟩
  ·rw [Ww,List.pairwise_iff_getElem]
   intro i j hi hj hij
   have all:∀ p∈(arrOf st').toList,∃ x t,p=(Value.str x t,Value.str x t):=fun p hp=>by
    have hp:=(Wa.mp a1).mem_iff.mp hp
    rw [zcj] at hp
    obtain ⟨v,hm,rfl⟩:=Qi.mp hp
    obtain ⟨x,t,rfl⟩:=hv v hm
    exact ⟨x,t,rfl⟩
   have hi':i < (arrOf st').size:=by simpa using hi
   have hj':j < (arrOf st').size:=by simpa using hj
   have h1:=a3 i j (Wt hij) (by rw [← a1.size_eq];exact hj')
   obtain ⟨x,t,ex⟩:=all _ (Qr hi)
   obtain ⟨y,u,ey⟩:=all _ (Qr hj)
   rw [Array.getElem_toList] at ex ey
   rw [KK_str hi' (x:=x) (t:=t) (q:=(arrOf st')[i].2) (by rw [ex]),KK_str hj' (x:=y) (t:=u) (q:=(arrOf st')[j].2) (by rw [ey])] at h1
   rw [Array.getElem_toList,Array.getElem_toList,ex,ey]
   exact of_decide_eq_false h1
 ·refine zfk (cmp_of fun x y hx hy Q' E' q'=>?_) rfl rfl (Array.Perm.refl _) rfl fun st' p1 p2=>q st' p1 p2 fun z=>absurd z h64
  obtain ⟨a,t,rfl⟩:=hv x hx
  obtain ⟨b,u,rfl⟩:=hv y hy
  rw [keyLt'_oneType]
  exact oneLt_str (q' _)
theorem sort_list {a:Addr} {n:Nat} {P:Fin→Shared→Prop} (ho:s.heap.get? a=some (seqObj "list" vs.toArray n)) (hz:vs.length≤sizeLine)
  (hS:∀ s':Shared,(∀ b o,b≠a→s.heap.get? b=some o→s'.heap.get? b=some o)→zch prog w A E s' R vs)
  (h:∀ ws:List Value,ws.Perm vs→R ws→P (.done (.ret .none)) { s with heap:=sortedHeap s.heap a vs ws.toArray }) :
  wpAny (model prog w) A (Builtin.«list.sort» ⟨[.ref a],[]⟩) P E s:=by
 have lt:a < s.heap.objs.size:=Qx ho
 rw [list_sort_plain]
 refine wpAny_bind (listItems_at ho rfl (wpAny_bind (listUpdate_at ho rfl ?_ (hsz:=by simpa using hz) (hsz2:=by simp))))
 obtain ⟨e1,k1⟩:∃ e,(s.heap.update a (Obj.mapSeq fun _=>#[])).get? a=some (seqObj "list" #[] e):=⟨_,get?_update_seq ho fun _=>#[]⟩
 refine wpAny_bind (seqEpoch_at k1 rfl (wpAny_bind (wpAny_newTuple (wpAny_bind (wpAny_newList (wpAny_holding ?_))))))
 show wpAny (model prog w) A _ P E { s with heap:=((s.heap.update a (Obj.mapSeq fun _=>#[])).push (seqObj "tuple" vs.toArray 0)).push (seqObj "list" #[] 0) }
 generalize hg:((s.heap.update a (Obj.mapSeq fun _=>#[])).push (seqObj "tuple" vs.toArray 0)).push (seqObj "list" #[] 0)=g
 have k6:g.get? a=some (seqObj "list" #[] e1):=by
  rw [← hg]
  exact Qj _ (Qj _ k1)
 have kk:∀ b o,b≠a→s.heap.get? b=some o→g.get? b=some o:=fun b o hb e=>by
  rw [← hg]
  exact Qj _ (Qj _ ((Yo s.heap _ (Zl hb)).trans e))
 have eh:∀ out,sortedHeap s.heap a vs out=g.update a (Obj.mapSeq fun _=>out):=fun out=>by rw [← hg];rfl
 have S:=hS { s with heap:=g } kk
 dsimp only
 have fin:∀ (l:Array Keyed),l.toList.Perm (vs.map fun v=>(v,v))→R (l.toList.map (·.2))→P (.done (.ret .none)) { s with heap:=g.update a (Obj.mapSeq fun _=>l.map (·.2)) }:=fun l p1 p2=>by
  have:=h _ (perm_back p1) p2
  rw [eh] at this
  rw [show l.map (·.2)=(l.toList.map (·.2)).toArray by rw [← Array.toList_map]]
  exact this
 have lz:vs.toArray.size=vs.length:=Qv
 have szOk:∀ l:Array Keyed,l.toList.Perm (vs.map fun v=>(v,v))→(l.map (·.2)).size≤sizeLine+1:=fun l p1=>by
  rw [Array.size_map,← Yz,p1.length_eq,Qa];exact zar16 ‹_›
 by_cases few:vs.toArray.size < 2
 ·rw [if_pos few,if_pos few]
  refine wpAny_bind (wpAny_pure ?_)
  rw [StateT.run_pure]
  have pr:(pairsOf vs).toList.Perm (vs.map fun v=>(v,v)):=by rw [zcj]
  refine wpAny_bind (wpAny_pure (wpAny_bind (seqEpoch_at k6 rfl (wpAny_bind (listUpdate_at k6 rfl ?_ (hsz:=by simp) (hsz2:=szOk (pairsOf vs) pr))))))
  simp only [bne_self_eq_false,Ke,if_false]
  refine wpAny_pure (fin (pairsOf vs) pr ?_)
  rw [zcj,Zn,show ((fun (p:Keyed)=>p.2) ∘ fun v=>(v,v))=id from rfl,List.map_id]
  exact S.few (by rw [← lz];exact few)
 ·rw [if_neg few,if_neg few]
  obtain ⟨kd,ask,C⟩:=S.go (by omega)
  refine wpAny_bind (ask _ ?_)
  refine wpAny_bind (wpAny_mono (C (fun _ st'=>Aj3 ((arrOf st').Perm (pairsOf vs)) (failedOf st'=none) (R ((arrOf st').toList.map (·.2)))) fun st' p1 p2 p3=>⟨p1,p2,p3⟩) ?_ fun _ _ e=>e)
  rintro ⟨⟨⟩,st'⟩ s' ⟨rfl,p1,p2,p3⟩
  have pr:(arrOf st').toList.Perm (vs.map fun v=>(v,v)):=by rw [← zcj];exact Wa.mp p1
  dsimp only
  refine wpAny_bind (seqEpoch_at k6 rfl (wpAny_bind (listUpdate_at k6 rfl ?_ (hsz:=by simp) (hsz2:=szOk (arrOf st') pr))))
  rw [p2]
  simp only [bne_self_eq_false,Ke,if_false]
  exact wpAny_pure (fin _ pr p3)
theorem zer {x:Value} {G:List Value→Prop} {R:List Value→List Value→Prop} {Q:Value→Shared→Prop}
  (hcol:∀ (E':Value→Shared→Prop) (R:List Value→Shared→Prop),(∀ (g:Heap) (tk:Nat) (vs:List Value),(∀ b o,s.heap.get? b=some o→g.get? b=some o)→s.heap.objs.size≤g.objs.size→G vs→R vs { s with heap:=g,toks:=tk })→wpAny (model prog w) A.in1 (collect x) R E' s)
  (hz:∀ vs,G vs→vs.length≤sizeLine)
  (hS:∀ vs,G vs→∀ (A':Around) (E':Value→Shared→Prop) (s':Shared),A'.units≤A.units+8→(∀ b o,s.heap.get? b=some o→s'.heap.get? b=some o)→zch prog w A' E' s' (R vs) vs)
  (h:∀ (vs ws:List Value) (l:Addr) (g:Heap) (tk e:Nat),G vs→ws.Perm vs→R vs ws→s.heap.objs.size≤l→(∀ b o,s.heap.get? b=some o→g.get? b=some o)→g.get? l=some (seqObj "list" ws.toArray e)→Q (.ref l) { s with heap:=g,toks:=tk }) :
  wpAny (model prog w) A (call (.builtin "sorted") [x]) Q E s:=by
 refine Calls.call_function_entry kind_sorted plain_sorted entry_sorted (args_sorted1 _) ?_
 unfold Builtin.«sorted»
 refine wpAny_bind (m:=checkCount "sorted" 1 1 _) (wpAny_pure (wpAny_bind (hcol _ _ fun g tk vs kg le hG=>?_)))
 have hzv:=hz vs hG
 refine wpAny_bind (wpAny_newList ?_ (hsz:=hzv))
 have o1:(g.push (seqObj "list" vs.toArray 0)).get? g.objs.size=some (seqObj "list" vs.toArray 0):=Zc _ rfl
 show wpAny _ _ _ _ _ { s with heap:=g.push (seqObj "list" vs.toArray 0),toks:=tk }
 refine wpAny_bind (wpAny_holding (wpAny_call_entry slot_list_sort ⟨_,o1,rfl⟩ entry_list_sort (sort_list (R:=R vs) o1 hzv (fun s' k=>hS vs hG _ _ s' ?_ fun b o e=>k b o (fun z=>?_) (Qj _ (kg b o e))) fun ws p1 p2=>⟨_,rfl,?_⟩) (args_list_sort _)))
 ·show A.units+1+1≤A.units+8
  omega
 ·have lt:b < g.objs.size:=Qx (kg b o e)
  rw [z] at lt
  exact absurd lt (Wc _)
 ·obtain ⟨e,he⟩:=sortedHeap_at (out:=ws.toArray) o1
  refine wpAny_pure ⟨_,rfl,h vs ws _ _ _ e hG p1 p2 le (fun b o q=>?_) he⟩
  have lt:b < g.objs.size:=Qx (kg b o q)
  rw [sortedHeap_old (Zh lt) (by rw [size_push'];exact Jg lt)]
  exact Qj _ (kg b o q)
theorem zgh {T:String} {r d:Addr} {n:Nat} {P:Nat→Value→Prop} {OK:Heap→Prop} {R:List Value→Shared→Prop} (K:KdlSrc prog w T r d n P OK) (hh:A.handled=none) (ok:OK s.heap) (hn:n≤sizeLine)
  (h:∀ (g:Heap) (tk:Nat) (acc:Array Value),(∀ b o,s.heap.get? b=some o→g.get? b=some o)→s.heap.objs.size≤g.objs.size→ItemsOf P acc n→R acc.toList { s with heap:=g,toks:=tk }) :
  wpAny (model prog w) A (collect (.ref r)) R E s:=by
 have there:=K.there _ ok
 unfold collect
 refine wpAny_bind (wpAny_runValue (codeAny_builtin entry_proto_collect' ?_))
 rw [Yp PySem.F.plain_proto_collect _]
 show wpAny _ A.in1 (newList [] >>= fun l =>
  again (.builtin "list.__iadd__" ⟨[l,.ref r],[]⟩)) _ _ s
 refine wpAny_bind (wpAny_newObj_type (wpAny_pure ⟨plainId_quiet PySem.F.plain_list_iadd _,codeAny_builtin entry_list_iadd' ?_⟩))
 rw [Yp PySem.F.plain_list_iadd _]
 show wpAny _ A.in1 (Builtin.List.listExtendWith (.ref s.heap.objs.size)
  (.ref r) (.ref s.heap.objs.size)) _ _ _
 have at0:(s.heap.push { cls:=.type "list",data:=.seq ([]:List Value).toArray }).get? s.heap.objs.size=some { cls:=.type "list",data:=.seq #[] }:=Zc _ rfl
 refine wpAny_mono (kdl_extend (A:=A) (s:={ s with heap:=s.heap.push { cls:=.type "list",data:=.seq ([]:List Value).toArray } })
  (R:=fun (q:Result) (s':Shared)=>∃ (g:Heap) (tk:Nat) (acc:Array Value) (c:Nat),q=.ok (.ret (.ref s.heap.objs.size))∧s'={ s with heap:=g,toks:=tk } ∧
   (∀ b o,s.heap.get? b=some o→g.get? b=some o)∧g.get? s.heap.objs.size=some { cls:=.type "list",dict:=none,data:=.seq acc c,slots:=#[] }∧ItemsOf P acc n)
  K hh (K.keep _ _ ok fun b _ o e=>Qj _ e) s.heap.objs.size (Wd there.1) (Wd there.2) (.ref s.heap.objs.size) 0 at0
  (fun g tk acc c hk hS ha=>⟨g,tk,acc,c,rfl,rfl,fun b o e=>hk b o (Zh (Qx e)) (Qj _ e),hS,ha⟩) hn) (fun fin s' x=>?_) fun e s' x=>?_
 ·cases fin with
  | done f =>
   obtain ⟨g,tk,acc,c,e,rfl,hk,hS,ha⟩:=x
   cases e
   show wpAny _ A (load s.heap.objs.size >>= _) _ _ _
   exact wpAny_bind (wpAny_load hS (wpAny_pure (h g tk acc hk (Wt (Qx hS)) ha)))
  | again c1 =>
   refine ⟨x.1,codeAny_mono x.2 fun q s2 y=>?_⟩
   obtain ⟨g,tk,acc,c,rfl,rfl,hk,hS,ha⟩:=y
   show wpAny _ A (load s.heap.objs.size >>= _) _ _ _
   exact wpAny_bind (wpAny_load hS (wpAny_pure (h g tk acc hk (Wt (Qx hS)) ha)))
 ·obtain ⟨_,_,_,_,e',_⟩:=x
  cases e'
theorem sorted_any {l:Addr} {Q:Value→Shared→Prop} (hl:s.heap.IsList l vs.toArray) (hz:vs.length≤sizeLine)
  (hS:∀ (A':Around) (E':Value→Shared→Prop) (s':Shared),A'.units≤A.units+8→(∀ b o,s.heap.get? b=some o→s'.heap.get? b=some o)→zch prog w A' E' s' R vs)
  (h:∀ (ws:List Value) (l:Addr) (g:Heap) (tk e:Nat),ws.Perm vs→R ws→s.heap.objs.size≤l→(∀ b o,s.heap.get? b=some o→g.get? b=some o)→g.get? l=some (seqObj "list" ws.toArray e)→Q (.ref l) { s with heap:=g,toks:=tk }) :
  wpAny (model prog w) A (call (.builtin "sorted") [.ref l]) Q E s :=
 zer (G:=fun us=>us=vs) (R:=fun _=>R) (fun E' R' hR=>collect_list hl (hR _ _ _ (fun b o e=>(Yo _ _ (Zl (Zh (Qx e)))).trans (Qj _ e)) (by rw [Heap.size_update,size_push'];exact Nat.le_succ _) rfl) hz) (fun us e=>e ▸ hz) (fun us e=>e ▸ hS) fun us ws l g tk e e' p1 p2=>h ws l g tk e (e' ▸ p1) p2
end
theorem str_ext {a b:Str} (h:a.cps.toList=b.cps.toList):a=b:=by
 cases a;cases b
 exact congrArg _ (Array.toList_inj.mp h)
def zgw (h:Heap) (v:Value) (x:Str) (q:Value):Prop:=∃ a o t n,v=.ref a∧h.get? a=some o∧o.cls=.type "tuple" ∧ o.data=.seq #[.str x t,q] n
theorem katTups {h s:Heap} (k:∀ b o,h.get? b=some o→s.get? b=some o):∀ (vs:List Value),(∀ v∈vs,∃ x q,zgw h v x q)→∃ fs,KatTups s vs fs∧fs.length=vs.length∧∀ f∈fs,∃ x t,f=.str x t
 | [],_=>⟨[],.nil,rfl,fun f hf=>by cases hf⟩
 | v::vs,hv=>by
  obtain ⟨fs,h1,h2,h3⟩:=katTups k vs fun u hu=>hv u (Qf _ hu)
  obtain ⟨x,q,a,o,t,n,rfl,e,c,d⟩:=hv v Qb
  refine ⟨.str x t::fs,.cons (k _ _ e) c d rfl h1,by rw [Qq,Qq,h2],fun f hf=>?_⟩
  rcases Qe.mp hf with z | z
  ·exact ⟨x,t,z⟩
  ·exact h3 f z
section
variable {prog:Program} {w:World} {A:Around} {E:Value→Shared→Prop} {s:Shared} {vs:List Value} {h:Heap}
theorem kind_tups (k:∀ b o,h.get? b=some o→s.heap.get? b=some o) (hv:∀ v∈vs,∃ x q,zgw h v x q) (h2:2≤vs.length) {Q:SortKind→Shared→Prop} (q:Q (tuples' true) s):wpAny (model prog w) A (keyKind' vs.toArray) Q E s:=by
 obtain ⟨fs,h1,h3,h4⟩:=katTups k vs hv
 refine kat_kind (T:=.type "str") h1 (by omega) (fun f hf=>?_) (by decide) q
 obtain ⟨x,t,rfl⟩:=h4 f hf
 exact Looks.of_pure rfl
theorem zd6 (k:∀ b o,h.get? b=some o→s.heap.get? b=some o) (hv:∀ v∈vs,∃ x q,zgw h v x q) (hd:∀ v∈vs,∀ u∈vs,∀ x p q,zgw h v x p→zgw h u x q→v=u∨∃ y t y' t',p=.str y t∧q=.str y' t'):zch prog w A E s (fun _=>True) vs:=by
 refine .any fun h2=>⟨tuples' true,fun Q q=>kind_tups k hv h2 q,fun v v' hx hy Q E' q=>?_⟩
 have same:=hd v hx v' hy
 obtain ⟨x,z,p⟩:=hv v hx
 obtain ⟨x',z',p'⟩:=hv v' hy
 have P:=p
 have P':=p'
 obtain ⟨a,o,t,n,rfl,e,c,d⟩:=p
 obtain ⟨a',o',t',n',rfl,e',c',d'⟩:=p'
 refine kat_lt (k _ _ e) d (k _ _ e') d' ?_
 show KatLex _ _ _ _ _ _ [(Value.str x t,Value.str x' t'),(z,z')] 0 s
 refine kat_cons (wpAny_eqBool_str ?_)
 by_cases ex:x=x'
 ·subst ex
  rw [decide_eq_true rfl]
  refine kat_yes (kat_cons ?_)
  rcases same x z z' P P' with e2 | ⟨y,u,y',u',rfl,rfl⟩
  ·cases e2
   rw [e] at e'
   cases e'
   rw [d] at d'
   have d2:(#[Value.str x t,z]:Array Value)=#[Value.str x t',z']:=by injection d'
   have d3:z=z':=by
    have:=congrArg (fun a:Array Value=>a[1]?) d2
    simpa using this
   subst d3
   exact SeqAt.EqAt.same z _ _ _ _ (kat_yes (kat_nil (q _)))
  ·refine wpAny_eqBool_str ?_
   by_cases ey:y=y'
   ·rw [decide_eq_true ey]
    exact kat_yes (kat_nil (q _))
   ·rw [decide_eq_false ey]
    exact kat_no (kat_one _ _ (lt_str (q _)))
 ·rw [decide_eq_false ex]
  exact kat_no (oneLt_str (q _))
end
theorem lt_loopAt (l b:Addr) (xs ys:List (Str×Tok)) (n n2:Nat) (k:Nat) :
  ∀ i:Nat,min xs.length ys.length - i=k→i≤min xs.length ys.length→Meets (Builtin.«list.__eq__.loop» ⟨[.ref l,.ref b,rawInt i,rawInt 0],[]⟩)
   (fun A R s=>s.heap.get? l=some { cls:=.type "list",data:=.seq (strValues xs).toArray n }∧s.heap.get? b=some { cls:=.type "list",data:=.seq (strValues ys).toArray n2 } ∧
    ∀ z,R (.ok (.ret (.bool z))) s):=by
 have get:∀ (zs:List (Str×Tok)) (i:Nat),(strValues zs).toArray[((i:Nat):Int).toNat]?=zs[i]?.map fun p=>Value.str p.1 p.2:=fun zs i=>by
  simp [strValues]
 induction k with
 | zero =>
  intro i hk hle prog w A R s h
  obtain ⟨hp,g,d,tk,os⟩:=s;obtain ⟨hl,hb,h⟩:=h
  wp_walk using wpAny_loadPart' hl,wpAny_loadPart' hb
  rw [get,get]
  by_cases hx:i < xs.length
  ·have hy:ys[i]?=none:=by simp;lia
   rw [hy,Qc hx]
   dsimp only [Option.map_some,Option.map_none]
   wp_walk using wpAny_loadPart' hl,wpAny_loadPart' hb
   exact h _
  ·have hx':xs[i]?=none:=by simp;lia
   rw [hx']
   dsimp only [Option.map_some,Option.map_none]
   wp_walk using wpAny_loadPart' hl,wpAny_loadPart' hb
   exact h _
 | succ k ih =>
  intro i hk hle prog w A R s h
  obtain ⟨hp,g,d,tk,os⟩:=s;obtain ⟨hl,hb,h⟩:=h
  wp_walk using wpAny_loadPart' hl,wpAny_loadPart' hb
  have hx:i < xs.length:=by lia
  have hy:i < ys.length:=by lia
  rw [get,get,Qc hx,Qc hy]
  dsimp only [Option.map_some]
  have hc:((i:Int)+1)=((i+1:Nat):Int):=by push_cast;rfl
  refine wpAny_bind (wpAny_eqBool_str ?_)
  by_cases he:xs[i].1=ys[i].1
  ·rw [decide_eq_true he]
   wp_walk
   rw [hc]
   exact ⟨plainId_quiet plain_eq_loop _,codeAny_builtin entry_eq_loop (by
    rw [Yp plain_eq_loop _]
    exact ih (i+1) (by lia) (by lia) prog w A R _ ⟨hl,hb,h⟩)⟩
  ·rw [decide_eq_false he]
   wp_walk using wpAny_loadPart' hl,wpAny_loadPart' hb
   rw [get,get,Qc hx,Qc hy]
   dsimp only [Option.map_some]
   refine wpAny_bind (show wpAny _ _ (compareOp .Lt (Value.str xs[i].1 xs[i].2) (Value.str ys[i].1 ys[i].2)) _ _ _ from lt_str ?_)
   wp_walk
   exact h _
theorem list_ltAt (l b:Addr) (xs ys:List (Str×Tok)) (n n2:Nat):Meets (Builtin.«list.__lt__» ⟨[.ref l,.ref b],[]⟩)
   (fun A R s=>s.heap.get? l=some { cls:=.type "list",data:=.seq (strValues xs).toArray n }∧s.heap.get? b=some { cls:=.type "list",data:=.seq (strValues ys).toArray n2 } ∧
    ∀ z,R (.ok (.ret (.bool z))) s):=by
 intro prog w A R s h
 obtain ⟨hp,g,d,tk,os⟩:=s;obtain ⟨hl,hb,h⟩:=h
 have f3:=AutoSeq1.sub_list_list
 wp_walk using wpAny_loadPart' hl,wpAny_loadPart' hb
 exact ⟨plainId_quiet plain_eq_loop _,codeAny_builtin entry_eq_loop (by
  rw [Yp plain_eq_loop _]
  exact lt_loopAt l b xs ys n n2 _ 0 rfl (Zd _) prog w A R _ ⟨hl,hb,h⟩)⟩
section
variable {prog:Program} {w:World} {A:Around} {E:Value→Shared→Prop} {s:Shared}
theorem zgp {vs:List Value} {h:Heap} (hu:A.units < cLine) (k:∀ b o,h.get? b=some o→s.heap.get? b=some o) (hv:∀ v∈vs,∃ a xs n,v=.ref a∧h.get? a=some { cls:=.type "list",data:=.seq (strValues xs).toArray n }):zch prog w A E s (fun _=>True) vs:=by
 refine .any fun h2=>⟨oneType',fun Q q=>kas_kind (T:=.type "list") h2 (fun v hm=>?_) (by decide) (by decide) q,fun x y hx hy Q E' q=>?_⟩
 ·obtain ⟨a,xs,n,rfl,e⟩:=hv v hm
  exact (Looks.ld (k _ _ e)).andThen .now
 ·obtain ⟨a,xs,n,rfl,e⟩:=hv x hx
  obtain ⟨b,ys,m,rfl,e'⟩:=hv y hy
  rw [keyLt'_oneType,oneLt'_eq]
  simp only [if_true]
  refine wpAny_bind (wpAny_cRoomFor hu ?_)
  refine wpAny_bind (wpAny_callSpecialIfBound?_slot ⟨_,k _ _ e,rfl⟩ F.slot_list_lt (call_meets F.slot_list_lt ⟨_,k _ _ e,rfl⟩ F.entry_list_lt (F.args_list_lt_2 _ _) (list_ltAt a b xs ys n m) ⟨k _ _ e,k _ _ e',fun z=>?_⟩))
  exact wpAny_truthy_bool (q _)
end
end Tm
end
section
namespace L2
open PySem PySem.Spec PyProof.Rows
section
variable {X:Cx}
inductive RrIndex (x:V) (vs:List V) (H:Hp) (Q:VK):Prop
 | mk (l:Addr) (xs:List V) (y:V) (j:Nat) (h0:x=.ref l) (h1:vs=[y]) (h2:H l=some (.lst xs)) (h3:zdu y=true) (h4:xs.all zdu=true) (h5:(∃ z,xs[j]?=some z∧eqV z y=true)) (h6:(∀ m z,m < j→xs[m]?=some z→eqV z y=false)) (h7:Q (.int j) H):RrIndex x vs H Q
def rIndex:V→List V→Hp→VK→Prop:=fun x vs H Q=>RrIndex x vs H Q
theorem zhq:MtM X "list.index" rIndex:=by
 intro pins s σ H x vs v us Q I rx rv h
 obtain ⟨l,xs,y,j,rfl,rfl,hH,fy,fs,⟨z,hz,ez⟩,hno,q⟩:=h
 cases rx
 obtain ⟨u,rfl,ru⟩:=rv.one
 obtain ⟨zz,its,n,r,hl,e⟩:=I.lstM hH
 have hn:=zeh
 obtain ⟨wv,hw,rw'⟩:=r.get hz
 have hj:j < its.length:=(Qz.mp hw).1
 have fl:∀ {i:Nat} {a:V},xs[i]?=some a→zdu a=true:=fun {i a} q=>Ut.mp fs a (Yn q)
 refine call_meets F.slot_list_index ⟨_,e,rfl⟩ F.entry_list_index (F.args_list_index_2 _ _)
  (SeqAt.list_indexAt l its.toArray n none #[] u (eqU y) j (by simpa using hj) (by lia) ?_ ?_) ⟨e,fun a ha=>zdt ru fy r fs a (by simpa using ha),?_⟩
 ·have e1:its[j]=wv:=by
   have:=Qc hj
   rw [this] at hw;exact Qm hw
  show eqU y (its.toArray[j])=true
  rw [Jr,e1,eqU_of rw' (fl hz)]
  exact ez
 ·intro m hm hlt
  have hm':m < its.length:=by simpa using hm
  have hm2:m < xs.length:=by exact zar6 ‹_› ‹_›
  have gx:xs[m]?=some xs[m]:=Qc hm2
  obtain ⟨wm,hwm,rm⟩:=r.get gx
  have e1:its[m]=wm:=by
   have:=Qc hm'
   rw [this] at hwm;exact Qm hwm
  show eqU y (its.toArray[m])=false
  rw [Jr,e1,eqU_of rm (fl gx)]
  exact hno m _ hlt gx
 ·exact ⟨.int j,H,I.tok _,⟨_,rfl⟩,q⟩
inductive RrInsert (x:V) (vs:List V) (H:Hp) (Q:VK):Prop
 | mk (l:Addr) (xs:List V) (y:V) (k:Nat) (h0:x=.ref l) (h1:vs=[.int k,y]) (h2:H l=some (.lst xs)) (h3:xs.length < sizeLine) (h4:k≤xs.length) (h5:Q .non (upd H l (.lst (xs.take k++y::xs.drop k)))):RrInsert x vs H Q
def rInsert:V→List V→Hp→VK→Prop:=fun x vs H Q=>RrInsert x vs H Q
theorem mt_insert:MtM X "list.insert" rInsert:=by
 intro pins s σ H x vs v us Q I rx rv h
 obtain ⟨l,xs,y,k,rfl,rfl,hH,hz,hk,q⟩:=h
 cases rx
 obtain ⟨u1,u,rfl,⟨t,rfl⟩,ru⟩:=rv.two
 obtain ⟨zz,its,n,r,hl,e⟩:=I.lstM hH
 have hn:=zeh
 obtain ⟨i,hi⟩:∃ i:Int,i=(k:Int):=⟨_,rfl⟩
 have hfit:¬ (!Builtin.List.listFitsIndex i)=true:=by
  rw [fitsIndex_both (by lia) (by lia)]
  exact Zb
 have hsz:its.toArray.size≤sizeLine:=by rw [Qv];exact zd5 ‹_› ‹_›
 have M:=AutoSeq1.list_insert_list_int_val_1 l its.toArray n i t u hfit hsz
 rw [← hi]
 refine call_meets F.slot_list_insert ⟨_,e,rfl⟩ F.entry_list_insert (F.args_list_insert_3 _ _ _) M ⟨e,?_⟩
 refine ⟨.non,_,I.lset (its':=its.take k++u::its.drop k) hH e ?_ ((r.take k).append (.cons ru (r.drop k))) ?_,rfl,q⟩
 ·have e1:¬ (i < 0):=by lia
  have e2:min i.toNat its.toArray.size=k:=by rw [Qv];lia
  show (its.toArray.extract 0 (if i < 0 then (i+((its.toArray.size:Nat):Int)).toNat else min i.toNat its.toArray.size)).push u++its.toArray.extract (if i < 0 then (i+((its.toArray.size:Nat):Int)).toNat else min i.toNat its.toArray.size)=_
  rw [if_neg e1,e2]
  apply Array.toList_inj.mp
  simp
  rw [Qp (by rw [List.length_drop];exact Qh _)]
 ·simp;lia
theorem joined_len (sep:Str):∀ (l:List Str) (n:Nat),(l.toArray.foldl (fun n s=>n+s.length+sep.length) n)=n+(l.map fun z=>z.length+sep.length).sum:=by
 intro l n
 rw [← Array.foldl_toList]
 show l.foldl _ n=_
 induction l generalizing n with
 | nil=>simp
 | cons a r ih=>rw [Jc,ih,Qk,Ze];lia
theorem zc9:∀ {zs:List Str} {its:List Value},Vals (zs.map V.str) its→∃ l:List (Str×Tok),its=PySem.strValues l∧l.map (·.1)=zs
 | [],_,.nil=>⟨[],rfl,rfl⟩
 | z::zs,_,.cons r t=>by
  obtain ⟨tk,rfl⟩:=r
  obtain ⟨l,rfl,e⟩:=zc9 t
  exact ⟨(z,tk)::l,rfl,by rw [Qk,e]⟩
inductive RrJoin (x:V) (vs:List V) (H:Hp) (Q:VK):Prop
 | mk (l:Addr) (sep:Str) (zs:List Str) (h0:x=.str sep) (h1:vs=[.ref l]) (h2:H l=some (.lst (zs.map V.str))) (h3:(zs.map fun z=>z.length+sep.length).sum≤sizeLine) (h4:Q (.str (Txt.join sep zs)) H):RrJoin x vs H Q
def rJoin:V→List V→Hp→VK→Prop:=fun x vs H Q=>RrJoin x vs H Q
theorem mt_join:MtM X "str.join" rJoin:=by
 intro pins s σ H x vs v us Q I rx rv h
 obtain ⟨l,sep,zs,rfl,rfl,hH,hz,q⟩:=h
 obtain ⟨t,rfl⟩:=rx
 obtain ⟨u,rfl,ru⟩:=rv.one
 cases ru
 obtain ⟨zz,its,n,r,hl,e⟩:=I.lstM hH
 obtain ⟨l',rfl,e'⟩:=zc9 r
 refine SC.join ⟨_,e,rfl,n,rfl⟩ e' ?_ fun t' k=>⟨.str _,H,I.tok _,⟨t',rfl⟩,q⟩
 unfold JoinOk
 rw [Bool.not_eq_true',joined_len]
 exact decide_eq_false (by lia)
theorem call_isi_str:zca X (.builtin "isinstance") (fun xs H Q=>Ex1 fun z=>Aj2 (xs=[.str z,.ty "str"]) (Q (.bl true) H)):=by
 intro pins s σ H xs us Q I r h
 obtain ⟨z,rfl,q⟩:=h
 obtain ⟨u,w',rfl,⟨t,rfl⟩,e⟩:=vals2 r
 have e':w'=Value.type "str" := e
 subst e'
 exact IsiPair.str_str ⟨.bl true,H,I,rfl,q⟩
theorem zdm {pins:List (Addr×Obj)} {s:Shared} {σ:St} {H:Hp} {p:Addr} {ys:List V} (hc:X.calm=true) (I:Inv X pins σ H s) (hq:SqL X.K H p ys) {Q:Value→Shared→Prop}
  (h:∀ (its:List Value) (It:Addr) (h1:Heap),Vals ys its→Walks X.prog X.w X.A.in1 It [It,p] [It] its.toArray.size (fun i v=>its.toArray[i]?=some v) (fun i h=>h.IsListIter It p i∧h.IsList p its.toArray)→(h1.IsListIter It p 0∧h1.IsList p its.toArray)→(∀ b∈[It,p],b < h1.objs.size) →
   (∀ (h':Heap) (tk:Nat),(∀ b o,b∉[It]→h1.get? b=some o→h'.get? b=some o)→Inv X pins σ H { s with heap:=h',toks:=tk })→Q (.ref It) { s with heap:=h1 }) :
  wpAny (model X.prog X.w) X.A.in1 (pyIter (.ref p)) Q X.xe s:=by
 obtain ⟨its,rv,pl,hz⟩:=I.list hq
 refine wpAny_pyIter_list pl.isList ?_
 have lt:p < s.heap.objs.size:=by obtain ⟨o,n,e,_⟩:=pl;exact Qx e
 refine h its s.heap.objs.size _ rv (Walks.list (show X.A.in1.handled=none from I.ok.hd hc) _ _ (Zh lt) _) ⟨⟨_,Zc _ rfl,rfl,rfl⟩,?_⟩ (fun b hb=>?_) fun h' tk k=>I.kept (t':=tk) fun b o e=>?_
 ·obtain ⟨o,e,r⟩:=pl.isList
  exact ⟨o,Qj _ e,r⟩
 ·rcases Qe.mp hb with e | e
  ·rw [e];simp [Heap.push]
  ·rw [Qd.mp e];simp [Heap.push];exact Jg lt
 ·exact k b o (fun z=>absurd (Qx e) (by rw [Qd.mp z];exact Wc _)) (Qj _ e)
theorem zdz (ns:List Int):∀ k,k≤ns.length→preSum (fun i=>ns.getD i 0) k=(ns.take k).sum
 | 0,_=>rfl
 | k+1,h=>by
  show preSum (fun i=>ns.getD i 0) k+ns.getD k 0=_
  have hk:k < ns.length:=h
  rw [zdz ns k (by exact Wt ‹_›),Qg hk,List.sum_append,List.sum_singleton]
  congr 1
  simp [List.getD,hk]
theorem zcu:∀ {ns:List Int} {its:List Value},Vals (ns.map V.int) its→∀ (i:Nat) (v:Value),its[i]?=some v→∃ t,v=Value.int (ns.getD i 0) t
 | [],_,.nil,i,v,e=>by simp at e
 | n::ns,_,.cons r t,0,v,e=>by
  obtain ⟨tk,rfl⟩:=r
  simp at e;subst e
  exact ⟨tk,rfl⟩
 | n::ns,_,.cons r t,i+1,v,e=>by
  obtain ⟨tk,h⟩:=zcu t i v (by simpa using e)
  exact ⟨tk,by rw [h];simp⟩
theorem sum_small {ns:List Int} (hb:∀ n∈ns,0≤n∧n≤1000000):0≤ns.sum∧ns.sum≤1000000*(ns.length:Int):=by
 induction ns with
 | nil=>simp
 | cons a r ih =>
  have h1:=hb a Qb
  have h2:=ih fun n hn=>hb n (Qf _ hn)
  rw [Ze,Qq]
  lia
theorem call_sum (hc:X.calm=true):zca X (.builtin "sum") (fun xs H Q=>Ex2 fun (p:Addr) (ns:List Int)=>Aj5 (xs=[.ref p]) (SqL X.K H p (ns.map V.int)) (ns.length≤1000000) (∀ n∈ns,0≤n∧n≤1000000) (Q (.int ns.sum) H)):=by
 intro pins s σ H xs us Q I r h
 obtain ⟨p,ns,rfl,hq,hl,hb,q⟩:=h
 obtain ⟨u,rfl,rx⟩:=vals1 r
 cases rx
 refine call_sum_walk (zdm hc I hq fun its It h1 rv W st lt keep=>⟨It,_,_,_,_,_,fun i=>ns.getD i 0,rfl,W,st,lt,fun i v e=>zcu rv i v (by simpa using e),fun j hj=>?_,fun h' tk t' k=>⟨.int ns.sum,H,keep h' tk k,⟨t',?_⟩,q⟩⟩)
 ·have hl2:=rv.length
  rw [Qa] at hl2
  have hj':j < ns.length:=by rw [hl2];simpa using hj
  have s1:=sum_small (ns:=ns.take (j+1)) fun n hn=>hb n (Uq hn)
  rw [Zm] at s1
  have g:ns.getD j 0=ns[j]:=by simp [List.getD,hj']
  have g2:=hb _ (Qr hj')
  refine ⟨?_,?_⟩
  ·show InLong (ns.getD j 0)
   rw [g];unfold InLong;lia
  ·rw [zdz ns (j+1) hj']
   unfold InLong;lia
 ·have hl2:=rv.length
  rw [Qa] at hl2
  rw [Qv,zdz ns _ (by lia),← hl2,Qp (Qh _)]
theorem zeo:∀ {bs:List Bool} {its:List Value},Vals (bs.map V.bl) its→∀ (i:Nat) (v:Value),its[i]?=some v→v=Value.bool (bs.getD i true)
 | [],_,.nil,i,v,e=>by simp at e
 | n::ns,_,.cons r t,0,v,e=>by
  cases r
  simp at e;subst e
  rfl
 | n::ns,_,.cons r t,i+1,v,e=>by
  have h:=zeo t i v (by simpa using e)
  rw [h];simp
theorem all_range (bs:List Bool):(List.range bs.length).all (fun i=>bs.getD i true)=bs.all id:=by
 rw [Zv,Ut,Ut]
 constructor
 ·intro h x hx
  obtain ⟨i,hi,e⟩:=Zq hx
  have:=h i (Wu.mpr hi)
  simp [List.getD,hi] at this
  rw [← e];exact this
 ·intro h i hi
  have hi':=Wu.mp hi
  simp [List.getD,hi']
  exact h _ (Qr hi')
theorem call_all (hc:X.calm=true):zca X (.builtin "all") (fun xs H Q=>Ex2 fun (p:Addr) (bs:List Bool)=>Aj3 (xs=[.ref p]) (SqL X.K H p (bs.map V.bl)) (Q (.bl (bs.all id)) H)):=by
 intro pins s σ H xs us Q I r h
 obtain ⟨p,bs,rfl,hq,q⟩:=h
 obtain ⟨u,rfl,rx⟩:=vals1 r
 cases rx
 refine call_all_walk (zdm hc I hq fun its It h1 rv W st lt keep=>⟨It,_,_,_,_,_,fun i=>bs.getD i true,rfl,W,st,fun i v s' Q' E' e q'=>?_,fun h' tk k=>⟨.bl (bs.all id),H,keep h' tk k,?_,q⟩⟩)
 ·have e':=zeo rv i v (by simpa using e)
  subst e'
  exact wpAny_truthy_bool q'
 ·have hl2:=rv.length
  rw [Qa] at hl2
  show Value.bool _=Value.bool _
  rw [Qv,← hl2,all_range]
end
end L2
end
section
namespace L2
open PySem PySem.Spec PyProof.Rows Tm
theorem Vals.perm {ws us:List Value} (p:ws.Perm us):∀ {ys:List V},Vals ys us→∃ zs,zs.Perm ys∧Vals zs ws:=by
 induction p with
 | nil=>intro ys r;cases r;exact ⟨[],.nil,.nil⟩
 | cons x q ih =>
  intro ys r
  cases r with
  | cons r1 r2 =>
   obtain ⟨zs,h1,h2⟩:=ih r2
   exact ⟨_::zs,h1.cons _,.cons r1 h2⟩
 | swap x y l =>
  intro ys r
  cases r with
  | cons r1 r2 =>
   cases r2 with
   | cons r3 r4=>exact ⟨_,List.Perm.swap ..,.cons r3 (.cons r1 r4)⟩
 | trans _ _ ih1 ih2 =>
  intro ys r
  obtain ⟨zs,h1,h2⟩:=ih2 r
  obtain ⟨zs',h3,h4⟩:=ih1 h2
  exact ⟨zs',h3.trans h1,h4⟩
theorem Vals.pairwise {α:Type} {R:α→α→Prop} {kv:Value→α} {kV:V→α}:∀ {zs:List V} {ws:List Value},Vals zs ws→(∀ v∈zs,∀ u,RelV v u→kv u=kV v)→ws.Pairwise (fun a b=>R (kv a) (kv b))→zs.Pairwise fun a b=>R (kV a) (kV b)
 | _,_,.nil,_,_=>.nil
 | v::zs,u::ws,.cons r t,hk,h=>by
  rw [Kb] at h ⊢
  refine ⟨fun b hb=>?_,Vals.pairwise t (fun v hv=>hk v (Qf _ hv)) h.2⟩
  obtain ⟨i,hi,e⟩:=Zq hb
  obtain ⟨x,hx,rx⟩:=Vals.get t (i:=i) (x:=b) (by rw [Qc hi,e])
  have:=h.1 x (Yn hx)
  rw [hk v Qb u r,hk b (Qf _ hb) x rx] at this
  exact this
section
variable {X:Cx}
theorem zdv {pins:List (Addr×Obj)} {s:Shared} {σ:St} {H:Hp} {p:Addr} {ys:List V} {R:List Value→List Value→Prop} {Q:VK} (I:Inv X pins σ H s) (hq:SqL X.K H p ys)
  (hS:∀ its,Vals ys its→∀ (A':Around) (E':Value→Shared→Prop) (s':Shared),A'.units≤X.A.units+8→(∀ b o,s.heap.get? b=some o→s'.heap.get? b=some o)→zch X.prog X.w A' E' s' (R its) its)
  (h:∀ (l:Addr) (ws:List V) (its us:List Value),H l=none→ws.Perm ys→Vals ys its→Vals ws us→R its us→Q (.ref l) (upd H l (.lst ws))) :
  wpAny (model X.prog X.w) X.A (call (.builtin "sorted") [.ref p]) (EP X pins σ Q) X.xe s:=by
 obtain ⟨its,r,pl,hz⟩:=I.list hq
 refine sorted_any pl.isList (by rw [← r.length];exact hz) (hS its r) fun ws l g tk e p1 p2 le k he=>?_
 obtain ⟨zs,q1,q2⟩:=Vals.perm p1 r
 exact ⟨.ref l,_,I.laid (t':=tk) k le (show zbr X.prog X.w _ g _ (.lst zs) from ⟨by rw [q1.length_eq];exact hz,ws,e,q2,he⟩),rfl,h l zs its ws (I.hok.fresh le) q1 r q2 p2⟩
def leS (x y:Str):Prop:=¬ y.cps.toList < x.cps.toList
def txV:V→List Nat
 | .str x=>x.cps.toList
 | _=>[]
theorem strs_perm {ws:List V} {zs:List Str} (pm:ws.Perm (zs.map V.str)):∃ ts:List Str,ws=ts.map V.str∧ts.Perm zs:=by
 have a1:∀ v∈ws,∃ x,v=V.str x:=fun v hv=>by
  obtain ⟨x,_,e⟩:=Qi.mp (pm.mem_iff.mp hv)
  exact ⟨x,e.symm⟩
 have a2:∃ ts:List Str,ws=ts.map V.str:=by
  clear pm
  induction ws with
  | nil=>exact ⟨[],rfl⟩
  | cons v r ih =>
   obtain ⟨ts,e⟩:=ih fun v hv=>a1 v (Qf _ hv)
   obtain ⟨x,e2⟩:=a1 v Qb
   exact ⟨x::ts,by rw [e,e2];rfl⟩
 obtain ⟨ts,rfl⟩:=a2
 refine ⟨ts,rfl,?_⟩
 have:=pm.map (fun v=>match v with | .str x=>x | _=>Str.empty)
 rw [Zn,Zn] at this
 simpa [Function.comp_def] using this
theorem ze5 {zs:List Str} {its:List Value} (r:Vals (zs.map V.str) its):∀ v∈its,∃ x t,v=.str x t:=fun v hv=>by
 obtain ⟨l,rfl,e⟩:=zc9 r
 obtain ⟨pr,_,e2⟩:=Qi.mp hv
 exact ⟨_,_,e2.symm⟩
theorem txV_str {zs:List Str}:∀ v∈zs.map V.str,∀ u,RelV v u→kvS u=txV v:=fun v hv u ru=>by
 obtain ⟨x,_,rfl⟩:=Qi.mp hv
 obtain ⟨t,rfl⟩:=ru
 rfl
theorem strs_out {zs ts:List Str} {its us:List Value} (r:Vals (zs.map V.str) its) (r2:Vals (ts.map V.str) us) (p:its.length < 64→us.Pairwise fun x y=>¬ kvS y < kvS x) (h:zs.length < 64):ts.Pairwise leS:=by
 have p2:=Vals.pairwise (R:=fun a b=>¬ b < a) (kV:=txV) r2 txV_str (p (by rw [← r.length,Qa];exact h))
 rw [Ww] at p2
 exact p2
theorem zfb:zca X (.builtin "sorted") (fun xs H Q=>Ex2 fun (p:Addr) (zs:List Str)=>Aj3 (xs=[.ref p]) (SqL X.K H p (zs.map V.str)) (∀ (l:Addr) (ws:List Str),H l=none→ws.Perm zs→(zs.length < 64→ws.Pairwise leS)→Q (.ref l) (upd H l (.lst (ws.map V.str))))):=by
 intro pins s σ H xs us Q I r h
 obtain ⟨p,zs,rfl,hq,q⟩:=h
 obtain ⟨u,rfl,rx⟩:=vals1 r
 cases rx
 refine zdv I hq (fun its r A' E' s' _ _=>zd7 (ze5 r)) fun l ws its us hl p1 r1 r2 p2=>?_
 obtain ⟨ts,rfl,p3⟩:=strs_perm p1
 exact q l ts hl p3 (strs_out r1 r2 p2)
theorem tupSt_of {pins:List (Addr×Obj)} {s:Shared} {σ:St} {H:Hp} {a:Addr} {x:Str} {z:V} (I:Inv X pins σ H s) (e:H a=some (.tup [.str x,z])):∃ q,RelV z q∧zgw s.heap (.ref a) x q:=by
 obtain ⟨_,its,r,o,e1,c,n,d⟩:=I.hok a _ e
 obtain ⟨u,w',rfl,⟨t,rfl⟩,rz⟩:=vals2 r
 exact ⟨w',rz,a,o,t,n,rfl,e1,c,d⟩
theorem zfm {ys:List V} {its:List Value} (r:Vals ys its):∀ v∈its,∃ b∈ys,RelV b v:=fun v hv=>by
 obtain ⟨i,hi,e⟩:=Zq hv
 have hl:=r.length
 have hi2:i < ys.length:=by exact zar6 ‹_› ‹_›
 obtain ⟨u,hu,ru⟩:=r.get (i:=i) (Qc hi2)
 rw [Qc hi,e] at hu
 cases hu
 exact ⟨_,Qr hi2,ru⟩
theorem zfd {h:Heap} {v p q:Value} {x y:Str} (a:zgw h v x p) (b:zgw h v y q):x=y∧p=q:=by
 obtain ⟨a,o,t,n,rfl,e,c,d⟩:=a
 obtain ⟨a',o',t',n',e0,e',c',d'⟩:=b
 cases e0
 rw [e] at e'
 cases e'
 rw [d] at d'
 have d2:(#[Value.str x t,p]:Array Value)=#[Value.str y t',q]:=by injection d'
 have d3:=congrArg (fun a:Array Value=>a[0]?) d2
 have d4:=congrArg (fun a:Array Value=>a[1]?) d2
 simp at d3 d4
 exact ⟨d3.1,d4⟩
def rowV (H:Hp):V→List Nat
 | .ref a=>match H a with
  | some (.tup [x,_])=>txV x
  | _=>[]
 | _=>[]
theorem zfg {H:Hp} {a:Addr} {x y:V} (e:H a=some (.tup [x,y])):rowV H (.ref a)=txV x:=by
 unfold rowV;dsimp only;rw [e]
theorem zfc:zca X (.builtin "sorted") (fun xs H Q=>Ex2 fun (p:Addr) (ys:List V)=>Aj5 (xs=[.ref p]) (SqL X.K H p ys) (∀ v∈ys,∃ a x z,v=.ref a∧H a=some (.tup [.str x,z])) (∀ v∈ys,∀ u∈ys,rowV H v=rowV H u→v=u) (∀ (l:Addr) (ws:List V),H l=none→ws.Perm ys→Q (.ref l) (upd H l (.lst ws)))):=by
 intro pins s σ H xs us Q I r h
 obtain ⟨p,ys,rfl,hq,hy,hd,q⟩:=h
 obtain ⟨u,rfl,rx⟩:=vals1 r
 cases rx
 have back:∀ its,Vals ys its→∀ v∈its,∃ b∈ys,RelV b v∧∃ a x z q,b=.ref a∧v=.ref a∧H a=some (.tup [.str x,z])∧zgw s.heap v x q:=fun its r v hv=>by
  obtain ⟨b,hb,rb⟩:=zfm r v hv
  obtain ⟨a,x,z,rfl,e2⟩:=hy b hb
  have rb':=rb
  cases rb
  obtain ⟨q',_,T⟩:=tupSt_of I e2
  exact ⟨_,hb,rb',a,x,z,q',rfl,rfl,e2,T⟩
 refine zdv I hq (fun its r A' E' s' _ k=>zd6 k (fun v hv=>?_) fun v hv u hu x p q T T'=>?_) fun l ws _ _ hl p1 _ _ _=>q l ws hl p1
 ·obtain ⟨b,hb,rb,a,x,z,q,_,_,_,T⟩:=back its r v hv
  exact ⟨x,q,T⟩
 ·obtain ⟨b,hb,rb,a,x1,z,q1,rfl,rfl,e1,T1⟩:=back its r v hv
  obtain ⟨c,hc,rc,a',x2,z',q2,rfl,rfl,e2,T2⟩:=back its r u hu
  have h1:=(zfd T T1).1
  have h2:=(zfd T' T2).1
  subst h1
  subst h2
  have:=hd _ hb _ hc (by rw [zfg e1,zfg e2])
  cases this
  exact .inl rfl
theorem ze4 (hu:X.A.units+8 < cLine):zca X (.builtin "sorted") (fun xs H Q=>Ex2 fun (p:Addr) (ys:List V)=>Aj4 (xs=[.ref p]) (SqL X.K H p ys) (∀ v∈ys,∃ a zs,v=.ref a∧H a=some (.lst (List.map V.str zs))) (∀ (l:Addr) (ws:List V),H l=none→ws.Perm ys→Q (.ref l) (upd H l (.lst ws)))):=by
 intro pins s σ H xs us Q I r h
 obtain ⟨p,ys,rfl,hq,hy,q⟩:=h
 obtain ⟨u,rfl,rx⟩:=vals1 r
 cases rx
 refine zdv I hq (fun its r A' E' s' hA k=>zgp (by exact Ka ‹_› ‹_›) k fun v hv=>?_) fun l ws _ _ hl p1 _ _ _=>q l ws hl p1
 obtain ⟨b,hb,ru⟩:=zfm r v hv
 obtain ⟨a,zs,rfl,e2⟩:=hy b hb
 cases ru
 obtain ⟨_,its2,n,r2,e3⟩:=I.hok a _ e2
 obtain ⟨l2,rfl,_⟩:=zc9 r2
 exact ⟨a,l2,n,rfl,e3⟩
theorem dk_at {pins:List (Addr×Obj)} {s:Shared} {σ:St} {H:Hp} {d:Addr} {kvs:List (Key×V)} (I:Inv X pins σ H s) (rd:Rd H d (.dK kvs)) :
  kvs.length≤sizeLine∧(d == sysModules)=false∧∃ vs ep,KV kvs vs∧s.heap.DictAt (zar X.prog X.w) d vs ep∧vs.length=kvs.length:=by
 obtain ⟨z,y,vs,r,hd⟩:=rd.ok I.hok
 obtain ⟨ep,ha⟩:=hd.dictAt
 exact ⟨z,y,vs,ep,r,ha,(Ym r).symm⟩
theorem KV.get {kvs:List (Key×V)} {vs:List (Key×Value)} (r:KV kvs vs) {i:Nat} {k:Key} {x:Value} (e:vs[i]?=some (k,x)):∃ v,kvs[i]?=some (k,v)∧RelV v x:=by
 induction r generalizing i with
 | nil=>simp at e
 | cons h t ih =>
  cases i with
  | zero =>
   simp at e
   subst e
   exact ⟨_,by simp;exact Jp h.1 rfl,h.2⟩
  | succ j =>
   obtain ⟨v,h1,h2⟩:=ih (i:=j) (by simpa using e)
   exact ⟨v,by simpa using h1,h2⟩
theorem key_rel {P:Program} {w:World} {k:Key} {v:Value} (h:(zar P w).is k v=true):RelV (kV k) v:=by
 rcases za9 h with ⟨i,t,rfl,rfl⟩ | ⟨x,t,rfl,rfl⟩
 ·exact ⟨t,rfl⟩
 ·exact ⟨t,rfl⟩
theorem keys_vals {P:Program} {w:World} {kvs:List (Key×V)} {vs:List (Key×Value)} {acc:Array Value} (r:KV kvs vs) (hl:vs.length=kvs.length)
  (h:ItemsOf (fun i v=>∃ k x,vs[i]?=some (k,x)∧(zar P w).is k v=true) acc vs.length):Vals (kvs.map fun p=>kV p.1) acc.toList:=by
 have g:∀ (i:Nat),i < kvs.length→∃ v,acc.toList[i]?=some v∧RelV (kV ((kvs.map Prod.fst).getD i (.inl 0))) v:=fun i hi=>by
  have hi2:i < acc.size:=by rw [h.1];exact zar6 ‹_› ‹_›
  have e:acc[i]?=some acc[i]:=by simp [hi2]
  obtain ⟨k,x,e1,e2⟩:=h.2 i _ e
  obtain ⟨v',e3,_⟩:=KV.get r e1
  refine ⟨acc[i],by rw [Ua];exact e,?_⟩
  have e4:(kvs.map Prod.fst).getD i (.inl 0)=k:=by
   rw [Yh,Qn,e3];rfl
  rw [e4]
  exact key_rel e2
 have hsz:acc.toList.length=kvs.length:=by rw [Yz,h.1];exact hl
 clear h r hl
 generalize acc.toList=l at g hsz
 induction kvs generalizing l with
 | nil =>
  have:l=[]:=Kq.mp hsz
  subst this
  exact .nil
 | cons p t ih =>
  cases l with
  | nil=>cases hsz
  | cons u us =>
   refine .cons ?_ (ih us (fun i hi=>?_) (by simpa using hsz))
   ·obtain ⟨v,e1,e2⟩:=g 0 (by simp)
    simp at e1
    subst e1
    exact e2
   ·obtain ⟨v,e1,e2⟩:=g (i+1) (by simpa using hi)
    exact ⟨v,by simpa using e1,by simpa using e2⟩
theorem zgu (hc:X.calm=true):zca X (.type "list") (fun xs H Q=>Ex2 fun (d:Addr) (kvs:List (Key×V))=>Aj3 (xs=[.ref d]) (Rd H d (.dK kvs)) (∀ l,H l=none→Q (.ref l) (upd H l (.lst (kvs.map fun p=>kV p.1))))):=by
 intro pins s σ H xs us Q I r h
 obtain ⟨d,kvs,rfl,hq,q⟩:=h
 obtain ⟨u,rfl,rx⟩:=vals1 r
 cases rx
 obtain ⟨z,lo,vs,ep,rk,ha,hl⟩:=dk_at I hq
 refine PySem.W.kdl_call (PySem.W.kdl_dict lo) (I.ok.hd hc) ha (by rw [hl];exact z) fun h' tk acc c k e hi=>?_
 have rv:=keys_vals rk hl hi
 exact ⟨.ref _,_,I.laid (t':=tk) k (Qh _) (show zbr X.prog X.w _ h' _ (.lst _) from ⟨by rw [Qa];exact z,acc.toList,c,rv,by rw [e]⟩),rfl,q _ (I.hok.fresh (Qh _))⟩
theorem zbu (hc:X.calm=true):zca X (.builtin "sorted") (fun xs H Q=>Ex3 fun (d:Addr) (kvs:List (Key×V)) (zs:List Str)=>Aj4 (xs=[.ref d]) (Rd H d (.dK kvs)) ((kvs.map fun p=>kV p.1)=zs.map V.str) (∀ (l:Addr) (ws:List Str),H l=none→ws.Perm zs→(zs.length < 64→ws.Pairwise leS)→Q (.ref l) (upd H l (.lst (ws.map V.str))))):=by
 intro pins s σ H xs us Q I r h
 obtain ⟨d,kvs,zs,rfl,hq,ez,q⟩:=h
 obtain ⟨u,rfl,rx⟩:=vals1 r
 cases rx
 obtain ⟨z,lo,vs,ep,rk,ha,hl⟩:=dk_at I hq
 refine zer (G:=fun its=>Vals (zs.map V.str) its) (fun E' R hR=>zgh (PySem.W.kdl_dict lo) (show X.A.in1.handled=none from I.ok.hd hc) ha (by rw [hl];exact z) fun g tk acc k le hi=>hR g tk _ k le (ez ▸ keys_vals rk hl hi))
  (fun its r=>by rw [← r.length,← ez,Qa];exact z) (fun its r A' E' s' _ _=>zd7 (ze5 r)) fun its ws l g tk e r p1 p2 le k he=>?_
 obtain ⟨zs',q1,q2⟩:=Vals.perm p1 r
 obtain ⟨ts,rfl,p3⟩:=strs_perm q1
 refine ⟨.ref l,_,I.laid (t':=tk) k le (show zbr X.prog X.w _ g _ (.lst _) from ⟨?_,ws,e,q2,he⟩),rfl,q l ts (I.hok.fresh le) p3 (strs_out r q2 p2)⟩
 rw [q1.length_eq,← ez,Qa];exact z
end
section
variable {X:Cx} {pins:List (Addr×Obj)} {σ:St} {H:Hp} {s:Shared}
theorem Inv.freeze {d:Addr} {u:HO} {o:Obj} (I:Inv X pins σ H s) (hd:H d=some u) (ho:s.heap.get? d=some o) (mu:Mut (some u)):Inv X pins σ (upd H d (.frz o u)) s:=by
 have ne:∀ b,H b=none→b≠d:=fun b e z=>by rw [z,hd] at e;cases e
 have nt:∀ b xs,H b=some (.tup xs)→b≠d:=fun b xs e z=>by rw [z,hd] at e;cases e;exact mu
 have nf:∀ b o' u',H b=some (.frz o' u')→b≠d:=fun b o' u' e z=>by rw [z,hd] at e;cases e;exact mu
 have nb:∀ b ps,H b=some (.tbl ps)→b≠d:=fun b ps e z=>by rw [z,hd] at e;cases e;exact mu
 have no:∀ b a,H b=some (.own a)→b≠d:=fun b a e z=>by rw [z,hd] at e;cases e;exact mu
 refine I.un (h':=s.heap) (t':=s.toks) ⟨fun b o e _ _ _=>e,fun b o e _ _ _=>⟨o.slots,e⟩,fun b o e n _=>by rw [zad (ne b n)];exact n,fun b o e _=>⟨o,e⟩,fun b xs e=>by rw [zad (nt b xs e)];exact e,
  fun b o' u' e=>by rw [zad (nf b o' u' e)];exact e,fun b ps e=>⟨#[],by rw [zad (nb b ps e),e];simp⟩⟩ fun b v e=>?_
 by_cases hb:b=d
 ·subst hb
  rw [zac] at e
  cases e
  exact ⟨ho,(I.hok b u hd).stay (fun c v _ q=>q) (fun c q=>by rw [zad (no c _ q)];exact q) fun c xs q=>by rw [zad (nt c xs q)];exact q⟩
 ·rw [zad hb] at e
  exact (I.hok b v e).stay (fun c v _ q=>q) (fun c q=>by rw [zad (no c _ q)];exact q) fun c xs q=>by rw [zad (nt c xs q)];exact q
theorem Inv.thaw {d:Addr} {u:HO} {o:Obj} (I:Inv X pins σ H s) (hd:H d=some (.frz o u)) (hx:∀ o' u',X.H₀ d≠some (.frz o' u')):Inv X pins σ (upd H d u) s:=by
 have ne:∀ b,H b=none→b≠d:=fun b e z=>by rw [z,hd] at e;cases e
 have nt:∀ b xs,H b=some (.tup xs)→b≠d:=fun b xs e z=>by rw [z,hd] at e;cases e
 have nb:∀ b ps,H b=some (.tbl ps)→b≠d:=fun b ps e z=>by rw [z,hd] at e;cases e
 have no:∀ b a,H b=some (.own a)→b≠d:=fun b a e z=>by rw [z,hd] at e;cases e
 have B:=I.base
 refine ⟨I.ok,I.os,I.bare,⟨B.keep,B.slot,fun b o e n hx=>?_,B.there,fun b xs e=>?_,fun b o' u' e=>?_,fun b ps e=>?_⟩,I.loc,I.cell,?_,fun x c e=>?_,fun p hp=>?_,fun b v e=>?_,I.len⟩
 ·have:=B.free b o e n hx
  rw [zad (ne b this)];exact this
 ·have:=B.tups b xs e
  rw [zad (nt b xs this)];exact this
 ·have:=B.frzs b o' u' e
  have nd:b≠d:=fun z=>hx o' u' (z ▸ e)
  rw [zad nd];exact this
 ·obtain ⟨m,q⟩:=B.tbls b ps e
  exact ⟨m,by rw [zad (nb b _ q)];exact q⟩
 ·rw [zad (ne _ I.free)];exact I.free
 ·rw [zad (ne c (I.freeC x c e))];exact I.freeC x c e
 ·obtain ⟨h1,h2,h3⟩:=I.pin p hp
  exact ⟨h1,by rw [zad (ne _ h2)];exact h2,h3⟩
 ·by_cases hb:b=d
  ·subst hb
   rw [zac] at e
   cases e
   exact (show s.heap.get? b=some o∧zbr X.prog X.w H s.heap b u from I.hok b _ hd).2.stay (fun c v _ q=>q) (fun c q=>by rw [zad (no c _ q)];exact q) fun c xs q=>by rw [zad (nt c xs q)];exact q
  ·rw [zad hb] at e
   exact (I.hok b v e).stay (fun c v _ q=>q) (fun c q=>by rw [zad (no c _ q)];exact q) fun c xs q=>by rw [zad (nt c xs q)];exact q
inductive Thaw (X:Cx) (R:Hp→Prop) (H':Hp):Prop
 | mk (d:Addr) (o:Obj) (u:HO) (h:H' d=some (.frz o u)) (n:∀ o' u',X.H₀ d≠some (.frz o' u')) (q:R (upd H' d u)):Thaw X R H'
def tThaw (X:Cx) (t:TE):TE:=fun σ H Q=>t σ H fun v H'=>Thaw X (Q v) H'
theorem pe_thaw {e:Expr} {t:TE} (h:PE X e t):PE X e (tThaw X t):=by
 intro pins s σ H Q I q
 refine thn (h pins s σ H _ I q) fun u s' ⟨v,H',I',r,d,o,w',e1,e2,e3⟩=>?_
 exact ⟨v,_,I'.thaw e1 e2,r,e3⟩
def sThaw (X:Cx) (t:TS):TS:=fun D σ H=>t { nx:=fun σ' H'=>Thaw X (D.nx σ') H',rt:=fun v H'=>Thaw X (D.rt v) H',bk:=fun σ' H'=>Thaw X (D.bk σ') H',ct:=fun σ' H'=>Thaw X (D.ct σ') H' } σ H
theorem zhk {st:Stmt} {t:TS} (h:PS X st t):PS X st (sThaw X t):=by
 intro pins s σ H D I q
 refine thn (h pins s σ H _ I q) fun f s' z=>?_
 cases f with
 | next=>obtain ⟨σ',H',I',d,o,w',e1,e2,e3⟩:=z;exact ⟨σ',_,I'.thaw e1 e2,e3⟩
 | brk=>obtain ⟨σ',H',I',d,o,w',e1,e2,e3⟩:=z;exact ⟨σ',_,I'.thaw e1 e2,e3⟩
 | cont=>obtain ⟨σ',H',I',d,o,w',e1,e2,e3⟩:=z;exact ⟨σ',_,I'.thaw e1 e2,e3⟩
 | ret u=>obtain ⟨v,σ',H',I',r,d,o,w',e1,e2,e3⟩:=z;exact ⟨v,σ',_,I'.thaw e1 e2,r,e3⟩
def Itd (d:Addr) (o:Obj) (kvs:List (Key×V)):It :=
 ⟨fun i H=>H d=some (.frz o (.dK kvs))∧i < kvs.length,fun i H x H'=>H'=H∧∃ p,kvs[i]?=some p∧x=kV p.1,fun i H=>H d=some (.frz o (.dK kvs))∧kvs.length≤i⟩
theorem frz_at {d:Addr} {o:Obj} {kvs:List (Key×V)} (I:Inv X pins σ H s) (e:H d=some (.frz o (.dK kvs))):s.heap.get? d=some o∧zbr X.prog X.w H s.heap d (.dK kvs):=I.hok d _ e
theorem zg7 {P:Program} {w:World} {h:Heap} {d:Addr} {kvs:List (Key×V)} {vs vs':List (Key×Value)} {ep ep':Nat} {o:Obj} (ho:h.get? d=some o) (a:h.DictAt (zar P w) d vs ep) (o':Obj) (h':Heap) (ho':h'.get? d=some o):h'.DictAt (zar P w) d vs ep:=by
 obtain ⟨q,es,e,r⟩:=a
 rw [ho] at e
 cases e
 exact ⟨o,es,ho',r⟩
theorem turn_dict {P:Program} {w:World} {K:PySem.W.Frag} {tg:Expr} {o:Obj} {kvs:List (Key×V)} {vs:List (Key×Value)} {ep:Nat} {h0:Heap} (d it:Addr) (rk:KV kvs vs) (hl:vs.length=kvs.length) (h00:h0.get? d=some o) (at0:h0.DictAt (zar P w) d vs ep) :
  Turn P w K tg (Itd d o kvs) [it] it (fun i h=>h.IsKeyIter it d i vs.length ep) where
 mem:=by simp
 obj:=fun i h st b hb=>by
  have e:b=it:=by simpa using hb
  subst e
  obtain ⟨o,e,c,d⟩:=st
  exact ⟨o,e,fun v z=>by rw [d] at z;cases z⟩
 keep:=fun i h h' st k=>st.at fun o e=>k it (by simp) o e
 item:=by
  intro X hP hw hK hc i pins s σ H E I hf st hg
  subst hP hw hK
  obtain ⟨fz,hi⟩:=hg
  obtain ⟨ho,_⟩:=frz_at I fz
  have DA:s.heap.DictAt (zar X.prog X.w) d vs ep:=zg7 (kvs:=kvs) (vs':=vs) (ep':=ep) h00 at0 o s.heap ho
  obtain ⟨f0,f1,f2,f3,f4,f5⟩:=hf it (by simp)
  have hi2:i < vs.length:=by exact zar6 ‹_› ‹_›
  obtain ⟨v',e3,_⟩:=KV.get rk (i:=i) (k:=vs[i].1) (x:=vs[i].2) (Qc hi2)
  refine wpAny_pyNext_dict_item st DA (k:=vs[i].1) (v:=vs[i].2) (Qc hi2) fun key h' hk st' sb=>?_
  have I1:Inv X pins σ H { s with heap:=h' }:=I.turned (t':=s.toks) (fun b o hb e=>(sb.2 b hb).trans e) f0 f1 f3 f4 f5
  obtain ⟨o2,e,c,d2⟩:=id st'
  exact ⟨key,rfl,go_of (s:={ s with heap:=h' }) e c d2 (by decide) ⟨kV vs[i].1,H,I1,key_rel hk,⟨rfl,_,e3,rfl⟩,st',fun b hb=>(hf b hb).1⟩⟩
 done:=by
  intro X hP hw hK hc i pins s σ H E I hf st hg
  subst hP hw hK
  obtain ⟨fz,hi⟩:=hg
  obtain ⟨ho,_⟩:=frz_at I fz
  have DA:s.heap.DictAt (zar X.prog X.w) d vs ep:=zg7 (kvs:=kvs) (vs':=vs) (ep':=ep) h00 at0 o s.heap ho
  obtain ⟨f0,f1,f2,f3,f4,f5⟩:=hf it (by simp)
  exact wpAny_pyNext_dict_end (I.ok.hd hc) st DA (Kz (by omega)) fun h' eb=>⟨rfl,I.turned (t':=s.toks) (fun b o hb e=>eb b o hb e) f0 f1 f3 f4 f5⟩
 self:=fun _ _ _ _ _ st h=>wpAny_pyIter_keyiter st h
inductive RIDi (x:V) (H:Hp) (R:It→Hp→Prop):Prop
 | mk (d:Addr) (kvs:List (Key×V)) (e:x=.ref d) (h:H d=some (.dK kvs)) (q:∀ o,R (Itd d o kvs) (upd H d (.frz o (.dK kvs)))):RIDi x H R
def iDict (td:TE):TI:=fun σ H R=>td σ H fun x H1=>RIDi x H1 R
theorem zd0 {tg l:Expr} {tl:TE} (hl:PE X l tl):PI X tg l (iDict tl):=by
 intro pins s σ H R I h
 refine thn (hl pins s σ H _ I h) fun v s1 ⟨x,H1,I1,r1,q1⟩=>?_
 obtain ⟨d,kvs,e,hd,q⟩:=q1
 subst e
 cases r1
 obtain ⟨z,lo,vs,ep,rk,ha,hlen⟩:=dk_at I1 (.inl hd)
 obtain ⟨o,es,ho,r⟩:=id ha
 refine wpAny_pyIter_dict lo ha ?_
 have I2:=I1.freeze hd ho trivial
 have I3:Inv X pins σ (upd H1 d (.frz o (.dK kvs))) { s1 with heap:=s1.heap.push { cls:=.type "dict_keyiterator",data:=.fields #[.ref d,.int 0 0,.int vs.length 0,.int ep 0] } }:=I2.kept (t':=s1.toks) fun b o e=>Qj _ e
 refine ⟨s1.heap.objs.size,[s1.heap.objs.size],_,_,_,rfl,I3,turn_dict d _ rk hlen ho ha,⟨_,Zc _ rfl,rfl,rfl⟩,fun b hb=>?_,q o⟩
 have e:b=s1.heap.objs.size:=by simpa using hb
 subst e
 exact I2.fpOk (Qh _) (I2.hok.fresh (Qh _))
end
theorem zhx {d:Addr} {o:Obj} {kvs:List (Key×V)} {g:TG} {tb:TS} {D:Ends} {σ:St} {H:Hp} (Pv:Nat→St→Hp→Prop) (h0:Pv 0 σ H) (hl:∀ i σ H,i≤kvs.length→Pv i σ H→H d=some (.frz o (.dK kvs)))
  (hs:∀ i p σ H,kvs[i]?=some p→Pv i σ H→g (kV p.1) σ H fun σ2 H2=>tb { D with nx:=Pv (i+1),ct:=Pv (i+1),bk:=D.nx } σ2 H2) (hd:∀ σ H,Pv kvs.length σ H→D.nx σ H) :
  ∃ W:Nat→Nat→St→Hp→Prop,(∃ m,W 0 m σ H)∧∀ i m σ H,W i m σ H →
   ((Itd d o kvs).stop i H∧D.nx σ H)∨((Itd d o kvs).go i H∧∃ N:St→Hp→Prop,(∀ σ' H',N σ' H'→∃ m',m' < m∧W (i+1) m' σ' H')∧∀ x H',(Itd d o kvs).yld i H x H'→g x σ H' fun σ2 H2=>tb { D with nx:=N,ct:=N,bk:=D.nx } σ2 H2):=by
 refine ⟨fun i m σ H=>m=kvs.length - i∧i≤kvs.length∧Pv i σ H,⟨kvs.length,by simp,Zd _,h0⟩,?_⟩
 rintro i m σ H ⟨rfl,hi,p⟩
 have q:=hl i σ H hi p
 by_cases hlt:i < kvs.length
 ·refine .inr ⟨⟨q,hlt⟩,Pv (i+1),fun σ' H' p'=>⟨kvs.length - (i+1),by exact zar1 ‹_›,rfl,hlt,p'⟩,fun x H' y=>?_⟩
  obtain ⟨e,pr,e2,rfl⟩:=y
  subst e
  exact hs i pr σ _ e2 p
 ·have e:i=kvs.length:=by exact zar3 ‹_› ‹_›
  subst e
  exact .inl ⟨⟨q,Qh _⟩,hd σ H p⟩
end L2
end
section
namespace Enu
open PySem PyProof.Rows
open AutoSeq1 (wpAny_loadPart')
section
variable {prog:Program} {w:World} {A:Around} {E:Value→Shared→Prop} {s:Shared}
theorem next_item {j t:Addr} {i:Nat} {xs:Array Value} {x:Value} {Q:Value→Shared→Prop} (st:s.heap.IsTupleIter j t i) (ht:s.heap.IsTuple t xs) (hx:xs[i]?=some x)
  (hQ:∀ g,g.IsTupleIter j t (i+1)→Heap.SameBut j s.heap g→Q x { s with heap:=g }):wpAny (model prog w) A (Builtin.SmallTypes.nextOf (.ref j)) Q E s:=by
 obtain ⟨o,ho,hc,hd⟩:=id st
 obtain ⟨p,hp,_,k,hk⟩:=ht
 unfold Builtin.SmallTypes.nextOf
 refine wpAny_bind (wpAny_callSpecial?_slot (name:=Str.ofString "__next__") st.typeIs Jb (wpAny_call_entry Jb st.typeIs F.entry_tuple_iterator_next ?_ (F.args_tuple_iterator_next_1 _)))
 show wpAny _ _ (field (.ref j) 0 >>= _) _ _ s
 refine wpAny_bind (wpAny_field ho hd (x:=.ref t) rfl ?_)
 show wpAny _ _ (if (Value.ref t == .none)=true then _ else _) _ _ s
 rw [if_neg (show ¬ ((Value.ref t == .none)=true) from Zb)]
 show wpAny _ _ (field (.ref j) 1 >>= _) _ _ s
 refine wpAny_bind (wpAny_field ho hd (x:=.int i 0) rfl ?_)
 show wpAny _ _ (seqItems? (.ref t) >>= _) _ _ s
 refine wpAny_bind (wpAny_seqItems hp hk ?_)
 simp only [Wj,hx]
 refine wpAny_bind (wpAny_setField ho hd (by simp) (wpAny_pure ⟨x,rfl,wpAny_pure (hQ _ ⟨_,Uu _ ho (Obj.isFreed_of_fields (Kn hd _)),(Obj.cls_mapFields ..).trans hc,by rw [Kn hd];simp [rawInt]⟩ (Kj ..))⟩))
theorem next_end {j t:Addr} {i:Nat} {xs:Array Value} {Q:Value→Shared→Prop} (hh:A.handled=none) (st:s.heap.IsTupleIter j t i) (ht:s.heap.IsTuple t xs) (hx:xs[i]?=none)
  (hE:∀ g e,Heap.ExtBut j s.heap g→(∃ o,g.get? e=some o∧o.cls=.type "StopIteration")→E (.ref e) { s with heap:=g }):wpAny (model prog w) A (Builtin.SmallTypes.nextOf (.ref j)) Q E s:=by
 obtain ⟨o,ho,hc,hd⟩:=id st
 obtain ⟨p,hp,_,k,hk⟩:=ht
 unfold Builtin.SmallTypes.nextOf
 refine wpAny_bind (wpAny_callSpecial?_slot (name:=Str.ofString "__next__") st.typeIs Jb (wpAny_call_entry Jb st.typeIs F.entry_tuple_iterator_next ?_ (F.args_tuple_iterator_next_1 _)))
 show wpAny _ _ (field (.ref j) 0 >>= _) _ _ s
 refine wpAny_bind (wpAny_field ho hd (x:=.ref t) rfl ?_)
 show wpAny _ _ (if (Value.ref t == .none)=true then _ else _) _ _ s
 rw [if_neg (show ¬ ((Value.ref t == .none)=true) from Zb)]
 show wpAny _ _ (field (.ref j) 1 >>= _) _ _ s
 refine wpAny_bind (wpAny_field ho hd (x:=.int i 0) rfl ?_)
 show wpAny _ _ (seqItems? (.ref t) >>= _) _ _ s
 refine wpAny_bind (wpAny_seqItems hp hk ?_)
 simp only [Wj,hx]
 refine wpAny_bind (wpAny_rule (wpAny_bind (wpAny_setField ho hd (by simp) ?_)))
 show wpAny _ _ (newExc (.type "StopIteration") [] >>= _) _ _ _
 refine wpAny_bind ?_
 simp only [newExc,newTuple]
 refine wpAny_bind (wpAny_newObj_type (wpAny_bind (m:=firstArgMember _ _) (wpAny_of_eq (a:=Value.none) (by first | rfl | (simp only [firstArgMember];rfl)) (wpAny_newObj_type ?_ (by size_fits)))) (by size_fits))
 simp only [raiseNew]
 refine wpAny_bind (wpAny_handled ?_)
 first | rw [show A.in1.handled=none from hh] | rw [hh]
 refine wpAny_bind (wpAny_pure (wpAny_throw (hE _ _ (((Kj ..).extBut.push _).push _) ⟨_,Zc _ rfl,rfl⟩)))
theorem drawsT (hh:A.handled=none) (j t:Addr) (hne:t≠j) (xs:Array Value) :
  Draws prog w A j [j,t] xs.size (fun i v=>xs[i]?=some v) (fun i h=>h.IsTupleIter j t i∧h.IsTuple t xs) where
 live:=fun _ _ st=>let ⟨o,ho,_⟩:=st.1;⟨o,ho⟩
 frame:=fun i h h' st k=>⟨st.1.at fun o e=>k j (by simp) o e,let ⟨o,e,r⟩:=st.2;⟨o,k t (by simp) o e,r⟩⟩
 item:=fun i s Q E hi st hQ=>by
  refine next_item st.1 st.2 (x:=xs[i]) (by simp [hi]) fun g a b=>?_
  obtain ⟨o,e,r⟩:=st.2
  exact hQ _ g s.toks (by simp [hi]) ⟨a,o,(b.2 t hne).trans e,r⟩ b
 done:=fun s Q E st hE=>next_end hh st.1 st.2 (by simp) hE
theorem new_tuple (t:Addr) (xs:Array Value) (n:Nat) (dct:Option Addr) (sl:Array (Option Value)) :
  Meets (Builtin.«enumerate.__new__» ⟨[.type "enumerate",.ref t],[]⟩) (fun _ R s=>s.heap.get? t=some { cls:=.type "tuple",dict:=dct,data:=.seq xs n,slots:=sl } ∧
   R (.ok (.ret (.ref (s.heap.push { cls:=.type "tuple_iterator",data:=.fields #[.ref t,.int 0 0] }).objs.size)))
    {s with heap:=(s.heap.push { cls:=.type "tuple_iterator",data:=.fields #[.ref t,.int 0 0] }).push { cls:=.type "enumerate",data:=.fields #[.none,.bool false,.ref s.heap.objs.size,rawInt 0,.none,.none] } }) :=
 .of_wp fun prog w A R s h=>by
  obtain ⟨hp,g,d,tk,os⟩:=s;obtain ⟨hl,h⟩:=h
  have hsub:=sub_enumerate
  have hL:Heap.IsTuple (Shared.heap ⟨hp,g,d,tk,os⟩) t xs:=⟨_,hl,rfl,n,rfl⟩
  wp_walk using wpAny_loadPart' hl
  refine wpAny_stack_any fun st=>wpAny_pure ?_
  split
  ·rename_i c _ _ _ _ _
   cases (c == Value.type "enumerate") <;> (wp_walk using wpAny_loadPart' hl,wpAny_pyIter_tuple hL;exact ⟨_,rfl,h⟩)
  ·wp_walk using wpAny_loadPart' hl,wpAny_pyIter_tuple hL
   exact ⟨_,rfl,h⟩
theorem call_enum {t:Addr} {xs:Array Value} {Q:Value→Shared→Prop} (hL:s.heap.IsTuple t xs)
  (h:∀ g,IsEnum g (s.heap.objs.size+1) s.heap.objs.size 0 .none→g.IsTupleIter s.heap.objs.size t 0→g.objs.size=s.heap.objs.size+2→(∀ b o,s.heap.get? b=some o→g.get? b=some o)→Q (.ref (s.heap.objs.size+1)) { s with heap:=g }) :
  wpAny (model prog w) A (call (.type "enumerate") [.ref t]) Q E s:=by
 obtain ⟨⟨c,dct,dt,sl⟩,hl,hc,n,hd⟩:=hL
 replace hc:c=.type "tuple" := hc
 replace hd:dt=.seq xs n:=hd
 subst hc hd
 refine callType_new F.called_enumerate (by decide) (F.typeCall_enumerate_1 _) (F.newCall_enumerate_1 _) (fun obj=>F.args_object_init_2 obj _) F.entry_enumerate_new (new_tuple t xs n dct sl) ⟨hl,?_⟩
 have hz:(s.heap.push { cls:=.type "tuple_iterator",data:=.fields #[.ref t,.int 0 0] }).objs.size=s.heap.objs.size+1:=Ja ..
 show _∧_
 rw [hz]
 have he:IsEnum ((s.heap.push { cls:=.type "tuple_iterator",data:=.fields #[.ref t,.int 0 0] }).push { cls:=.type "enumerate",data:=.fields #[.none,.bool false,.ref s.heap.objs.size,rawInt 0,.none,.none] }) (s.heap.objs.size+1) s.heap.objs.size 0 .none:=by
  have q:=Zc (s.heap.push { cls:=.type "tuple_iterator",data:=.fields #[.ref t,.int 0 0] }) (o:={ cls:=.type "enumerate",data:=.fields #[.none,.bool false,.ref s.heap.objs.size,rawInt 0,.none,.none] }) rfl
  rw [hz] at q;exact q
 exact ⟨⟨_,he,rfl⟩,h _ he ⟨_,Qj _ (Zc _ rfl),rfl,rfl⟩ (by rw [Ja,hz]) fun b o x=>Qj _ (Qj _ x)⟩
end
end Enu
namespace L2
open PySem PySem.Spec PyProof.Rows Enu
def Ite (a:Addr) (K:PySem.W.Frag):It :=
 ⟨fun i H=>∃ xs,SqT K H a xs∧i < xs.length,fun i H x H'=>∃ y t,(∀ xs,SqT K H a xs→xs[i]?=some y)∧H t=none∧x=.ref t∧H'=upd H t (.tup [.int i,y]),fun i H=>∃ xs,SqT K H a xs∧xs.length≤i⟩
theorem turn_enum {P:Program} {w:World} {K:PySem.W.Frag} {elts:List Expr} {kk:Nat} {pos:Pos} (a e j:Addr) (hej:e≠j) (haj:a≠j) (hae:e≠a) :
  Turn P w K (.Tuple elts kk pos) (Ite a K) [e,j] e (fun i h=>(∃ old,IsEnum h e j i old)∧h.IsTupleIter j a i) where
 mem:=by simp
 obj:=fun i h st b hb=>by
  rcases Qe.mp hb with z | z
  ·subst z
   obtain ⟨old,q⟩:=st.1
   exact ⟨_,q,fun v z=>by
    have z':Data.fields _=Data.cell v:=z
    cases z'⟩
  ·rw [Qd.mp z]
   obtain ⟨o,q,c,d⟩:=st.2
   exact ⟨o,q,fun v z=>by rw [d] at z;cases z⟩
 keep:=fun i h h' st k=>⟨let ⟨old,q⟩:=st.1;⟨old,k e (by simp) _ q⟩,st.2.at fun o q=>k j (by simp) o q⟩
 item:=by
  intro X hP hw hK hc i pins s σ H E I hf st hg
  subst hP hw hK
  obtain ⟨xs,hq,hi⟩:=hg
  obtain ⟨its,rv,p,hz⟩:=I.tuple hq
  have hl:=rv.length
  obtain ⟨⟨old,he⟩,hit⟩:=st
  have hh:X.A.in1.handled=none:=I.ok.hd hc
  refine wpAny_pyNext_enum_itemD (drawsT hh j a haj its.toArray) he ⟨hit,p⟩ (by simp;exact zar7 ‹_› ‹_›) hej (by simp [hej,hae]) fun x g tk hP ho hs hT hsz hk=>⟨.ref s.heap.objs.size,rfl,?_⟩
  have fr:∀ b,b∈[e,j]→FpOk X pins H b:=hf
  obtain ⟨e0,e1,e2,e3,e4,e5⟩:=hf e (by simp)
  obtain ⟨j0,j1,j2,j3,j4,j5⟩:=hf j (by simp)
  have hHe:∀ b u,H b=some u→b≠e∧b≠j:=fun b u q=>⟨fun z=>(by rw [z,e0] at q;cases q),fun z=>(by rw [z,j0] at q;cases q)⟩
  have I1:Inv X pins σ H { s with heap:=g,toks:=tk+1 }:=by
   refine I.step (g':=s.gens) (d':=s.drawn) (ch:=[e,j]) (fun b hb=>?_) (fun b o _ _ hc q _=>hk b o (fun z=>hc (by simp [z])) (fun z=>hc (by simp [z])) q) (fun b o _ _ hc q _=>⟨o.slots,hk b o (fun z=>hc (by simp [z])) (fun z=>hc (by simp [z])) q⟩) (fun _ _ _ _ n=>n)
    (fun b o hc q=>⟨o,hk b o (fun z=>hc (by simp [z])) (fun z=>hc (by simp [z])) q⟩) (fun _ _ q=>q) (fun _ _ _ q=>q) (fun b ps q=>⟨#[],by rw [q];simp⟩) (fun m hm=>?_) (fun b u q=>?_) I.bare
   ·rcases Qe.mp hb with z | z
    ·subst z;exact ⟨e3,e1,e4,e5⟩
    ·rw [Qd.mp z];exact ⟨j3,j1,j4,j5⟩
   ·obtain ⟨o,es,ep,q,r⟩:=hm
    exact ⟨o,es,ep,hk _ o (Zl e1) (Zl j1) q,r⟩
   ·refine (I.hok b u q).stay (fun c v hc z=>?_) (fun _ z=>z) fun _ _ z=>z
    have hcn:c≠e∧c≠j:=by
     rcases hc with rfl | hc
     ·exact hHe c u q
     ·exact hHe c _ hc
    exact hk c v hcn.1 hcn.2 z
  obtain ⟨y,hy⟩:∃ y,xs[i]?=some y:=⟨xs[i],Qc hi⟩
  obtain ⟨u,hu,ru⟩:=rv.get hy
  have hP':its[i]?=some x:=by simpa using hP
  rw [hu] at hP'
  have hux:u=x:=Qm hP'
  subst hux
  have hN:H s.heap.objs.size=none:=I.hok.fresh (Qh _)
  refine wpAny_letOwnedTupleGo_enum ho fun g' he' hs'=>?_
  have nT:s.heap.objs.size≠e:=Wd (Qx he)
  have nJ:s.heap.objs.size≠j:=by obtain ⟨o,q,_⟩:=hit;exact Wd (Qx q)
  have I2:Inv X pins σ H { s with heap:=g',toks:=tk+1 }:=Inv.turned (s:={ s with heap:=g,toks:=tk+1 }) (t':=tk+1) (it:=e) I1 (fun b o hb q=>(hs'.2 b hb).trans q) e0 e1 e3 e4 e5
  have hT':g'.get? s.heap.objs.size=some { cls:=.type "tuple",data:=.seq #[.int i tk,u] }:=(hs'.2 _ nT).trans hT
  have I3:Inv X pins σ (upd H s.heap.objs.size (.tup [.int i,y])) { s with heap:=g',toks:=tk+1 }:=by
   refine ⟨I2.ok,I2.os,I2.bare,⟨I2.base.keep,I2.base.slot,fun b o q n hx=>?_,I2.base.there,fun b zs q=>?_,fun b o v q=>?_,fun b ps q=>?_⟩,I2.loc,I2.cell,?_,fun z c q=>?_,fun pp hp=>?_,fun b v q=>?_,I2.len⟩
   ·have lt:b < s.heap.objs.size:=Zx (Qx q) I.sz
    rw [zad (Zh lt)];exact I2.base.free b o q n hx
   ·have:=I2.base.tups b zs q
    rw [zad (zaa this hN)];exact this
   ·have:=I2.base.frzs b o v q
    rw [zad (zaa this hN)];exact this
   ·obtain ⟨m,z⟩:=I2.base.tbls b ps q
    exact ⟨m,by rw [zad (zaa z hN)];exact z⟩
   ·rw [zad (Zh I.lt)];exact I2.free
   ·rw [zad (Zh (I.cl_lt z c q))];exact I2.freeC z c q
   ·obtain ⟨h1,h2,h3⟩:=I2.pin pp hp
    exact ⟨h1,by rw [zad (Zh (I.pin_lt pp hp))];exact h2,h3⟩
   ·by_cases hb:b=s.heap.objs.size
    ·subst hb
     rw [zac] at q
     cases q
     exact ⟨by show 2≤sizeLine;decide,[.int i tk,u],.cons ⟨tk,rfl⟩ (.cons ru .nil),_,hT',rfl,_,rfl⟩
    ·rw [zad hb] at q
     exact (I2.hok b v q).stay (fun c v _ z=>z) (fun c z=>by rw [zad (zaa z hN)];exact z) fun c zs z=>by rw [zad (zaa z hN)];exact z
  refine ⟨.ref s.heap.objs.size,_,I3,rfl,⟨y,_,fun ys hys=>by rw [I.tuple_inj hys hq];exact hy,hN,rfl,rfl⟩,⟨⟨u,by simpa using he'⟩,?_⟩,fun b hb=>?_⟩
  ·exact hs.1.at fun o q=>(hs'.2 j (Zl hej)).trans q
  ·rcases Qe.mp hb with z | z
   ·rw [z,zad (Zl nT)];exact e0
   ·rw [Qd.mp z,zad (Zl nJ)];exact j0
 done:=by
  intro X hP hw hK hc i pins s σ H E I hf st hg
  subst hP hw hK
  obtain ⟨xs,hq,hi⟩:=hg
  obtain ⟨its,rv,p,hz⟩:=I.tuple hq
  have hl:=rv.length
  obtain ⟨⟨old,he⟩,hit⟩:=st
  obtain ⟨j0,j1,j2,j3,j4,j5⟩:=hf j (by simp)
  have hh:X.A.in1.handled=none:=I.ok.hd hc
  have hT:s.TypeIs (.ref e) "enumerate" := ⟨_,he,rfl⟩
  unfold pyNext
  refine wpAny_bind (wpAny_attempt (wpAny_callSpecial?_slot (name:=Str.ofString "__next__") hT F.slot_enumerate_next (wpAny_call_entry F.slot_enumerate_next hT F.entry_enumerate_next ?_ (F.args_enumerate_next_1 _))))
  show wpAny _ _ (field (.ref e) 2 >>= _) _ _ _
  refine wpAny_bind (wpAny_field he rfl (x:=.ref j) rfl (wpAny_bind (next_end hh hit p (by simp;exact zd5 ‹_› ‹_›) fun g x hg hx=>?_)))
  obtain ⟨o,ho,hc⟩:=hx
  refine wpAny_bind (wpAny_isInstance (T := "StopIteration") (b:=true) ⟨o,ho,hc⟩ isSubtype_stop (wpAny_pure ⟨rfl,?_⟩))
  exact I.turned (t':=s.toks) (fun b o hb q=>hg b o hb q) j0 j1 j3 j4 j5
 self:=fun A i s Q E st h=>by
  obtain ⟨⟨old,he⟩,_⟩:=st
  exact wpAny_pyIter_enum he h
end L2
end
section
namespace L2
open PySem PySem.Spec PyProof.Rows Enu
section
variable {X:Cx}
def iEnum (K:PySem.W.Frag) (ta:TA):TI:=fun σ H R=>ta σ H fun vs H1=>∃ a,vs=[.ref a]∧(∃ xs,SqT K H1 a xs)∧R (Ite a K) H1
theorem pi_enum {elts:List Expr} {kk:Nat} {tpos:Pos} {a:Expr} {ta:TA} {p pos:Pos} (hg:Gl X "enumerate") (hm:X.mg "enumerate" = none) (ha:PA X [a] ta) (hs:starEach [a] X.env=[(false,eval a X.env)]:=by rfl) :
  PI X (.Tuple elts kk tpos) (.Call (.Name "enumerate" p) [a] [] pos) (iEnum X.K ta):=by
 intro pins s σ H R I h
 refine Call_ (ld_blt I hg hm boot_enumerate (Jy (thn (ha pos pins s σ H _ I h) fun us s1 ⟨vs,H1,I1,r1,q1⟩=>?_) hs rfl))
 obtain ⟨t,e,⟨xs,hq⟩,q⟩:=q1
 subst e
 obtain ⟨u,rfl,ru⟩:=vals1 r1
 cases ru
 obtain ⟨its,rv,pl,hz⟩:=I1.tuple hq
 have lt:t < s1.heap.objs.size:=by obtain ⟨o,q,_⟩:=pl;exact Qx q
 refine call_enum pl fun g he hit hsz k=>wpAny_pyIter_enum he ?_
 have I2:Inv X pins σ H1 { s1 with heap:=g }:=I1.kept (t':=s1.toks) k
 refine ⟨s1.heap.objs.size+1,[s1.heap.objs.size+1,s1.heap.objs.size],_,_,H1,rfl,I2,turn_enum t _ _ (Nat.succ_ne_self _) (Zh lt) (Wd (Jg lt)),⟨⟨_,he⟩,hit⟩,fun b hb=>?_,q⟩
 have hb':s1.heap.objs.size≤b:=by
  rcases Qe.mp hb with z | z
  ·rw [z];exact Nat.le_succ _
  ·rw [Qd.mp z];exact Qh _
 exact I1.fpOk hb' (I1.hok.fresh hb')
theorem for_enum {K:PySem.W.Frag} {a:Addr} {xs:List V} {g:TG} {tb:TS} {D:Ends} {σ:St} {H:Hp} (Pv:Nat→St→Hp→Prop) (h0:Pv 0 σ H) (hl:∀ i σ H,i≤xs.length→Pv i σ H→H a=some (.tup xs))
  (hs:∀ i x t σ H,xs[i]?=some x→Pv i σ H→H t=none→g (.ref t) σ (upd H t (.tup [.int i,x])) fun σ2 H2=>tb { D with nx:=Pv (i+1),ct:=Pv (i+1),bk:=D.nx } σ2 H2) (hd:∀ σ H,Pv xs.length σ H→D.nx σ H) :
  ∃ W:Nat→Nat→St→Hp→Prop,(∃ m,W 0 m σ H)∧∀ i m σ H,W i m σ H →
   ((Ite a K).stop i H∧D.nx σ H)∨((Ite a K).go i H∧∃ N:St→Hp→Prop,(∀ σ' H',N σ' H'→∃ m',m' < m∧W (i+1) m' σ' H')∧∀ x H',(Ite a K).yld i H x H'→g x σ H' fun σ2 H2=>tb { D with nx:=N,ct:=N,bk:=D.nx } σ2 H2):=by
 refine ⟨fun i m σ H=>m=xs.length - i∧i≤xs.length∧Pv i σ H,⟨xs.length,by simp,Zd _,h0⟩,?_⟩
 rintro i m σ H ⟨rfl,hi,p⟩
 have q:=hl i σ H hi p
 by_cases hlt:i < xs.length
 ·refine .inr ⟨⟨xs,SqT.of q,hlt⟩,Pv (i+1),fun σ' H' p'=>⟨xs.length - (i+1),by exact zar1 ‹_›,rfl,hlt,p'⟩,fun x H' y=>?_⟩
  obtain ⟨z,t,e1,e3,rfl,rfl⟩:=y
  exact hs i z t σ H (e1 xs (SqT.of q)) p e3
 ·have e:i=xs.length:=by exact zar3 ‹_› ‹_›
  subst e
  exact .inl ⟨⟨xs,SqT.of q,Qh _⟩,hd σ H p⟩
def Its (x:Str):It:=⟨fun i _=>i < x.cps.size,fun i H v H'=>H'=H∧∃ c,x.cps[i]?=some c∧v=.str ⟨#[c]⟩,fun i _=>x.cps.size≤i⟩
theorem turn_str {P:Program} {w:World} {K:PySem.W.Frag} {tg:Expr} {x:Str} {t:Tok} (it:Addr):Turn P w K tg (Its x) [it] it (fun i h=>h.IsStrIter it "str_ascii_iterator" x t i) where
 mem:=by simp
 obj:=fun i h st b hb=>by
  rw [Qd.mp hb]
  obtain ⟨o,e,c,d⟩:=st
  exact ⟨o,e,fun v z=>by rw [d] at z;cases z⟩
 keep:=fun i h h' st k=>let ⟨o,ho,r⟩:=st;⟨o,k it (by simp) o ho,r⟩
 item:=by
  intro X hP hw hK hc i pins s σ H E I hf st hg
  subst hP hw hK
  obtain ⟨f0,f1,f2,f3,f4,f5⟩:=hf it (by simp)
  have hi:i < x.cps.size:=hg
  refine wpAny_pyNext_ascii_item st (c:=x.cps[i]) (by simp [hi]) fun h' st' sb=>?_
  have I1:Inv X pins σ H { s with heap:=h',toks:=s.toks+1 }:=I.turned (fun b o hb e=>(sb.2 b hb).trans e) f0 f1 f3 f4 f5
  obtain ⟨o,e,c,d⟩:=id st'
  exact ⟨_,rfl,go_of (s:={ s with heap:=h',toks:=s.toks+1 }) e c d (by decide) ⟨.str ⟨#[x.cps[i]]⟩,H,I1,⟨_,rfl⟩,⟨rfl,_,by simp [hi],rfl⟩,st',fun b hb=>(hf b hb).1⟩⟩
 done:=by
  intro X hP hw hK hc i pins s σ H E I hf st hg
  subst hP hw hK
  obtain ⟨f0,f1,f2,f3,f4,f5⟩:=hf it (by simp)
  have hi:x.cps.size≤i:=hg
  exact wpAny_pyNext_ascii_end (I.ok.hd hc) st (by simp [hi]) fun h' eb=>⟨rfl,I.turned (t':=s.toks) (fun b o hb e=>eb b o hb e) f0 f1 f3 f4 f5⟩
 self:=fun _ _ _ _ _ st h=>wpAny_pyIter_striter_ascii st h
def iStr (tl:TE):TI:=fun σ H R=>tl σ H fun v H1=>∃ x:Str,v=.str x∧x.cps.all (· < 128)=true∧R (Its x) H1
theorem pi_str {tg l:Expr} {tl:TE} (hl:PE X l tl):PI X tg l (iStr tl):=by
 intro pins s σ H R I h
 refine thn (hl pins s σ H _ I h) fun v s1 ⟨y,H1,I1,r1,q1⟩=>?_
 obtain ⟨x,e,ha,q⟩:=q1
 subst e
 obtain ⟨t,rfl⟩:=r1
 refine wpAny_pyIter_ascii ha ?_
 refine ⟨s1.heap.objs.size,[s1.heap.objs.size],_,_,H1,rfl,I1.kept (t':=s1.toks) fun b o e=>Qj _ e,turn_str (t:=t) _,⟨_,Zc _ rfl,rfl,rfl⟩,fun b hb=>?_,q⟩
 rw [Qd.mp hb]
 exact I1.fpOk (Qh _) (I1.hok.fresh (Qh _))
theorem op_le_str:OpR X (compareOp .LtE) (fun x y H Q=>Ex2 fun i j=>Aj3 (x=.str i) (y=.str j) (Q (.bl (!decide (j.cps.toList < i.cps.toList))) H)):=by
 intro pins s σ H x y v u Q I rx ry h
 obtain ⟨i,j,rfl,rfl,q⟩:=h
 obtain ⟨t,rfl⟩:=rx
 obtain ⟨t',rfl⟩:=ry
 exact PySem.P.le_str (za5 I q rfl)
end
end L2
end
section
namespace L2
open PySem PySem.Spec PyProof.Rows
section
variable {X:Cx} {pins:List (Addr×Obj)} {σ:St} {H:Hp} {s:Shared}
inductive RrNil (neg:Bool) (K:PySem.W.Frag) (x:V) (y:V) (H:Hp) (Q:VK):Prop
 | mk (l:_) (b:_) (xs:_) (h0:x=.ref l) (h1:y=.ref b) (h2:SqL K H l xs) (h3:SqL K H b []) (h4:Q (.bl (if neg then !xs.isEmpty else xs.isEmpty)) H):RrNil neg K x y H Q
def rNil (neg:Bool) (K:PySem.W.Frag):R2:=fun x y H Q=>RrNil neg K x y H Q
theorem op_eq_nil (hu:X.A.units < cLine):OpR X (compareOp .Eq) (rNil false X.K):=by
 intro pins s σ H x y v u Q I rx ry h
 obtain ⟨l,b,xs,rfl,rfl,h1,h2,q⟩:=h
 cases rx;cases ry
 obtain ⟨its,r,pl,_⟩:=I.list h1
 obtain ⟨its2,r2,pl2,_⟩:=I.list h2
 cases r2
 cases r with
 | nil=>exact SeqAt.eq_listAt (e:=fun _=>true) pl.isList pl2.isList rfl hu (fun j h1 _=>by simp at h1) ⟨.bl true,H,I,rfl,q⟩
 | cons a t=>exact SeqAt.eq_list_lengthsAt pl.isList pl2.isList (by simp) hu ⟨.bl false,H,I,rfl,q⟩
theorem zeg (hu:X.A.units < cLine):OpR X (compareOp .NotEq) (rNil true X.K):=by
 intro pins s σ H x y v u Q I rx ry h
 obtain ⟨l,b,xs,rfl,rfl,h1,h2,q⟩:=h
 cases rx;cases ry
 obtain ⟨its,r,pl,_⟩:=I.list h1
 obtain ⟨its2,r2,pl2,_⟩:=I.list h2
 cases r2
 cases r with
 | nil=>exact SeqAt.RcNeAt.lists (e:=fun _=>true) pl.isList pl2.isList rfl hu (fun j h1 _=>by simp at h1) _ _ _ _ ⟨.bl false,H,I,rfl,q⟩
 | cons a t=>exact SeqAt.RcNeAt.lists_lengths pl.isList pl2.isList (by simp) hu _ _ _ _ ⟨.bl true,H,I,rfl,q⟩
theorem eq_pairs {A:Around} {a b:Addr} {x y x' y':Str} (I:Inv X pins σ H s) (hu:A.units < cLine) (ha:H a=some (.tup [.str x,.str y])) (hb:H b=some (.tup [.str x',.str y'])) :
  SeqAt.EqAt A s (.ref a) (.ref b) (decide ((x,y)=(x',y'))):=by
 obtain ⟨_,its,r,p⟩:=I.hok a _ ha
 obtain ⟨_,its2,r2,p2⟩:=I.hok b _ hb
 obtain ⟨u1,u2,rfl,⟨t1,rfl⟩,⟨t2,rfl⟩⟩:=vals2 r
 obtain ⟨w1,w2,rfl,⟨t3,rfl⟩,⟨t4,rfl⟩⟩:=vals2 r2
 by_cases hab:a=b
 ·subst hab
  rw [ha] at hb
  cases hb
  rw [decide_eq_true rfl]
  exact SeqAt.EqAt.same _
 ·have key:=SeqAt.RcAt.tuples (A:=A) (s:=s) (e:=fun j=>if j=0 then x == x' else y == y') p p2 hu fun j j1 j2=>by
   have j1':j < 2:=by simpa using j1
   match j,j1' with
   | 0,_=>exact Jl x t1 x' t3
   | 1,_=>exact Jl y t2 y' t4
  have e:((List.range (min (#[Value.str x t1,Value.str y t2]:Array Value).size (#[Value.str x' t3,Value.str y' t4]:Array Value).size)).all (fun j=>if j=0 then x == x' else y == y') && (#[Value.str x t1,Value.str y t2]:Array Value).size == (#[Value.str x' t3,Value.str y' t4]:Array Value).size)=decide ((x,y)=(x',y')):=by
   show ((List.range 2).all (fun j=>if j=0 then x == x' else y == y') && true)=_
   rw [show List.range 2=[0,1] from rfl]
   by_cases hx:x=x'
   ·by_cases hy:y=y'
    ·simp [hx,hy]
    ·simp [hx,hy]
   ·simp [hx]
  have key':SeqAt.RcAt A s (.ref a) (.ref b) (decide ((x,y)=(x',y'))):=e ▸ key
  exact SeqAt.EqAt.of_refs hab key'
inductive RrInP (neg:Bool) (K:PySem.W.Frag) (x:V) (y:V) (H:Hp) (Q:VK):Prop
 | mk (a p:Addr) (q:Str×Str) (as:List Addr) (qs:List (Str×Str)) (h0:x=.ref a) (h1:y=.ref p) (h2:H a=some (.tup [.str q.1,.str q.2])) (h3:SqL K H p (as.map V.ref)) (h4:Paired (fun b (r:Str×Str)=>H b=some (.tup [.str r.1,.str r.2])) as qs) (h5:Q (.bl (if neg then !decide (q∈qs) else decide (q∈qs))) H):RrInP neg K x y H Q
def rInP (neg:Bool) (K:PySem.W.Frag):R2:=fun x y H Q=>RrInP neg K x y H Q
theorem in_pairs {a:Addr} {q:Str×Str} {as:List Addr} {qs:List (Str×Str)} {its:List Value} (I:Inv X pins σ H s) (hu:X.A.units+1 < cLine) (ha:H a=some (.tup [.str q.1,.str q.2])) (rv:Vals (as.map V.ref) its)
  (pq:Paired (fun b (r:Str×Str)=>H b=some (.tup [.str r.1,.str r.2])) as qs):∃ e:Value→Bool,(∀ y∈its,SeqAt.EqAt X.A.in1 s y (.ref a) (e y))∧its.any e=decide (q∈qs):=by
 refine ⟨fun v=>match v with | .ref b=>(match H b with | some (.tup [.str x,.str y])=>decide ((x,y)=q) | _=>false) | _=>false,?_,?_⟩
 ·intro y hy
  obtain ⟨b,hb,rb⟩:=zfm rv y hy
  obtain ⟨c,hc,rfl⟩:=Qi.mp hb
  cases rb
  obtain ⟨i,hi,ei⟩:=Zq hc
  obtain ⟨r,_,hr⟩:∃ r,r∈qs∧H c=some (.tup [.str r.1,.str r.2]):=by
   clear rv hy hb hi ei i
   induction pq with
   | nil=>cases hc
   | cons h t ih =>
    rcases Qe.mp hc with z | z
    ·subst z;exact ⟨_,Qb,h⟩
    ·obtain ⟨r,h1,h2⟩:=ih z
     exact ⟨r,Qf _ h1,h2⟩
  dsimp only
  rw [hr]
  exact eq_pairs I (by show X.A.units+1 < cLine;exact hu) hr ha
 ·induction pq generalizing its with
  | nil=>cases rv;simp
  | cons h t ih =>
   cases rv with
   | cons r1 r2 =>
    cases r1
    rw [Uz,ih r2]
    dsimp only
    rw [h]
    rename_i r _ rs _
    have:decide (q∈r::rs)=(decide ((r.1,r.2)=q) || decide (q∈rs)):=by
     rw [Zv]
     simp only [decide_eq_true_eq,Qe,Bool.or_eq_true]
     constructor
     ·rintro (z | z)
      ·exact .inl z.symm
      ·exact .inr z
     ·rintro (z | z)
      ·exact .inl z.symm
      ·exact .inr z
    rw [this]
theorem zgs (hu:X.A.units+1 < cLine):OpR X (compareOp .NotIn) (rInP true X.K):=by
 intro pins s σ H x y v u Q I rx ry h
 obtain ⟨a,p,q,as,qs,rfl,rfl,ha,hq,pq,q'⟩:=h
 cases rx;cases ry
 obtain ⟨its,r,pl,_⟩:=I.list hq
 obtain ⟨e,h1,h2⟩:=in_pairs I hu ha r pq
 refine SeqAt.notIn_listAt e pl.isList (fun w hw=>h1 w (by simpa using hw)) ⟨.bl _,H,I,?_,q'⟩
 show Value.bool (!(its.toArray.any e))=_
 rw [show its.toArray.any e=its.any e by simp,h2]
 rfl
theorem argBest_lt {bt:Nat→Nat→Bool}:∀ k,argBest bt k≤k
 | 0=>Qh _
 | k+1=>by
  show (if bt (k+1) (argBest bt k)=true then k+1 else argBest bt k)≤k+1
  split
  ·exact Qh _
  ·exact Nat.le_succ_of_le (argBest_lt k)
theorem zc5 (f:Nat→List Nat):∀ k j,j≤k→¬ f j < f (argBest (fun i j=>decide (f i < f j)) k)
 | 0,j,h=>by
  have:j=0:=by lia
  subst this
  exact Kc _
 | k+1,j,h=>by
  show ¬ f j < f (if decide (f (k+1) < f (argBest (fun i j=>decide (f i < f j)) k))=true then k+1 else argBest (fun i j=>decide (f i < f j)) k)
  by_cases hlt:f (k+1) < f (argBest (fun i j=>decide (f i < f j)) k)
  ·rw [if_pos (decide_eq_true hlt)]
   by_cases hj:j=k+1
   ·subst hj;exact Kc _
   ·intro z
    exact zc5 f k j (by lia) (List.lt_trans z hlt)
  ·rw [if_neg (by simpa using hlt)]
   by_cases hj:j=k+1
   ·subst hj;exact hlt
   ·exact zc5 f k j (by lia)
theorem zh7 (hc:X.calm=true):zca X (.builtin "min") (fun xs H Q=>Ex2 fun (p:Addr) (zs:List Str)=>Aj4 (xs=[.ref p]) (SqL X.K H p (zs.map V.str)) (zs≠[]) (∀ z∈zs,(∀ y∈zs,leS z y)→Q (.str z) H)):=by
 intro pins s σ H xs us Q I r h
 obtain ⟨p,zs,rfl,hq,hne,q⟩:=h
 obtain ⟨u,rfl,rx⟩:=vals1 r
 cases rx
 have hpos:0 < zs.length:=Wk.mpr hne
 refine call_min_walk (zdm hc I hq fun its It h1 rv W st lt keep=>⟨It,_,_,_,_,_,fun i j=>decide ((zs.getD i Str.empty).cps.toList < (zs.getD j Str.empty).cps.toList),rfl,W,st,lt,?_,fun i j vi vj s' Q' E' hi hj hq'=>?_,fun v h' tk hv k=>?_⟩)
 ·have:=rv.length
  rw [Qa] at this
  rw [Qv];exact zar7 ‹_› ‹_›
 ·have gs:∀ (i:Nat) (v:Value),its.toArray[i]?=some v→∃ t,v=.str (zs.getD i Str.empty) t:=fun i v e=>by
   have e':its[i]?=some v:=by simpa using e
   have hi:i < its.length:=(Qz.mp e').1
   have hl:=rv.length
   rw [Qa] at hl
   have hi2:i < zs.length:=by exact zar6 ‹_› ‹_›
   obtain ⟨u,e2,t,e3⟩:=rv.get (i:=i) (x:=.str zs[i]) (by simp [hi2])
   rw [e'] at e2
   cases e2
   exact ⟨t,by rw [e3];simp [List.getD,hi2]⟩
  obtain ⟨t1,rfl⟩:=gs i vi hi
  obtain ⟨t2,rfl⟩:=gs j vj hj
  exact lt_str hq'
 ·have hl:=rv.length
  rw [Qa] at hl
  have hk:=argBest_lt (bt:=fun i j=>decide ((zs.getD i Str.empty).cps.toList < (zs.getD j Str.empty).cps.toList)) (its.toArray.size - 1)
  generalize hb:argBest (fun i j=>decide ((zs.getD i Str.empty).cps.toList < (zs.getD j Str.empty).cps.toList)) (its.toArray.size - 1)=b at hv hk
  have hb2:b < zs.length:=by rw [Qv] at hk;lia
  have hv':its[b]?=some v:=by simpa using hv
  obtain ⟨u,e2,t,e3⟩:=rv.get (i:=b) (x:=.str zs[b]) (by simp [hb2])
  rw [hv'] at e2
  cases e2
  refine ⟨.str zs[b],H,keep h' tk k,⟨t,e3⟩,q _ (Qr hb2) fun y hy=>?_⟩
  obtain ⟨j,hj,ej⟩:=Zq hy
  have:=zc5 (fun i=>(zs.getD i Str.empty).cps.toList) (its.toArray.size - 1) j (by rw [Qv];lia)
  rw [hb] at this
  have g1:zs.getD b Str.empty=zs[b]:=by simp [List.getD,hb2]
  have g2:zs.getD j Str.empty=y:=by simp [List.getD,hj,ej]
  rw [g1,g2] at this
  exact this
end
section
variable {X:Cx}
theorem eqV_self {x:V} (f:zdu x=true):eqV x x=true:=by
 cases x with
 | non=>rfl
 | bl b=>exact beq_self_eq_true b
 | int i=>exact beq_self_eq_true i
 | str z=>exact beq_self_eq_true z
 | _=>cases f
theorem KV.value {kvs:List (Key×V)} {vs:List (Key×Value)} (r:KV kvs vs) {k:Key} {v:V} (nd:(kvs.map (·.1)).Nodup) (h:(k,v)∈kvs):∃ y,valueAt vs k=some y∧RelV v y:=by
 induction r with
 | nil=>cases h
 | @cons p q ps qs e t ih =>
  rw [Qk,Qt] at nd
  rcases Qe.mp h with z | z
  ·refine ⟨q.2,?_,?_⟩
   ·unfold valueAt
    rw [Wh (by rw [← e.1,← z];simp)]
    rfl
   ·have:=e.2
    rw [← z] at this
    exact this
  ·obtain ⟨y,h1,h2⟩:=ih nd.2 z
   refine ⟨y,?_,h2⟩
   have ne:p.1≠k:=fun w=>nd.1 (by rw [w];exact Qi.mpr ⟨_,z,rfl⟩)
   unfold valueAt at h1 ⊢
   rw [Wi (by rw [← e.1];simpa using ne)]
   exact h1
theorem zg0 (hu:X.A.units < cLine):OpR X (compareOp .NotEq) (fun x y H Q=>Ex3 fun a b kvs=>Aj7 (x=.ref a) (y=.ref b) (Rd H a (.dK kvs)) (Rd H b (.dK kvs)) ((kvs.map (·.1)).Nodup) (∀ p∈kvs,zdu p.2=true) (Q (.bl false) H)):=by
 intro pins s σ H x y v u Q I rx ry h
 obtain ⟨a,b,kvs,rfl,rfl,h1,h2,nd,fl,q⟩:=h
 cases rx;cases ry
 obtain ⟨z,lo,vs,ep,rk,ha,hl⟩:=dk_at I h1
 obtain ⟨z2,lo2,vs2,ep2,rk2,ha2,hl2⟩:=dk_at I h2
 have hits:∀ (ks:List (Key×V)) (us:List (Key×Value)),KV ks us→(∀ p∈ks,p∈kvs)→PySem.W.KeqHits X.A.in1 s vs2 us true:=by
  intro ks us r
  induction r with
  | nil=>intro _;exact .nil
  | @cons p q' ps qs e t ih =>
   intro hm
   have hp:(p.1,p.2)∈kvs:=hm p Qb
   obtain ⟨y,e1,e2⟩:=KV.value rk2 nd hp
   have f:=fl p (hm p Qb)
   have hE:=eqAt_V (A:=X.A.in1) (s:=s) e.2 e2 f f
   rw [eqV_self f] at hE
   obtain ⟨k1,v1⟩:=q'
   have hk:p.1=k1:=e.1
   rw [hk] at e1
   exact PySem.W.KeqHits.hit (e:=true) (b:=true) e1 hE (ih fun p hp=>hm p (Qf _ hp))
 refine PySem.W.keq_ne lo lo2 ha.dictOf ha2.dictOf hu (fun _=>hits kvs vs rk fun p hp=>hp) ⟨.bl false,H,I,?_,q⟩
 show Value.bool _=Value.bool false
 have:vs.length=vs2.length:=by omega
 rw [this]
 simp
end
end L2
end
section
namespace SetT
open PySem PyProof.Rows PySem.Spec
section
variable {prog:Program} {w:World} {A:Around} {R:Result→Shared→Prop} {I:Addr} {fp wr:List Addr} {G:Array GenState→Array GenState→Prop} {n:Nat} {P:Nat→Value→Prop} {St:Nat→Shared→Prop}
theorem loop (W:WalksS prog w A.in1 I fp wr G n P St) (S:Addr) (hSf:S∉fp) (zs:List Str) (hz:zs.length=n) (nd:zs.Nodup) (hval:∀ i v,P i v→∃ t,v=.str (zs.getD i Str.empty) t) (hb:n+1 < scanBound) :
  ∀ (k i:Nat) (s:Shared),n - i=k→i≤n→St i s→s.heap.SetOf (PySem.strKind prog w) S (fun x=>decide (x∈zs.take i)) i →
   (∀ s',Moved (S::wr) G s s'→s'.heap.SetOf (PySem.strKind prog w) S (fun x=>decide (x∈zs.take n)) n→R (.ok (.ret .none)) s')→codeAny (model prog w) A (.builtin "set.update.loop" ⟨[.ref S,.ref I],[]⟩) R s:=by
 have hSw:S∉wr:=fun h=>hSf (W.sub _ h)
 have sub:∀ b∈wr,b∈S::wr:=fun b q=>Qf _ q
 intro k
 induction k with
 | zero =>
  intro i s hk hi hst hS hR
  obtain rfl:i=n:=by lia
  refine codeAny_builtin F.entry_set_update_loop ?_
  rw [Yp F.plain_set_update_loop _]
  show wpAny _ A.in1 (pyNext (.ref I) >>= _) _ _ s
  refine wpAny_bind (W.done s _ _ hst fun s' hm=>(show wpAny _ A.in1 (ret Value.none) _ _ s' from wpAny_pure (hR s' (hm.mono sub) ?_)))
  obtain ⟨o,es,ep,t,ho,rest⟩:=hS
  exact ⟨o,es,ep,t,hm.heap S _ hSw ho,rest⟩
 | succ k ih =>
  intro i s hk hi hst hS hR
  have lt:i < n:=by lia
  refine codeAny_builtin F.entry_set_update_loop ?_
  rw [Yp F.plain_set_update_loop _]
  show wpAny _ A.in1 (pyNext (.ref I) >>= _) _ _ s
  refine wpAny_bind (W.item i s _ _ lt hst fun v s' hP hst' hm=>?_)
  obtain ⟨t,rfl⟩:=hval i v hP
  have hi2:i < zs.length:=by exact zar6 ‹_› ‹_›
  have eg:zs.getD i Str.empty=zs[i]:=by simp [List.getD,hi2]
  rw [eg]
  have hS':s'.heap.SetOf (PySem.strKind prog w) S (fun x=>decide (x∈zs.take i)) i:=by
   obtain ⟨o,es,ep,tb,ho,rest⟩:=hS
   exact ⟨o,es,ep,tb,hm.heap S _ hSw ho,rest⟩
  show wpAny _ A.in1 (holding [Value.str zs[i] t] (setAdd S (.str zs[i] t)) >>= _) _ _ s'
  refine wpAny_bind (wpAny_holding ?_)
  unfold setAdd
  refine wpAny_holding (wpAny_bind ((PySem.strKind prog w).pyHash (k:=zs[i]) (by simp [PySem.strKind,Value.isStrOf]) ?_))
  have nin:decide (zs[i]∈zs.take i)=false:=decide_eq_false fun q=>by
   obtain ⟨j,hj,e⟩:=Zq q
   rw [Zm] at hj
   rw [List.getElem_take] at e
   have:=(Uf nd).mp e
   lia
  refine wpAny_setAddHashed_of (knd:=PySem.strKind prog w) (k:=zs[i]) (by simp [PySem.strKind,Value.isStrOf]) rfl hS' (by lia) fun g sb hS2=>?_
  have hSi:g.SetOf (PySem.strKind prog w) S (fun x=>decide (x∈zs.take (i+1))) (i+1):=by
   refine SetOf_congr hS2 (fun x=>?_) (by simp only [nin];simp)
   rw [Zv]
   simp only [Bool.or_eq_true,decide_eq_true_eq]
   rw [Qg hi2,Ql,Qd]
  refine wpAny_pure ⟨plainId_quiet F.plain_set_update_loop _,ih (i+1) _ (by lia) lt (W.frame _ s' _ _ hst' (by first | exact Qh _ | exact Nat.le_succ _) fun b q o e=>?_) hSi fun s2 hm2 hS3=>hR s2 (Moved.trans W.gtrans ((hm.mono sub).then_heap (by first | exact Qh _ | exact Nat.le_succ _) fun b o q e=>?_) hm2) hS3⟩
  ·rw [sb.2 b (fun z:b=S=>hSf (by rw [← z];exact q))];exact e
  ·rw [sb.2 b (fun z:b=S=>q (by rw [z];exact Qb))];exact e
end
section
variable {prog:Program} {w:World} {A:Around} {E:Value→Shared→Prop} {s:Shared}
theorem call_set {l:Addr} {its:List Value} {zs:List Str} {Q:Value→Shared→Prop} (hh:A.handled=none) (hl:s.heap.IsList l its.toArray) (hz:zs.length=its.length) (nd:zs.Nodup)
  (hval:∀ (i:Nat) (v:Value),its[i]?=some v→∃ t,v=.str (zs.getD i Str.empty) t) (hb:its.length+1 < scanBound)
  (h:∀ (g:Heap) (tk:Nat),g.SetOf (PySem.strKind prog w) s.heap.objs.size (fun x=>decide (x∈zs)) zs.length→(∀ b o,s.heap.get? b=some o→g.get? b=some o)→Q (.ref s.heap.objs.size) { s with heap:=g,toks:=tk }) :
  wpAny (model prog w) A (call (.type "set") [.ref l]) Q E s:=by
 obtain ⟨c,tl,hmro⟩:=Wq.mro
 have hmade:=Wq.made
 have hsub:=Wq.sub
 refine wpAny_call (codeAny_of_tree (show wpAny _ _ (callAny (.type "set") _) _ _ _ from wpAny_pure ⟨Code.quiet_builtin _ (by decide +kernel),codeAny_builtin PySem.F.entry_type_call ?_⟩))
 rw [Around.under_plain (weight_type_call_type "set" [.ref l] []) rfl]
 have h1:=Wq.notType
 have h2:=Wq.canCreate
 have hct:=PySem.F.typeCall_set_1 (.ref l)
 repeat (any_goals (first | assumption | wp_step))
 refine codeAny_mono (code_set_new_1 (.ref l) (E:=E) (Q₁:=fun obj s₁=>∃ led:Bool,obj=.ref s.heap.objs.size∧s₁={ s with heap:=s.heap.push { cls:=.type "set",dict:=none,data:=.set #[] 0 (.fresh 0 0 led) } }) fun led=>⟨led,rfl,rfl⟩) fun r s1 hr=>?_
 cases r with
 | error e=>exact hr
 | ok fl =>
  cases fl with
  | ret obj =>
   obtain ⟨led,rfl,rfl⟩:=hr
   have hS:(s.heap.push { cls:=.type "set",dict:=none,data:=.set #[] 0 (.fresh 0 0 led) }).get? s.heap.objs.size=some { cls:=.type "set",dict:=none,data:=.set #[] 0 (.fresh 0 0 led) }:=Zc _ rfl
   have hT:Shared.TypeIs { s with heap:=s.heap.push { cls:=.type "set",dict:=none,data:=.set #[] 0 (.fresh 0 0 led) } } (.ref s.heap.objs.size) "set" := ⟨_,hS,rfl⟩
   have hli:=Wq.init.lookup
   have hbi:=Wq.init.bind (.ref s.heap.objs.size)
   repeat (any_goals (first | assumption | wp_step))
   refine codeAny_mono (codeAny_call_builtin (R:=wants (fun r s₂=>r=.none∧∃ g tk,s₂={ s with heap:=g,toks:=tk }∧g.SetOf (PySem.strKind prog w) s.heap.objs.size (fun x=>decide (x∈zs)) zs.length∧(∀ b o,s.heap.get? b=some o→g.get? b=some o)) E)
    Wq.init.plain PySem.F.entry_set_init (check_set_init_1 hT ?_)) fun r2 s2 hr2=>?_
   ·obtain ⟨ol,hol,hcl,nl,hdl⟩:=hl
    obtain ⟨ocls,odict,odata,oslots⟩:=ol
    simp only at hcl hdl
    subst hcl;subst hdl
    have hol':(s.heap.push { cls:=.type "set",dict:=none,data:=.set #[] 0 (.fresh 0 0 led) }).get? l=some { cls:=.type "list",dict:=odict,data:=.seq its.toArray nl,slots:=oslots }:=Qj _ hol
    have hsls:=PySem.F.sub_list_set
    have hslf:=PySem.F.sub_list_frozenset
    have hne:(Value.type "list" == Value.type "dict")=false:=by decide
    have hl1:(s.heap.push { cls:=.type "set",dict:=none,data:=.set #[] 0 (.fresh 0 0 led) }).IsList l its.toArray:=⟨_,hol',rfl,nl,rfl⟩
    unfold Builtin.«set.__init__» noKeywords Builtin.Frozenset.updateFrom
    generalize hPI:pyIter=PI
    wp_walk
    subst hPI
    refine wpAny_pyIter_list hl1 (wpAny_bind (wpAny_runValue ?_))
    have hlS:l < s.heap.objs.size:=Qx hol
    have hh3:A.in1.in1.in1.handled=none:=by simp [hh]
    have z1:(s.heap.push { cls:=.type "set",dict:=none,data:=.set #[] 0 (.fresh 0 0 led) }).objs.size=s.heap.objs.size+1:=Ja ..
    have hneI:l≠(s.heap.push { cls:=.type "set",dict:=none,data:=.set #[] 0 (.fresh 0 0 led) }).objs.size:=by rw [z1];exact Zh (Jg hlS)
    have hSf:s.heap.objs.size∉[(s.heap.push { cls:=.type "set",dict:=none,data:=.set #[] 0 (.fresh 0 0 led) }).objs.size,l]:=by
     rw [z1];simp only [Qe,Kp,or_false,not_or]
     exact ⟨Zh (Wy _),Wd hlS⟩
    refine loop ((Walks.list hh3 _ l hneI its.toArray).toS) s.heap.objs.size hSf zs (by rw [Qv];exact hz) nd (fun i v hv=>hval i v (by simpa using hv)) (by rw [Qv];exact hb) _ 0 _ rfl (Zd _) ⟨⟨_,Zc _ rfl,rfl,rfl⟩,(hl1.push _)⟩ ?_ ?_
    ·exact SetOf_congr ((setObjOf_fresh (knd:=PySem.strKind prog w) led).setOf (Qj _ hS) (by unfold scanBound;exact Nat.le_add_left _ _)) (fun _=>by simp) rfl
    ·intro s' hm hS'
     obtain ⟨g,g',d',tk',os'⟩:=s'
     have eg:g'=s.gens:=hm.gens
     have ed:d'=s.drawn:=hm.drawn
     have eo:os'=s.os:=hm.os
     subst eg;subst ed;subst eo
     show wpAny _ _ _ _ _ _
     refine wpAny_pure (show wpAny _ _ (ret Value.none) _ _ _ from wpAny_pure ⟨rfl,g,tk',rfl,?_,fun b o e=>?_⟩)
     ·have e1:its.toArray.size=zs.length:=by rw [Qv,hz]
      rw [e1,Qp (Qh _)] at hS'
      exact hS'
     ·have hb0:b < s.heap.objs.size:=Qx e
      refine hm.heap b o ?_ (Qj _ (Qj _ e))
      rw [z1]
      simp only [Qe,Kp,or_false,not_or]
      exact ⟨Zh hb0,Zh (Jg hb0)⟩
   ·cases r2 with
    | error e=>exact hr2
    | ok fl2 =>
     cases fl2 with
     | ret r =>
      obtain ⟨rfl,g,tk,rfl,hS',hk'⟩:=hr2
      repeat (any_goals (first | assumption | wp_step))
      exact h _ _ hS' hk'
     | _=>exact hr2.elim
  | _=>exact hr.elim
end
end SetT
namespace L2
open PySem PySem.Spec PyProof.Rows
def setO (P:Program) (w:World) (a:Addr) (zs:List Str):HO:=.ext fun h=>h.SetOf (PySem.strKind P w) a (fun x=>decide (x∈zs)) zs.length
section
variable {X:Cx}
theorem zh6 (hc:X.calm=true):zca X (.type "set") (fun xs H Q=>Ex2 fun (p:Addr) (zs:List Str)=>Aj5 (xs=[.ref p]) (SqL X.K H p (zs.map V.str)) zs.Nodup (zs.length≤1000) (∀ l,H l=none→Q (.ref l) (upd H l (setO X.prog X.w l zs)))):=by
 intro pins s σ H xs us Q I r h
 obtain ⟨p,zs,rfl,hq,nd,hz,q⟩:=h
 obtain ⟨u,rfl,rx⟩:=vals1 r
 cases rx
 obtain ⟨its,rv,pl,_⟩:=I.list hq
 have hl:=rv.length
 rw [Qa] at hl
 refine SetT.call_set (zs:=zs) (I.ok.hd hc) pl.isList hl nd (fun i v e=>?_) (by unfold scanBound;lia) fun g tk hS k=>?_
 ·have hi:i < its.length:=(Qz.mp e).1
  have hi2:i < zs.length:=by exact zar6 ‹_› ‹_›
  obtain ⟨u,e2,t,e3⟩:=rv.get (i:=i) (x:=.str zs[i]) (by simp [hi2])
  rw [e] at e2
  cases e2
  exact ⟨t,by rw [e3];simp [List.getD,hi2]⟩
 ·refine ⟨.ref _,_,I.laid (t':=tk) k (Qh _) (show zbr X.prog X.w _ g _ (setO X.prog X.w s.heap.objs.size zs) from ⟨hS,?_,fun h1 h2 p1 k1=>?_⟩),rfl,q _ (I.hok.fresh (Qh _))⟩
  ·obtain ⟨o,_,_,_,e,_⟩:=hS
   exact ⟨o,e⟩
  ·obtain ⟨o,es,ep,t,e,rest⟩:=p1
   exact ⟨o,es,ep,t,k1 o e,rest⟩
theorem zh9:zca X (.builtin "len") (fun xs H Q=>Ex2 fun (p:Addr) (zs:List Str)=>Aj4 (xs=[.ref p]) (H p=some (setO X.prog X.w p zs)) (zs.length≤1000) (Q (.int zs.length) H)):=by
 intro pins s σ H xs us Q I r h
 obtain ⟨p,zs,rfl,hq,hz,q⟩:=h
 obtain ⟨u,rfl,rx⟩:=vals1 r
 cases rx
 obtain ⟨⟨o,es,ep,t,ho,hex,hd,hel,hmem,hb,hf,hn⟩,_⟩:=(show zbr X.prog X.w H s.heap p (setO X.prog X.w p zs) from I.hok p _ hq)
 exact call_len_set ho hex hd hf (by rw [hn];lia) ⟨.int zs.length,H,I.tok _,⟨_,by rw [hn]⟩,q⟩
end
end L2
end
section
namespace DictR
open PySem PyProof.Rows PySem.Spec
theorem miss_keys:typeLookup (.type "list") "keys" = pure none:=am_miss_of_fast (by decide +kernel)
section
variable {prog:Program} {w:World} {A:Around} {E:Value→Shared→Prop} {s:Shared}
theorem no_keys {a:Addr} {xs:Array Value} {k:Nat} {sl:Array (Option Value)} {Q:Option Value→Shared→Prop} (hx:s.heap.get? a=some { cls:=.type "list",dict:=none,data:=.seq xs k,slots:=sl }) (hA:A.handled=none)
  (h:∀ g tk,(∀ b o,s.heap.get? b=some o→g.get? b=some o)→Q none { s with heap:=g,toks:=tk }):wpAny (model prog w) A (getAttr? (.ref a) "keys") Q E s:=by
 obtain ⟨hp,g,d,tk,os⟩:=s
 have hT:∀ t',(⟨hp,g,d,t',os⟩:Shared).TypeIs (.ref a) "list" := fun _=>⟨_,hx,rfl⟩
 have f1:=sub_AttributeError
 have f3:=Xb.lookup
 have f4:=Xb.bind (.ref a)
 have f5:=am_list_getattr_none
 unfold getAttr? getAttrBy? getAttrBy
 repeat (any_goals (first | assumption | exact hT _ | ((with_reducible show wpAny _ _ (call (Value.builtin "list.__getattribute__") _ _) _ _ _);refine call_meets Xb (hT _) am_entry_list_getattribute (F.args_list_getattribute_2 _ _) (meets_getattribute_miss_list a xs k sl "keys" _ miss_keys (by decide +kernel) (by decide +kernel)) ⟨hx,hA,fun h' tk' e hx'=>?_⟩) | wp_step))
 obtain ⟨t',u',he⟩:=hx'.there
 show wpAny _ _ (getattributeRaised _ _ _ _ _ _ _) _ _ _
 unfold getattributeRaised
 repeat (any_goals (first | assumption | wp_step))
 exact h h' tk' hx'.keeps
theorem zg6:entryFor table "dict.update.loop" = some Builtin.«dict.update.loop»:=entryFor_of_tree (by kernel_rfl)
theorem zds:plainId "dict.update.loop" = true:=by decide +kernel
structure Row (K:Type) where
 a:Addr
 o:Obj
 k:K
 key:Value
 val:Value
 n:Nat
variable {K:Type} [DecidableEq K] {knd:KeyKind prog w K}
def RowAt (knd:KeyKind prog w K) (h:Heap) (r:Row K):Prop:=h.get? r.a=some r.o∧r.o.cls=.type "tuple" ∧ r.o.data=.seq #[r.key,r.val] r.n∧knd.is r.k r.key=true
theorem stored_new {kvs:List (K×Value)} {k:K} {v:Value} (h:k∉kvs.map (·.1)):stored kvs k v=kvs++[(k,v)]:=by
 unfold stored
 rw [if_neg]
 intro z
 obtain ⟨p,hp,e⟩:=Yj.mp z
 exact h (Qi.mpr ⟨p,hp,of_decide_eq_true e⟩)
theorem loop {R:Result→Shared→Prop} {I l:Addr} (hh:A.handled=none) (rows:List (Row K)) (d:Addr) (hdI:d≠I) (hdl:d≠l) (hlI:l≠I) (hr:∀ r∈rows,r.a≠d∧r.a≠I) (nd:(rows.map (·.k)).Nodup) (hz:rows.length≤sizeLine) :
  ∀ (m i:Nat) (s:Shared),rows.length - i=m→i≤rows.length→s.heap.IsListIter I l i→s.heap.IsList l (rows.map fun r=>Value.ref r.a).toArray→(∀ r∈rows,RowAt knd s.heap r)→s.heap.DictOf knd d ((rows.take i).map fun r=>(r.k,r.val)) →
   (∀ g tk,(∀ b o,b≠d→b≠I→s.heap.get? b=some o→g.get? b=some o)→g.DictOf knd d (rows.map fun r=>(r.k,r.val))→R (.ok (.ret .none)) { s with heap:=g,toks:=tk }) →
   codeAny (model prog w) A (.builtin "dict.update.loop" ⟨[.ref d,.ref I,rawInt i,.none],[]⟩) R s:=by
 intro m
 induction m with
 | zero =>
  intro i s hm hi st hl hR hd hQ
  obtain rfl:i=rows.length:=by lia
  refine codeAny_builtin zg6 ?_
  rw [Yp zds _]
  show wpAny _ A.in1 (pyNext (.ref I) >>= _) _ _ s
  refine wpAny_bind (wpAny_pyNext_list_end (show A.in1.handled=none from hh) st hl (by simp) fun g eb=>?_)
  show wpAny _ A.in1 (Builtin.Dict.addKeywords d [] >>= fun _=>ret Value.none) _ _ _
  refine wpAny_bind (show wpAny _ A.in1 (pure ()) _ _ _ from wpAny_pure (wpAny_pure (hQ g s.toks (fun b o _ hb e=>eb b o hb e) ?_)))
  rw [Qp (Qh _)] at hd
  exact hd.extBut eb hdI
 | succ m ih =>
  intro i s hm hi st hl hR hd hQ
  have lt:i < rows.length:=by lia
  obtain ⟨e1,e2,e3,e4⟩:=hR rows[i] (Qr lt)
  obtain ⟨n1,n2⟩:=hr rows[i] (Qr lt)
  refine codeAny_builtin zg6 ?_
  rw [Yp zds _]
  show wpAny _ A.in1 (pyNext (.ref I) >>= _) _ _ s
  refine wpAny_bind (wpAny_pyNext_list_item st hl (x:=.ref rows[i].a) (by simp [lt]) fun g st' sb=>?_)
  have k1:∀ b o,b≠I→s.heap.get? b=some o→g.get? b=some o:=fun b o hb e=>(sb.2 b hb).trans e
  have hd1:g.DictOf knd d ((rows.take i).map fun r=>(r.k,r.val)):=hd.sameBut sb hdI
  refine wpAny_bind (wpAny_holding ?_)
  refine wpAny_bind (wpAny_tryCatch ?_)
  show wpAny _ A.in1 (Builtin.Dict.pairItems (.ref rows[i].a)) _ _ _
  unfold Builtin.Dict.pairItems
  refine wpAny_bind (wpAny_typeOf (T := "tuple") ⟨_,k1 _ _ n2 e1,e2⟩ ?_)
  rw [if_pos (by decide)]
  refine wpAny_bind (wpAny_seqItems (k1 _ _ n2 e1) e3 (wpAny_pure ?_))
  show wpAny _ A.in1 (holding [rows[i].key,rows[i].val] (dictSet d rows[i].key rows[i].val)) _ _ _
  have nk:rows[i].k∉((rows.take i).map fun r=>(r.k,r.val)).map (·.1):=by
   rw [Zn]
   intro q
   obtain ⟨r,hr1,hr2⟩:=Qi.mp q
   obtain ⟨j,hj,ej⟩:=Zq hr1
   rw [Zm] at hj
   rw [List.getElem_take] at ej
   have hj2:j < rows.length:=by lia
   have:(rows.map (·.k))[j]'(by simpa using hj2)=(rows.map (·.k))[i]'(by simpa using lt):=by
    rw [Yi,Yi,ej];exact hr2
   have:=(Uf nd).mp this
   lia
  refine wpAny_holding (wpAny_dictSet_pairs (knd:=knd) e4 hd1 (fun g2 hd2 sb2=>?_) (by rw [Qa,Zm];lia))
  rw [stored_new nk] at hd2
  have hd3:g2.DictOf knd d ((rows.take (i+1)).map fun r=>(r.k,r.val)):=by
   rw [Qg lt,Qo];exact hd2
  have k2:∀ b o,b≠d→b≠I→s.heap.get? b=some o→g2.get? b=some o:=fun b o hb1 hb2 e=>(sb2.2 b hb1).trans (k1 b o hb2 e)
  have hc:((i:Int)+1)=((i+1:Nat):Int):=by push_cast;rfl
  refine wpAny_pure ⟨plainId_quiet zds _,?_⟩
  rw [hc]
  refine ih (i+1) _ (by lia) lt ?_ ?_ (fun r hrr=>?_) hd3 fun g3 tk3 k3 hd4=>?_
  ·obtain ⟨o,q,z⟩:=st'
   exact ⟨o,(sb2.2 I (Zl hdI)).trans q,z⟩
  ·obtain ⟨o,q,z⟩:=hl
   exact ⟨o,k2 l o (Zl hdl) hlI q,z⟩
  ·obtain ⟨q1,q2⟩:=hR r hrr
   exact ⟨k2 _ _ (hr r hrr).1 (hr r hrr).2 q1,q2⟩
  ·exact hQ g3 tk3 (fun b o hb1 hb2 e=>k3 b o hb1 hb2 (k2 b o hb1 hb2 e)) hd4
theorem call {l:Addr} {rows:List (Row K)} {Q:Value→Shared→Prop} {xk:Nat} (hh:A.handled=none) (hl:s.heap.get? l=some { cls:=.type "list",data:=.seq (rows.map fun r=>Value.ref r.a).toArray xk }) (hR:∀ r∈rows,RowAt knd s.heap r) (nd:(rows.map (·.k)).Nodup) (hz:rows.length≤sizeLine)
  (h:∀ g tk,g.DictOf knd s.heap.objs.size (rows.map fun r=>(r.k,r.val))→(∀ b o,s.heap.get? b=some o→g.get? b=some o)→Q (.ref s.heap.objs.size) { s with heap:=g,toks:=tk }) :
  wpAny (model prog w) A (call (.type "dict") [.ref l]) Q E s:=by
 refine callType_codes (Q₁:=fun obj s₁=>obj=.ref s.heap.objs.size∧s₁={ s with heap:=s.heap.push { cls:=.type "dict",data:=.dict #[] } }) PySem.F.kt_called_dict (PySem.F.kt_typeCall_dict_1 _) PySem.F.entry_dict_init (kt_code_dict_new _ ⟨rfl,rfl⟩) ?_
 rintro obj s₁ ⟨rfl,rfl⟩
 have hnew:(s.heap.push { cls:=.type "dict",data:=.dict #[] }).DictOf knd s.heap.objs.size []:=Heap.DictOf.new s.heap
 refine ⟨hnew.typeIs,PySem.F.args_dict_init_2 _ _,?_⟩
 unfold Builtin.«dict.__init__»
 refine wpAny_bind ?_
 unfold Builtin.Dict.selfAndRest
 refine wpAny_bind (wpAny_notOrdered_dict hnew.typeIs (show wpAny _ _ (pure (s.heap.objs.size,[Value.ref l])) _ _ _ from wpAny_pure ?_))
 show wpAny _ _ (Builtin.Dict.updateFrom "dict.__init__" s.heap.objs.size (.ref l) [] .none) _ _ _
 unfold Builtin.Dict.updateFrom
 have hl1:(s.heap.push { cls:=.type "dict",data:=.dict #[] }).get? l=some { cls:=.type "list",data:=.seq (rows.map fun r=>Value.ref r.a).toArray xk }:=Qj _ hl
 refine wpAny_bind (wpAny_typeOf (T := "list") ⟨_,hl1,rfl⟩ ?_)
 rw [if_pos (by decide)]
 refine wpAny_bind (no_keys hl1 (by first | exact hh | (show A.handled=none;exact hh)) fun g tk kg=>?_)
 simp only [Option.isNone_none,if_true]
 refine wpAny_bind (wpAny_rule ?_)
 have ltl:l < s.heap.objs.size:=Qx hl
 have dg:g.DictOf knd s.heap.objs.size []:=by
  obtain ⟨o,es,ep,q,z⟩:=hnew
  exact ⟨o,es,ep,kg _ _ q,z⟩
 have hlg:g.IsList l (rows.map fun r=>Value.ref r.a).toArray:=⟨_,kg _ _ hl1,rfl,xk,rfl⟩
 have ltd:s.heap.objs.size < g.objs.size:=by
  obtain ⟨o,es,ep,q,z⟩:=dg
  exact Qx q
 have lts:∀ b o,s.heap.get? b=some o→b≠s.heap.objs.size∧b≠g.objs.size:=fun b o e=>⟨Zh (Qx e),Zh (Ws (Qx e) ltd)⟩
 refine wpAny_bind (wpAny_pyIter_list (s:={ s with heap:=g,toks:=tk }) hlg (wpAny_pure ⟨plainId_quiet zds _,?_⟩))
 refine loop (knd:=knd) (I:=g.objs.size) (l:=l) (by first | exact hh | (show A.handled=none;exact hh)) rows s.heap.objs.size (Zh ltd) (Wd ltl) (Zh (Ws ltl ltd)) (fun r hr=>lts r.a r.o (hR r hr).1) nd hz _ 0 _ rfl (Zd _) ⟨_,Zc _ rfl,rfl,rfl⟩ ?_ (fun r hr=>?_) ?_ fun g2 tk2 k2 hd=>?_
 ·obtain ⟨o,q,z⟩:=hlg
  exact ⟨o,Qj _ q,z⟩
 ·obtain ⟨q1,q2⟩:=hR r hr
  exact ⟨Qj _ (kg _ _ (Qj _ q1)),q2⟩
 ·exact dg.push _
 ·exact ⟨rfl,h g2 tk2 hd fun b o e=>k2 b o (lts b o e).1 (lts b o e).2 (Qj _ (kg _ _ (Qj _ e)))⟩
end
end DictR
end
section
namespace L2
open PySem PySem.Spec PyProof.Rows
section
variable {X:Cx}
abbrev RowsAt (H:Hp):List Addr→List (Str×V)→Prop:=Paired fun a p=>H a=some (.tup [.str p.1,p.2])
theorem rows_of {pins:List (Addr×Obj)} {s:Shared} {σ:St} {H:Hp} (I:Inv X pins σ H s):∀ {as:List Addr} {ps:List (Str×V)},RowsAt H as ps →
  ∃ rows:List (DictR.Row Key),rows.map (·.a)=as∧(∀ r∈rows,DictR.RowAt (zar X.prog X.w) s.heap r)∧rows.map (·.k)=ps.map (fun p=>Sum.inr p.1)∧KV (ps.map fun p=>((Sum.inr p.1:Key),p.2)) (rows.map fun r=>(r.k,r.val))
 | _,_,.nil=>⟨[],rfl,fun r hr=>(by cases hr),rfl,.nil⟩
 | a::as,p::ps,.cons h t=>by
  obtain ⟨rows,e1,e2,e3,e4⟩:=rows_of I t
  obtain ⟨_,its,r,o,q,c,n,d⟩:=I.hok a _ h
  obtain ⟨u,w',rfl,⟨tk,rfl⟩,rz⟩:=vals2 r
  refine ⟨⟨a,o,Sum.inr p.1,.str p.1 tk,w',n⟩::rows,by rw [Qk,e1],fun x hx=>?_,by rw [Qk,Qk,e3],.cons ⟨rfl,rz⟩ e4⟩
  rcases Qe.mp hx with z | z
  ·subst z
   exact ⟨q,c,d,zf7 _ _ _ _⟩
  ·exact e2 x z
theorem zgv (hc:X.calm=true):zca X (.type "dict") (fun xs H Q=>Ex3 fun (p:Addr) (as:List Addr) (ps:List (Str×V))=>Aj5 (xs=[.ref p]) (H p=some (.lst (as.map V.ref))) (RowsAt H as ps) ((ps.map (·.1)).Nodup) (∀ l,H l=none→Q (.ref l) (upd H l (.dK (ps.map fun p=>((Sum.inr p.1:Key),p.2)))))):=by
 intro pins s σ H xs us Q I r h
 obtain ⟨p,as,ps,rfl,hp,hr,nd,q⟩:=h
 obtain ⟨u,rfl,rx⟩:=vals1 r
 cases rx
 obtain ⟨hz,its,n,rv,hl,e⟩:=I.lstM hp
 obtain ⟨rows,e1,e2,e3,e4⟩:=rows_of I hr
 have eits:its=rows.map fun r=>Value.ref r.a:=by
  have e1':=e1
  clear hz hl e hp e4 e3 e2 hr e1 q
  induction rows generalizing as its with
  | nil=>subst e1';cases rv;rfl
  | cons r rs ih =>
   cases as with
   | nil=>cases e1'
   | cons a as =>
    rw [Qk] at e1' rv
    injection e1' with h1 h2
    cases rv with
    | cons r1 r2 =>
     cases r1
     rw [Qk,h1,ih _ _ r2 h2]
 subst eits
 have hlen:rows.length≤sizeLine:=by rw [Qa] at hz hl;rw [Qa] at hl;exact zd5 ‹_› ‹_›
 have ndk:(rows.map (·.k)).Nodup:=by
  rw [e3,show (fun p:Str×V=>(Sum.inr p.1:Key))=(Sum.inr:Str→Key) ∘ (fun p:Str×V=>p.1) from rfl,← Zn]
  exact List.Pairwise.map _ (fun a b z q=>z (Wm q)) nd
 refine DictR.call (knd:=zar X.prog X.w) (rows:=rows) (xk:=n) (I.ok.hd hc) e e2 ndk hlen fun g tk hd k=>?_
 have nS:(s.heap.objs.size == sysModules)=false:=beq_eq_false_iff_ne.mpr (Wd I.big)
 refine ⟨.ref _,_,I.laid (t':=tk) k (Qh _) (show zbr X.prog X.w _ g _ (.dK _) from ⟨?_,nS,_,e4,hd⟩),rfl,q _ (I.hok.fresh (Qh _))⟩
 have:=Ym e4
 rw [Qa,Qa] at this
 rw [Qa];omega
end
theorem eval_dc {env:Env} (kx vx gens scope pos):eval (.DictComp kx vx gens scope pos) env=comprehension (.DictComp kx vx gens scope pos) scope env (firstIterPos gens pos) newDict (firstAsync gens) (firstIter gens env):=rfl
theorem zh0 {prog:Program} {w:World} {A:Around} {s:Shared} {kx vx target iter:Expr} {ifs:List Expr} {scope:Scope} {pos:Pos} {it:Value} {D:Addr} {env:Env} {R:Result→Shared→Prop} (I:Nat→Shared→Prop)
  (turn:∀ n s,I n s→wpAny (model prog w) A (pyNext it) (fun r s₁=>match r with
   | none=>R (.ok .next) s₁
   | some v=>wpAny (model prog w) A (letOwnedTupleGo target it v) (fun _ s₁'=>wpAny (model prog w) A (assign target env v) (fun _ s₂ =>
     wpAny (model prog w) A (forIn ifs true fun c r=>if r=true then do let ok ← isTrue c env (eval c env);pure (ForInStep.yield ok) else pure (ForInStep.yield r)) (fun ok s₃ =>
      if ok=true then wpAny (model prog w) A (eval kx env) (fun kv s₄=>wpAny (model prog w) A (eval vx env) (fun vv s₅ =>
       wpAny (model prog w) A (dictSet D kv vv) (fun _ s₆=>∃ m,m < n∧I m s₆) (fun _ _=>False) s₅) (fun _ _=>False) s₄) (fun _ _=>False) s₃
      else ∃ m,m < n∧I m s₃) (fun _ _=>False) s₂) (fun _ _=>False) s₁') (fun _ _=>False) s₁) (fun _ _=>False) s)
  (n:Nat) (h:I n s):codeAny (model prog w) A (.compLoop (.DictComp kx vx [⟨target,iter,ifs,0⟩] scope pos) 0 it (.ref D) env) R s:=by
 refine codeAny_loop rfl I (fun n s hI=>?_) n h
 show wpAny _ A ((compTurn (.DictComp kx vx [⟨target,iter,ifs,0⟩] scope pos) 0 it (.ref D) env).onRaise (fun x=>do noteFrame x env;theTreesLotGoes x)) _ _ s
 refine wpAny_noted ?_
 rw [compTurn_dict]
 refine wpAny_bind (wpAny_standAt (wpAny_bind (wpAny_mono (turn n s hI) (fun r s₁ h₁=>?_) fun _ _ h'=>h'.elim)))
 cases r with
 | none=>exact wpAny_pure h₁
 | some v =>
  refine wpAny_bind (wpAny_mono h₁ (fun _ s₁' h₁'=>?_) fun _ _ h'=>h'.elim)
  refine wpAny_bind (wpAny_mono h₁' (fun _ s₂ h₂=>wpAny_bind (wpAny_mono h₂ (fun ok s₃ h₃=>?_) fun _ _ h'=>h'.elim)) fun _ _ h'=>h'.elim)
  cases ok with
  | false=>exact wpAny_pure ⟨rfl,h₃⟩
  | true =>
   exact wpAny_bind (wpAny_bind (wpAny_mono h₃ (fun kv s₄ h₄=>wpAny_bind (wpAny_holding (wpAny_mono h₄ (fun vv s₅ h₅=>wpAny_bind (wpAny_standAt (wpAny_holding (wpAny_mono h₅ (fun _ s₆ h₆=>wpAny_pure ⟨rfl,h₆⟩) fun _ _ h'=>h'.elim)))) fun _ _ h'=>h'.elim))) fun _ _ h'=>h'.elim))
section
variable {X:Cx} {sc:Scope} {M:List Str} {ix:List (Option Nat)} {pins:List (Addr×Obj)} {σ:St} {H:Hp} {s:Shared}
def rDC (g:TG) (tc:TT) (tk tv:TE) (Q:VK) (J:It) (τ:St) (H1:Hp):Prop:=∃ W:Nat→Nat→List (Key×V)→St→Hp→Prop,(∃ m,W 0 m [] τ H1)∧∀ i m ys τ H,W i m ys τ H →
 (J.stop i H∧∀ D,H D=none→Q (.ref D) (upd H D (.dK ys))) ∨
 (J.go i H∧ys.length < sizeLine∧∀ x H',J.yld i H x H'→g x τ H' fun τ2 H2=>tc τ2 H2 fun b H3=>if b=true then tk τ2 H3 fun kv H4=>tv τ2 H4 fun y H5=>∃ k,kv=kV k∧∃ m',m' < m∧W (i+1) m' (putK ys k y) τ2 H5 else ∃ m',m' < m∧W (i+1) m' ys τ2 H3)
def tDC (ix:List (Option Nat)) (wi:TI) (g:TG) (tc:TT) (tk tv:TE):TE:=fun σ H Q=>wi σ H fun J H1=>rDC g tc tk tv Q J (inner ix σ) H1
theorem dc_block {tg kx vx iter:Expr} {ifs:List Expr} {pos:Pos} {g:TG} {tc:TT} {tk tv:TE} {fp:List Addr} {it:Addr} {tn:Nat→Heap→Prop} {J:It} {Q:VK} {RR:Value→Addr→Result→Shared→Prop} {E:Value→Shared→Prop}
  (B:Blk X sc M ix) (hc:X.calm=true)
  (hg:∀ C ex s H,PG (zcf X sc M C pins ex s H) tg g) (ht:∀ C ex s H,PTs (zcf X sc M C pins ex s H) ifs tc) (hk:∀ C ex s H,PE (zcf X sc M C pins ex s H) kx tk) (he:∀ C ex s H,PE (zcf X sc M C pins ex s H) vx tv)
  (I:Inv X pins σ H s) (T:Turn X.prog X.w X.K tg J fp it tn) (h0:tn 0 s.heap) (hf:∀ b∈fp,FpOk X pins H b) (q:rDC g tc tk tv Q J (inner ix σ) H)
  (hRR:∀ D C m ys H' s',Inv X pins σ (upd H' D (.dK ys)) s'→Q (.ref D) (upd H' D (.dK ys))→s'.heap.Ns C m→upd H' D (.dK ys) C=none→s.heap.objs.size < C→RR (.ref D) C (.ok .next) s') :
  wpAny (model X.prog X.w) X.A newDict (fun acc s₃=>wpAny (model X.prog X.w) X.A (newFunctionEnv sc X.env.globals (clOf sc X.env) [] X.env.qual none .none (some X.env)) (fun cenv s₄ =>
   codeAny (model X.prog X.w) X.A (.compStart (.DictComp kx vx [⟨tg,iter,ifs,0⟩] sc pos) 0 (.ref it) acc { cenv with scope:=relabel sc X.env }) (RR acc cenv.locals) s₄) E s₃) E s:=by
 refine wpAny_newObj_type (wpAny_newFunctionEnv B.nocell (by intro y hy;simp at hy) (fun h₁ hns₁ hsb₁=>?_) B.kind)
 dsimp only at hns₁ hsb₁ ⊢
 generalize hD:s.heap.objs.size=D at hns₁ hsb₁ ⊢
 generalize hH2:s.heap.push { cls:=.type "dict",dict:=none,data:=.dict #[] }=g2 at hns₁ hsb₁ ⊢
 have hC:g2.objs.size=D+1:=by rw [← hH2,Ja,hD]
 have k2:∀ b o,s.heap.get? b=some o→g2.get? b=some o:=fun b o e=>by rw [← hH2];exact Qj _ e
 have I3:Inv X pins σ H { s with heap:=g2 }:=I.kept (t':=s.toks) k2
 have HD:H D=none:=I.hok.fresh (by rw [hD];exact Qh _)
 have fD:FpOk X pins H D:=I.fpOk (by rw [hD];exact Qh _) HD
 have D2:g2.get? D=some { cls:=.type "dict",dict:=none,data:=.dict #[] }:=by rw [← hH2,← hD];exact Zc _ rfl
 have nS:(D == sysModules)=false:=beq_eq_false_iff_ne.mpr (by rw [← hD];exact Wd I.big)
 have k1:∀ b o,g2.get? b=some o→h₁.get? b=some o:=fun b o e=>by
  have hb:b≠g2.objs.size:=Zh (Qx e)
  exact (hsb₁.2 b hb).trans (Qj _ e)
 have DN:h₁.DictOf (zar X.prog X.w) D []:=by
  have q:g2.DictOf (zar X.prog X.w) D []:=by rw [← hH2,← hD];exact Heap.DictOf.new s.heap
  obtain ⟨o,es,ep,e,r⟩:=q
  exact ⟨o,es,ep,k1 _ _ e,r⟩
 have fpx:∀ b∈D::fp,FpOk X pins H b:=fun b hb=>by
  rcases Qe.mp hb with e | e
  ·rw [e];exact fD
  ·exact hf b e
 have fplt:∀ b∈D::fp,b < g2.objs.size:=fun b hb=>by
  rcases Qe.mp hb with e | e
  ·rw [e,hC];exact Wy _
  ·obtain ⟨o,q,_⟩:=T.obj _ _ h0 b e
   exact Qx (k2 b o q)
 have fpD:D∉fp:=fun hm=>by
  obtain ⟨o,q,_⟩:=T.obj _ _ h0 D hm
  have:=Qx q
  rw [hD] at this
  exact Wc _ this
 generalize hX':zcf X sc M g2.objs.size pins (D::fp) { s with heap:=g2 } H=Y
 have IY:Inv Y [] (inner ix σ) H { s with heap:=h₁,toks:=s.toks+([]:List (Str×Value)).length }:=by
  rw [← hX']
  exact inv_blk B I3 fpx fplt rfl hns₁ k1 rfl rfl
 have Yg:=hX' ▸ hg g2.objs.size (D::fp) { s with heap:=g2 } H
 have Yt:=hX' ▸ ht g2.objs.size (D::fp) { s with heap:=g2 } H
 have Yk:=hX' ▸ hk g2.objs.size (D::fp) { s with heap:=g2 } H
 have Ye:=hX' ▸ he g2.objs.size (D::fp) { s with heap:=g2 } H
 have eP:Y.prog=X.prog:=by rw [← hX'];rfl
 have eW:Y.w=X.w:=by rw [← hX'];rfl
 have eK:Y.K=X.K:=by rw [← hX'];rfl
 have eA:Y.A=X.A:=by rw [← hX'];rfl
 have eC:Y.calm=true:=by rw [← hX'];exact hc
 have eE:Y.env=compEnvC sc (clOf sc X.env) g2.objs.size X.env:=by rw [← hX'];rfl
 have eX:Y.xe=fun _ _=>False:=by rw [← hX'];rfl
 have eEx:Y.ex=D::fp:=by rw [← hX'];rfl
 have eFs:Y.fs=frs X.stack:=by rw [← hX'];rfl
 have ePn:Y.pn=X.pn++pins:=by rw [← hX'];rfl
 have eL:Y.env.locals=g2.objs.size:=by rw [eE];rfl
 have eH0:Y.H₀=H:=by rw [← hX'];rfl
 have eS0:Y.s₀={ s with heap:=g2 }:=by rw [← hX'];rfl
 have fY:∀ {H':Hp} {pl:List (Addr×Obj)} {b:Addr},b∈D::fp→H' b=none→(∀ p∈pl,p.1≠b)→FpOk Y pl H' b:=fun {H' pl b} hb hn hp=>by
  obtain ⟨f0,f1,f2,f3,f4,f5⟩:=fpx b hb
  refine ⟨hn,?_,?_,.inl (by rw [eEx];exact hb),IY.ok.exf b (by rw [eEx];exact hb) |>.2,fun p hp'=>?_⟩
  ·rw [eL];exact Zh (fplt b hb)
  ·rw [eFs]
   intro z
   rcases Qe.mp (I3.stkSub b z) with q | q
   ·exact f1 q
   ·exact f2 q
  ·rw [ePn] at hp'
   rcases Ql.mp hp' with z | z
   ·exact f5 p z
   ·exact hp p z
 obtain ⟨W,⟨m0,w0⟩,turn⟩:=q
 have loop:∀ sN:Shared,sN={ s with heap:=h₁,toks:=s.toks+([]:List (Str×Value)).length } →
   codeAny (model X.prog X.w) X.A (.compLoop (.DictComp kx vx [⟨tg,iter,ifs,0⟩] sc pos) 0 (.ref it) (.ref D) (compEnvC sc (clOf sc X.env) g2.objs.size X.env)) (RR (.ref D) g2.objs.size) sN:=by
  rintro sN rfl
  refine zh0 (fun n s'=>Ex5 fun i τ H' ys vs=>Aj7 (Inv Y [] τ H' s') (tn i s'.heap) (∀ b∈D::fp,H' b=none) (s'.heap.DictOf (zar X.prog X.w) D vs) (KV ys vs) (ys.length≤sizeLine) (W i n ys τ H')) ?_ m0
   ⟨0,inner ix σ,H,[],[],IY,T.keep _ _ _ h0 fun b _ o e=>k1 b o (k2 b o e),fun b hb=>(fpx b hb).1,DN,.nil,Zd _,w0⟩
  rintro n s5 ⟨i,τ,H5,ys,vs,I5,t5,n5,dd5,v5,z5,w5⟩
  obtain ⟨o5,es5,ep5,d5,dr5⟩:=id dd5
  have nc5:∀ v,o5.data≠.cell v:=fun v z=>by
   obtain ⟨_,q,_⟩:=dr5
   rw [q] at z;cases z
  have oD:∀ b∈[D],∃ o,s5.heap.get? b=some o∧∀ v,o.data≠.cell v:=fun b hb=>by
   rw [Qd.mp hb]
   exact ⟨_,d5,nc5⟩
  have I5':Inv Y ([]++zco [D] s5.heap) τ H5 s5:=I5.pinned (fun b hb=>fY (by rw [Qd.mp hb];exact Qb) (n5 b (by rw [Qd.mp hb];exact Qb)) (by simp)) oD
  have pD:∀ p∈zco [D] s5.heap,p.1=D∧p.2=o5:=fun p hp=>by
   obtain ⟨e1,e2⟩:=zf1 hp
   have e1':p.1=D:=Qd.mp e1
   rw [e1',d5] at e2
   exact ⟨e1',(Qm e2).symm⟩
  have fN:∀ {H':Hp},(∀ b∈fp,H' b=none)→∀ b∈fp,FpOk Y ([]++zco [D] s5.heap) H' b:=fun hn b hb=>fY (Qf _ hb) (hn b hb) fun p hp z=>by
   rw [Jt] at hp
   rw [(pD p hp).1] at z
   exact fpD (z ▸ hb)
  rcases turn i n ys τ H5 w5 with ⟨stop,qn⟩ | ⟨go,zl,step⟩
  ·have h6:=T.done Y eP eW eK eC i _ s5 τ H5 (fun _ _=>False) I5' (fN fun b hb=>n5 b (Qf _ hb)) t5 stop
   rw [eA] at h6
   refine thn h6 fun r s6 ⟨hr,I6⟩=>?_
   subst hr
   have d6:s6.heap.get? D=some o5:=by
    have hp:=zb1 (fp:=[D]) (Qd.mpr rfl) d5
    exact (I6.pin (D,_) (Qs _ hp)).1
   have H5D:H5 D=none:=n5 D Qb
   obtain ⟨mL,nL,_⟩:=I6.loc
   rw [eL] at nL
   have CD:g2.objs.size≠D:=by rw [hC];exact Nat.succ_ne_self _
   refine hRR D _ mL ys H5 s6 ?_ (qn D H5D) nL ?_ (by rw [hC,hD];exact Wy _)
   ·have u6:=I6.base
    rw [eFs,eEx,eH0,eS0] at u6
    refine I3.call' (ch:=D::fp) (I6.os.trans (by rw [eS0])) ⟨u6.keep,u6.slot,fun b o e n hx=>?_,u6.there,fun b xs e=>?_,fun b o u e=>?_,fun b ps e=>?_⟩ ?_ I6.bare fun b hb=>?_
    ·rw [zad (fun z=>hx (by rw [z];exact Qb))];exact u6.free b o e n hx
    ·rw [zad (zaa e HD)];exact u6.tups b xs e
    ·rw [zad (zaa e HD)];exact u6.frzs b o u e
    ·rw [zad (zaa e HD)];exact u6.tbls b ps e
    ·have ok6:=I6.hok
     rw [eP,eW] at ok6
     intro b u e
     by_cases hb:b=D
     ·subst hb
      rw [zac] at e
      cases e
      exact ⟨z5,nS,vs,v5,o5,es5,ep5,d6,dr5⟩
     ·rw [zad hb] at e
      exact (ok6 b u e).stay (fun c v _ q=>q) (fun c q=>by rw [zad (zaa q H5D)];exact q) fun c xs q=>by rw [zad (zaa q H5D)];exact q
    ·obtain ⟨f0,f1,f2,f3,f4,f5⟩:=fpx b hb
     exact ⟨f3,f1,f4,f5⟩
   ·rw [zad CD]
    have:=I6.free
    rw [eL] at this
    exact this
  ·have h6:=T.item Y eP eW eK eC i _ s5 τ H5 (fun _ _=>False) I5' (fN fun b hb=>n5 b (Qf _ hb)) t5 go
   rw [eA] at h6
   refine thn h6 fun r s6 ⟨u,hr,h7⟩=>?_
   subst hr
   refine thn h7 fun _ s7 ⟨x,H7,I7,r7,y7,t7,n7⟩=>?_
   have I7':=I7.pinned (fN n7) (T.obj _ _ t7)
   have h8:=Yg _ s7 τ H7 x u _ I7' r7 (step x H7 y7)
   rw [eP,eW,eA,eX,eE] at h8
   refine thn h8 fun _ s8 ⟨τ8,H8,I8,q8⟩=>?_
   have h9:=Yt _ s8 τ8 H8 _ I8 q8
   rw [eP,eW,eA,eX,eE] at h9
   refine thn h9 fun ok s9 ⟨H9,I9,q9⟩=>?_
   have again:∀ {τ':St} {H':Hp} {s':Shared},Inv Y (([]++zco [D] s5.heap)++zco fp s7.heap) τ' H' s'→s'.heap.get? D=some o5∧H' D=none∧tn (i+1) s'.heap∧∀ b∈fp,H' b=none:=fun {τ' H' s'} I'=>by
    have pp:∀ {b:Addr} {o:Obj},b∈fp→s7.heap.get? b=some o→s'.heap.get? b=some o∧H' b=none:=fun {b o} hb e =>
     let z:=I'.pin (b,o) (Qs _ (Qs _ (zb1 hb e)))
     ⟨z.1,z.2.1⟩
    have hp:=zb1 (fp:=[D]) (Qd.mpr rfl) d5
    have z:=I'.pin (D,_) (Qs _ (Qu _ hp))
    refine ⟨z.1,z.2.1,T.keep _ _ _ t7 fun b hb o e=>(pp hb e).1,fun b hb=>?_⟩
    obtain ⟨o,e,_⟩:=T.obj _ _ t7 b hb
    exact (pp hb e).2
   have drop:∀ {pl:List (Addr×Obj)} {τ':St} {H':Hp} {s':Shared},Inv Y pl τ' H' s'→Inv Y [] τ' H' s':=fun I'=>I'.pins_of (by simp)
   cases ok with
   | false =>
    rw [if_neg (by decide)] at q9 ⊢
    obtain ⟨m',hm,w9⟩:=q9
    obtain ⟨d9,H9D,t9,n9⟩:=again I9
    exact ⟨m',hm,i+1,τ8,H9,ys,vs,drop I9,t9,fun b hb=>(Qe.mp hb).elim (fun e=>e ▸ H9D) (n9 b),⟨o5,es5,ep5,d9,dr5⟩,v5,z5,w9⟩
   | true =>
    rw [if_pos rfl] at q9 ⊢
    have h10:=Yk _ s9 τ8 H9 _ I9 q9
    rw [eP,eW,eA,eX,eE] at h10
    refine thn h10 fun kv s10 ⟨kw,H10,I10,r10,q10⟩=>?_
    have h11:=Ye _ s10 τ8 H10 _ I10 q10
    rw [eP,eW,eA,eX,eE] at h11
    refine thn h11 fun y s11 ⟨yv,H11,I11,r11,kk,ek,m',hm,w11⟩=>?_
    subst ek
    obtain ⟨d11,H11D,t11,n11⟩:=again I11
    have dd11:s11.heap.DictOf (zar X.prog X.w) D vs:=⟨o5,es5,ep5,d11,dr5⟩
    have hkey:(zar X.prog X.w).is kk kv=true:=by
     cases kk with
     | inl i=>obtain ⟨t,rfl⟩:=r10;exact keyIs_int i t
     | inr x=>obtain ⟨t,rfl⟩:=r10;exact keyIs_str x t
    refine wpAny_dictSet_pairs (knd:=zar X.prog X.w) hkey dd11 (fun h' hd' sb=>?_) (by rw [← Ym v5];assumption)
    have kkp:∀ b o,b≠D→s11.heap.get? b=some o→h'.get? b=some o:=fun b o hb e=>(sb.2 b hb).trans e
    obtain ⟨g0,g1,g2',g3,g4,g5⟩:=fY (pl:=[]) (H':=H11) (b:=D) Qb H11D (by simp)
    have I12:=(drop I11).turned (h':=h') (t':=s11.toks+1) (it:=D) kkp H11D g1 g3 g4 g5
    refine ⟨m',hm,i+1,τ8,H11,putK ys kk yv,stored vs kk y,I12,T.keep _ _ _ t11 fun b hb o e=>kkp b o (fun z=>fpD (z ▸ hb)) e,fun b hb=>(Qe.mp hb).elim (fun e=>e ▸ H11D) (n11 b),hd',v5.put kk r11,?_,w11⟩
    unfold putK
    split
    ·rw [Qa];exact z5
    ·rw [Qw,Wp];assumption
 exact codeAny_compStart_dict (loop _ rfl) (T.self _ 0 _ _ _ (T.keep _ _ _ h0 fun b _ o e=>k1 b o (k2 b o e)) (loop _ rfl))
theorem pe_dc {tg kx vx iter:Expr} {ifs:List Expr} {pos:Pos} {wi:TI} {g:TG} {tc:TT} {tk tv:TE} (B:Blk X sc M ix) (hc:X.calm=true) (hi:PI X tg iter wi)
  (hg:∀ C pins ex s H,PG (zcf X sc M C pins ex s H) tg g) (ht:∀ C pins ex s H,PTs (zcf X sc M C pins ex s H) ifs tc) (hk:∀ C pins ex s H,PE (zcf X sc M C pins ex s H) kx tk) (he:∀ C pins ex s H,PE (zcf X sc M C pins ex s H) vx tv)
  (hs:∀ x,foldedSetIterable iter X.env x=pure x:=by intro _;rfl):PE X (.DictComp kx vx [⟨tg,iter,ifs,0⟩] sc pos) (tDC ix wi g tc tk tv):=by
 intro pins s σ H Q I h
 rw [eval_dc]
 refine wpAny_comprehension_free (use:=none) rfl hs (zb7 (B.clos I)) B.kind B.names (thn (hi pins s σ H _ I h) fun v s1 h1=>thn h1 fun itv s2 h2=>?_)
 obtain ⟨it,fp,tn,J,H2,e,I2,T,st2,f2,q⟩:=h2
 subst e
 refine dc_block (RR:=fun acc C=>compPost (model X.prog X.w) X.A X.xe none (EP X pins σ Q) acc C) B hc (hg · pins) (ht · pins) (hk · pins) (he · pins) I2 T st2 f2 q ?_
 intro D C m ys H' s' I' q' hn hC hlt
 refine ⟨m,hn,fun h' hs'=>⟨.ref D,_,I'.letgo hn hC I2.lt I2.cl_lt I2.pin_lt I2.sz hlt hs',rfl,q'⟩⟩
theorem ps_dc {i:Nat} {y:Str} {tg kx vx iter:Expr} {ifs:List Expr} {pos spos py:Pos} {wi:TI} {g:TG} {tc:TT} {tk tv:TE} (hN:X.N.Nodup) (hi':X.N[i]?=some y) (hy:X.env.scope.names.lookup y=some .local)
  (B:Blk X sc M ix) (hc:X.calm=true) (hi:PI X tg iter wi)
  (hg:∀ C pins ex s H,PG (zcf X sc M C pins ex s H) tg g) (ht:∀ C pins ex s H,PTs (zcf X sc M C pins ex s H) ifs tc) (hk:∀ C pins ex s H,PE (zcf X sc M C pins ex s H) kx tk) (he:∀ C pins ex s H,PE (zcf X sc M C pins ex s H) vx tv)
  (hsw:swapsWith (.DictComp kx vx [⟨tg,iter,ifs,0⟩] sc pos) (some (.Name y py)) spos.line X.env=pure true)
  (hs:∀ x,foldedSetIterable iter X.env x=pure x:=by intro _;rfl):PS X (.Assign [.Name y py] (.DictComp kx vx [⟨tg,iter,ifs,0⟩] sc pos) spos) (tAsg (tDC ix wi g tc tk tv) (gName i)):=by
 intro pins s σ H D' I h
 rw [exec_Assign_Name_used _ _ _ _ hsw]
 refine wpAny_bind (wpAny_standAt (wpAny_bind ?_))
 show wpAny _ X.A (do let _ ← comprehension (.DictComp kx vx [⟨tg,iter,ifs,0⟩] sc pos) sc X.env _ newDict false (eval iter X.env) (some (assign (.Name y py) X.env))) _ _ s
 refine wpAny_bind (wpAny_mono (wpAny_comprehension_free (use:=some (assign (.Name y py) X.env)) (Q:=fun _ s'=>SP X pins D' .next s') rfl hs (zb7 (B.clos I)) B.kind B.names
  (thn (hi pins s σ H _ I h) fun v s1 h1=>thn h1 fun itv s2 h2=>?_)) (fun _ s' hq=>wpAny_pure (wpAny_pure hq)) fun _ _ e=>e)
 obtain ⟨it,fp,tn,J,H2,e,I2,T,st2,f2,q⟩:=h2
 subst e
 refine dc_block (RR:=fun acc C=>compPost (model X.prog X.w) X.A X.xe (some (assign (.Name y py) X.env)) (fun _ s'=>SP X pins D' .next s') acc C) B hc (hg · pins) (ht · pins) (hk · pins) (he · pins) I2 T st2 f2 q ?_
 intro D C m ys H' s' I' q' hn hC hlt
 show wpAny _ X.A (assign (.Name y py) X.env (.ref D)) _ _ s'
 refine wpAny_assign_Name (zfp I' hN hi' (.inl hy) (v:=.ref D) rfl (fun s'' I'' ⟨a,sb,ha⟩=>?_) (.inr hy))
 have aC:C≠a:=by
  rcases ha with z | z
  ·rw [z];exact Wd (Ws I2.lt hlt)
  ·exact Wd (Ws (I2.cl_lt _ _ z) hlt)
 have hn2:=hn.sameBut sb aC
 exact ⟨m,hn2,fun h' hs'=>⟨_,_,I''.letgo hn2 hC I2.lt I2.cl_lt I2.pin_lt I2.sz hlt hs',q'⟩⟩
end
section
variable {prog:Program} {w:World} {A:Around} {s:Shared} {elt tg1 it1 target iter:Expr} {ifs:List Expr} {scope:Scope} {pos:Pos} {it acc:Value} {env:Env} {R:Result→Shared→Prop}
end
section
variable {X:Cx} {sc:Scope} {M:List Str} {ix:List (Option Nat)} {pins:List (Addr×Obj)} {σ:St} {H:Hp} {s:Shared}
end
end L2
end
section
namespace RawD
open PySem PyProof.Rows PySem.W
def At (h:Heap) (a:Addr) (es:Array DictEntry) (ep:Nat):Prop:=∃ o,h.get? a=some o∧o.ExactDict∧o.data=.dict es ep
theorem At.typeIs {s:Shared} {a:Addr} {es:Array DictEntry} {ep:Nat} (x:At s.heap a es ep):s.TypeIs (.ref a) "dict" := let ⟨o,e,c,_⟩:=x;⟨o,e,c.1⟩
theorem At.keep {h g:Heap} {a:Addr} {es:Array DictEntry} {ep:Nat} (x:At h a es ep) (k:∀ o,h.get? a=some o→g.get? a=some o):At g a es ep:=let ⟨o,e,r⟩:=x;⟨o,k _ e,r⟩
section
variable {prog:Program} {w:World} {A:Around} {E:Value→Shared→Prop} {s:Shared} {d:Addr} {es:Array DictEntry} {ep:Nat}
theorem iter {Q:Value→Shared→Prop} (nS:(d == sysModules)=false) (m:At s.heap d es ep)
  (q:Q (.ref s.heap.objs.size) { s with heap:=s.heap.push { cls:=.type "dict_keyiterator",data:=.fields #[.ref d,.int 0 0,.int es.size 0,.int ep 0] } }):wpAny (model prog w) A (pyIter (.ref d)) Q E s:=by
 obtain ⟨o,ho,hc,hd⟩:=id m
 refine wpAny_pyIter_slot m.typeIs F.slot_dict_iter (wpAny_call_entry F.slot_dict_iter m.typeIs F.entry_dict_iter ?_ (F.args_dict_iter_1 _))
 unfold Builtin.«dict.__iter__»
 refine wpAny_bind ?_
 unfold Builtin.Dict.dictSlotNone
 refine wpAny_bind (wpAny_notOrdered_dict m.typeIs (show wpAny _ _ (pure (Value.ref d)) _ _ s from wpAny_pure ?_))
 show wpAny _ _ (Builtin.Dict.showsAll d >>= _) _ _ s
 unfold Builtin.Dict.showsAll
 rw [if_neg (by rw [nS];exact Zb)]
 refine wpAny_bind (wpAny_pure (wpAny_bind (wpAny_dictEntries ho hd (wpAny_bind (wpAny_dictEpoch ho hd ?_)))))
 refine wpAny_bind (wpAny_newObj_type (wpAny_pure ⟨_,rfl, "dict_keyiterator",_,⟨_,Zc _ rfl,rfl⟩,Wz.lookup,?_⟩))
 simpa [rawInt] using q
theorem item {j:Addr} {i:Nat} {Q:Option Value→Shared→Prop} (st:s.heap.IsKeyIter j d i es.size ep) (m:At s.heap d es ep) (hi:i < es.size)
  (hQ:∀ g,g.IsKeyIter j d (i+1) es.size ep→Heap.SameBut j s.heap g→Q (some es[i].key) { s with heap:=g }):wpAny (model prog w) A (pyNext (.ref j)) Q E s:=by
 obtain ⟨o,ho,hc,hd⟩:=id st
 obtain ⟨od,hod,hcd,hdd⟩:=id m
 unfold pyNext
 refine wpAny_bind (wpAny_attempt (wpAny_callSpecial?_slot (name:=Str.ofString "__next__") st.typeIs Wz (wpAny_call_entry Wz st.typeIs F.entry_dict_keyiterator_next ?_ (F.args_dict_keyiterator_next_1 _))))
 refine wpAny_bind (wpAny_pure (wpAny_bind (wpAny_bind ?_)))
 first | refine wpAny_bind (wpAny_typeNameOfWhole_keyiter st.typeIs (wpAny_pure ?_)) | refine wpAny_bind (wpAny_typeNameOf_keyiter st.typeIs (wpAny_pure ?_))
 refine wpAny_bind (wpAny_fieldsOf ho hd ?_)
 have hown:Builtin.Dict_items.ownsTuple "dict_keyiterator" = false:=by decide
 simp only [hown,Ke,if_false]
 show wpAny _ _ (if (Value.ref d == .none)=true then _ else _) _ _ s
 rw [if_neg (show ¬ ((Value.ref d == .none)=true) from Zb)]
 refine wpAny_bind (wpAny_pure (wpAny_bind (wpAny_dictEntries hod hdd ?_)))
 rw [if_neg (by simp)]
 refine wpAny_bind (wpAny_pure (wpAny_bind (wpAny_dictEpoch hod hdd ?_)))
 rw [if_neg (by simp)]
 refine wpAny_pure ?_
 simp only [show ¬ ((i:Int) < 0) from by lia,if_false,Wj,Kg hi]
 refine wpAny_bind ?_
 first | refine wpAny_bind (wpAny_typeNameOfWhole_keyiter st.typeIs (wpAny_pure ?_)) | refine wpAny_bind (wpAny_typeNameOf_keyiter st.typeIs (wpAny_pure ?_))
 refine wpAny_bind (wpAny_isOneOf_keyiter st.typeIs ?_)
 show wpAny _ _ (setField (.ref j) 1 (rawInt ((i:Int)+1)) >>= _) _ _ s
 refine wpAny_bind (wpAny_setField ho hd (by simp) ?_)
 have st':(s.heap.update j (Obj.mapFields (·.setIfInBounds 1 (rawInt ((i:Int)+1))))).IsKeyIter j d (i+1) es.size ep :=
  ⟨_,Uu _ ho (Obj.isFreed_of_fields (Kn hd _)),(Obj.cls_mapFields ..).trans hc,by rw [Kn hd];simp [rawInt]⟩
 refine wpAny_bind (wpAny_holding (wpAny_bind (wpAny_isOneOf_keyiter (s:={ s with heap:=s.heap.update j (Obj.mapFields (·.setIfInBounds 1 (rawInt ((i:Int)+1)))) }) st'.typeIs ?_)))
 show wpAny _ _ (pure es[i].key) _ _ _
 exact wpAny_pure (wpAny_pure ⟨_,rfl,wpAny_pure (hQ _ st' (Kj ..))⟩)
theorem done {j:Addr} {i:Nat} {Q:Option Value→Shared→Prop} (hh:A.handled=none) (st:s.heap.IsKeyIter j d i es.size ep) (m:At s.heap d es ep) (hi:es.size≤i)
  (hQ:∀ g,Heap.ExtBut j s.heap g→Q none { s with heap:=g }):wpAny (model prog w) A (pyNext (.ref j)) Q E s:=by
 obtain ⟨o,ho,hc,hd⟩:=id st
 obtain ⟨od,hod,hcd,hdd⟩:=id m
 unfold pyNext
 refine wpAny_bind (wpAny_attempt (wpAny_callSpecial?_slot (name:=Str.ofString "__next__") st.typeIs Wz (wpAny_call_entry Wz st.typeIs F.entry_dict_keyiterator_next ?_ (F.args_dict_keyiterator_next_1 _))))
 refine wpAny_bind (wpAny_pure (wpAny_bind (wpAny_bind ?_)))
 first | refine wpAny_bind (wpAny_typeNameOfWhole_keyiter st.typeIs (wpAny_pure ?_)) | refine wpAny_bind (wpAny_typeNameOf_keyiter st.typeIs (wpAny_pure ?_))
 refine wpAny_bind (wpAny_fieldsOf ho hd ?_)
 have hown:Builtin.Dict_items.ownsTuple "dict_keyiterator" = false:=by decide
 simp only [hown,Ke,if_false]
 show wpAny _ _ (if (Value.ref d == .none)=true then _ else _) _ _ s
 rw [if_neg (show ¬ ((Value.ref d == .none)=true) from Zb)]
 refine wpAny_bind (wpAny_pure (wpAny_bind (wpAny_dictEntries hod hdd ?_)))
 rw [if_neg (by simp)]
 refine wpAny_bind (wpAny_pure (wpAny_bind (wpAny_dictEpoch hod hdd ?_)))
 rw [if_neg (by simp)]
 refine wpAny_pure ?_
 simp only [show ¬ ((i:Int) < 0) from by lia,if_false,Wj,Array.getElem?_eq_none hi]
 refine wpAny_bind ?_
 first | refine wpAny_bind (wpAny_typeNameOfWhole_keyiter st.typeIs (wpAny_pure ?_)) | refine wpAny_bind (wpAny_typeNameOf_keyiter st.typeIs (wpAny_pure ?_))
 show wpAny _ _ (setField (.ref j) 0 .none >>= _) _ _ s
 refine wpAny_bind (wpAny_setField ho hd (by simp) ?_)
 show wpAny _ _ (newExc (.type "StopIteration") [] >>= _) _ _ _
 refine wpAny_bind ?_
 simp only [newExc,newTuple]
 refine wpAny_bind (wpAny_newObj_type (wpAny_bind (m:=firstArgMember _ _) (wpAny_of_eq (a:=Value.none) (by first | rfl | (simp only [firstArgMember];rfl)) (wpAny_newObj_type ?_ (by size_fits)))) (by size_fits))
 simp only [raiseNew]
 refine wpAny_bind (wpAny_handled ?_)
 first | rw [show A.in1.handled=none from hh] | rw [hh]
 refine wpAny_bind (wpAny_pure (wpAny_throw ?_))
 refine wpAny_bind (wpAny_isInstance (T := "StopIteration") (b:=true) ⟨_,Zc _ rfl,rfl⟩ isSubtype_stop ?_)
 exact wpAny_pure (hQ _ (((Kj ..).extBut.push _).push _))
theorem src (nS:(d == sysModules)=false):KdlSrc prog w "dict" d d es.size (fun i v=>∃ e,es[i]?=some e∧v=e.key) (fun h=>At h d es ep) where
 type:=fun _ m=>m.typeIs
 there:=fun _ m=>let ⟨_,e,_⟩:=m;⟨Qx e,Qx e⟩
 keep:=fun _ _ m k=>m.keep fun o e=>k d (.inl rfl) o e
 notList:=by decide
 notTuple:=by decide
 hint:=fun _ _ _ _ m q=>kdl_hint_dict m.typeIs q
 iter:=fun A s hh m=>by
  have lt:d < s.heap.objs.size:=let ⟨_,e,_⟩:=m;Qx e
  refine ⟨_,fun i h=>h.IsKeyIter s.heap.objs.size d i es.size ep∧At h d es ep,fun _ _ q=>iter nS m q,?_,⟨_,Zc _ rfl,rfl,rfl⟩,m.keep fun o e=>Qj _ e⟩
  exact
   {sub:=fun b hb=>by simp at hb;simp [hb]
    frame:=fun i h g st k=>⟨st.1.at fun o e=>k _ (by simp) o e,st.2.keep fun o e=>k d (by simp) o e⟩
    item:=fun i s' Q E hi st hQ=>item st.1 st.2 hi fun g a b=>hQ _ g s'.toks ⟨_,Kg hi,rfl⟩ ⟨a,st.2.keep fun o e=>(b.2 d (Zh lt)).trans e⟩ fun c o hc e=>(b.2 c (fun z=>hc (by simp [z]))).trans e
    done:=fun s' Q E st hQ=>done hh st.1 st.2 (Qh _) fun g a=>hQ g s'.toks fun c o hc e=>a c o (fun z=>hc (by simp [z])) e
    self:=fun _ _ _ _ st q=>wpAny_pyIter_keyiter st.1 q }
end
end RawD
namespace L2
open PySem PySem.Spec PyProof.Rows Tm
def kP (q:Str×Str):List Key:=[Sum.inr q.1,Sum.inr q.2]
abbrev za7 (H:Hp):List Addr→List (Str×Str)→Prop:=Paired fun b r=>H b=some (.tup [.str r.1,.str r.2])
section
variable {X:Cx}
theorem zd2 {α β:Type} {R:α→β→Prop} {as as':List α} (p:as'.Perm as):∀ {bs:List β},Paired R as bs→∃ bs',bs'.Perm bs∧Paired R as' bs':=by
 induction p with
 | nil=>intro bs r;cases r;exact ⟨[],.nil,.nil⟩
 | cons x q ih =>
  intro bs r
  cases r with
  | cons r1 r2 =>
   obtain ⟨zs,h1,h2⟩:=ih r2
   exact ⟨_::zs,h1.cons _,.cons r1 h2⟩
 | swap x y l =>
  intro bs r
  cases r with
  | cons r1 r2 =>
   cases r2 with
   | cons r3 r4=>exact ⟨_,List.Perm.swap ..,.cons r3 (.cons r1 r4)⟩
 | trans _ _ ih1 ih2 =>
  intro bs r
  obtain ⟨zs,h1,h2⟩:=ih2 r
  obtain ⟨zs',h3,h4⟩:=ih1 h2
  exact ⟨zs',h3.trans h1,h4⟩
theorem pairs_mem {H:Hp} {as:List Addr} {qs:List (Str×Str)} (r:za7 H as qs) {a:Addr} (ha:a∈as):∃ r:Str×Str,H a=some (.tup [.str r.1,.str r.2]):=by
 induction r with
 | nil=>cases ha
 | cons h t ih =>
  rcases Qe.mp ha with zz | zz
  ·subst zz;exact ⟨_,h⟩
  ·exact ih zz
theorem zgt (hc:X.calm=true):zca X (.builtin "sorted") (fun xs H Q=>Ex3 fun (d:Addr) (kvs:List (List Key×V)) (qs:List (Str×Str))=>Aj4 (xs=[.ref d]) (H d=some (.dT kvs)) (kvs.map (·.1)=qs.map kP) (∀ (l:Addr) (as:List Addr) (ws:List (Str×Str)),H l=none→ws.Perm qs→za7 H as ws→Q (.ref l) (upd H l (.lst (as.map V.ref))))):=by
 intro pins s σ H xs us Q I r h
 obtain ⟨d,kvs,qs,rfl,hq,ek,q⟩:=h
 obtain ⟨u,rfl,rx⟩:=vals1 r
 cases rx
 obtain ⟨z,lo,ts,rk,o,es,ep,e1,e2,e3,e4,e5⟩:=(show zbr X.prog X.w H s.heap d (.dT kvs) from I.hok d _ hq)
 have at0:RawD.At s.heap d es ep:=⟨o,e1,e2,e3⟩
 have hlen:kvs.length=ts.length:=Ym rk
 have hes:es.size=ts.length:=by rw [← Yz,e4,Qa]
 have hkeys:za7 H (ts.map fun t=>t.2.1) qs:=by
  clear e4 e5 hes hlen at0 z q hq
  induction rk generalizing qs with
  | nil =>
   cases qs with
   | nil=>exact .nil
   | cons a b=>cases ek
  | @cons p t ps ts' h1 t1 ih =>
   cases qs with
   | nil=>cases ek
   | cons a b =>
    rw [Qk,Qk] at ek
    injection ek with k1 k2
    refine .cons ?_ (ih _ k2)
    have:=h1.2.1
    rw [k1] at this
    exact this
 have hvals:∀ acc:Array Value,ItemsOf (fun i v=>∃ e,es[i]?=some e∧v=e.key) acc es.size→acc.toList=(ts.map fun t=>t.2.1).map Value.ref:=fun acc hi=>by
  apply List.ext_getElem?
  intro i
  rw [Qn,Qn]
  by_cases hlt:i < es.size
  ·have hlt2:i < acc.size:=by rw [hi.1];exact hlt
   have a1:acc[i]?=some acc[i]:=Kg hlt2
   obtain ⟨e,h1,h2⟩:=hi.2 i _ a1
   rw [Ua,a1,h2]
   have h3:es.toList[i]?=some e:=by rw [Ua];exact h1
   rw [e4,Qn] at h3
   cases ht:ts[i]? with
   | none=>rw [ht] at h3;cases h3
   | some t =>
    rw [ht] at h3
    have h4:entryOfKey (tupleKind (zar X.prog X.w)) t=e:=Qm h3
    rw [← h4];rfl
  ·have a1:acc.toList[i]?=none:=by rw [Ua];exact Array.getElem?_eq_none (by rw [hi.1];lia)
   have a2:ts[i]?=none:=Kz (by lia)
   rw [a1,a2];rfl
 have hvr:∀ as:List Addr,Vals (as.map V.ref) (as.map Value.ref):=fun as=>by
  induction as with
  | nil=>exact .nil
  | cons a r ih=>exact .cons rfl ih
 refine zer (R:=fun _ _=>True) (G:=fun its=>its=(ts.map fun t=>t.2.1).map Value.ref) (fun E' R hR=>zgh (RawD.src lo) (show X.A.in1.handled=none from I.ok.hd hc) at0 (by lia) fun g tk acc k le hi=>hR g tk _ k le (hvals acc hi))
  (fun its e=>by rw [e,Qa,Qa];exact zd5 ‹_› ‹_›) (fun its e A' E' s' _ k=>?_) fun its ws l g tk e r p1 p2 le k he=>?_
 ·have all:∀ v∈its,∃ x y t,zgw s.heap v x (.str y t):=fun v hv=>by
   rw [e] at hv
   obtain ⟨a,ha,rfl⟩:=Qi.mp hv
   obtain ⟨rr,hrr⟩:∃ r:Str×Str,H a=some (.tup [.str r.1,.str r.2]):=pairs_mem hkeys ha
   obtain ⟨q',⟨t,rfl⟩,T⟩:=tupSt_of I hrr
   exact ⟨_,_,t,T⟩
  refine zd6 k (fun v hv=>let ⟨x,y,t,T⟩:=all v hv;⟨x,_,T⟩) fun v hv u hu x p q T T'=>.inr ?_
  obtain ⟨_,y,t,T1⟩:=all v hv
  obtain ⟨_,y',t',T2⟩:=all u hu
  exact ⟨y,t,y',t',(zfd T T1).2,(zfd T' T2).2⟩
 ·subst r
  obtain ⟨as,rfl,p3⟩:∃ as:List Addr,ws=as.map Value.ref∧as.Perm (ts.map fun t=>t.2.1):=by
   have key:∀ {ws:List Value} {bs:List Addr},ws.Perm (bs.map Value.ref)→∃ as:List Addr,ws=as.map Value.ref∧as.Perm bs:=fun {ws bs} pm=>by
    have a2:∃ as:List Addr,ws=as.map Value.ref:=by
     have a1:∀ v∈ws,∃ a,v=Value.ref a:=fun v hv=>by
      obtain ⟨a,_,e⟩:=Qi.mp (pm.mem_iff.mp hv)
      exact ⟨a,e.symm⟩
     clear pm
     induction ws with
     | nil=>exact ⟨[],rfl⟩
     | cons v r ih =>
      obtain ⟨as,e⟩:=ih fun v hv=>a1 v (Qf _ hv)
      obtain ⟨x,e2⟩:=a1 v Qb
      exact ⟨x::as,by rw [e,e2];rfl⟩
    obtain ⟨as,rfl⟩:=a2
    refine ⟨as,rfl,?_⟩
    have:=pm.map (fun v=>match v with | .ref a=>a | _=>0)
    rw [Zn,Zn] at this
    simpa [Function.comp_def] using this
   exact key p1
  obtain ⟨qs',q1,q2⟩:=zd2 p3 hkeys
  refine ⟨.ref l,_,I.laid (t':=tk) k le (show zbr X.prog X.w _ g _ (.lst _) from ⟨?_,as.map Value.ref,e,hvr as,he⟩),rfl,q l as qs' (I.hok.fresh le) q1 q2⟩
  rw [Qa,p3.length_eq,Qa];exact zd5 ‹_› ‹_›
end
end L2
end
section
namespace HT
open PySem PyProof.Rows
inductive Alike:List Value→List Value→Bool→Prop
 | nil:Alike [] [] false
 | int {a t c u vs ws b}:Alike vs ws b→Alike (.int a t::vs) (.int c u::ws) (if a=c then b else decide (a < c))
 | str {x y:Str} {t u vs ws b}:Alike vs ws b→Alike (.str x t::vs) (.str y u::ws) (if x=y then b else decide (x.cps.toList < y.cps.toList))
theorem Alike.length {vs ws:List Value} {b:Bool} (h:Alike vs ws b):vs.length=ws.length:=by
 induction h with
 | nil=>rfl
 | int _ ih=>rw [Qq,Qq,ih]
 | str _ ih=>rw [Qq,Qq,ih]
section
open PySem.SeqAt
open PySem.AutoSeq1 (wpAny_loadPart')
open PySem.MeetsSeq PySem.MeetsSeq2 PySem.MeetsSeq3
theorem zgo (l b:Addr) (items items2:Array Value) (n n2:Nat) (dd dd2:Option Addr) (sl sl2:Array (Option Value)) (B:Bool) (hi:Alike items.toList items2.toList B) :
  Meets (Builtin.«tuple.__lt__» ⟨[.ref l,.ref b],[]⟩) (fun _ R s=>s.heap.get? l=some { cls:=.type "tuple",dict:=dd,data:=.seq items n,slots:=sl }∧s.heap.get? b=some { cls:=.type "tuple",dict:=dd2,data:=.seq items2 n2,slots:=sl2 }∧R (.ok (.ret (.bool B))) s) :=
 .of_wp fun prog w A R s h=>by
  obtain ⟨hp,g,d,tk,os⟩:=s;obtain ⟨hl,hb,h⟩:=h
  have f2:=AutoSeq1.sub_tuple_tuple
  have z1:items.size=items2.size:=by have:=hi.length;simpa using this
  wp_walk using wpAny_loadPart' hl,wpAny_loadPart' hb,wpAny_forIn_list _ (fun rest b s'=>b.1=none∧s'=⟨hp,g,d,tk,os⟩∧∃ (vs ws:List Value) (B':Bool),rest=vs.zip ws∧Alike vs ws B'∧R (.ok (.ret (.bool B'))) ⟨hp,g,d,tk,os⟩) _
  case turn =>
   rintro ⟨y,x⟩ rest b s' ⟨hb',rfl,vs,ws,B',hz,ha,hR⟩
   cases ha with
   | nil=>rw [List.zip_nil_left] at hz;cases hz
   | @int a t c u vs ws B2 ha' =>
    rw [Je] at hz
    injection hz with hyx hrest
    injection hyx with hy hx
    subst hy hx
    obtain ⟨e,he,hiff⟩:=eqAt_int A.in1 ⟨hp,g,d,tk,os⟩ a t c u
    refine wpAny_bind (he prog w _ _ ?_)
    cases e with
    | true =>
     rw [if_pos (hiff.mp rfl)] at hR
     wp_walk
     exact ⟨rfl,rfl,_,_,_,hrest,ha',hR⟩
    | false =>
     rw [if_neg (fun q=>absurd (hiff.mpr q) Zb)] at hR
     have hri:=rcLt_int A.in1 ⟨hp,g,d,tk,os⟩ a t c u prog w
     wp_walk using hri
     exact ⟨_,rfl,by simpa using hR⟩
   | @str x' y' t u vs ws B2 ha' =>
    rw [Je] at hz
    injection hz with hyx hrest
    injection hyx with hy hx
    subst hy hx
    have he:=Jl (A:=A.in1) (s:=⟨hp,g,d,tk,os⟩) x' t y' u
    refine wpAny_bind (he prog w _ _ ?_)
    by_cases e:x'=y'
    ·rw [if_pos e] at hR
     rw [show (x' == y')=true from beq_iff_eq.mpr e]
     wp_walk
     exact ⟨rfl,rfl,_,_,_,hrest,ha',hR⟩
    ·rw [if_neg e] at hR
     rw [show (x' == y')=false from beq_eq_false_iff_ne.mpr e]
     have hri:∀ (E:Value→Shared→Prop) (Q:Value→Shared→Prop) (h:Q (.bool (decide (x'.cps.toList < y'.cps.toList))) ⟨hp,g,d,tk,os⟩),wpAny (model prog w) A.in1 (richCompare .Lt (.str x' t) (.str y' u)) Q E ⟨hp,g,d,tk,os⟩:=fun E Q h=>(PyProof.Rows.lt_str h:wpAny (model prog w) A.in1 (compareOp .Lt (.str x' t) (.str y' u)) Q E ⟨hp,g,d,tk,os⟩)
     wp_walk using hri
     exact ⟨_,rfl,by simpa using hR⟩
  case fin =>
   rintro ⟨b1,b2⟩ s' ⟨hb',rfl,vs,ws,B',hz,ha,hR⟩
   simp only at hb'
   subst hb'
   have hv:B'=decide (items.size < items2.size):=by
    cases ha with
    | nil=>exact (decide_eq_false (by omega)).symm
    | int _=>rw [Je] at hz;cases hz
    | str _=>rw [Je] at hz;cases hz
   rw [hv] at hR
   wp_walk
   exact ⟨_,rfl,by simpa [Builtin.Tuple.tupleCompareSizes] using hR⟩
  case h =>
   exact ⟨rfl,rfl,items.toList,items2.toList,B,rfl,hi,h⟩
end
section
variable {prog:Program} {w:World} {A:Around} {E:Value→Shared→Prop} {s:Shared}
theorem lt_tupA {l b:Addr} {items items2:Array Value} {B:Bool} {Q:Value→Shared→Prop} (hl:IsTup s.heap l items) (hb:IsTup s.heap b items2) (hi:Alike items.toList items2.toList B)
  (hu:A.units < cLine) (h:Q (.bool B) s):wpAny (model prog w) A (compareOp .Lt (.ref l) (.ref b)) Q E s:=by
 obtain ⟨⟨cls,dd,data,sl⟩,ho,hc,n,hd⟩:=id hl
 obtain ⟨⟨cls2,dd2,data2,sl2⟩,ho2,hc2,n2,hd2⟩:=id hb
 simp only at hc hd hc2 hd2
 subst hc hd hc2 hd2
 exact richCompare_meets_room (op:=.Lt) ⟨_,ho,rfl⟩ ⟨_,ho2,rfl⟩ PySem.F.slot_tuple_lt PySem.F.entry_tuple_lt (PySem.F.args_tuple_lt_2 _ _) (zgo l b items items2 n n2 dd dd2 sl sl2 B hi)
  ⟨ho,ho2,show Value.bool B≠Value.notImplemented∧Q (.bool B) s from ⟨(fun x=>nomatch x),h⟩⟩ hu
end
end HT
namespace PySem
section
variable {prog:Program} {w:World} {A:Around} {R:Result→Shared→Prop} {I:Addr} {fp wr:List Addr} {n:Nat} {P:Nat→Value→Prop} {St:Nat→Heap→Prop}
abbrev KpT (wr:List Addr) (S:Addr) (h0 h:Heap):Prop:=∀ b o,b∉wr→b≠S→h0.get? b=some o→h.get? b=some o
abbrev CmpT (prog:Program) (w:World) (A:Around) (wr:List Addr) (S:Addr) (h0:Heap) (P:Nat→Value→Prop) (bt:Nat→Nat→Bool):Prop :=
 ∀ i j vi vj (s:Shared) (Q E:Value→Shared→Prop),KpT wr S h0 s.heap→P i vi→P j vj→Q (.bool (bt i j)) s→wpAny (model prog w) A (richCompare .Lt vi vj) Q E s
theorem minT_go (W:Walks prog w A.in1 I fp wr n P St) (bt:Nat→Nat→Bool) (h0:Heap) (S:Addr) (hcmp:CmpT prog w A.in1 wr S h0 P bt) (hSf:S∉fp):∀ (k j:Nat) (s:Shared) (vb:Value) (c:Nat),n - (j+1)=k→j+1≤n→St (j+1) s.heap→P (argBest bt j) vb →
  s.heap.get? S=some { cls:=.type "list",dict:=none,data:=.seq #[vb,vb] c,slots:=#[] }→KpT wr S h0 s.heap→(∀ v h' tk,P (argBest bt (n - 1)) v→KpT wr S h0 h'→R (.ok (.ret v)) { s with heap:=h',toks:=tk }) →
  codeAny (model prog w) A (.builtin "min.loop" ⟨[.ref I,.none,.ref S],[]⟩) R s:=by
 have hSw:S∉wr:=fun h=>hSf (W.sub _ h)
 have nm:(toString "min" ++ toString ".loop" : String) = "min.loop" := by decide
 intro k
 induction k with
 | zero =>
  intro j s vb c hk hj hst hb hS kp hR
  have e:j+1=n:=by omega
  refine codeAny_builtin F.entry_min_loop (by
   rw [Yp Uh _]
   refine (show wpAny _ _ (seqItems? (.ref S) >>= _) _ _ _ from wpAny_bind (wpAny_seqItems hS rfl ?_))
   refine (show wpAny _ _ (tryCatch (pyNext (.ref I)) _ >>= _) _ _ _ from wpAny_bind (wpAny_tryCatch (W.done s _ _ (e ▸ hst) fun h' tk q=>?_)))
   refine (show wpAny _ _ (updateSeq S (fun _=>#[]) >>= _) _ _ _ from wpAny_bind (wpAny_updateSeq (q S _ hSw hS) rfl (wpAny_bind (wpAny_letGo (wpAny_pure ?_)))))
   exact hR vb _ tk (by rw [← e];exact hb) fun b o hw hs z=>(Yo _ _ (Zl hs)).trans (q b o hw (kp b o hw hs z)))
 | succ k ih =>
  intro j s vb c hk hj hst hb hS kp hR
  have lt:j+1 < n:=by omega
  refine codeAny_builtin F.entry_min_loop (by
   rw [Yp Uh _]
   refine (show wpAny _ _ (seqItems? (.ref S) >>= _) _ _ _ from wpAny_bind (wpAny_seqItems hS rfl ?_))
   refine (show wpAny _ _ (tryCatch (pyNext (.ref I)) _ >>= _) _ _ _ from wpAny_bind (wpAny_tryCatch (W.item (j+1) s _ _ lt hst fun v h' tk hP hst' q=>?_)))
   have hS':=q S _ hSw hS
   have kp':KpT wr S h0 h':=fun b o hw hs z=>q b o hw (kp b o hw hs z)
   refine (show wpAny _ _ (tryCatch (holding [v,v] (richCompare .Lt v vb >>= _)) _ >>= _) _ _ _ from wpAny_bind (wpAny_tryCatch (wpAny_holding (wpAny_bind (hcmp (j+1) (argBest bt j) v vb _ _ _ kp' hP hb ?_)))))
   refine wpAny_bind (wpAny_holding (wpAny_truthy_bool (wpAny_bind (wpAny_letGo (wpAny_pure ?_)))))
   cases hq:bt (j+1) (argBest bt j) with
   | true =>
    rw [if_pos rfl]
    refine wpAny_bind (wpAny_updateSeq hS' rfl (wpAny_bind (wpAny_letGo ?_)))
    rw [nm]
    have hbest:argBest bt (j+1)=j+1:=if_pos hq
    exact wpAny_pure ⟨plainId_quiet Uh _,ih (j+1) _ v _ (by omega) lt (W.frame _ _ _ hst' fun b hf o z=>(Yo _ _ (fun h:S=b=>hSf (by rw [h];exact hf))).trans z) (by rw [hbest];exact hP) (Uu _ hS' rfl)
     (fun b o hw hs z=>(Yo _ _ (Zl hs)).trans (kp' b o hw hs z)) fun v' h'' tk'' p z=>hR v' h'' tk'' p z⟩
   | false =>
    rw [if_neg Zb]
    refine wpAny_bind (wpAny_letGo ?_)
    rw [nm]
    have hbest:argBest bt (j+1)=argBest bt j:=if_neg (by rw [hq];decide)
    exact wpAny_pure ⟨plainId_quiet Uh _,ih (j+1) _ vb c (by omega) lt hst' (by rw [hbest];exact hb) hS' kp' fun v' h'' tk'' p z=>hR v' h'' tk'' p z⟩)
theorem minT_first (W:Walks prog w A.in1 I fp wr n P St) (bt:Nat→Nat→Bool) (h0:Heap) (S:Addr) (hcmp:CmpT prog w A.in1 wr S h0 P bt) (hSf:S∉fp) (hn:0 < n) {s:Shared} {c:Nat} (hst:St 0 s.heap)
  (hS:s.heap.get? S=some { cls:=.type "list",dict:=none,data:=.seq #[] c,slots:=#[] }) (kp:KpT wr S h0 s.heap) (hR:∀ v h' tk,P (argBest bt (n - 1)) v→KpT wr S h0 h'→R (.ok (.ret v)) { s with heap:=h',toks:=tk }) :
  codeAny (model prog w) A (.builtin "min.loop" ⟨[.ref I,.none,.ref S],[]⟩) R s:=by
 have hSw:S∉wr:=fun h=>hSf (W.sub _ h)
 have nm:(toString "min" ++ toString ".loop" : String) = "min.loop" := by decide
 refine codeAny_builtin F.entry_min_loop (by
  rw [Yp Uh _]
  refine (show wpAny _ _ (seqItems? (.ref S) >>= _) _ _ _ from wpAny_bind (wpAny_seqItems hS rfl ?_))
  refine (show wpAny _ _ (tryCatch (pyNext (.ref I)) _ >>= _) _ _ _ from wpAny_bind (wpAny_tryCatch (W.item 0 s _ _ hn hst fun v h' tk hP hst' q=>?_)))
  have hS':=q S _ hSw hS
  refine (show wpAny _ _ (updateSeq S (fun _=>#[v,v]) >>= _) _ _ _ from wpAny_bind (wpAny_updateSeq hS' rfl ?_))
  rw [nm]
  exact wpAny_pure ⟨plainId_quiet Uh _,minT_go W bt h0 S hcmp hSf _ 0 _ v _ rfl hn (W.frame _ _ _ hst' fun b hf o z=>(Yo _ _ (fun h:S=b=>hSf (by rw [h];exact hf))).trans z) hP (Uu _ hS' rfl)
   (fun b o hw hs z=>(Yo _ _ (Zl hs)).trans (q b o hw (kp b o hw hs z))) fun v' h'' tk'' p z=>hR v' h'' tk'' p z⟩)
end
section
variable {prog:Program} {w:World} {A:Around} {E:Value→Shared→Prop} {s:Shared}
theorem call_minT {x:Value} {Q:Value→Shared→Prop} (h:wpAny (model prog w) A.in1 (pyIter x) (fun it s₂=>∃ I fp wr n P St bt,it=.ref I∧Walks prog w A.in1 I fp wr n P St∧St 0 s₂.heap∧(∀ b∈fp,b < s₂.heap.objs.size)∧0 < n ∧
   CmpT prog w A.in1 wr s₂.heap.objs.size s₂.heap P bt∧∀ v h' tk,P (argBest bt (n - 1)) v→(∀ b o,b∉wr→s₂.heap.get? b=some o→h'.get? b=some o)→Q v { s₂ with heap:=h',toks:=tk }) E s) :
  wpAny (model prog w) A (call (.builtin "min") [x]) Q E s:=by
 have nm:(toString "min" ++ toString ".loop" : String) = "min.loop" := by decide
 refine call_function_tree F.kind_min F.plain_min F.entry_min (F.args_min1 _) (show wpAny _ _ (Builtin.Builtins.bindParams "min" ["key", "default"] 0 ⟨[],[]⟩ >>= _) _ _ _ from wpAny_bind (wpAny_of_eq (show Builtin.Builtins.bindParams "min" ["key", "default"] 0 ⟨[],[]⟩=pure [none,none] from rfl) (wpAny_bind (wpAny_pure ?_))))
 refine wpAny_bind (wpAny_mono h (fun it s₂ ⟨I,fp,wr,n,P,St,bt,e,W,hst,hfp,hn,hcmp,hQ⟩=>?_) fun _ _ e=>e)
 subst e
 refine wpAny_bind (wpAny_newObj_type ?_)
 rw [nm]
 exact wpAny_pure ⟨plainId_quiet Uh _,minT_first W bt s₂.heap s₂.heap.objs.size hcmp (fun hm=>Wc _ (hfp _ hm)) hn (W.frame _ _ _ hst fun b _ o e=>Qj _ e) (Zc _ rfl) (fun b o _ _ z=>Qj _ z)
  fun v h' tk hP hk=>hQ v h' tk hP fun b o hw e=>hk b o hw (Zh (Qx e)) e⟩
end
end PySem
end
section
namespace L2
open PySem PySem.Spec PyProof.Rows
def ltK (k l:Nat×Str):Bool:=if (k.1:Int)=(l.1:Int) then (if k.2=l.2 then false else decide (k.2.cps.toList < l.2.cps.toList)) else decide ((k.1:Int) < (l.1:Int))
def leK (k l:Nat×Str):Prop:=k.1 < l.1∨k.1=l.1∧leS k.2 l.2
theorem ltK_irrefl (k:Nat×Str):ltK k k=false:=by unfold ltK;rw [if_pos rfl,if_pos rfl]
theorem ltK_iff {k l:Nat×Str}:ltK k l=true↔k.1 < l.1∨k.1=l.1∧k.2.cps.toList < l.2.cps.toList:=by
 unfold ltK
 by_cases h:(k.1:Int)=(l.1:Int)
 ·have h':k.1=l.1:=by omega
  rw [if_pos h]
  by_cases h2:k.2=l.2
  ·rw [if_pos h2,h2]
   refine ⟨fun z=>(by cases z),fun z=>?_⟩
   rcases z with z | z
   ·omega
   ·exact absurd z.2 (Kc _)
  ·rw [if_neg h2,decide_eq_true_eq]
   exact ⟨fun z=>.inr ⟨h',z⟩,fun z=>z.elim (fun y=>by omega) (·.2)⟩
 ·rw [if_neg h,decide_eq_true_eq]
  exact ⟨fun z=>.inl (by omega),fun z=>z.elim (fun y=>by omega) fun y=>absurd (congrArg Int.ofNat y.1) h⟩
theorem ltK_trans {a b c:Nat×Str} (h1:ltK a b=true) (h2:ltK b c=true):ltK a c=true:=by
 rw [ltK_iff] at h1 h2 ⊢
 rcases h1 with h1 | ⟨e1,h1⟩
 ·rcases h2 with h2 | ⟨e2,_⟩
  ·exact .inl (Ws h1 h2)
  ·exact .inl (e2 ▸ h1)
 ·rcases h2 with h2 | ⟨e2,h2⟩
  ·exact .inl (e1 ▸ h2)
  ·exact .inr ⟨e1.trans e2,List.lt_trans h1 h2⟩
theorem leK_of {k l:Nat×Str} (h:¬ ltK l k=true):leK k l:=by
 rw [ltK_iff] at h
 rcases Nat.lt_trichotomy k.1 l.1 with z | z | z
 ·exact .inl z
 ·exact .inr ⟨z,fun y=>h (.inr ⟨z.symm,y⟩)⟩
 ·exact absurd (.inl z) h
theorem leS_antisymm {x y:Str} (h1:leS x y) (h2:leS y x):x=y:=Tm.str_ext (List.le_antisymm (List.not_lt.mp h1) (List.not_lt.mp h2))
theorem leK_antisymm {k l:Nat×Str} (h1:leK k l) (h2:leK l k):k=l:=by
 rcases h1 with h1 | ⟨e,h1⟩
 ·rcases h2 with h2 | ⟨e2,_⟩ <;> omega
 ·rcases h2 with h2 | ⟨_,h2⟩
  ·omega
  ·exact Jp e (leS_antisymm h1 h2)
theorem zcr (bt:Nat→Nat→Bool) (hi:∀ i,bt i i=false) (ht:∀ i j k,bt i j=true→bt j k=true→bt i k=true):∀ k j,j≤k→¬ bt j (argBest bt k)=true
 | 0,j,h=>by
  have:j=0:=by omega
  subst this
  show ¬ bt 0 0=true
  rw [hi];decide
 | k+1,j,h=>by
  show ¬ bt j (if bt (k+1) (argBest bt k)=true then k+1 else argBest bt k)=true
  by_cases hlt:bt (k+1) (argBest bt k)=true
  ·rw [if_pos hlt]
   by_cases hj:j=k+1
   ·subst hj;rw [hi];decide
   ·exact fun z=>zcr bt hi ht k j (by omega) (ht _ _ _ z hlt)
  ·rw [if_neg hlt]
   by_cases hj:j=k+1
   ·subst hj;exact hlt
   ·exact zcr bt hi ht k j (by omega)
section
variable {X:Cx}
abbrev KAt (H:Hp):List Addr→List (Nat×Str)→Prop:=Paired fun a k=>H a=some (.tup [.int (k.1:Int),.str k.2])
theorem kat_at {H:Hp} {as:List Addr} {ks:List (Nat×Str)} (r:KAt H as ks) {i:Nat} (hi:i < as.length):i < ks.length∧H as[i]=some (.tup [.int ((ks.getD i (0,Str.empty)).1:Int),.str (ks.getD i (0,Str.empty)).2]):=by
 induction r generalizing i with
 | nil=>exact absurd hi (Kt _)
 | cons h t ih =>
  cases i with
  | zero=>exact ⟨Nat.zero_lt_succ _,h⟩
  | succ j =>
   obtain ⟨a,b⟩:=ih (i:=j) (Nat.lt_of_succ_lt_succ hi)
   exact ⟨Nat.succ_lt_succ a,b⟩
theorem zgk (hc:X.calm=true) (hu:X.A.units+1 < cLine):zca X (.builtin "min") (fun xs H Q=>Ex3 fun (p:Addr) (as:List Addr) (ks:List (Nat×Str))=>Aj5 (xs=[.ref p]) (SqL X.K H p (as.map V.ref)) (KAt H as ks) (ks≠[]) (∀ a k,k∈ks→H a=some (.tup [.int (k.1:Int),.str k.2])→(∀ k'∈ks,leK k k')→Q (.ref a) H)):=by
 intro pins s σ H xs us Q I r h
 obtain ⟨p,as,ks,rfl,hq,hk,hne,q⟩:=h
 obtain ⟨u,rfl,rx⟩:=vals1 r
 cases rx
 have hpos:0 < ks.length:=Wk.mpr hne
 have hal:as.length=ks.length:=Ym hk
 refine call_minT (zdm hc I hq fun its It h1 rv W st lt keep=>⟨It,_,_,_,_,_,fun i j=>ltK (ks.getD i (0,Str.empty)) (ks.getD j (0,Str.empty)),rfl,W,st,lt,?_,fun i j vi vj s' Q' E' kp hi hj hq'=>?_,fun v h' tk hv k=>?_⟩)
 ·have:=rv.length
  rw [Qa] at this
  rw [Qv];omega
 ·have hl:=rv.length
  rw [Qa] at hl
  have I':=keep s'.heap s'.toks fun b o hb e=>kp b o hb (Zh (Qx e)) e
  have gs:∀ (i:Nat) (v:Value),its.toArray[i]?=some v→∃ a n t y u,v=.ref a∧IsTup s'.heap a #[.int n t,.str y u]∧n=((ks.getD i (0,Str.empty)).1:Int)∧y=(ks.getD i (0,Str.empty)).2:=fun i v e=>by
   have e':its[i]?=some v:=by simpa using e
   have hi:i < its.length:=(Qz.mp e').1
   have hi2:i < as.length:=by omega
   obtain ⟨u,e2,e3⟩:=rv.get (i:=i) (x:=.ref as[i]) (by simp [hi2])
   rw [e'] at e2
   cases e2
   cases e3
   obtain ⟨_,its2,r2,o,e1,c,n,d⟩:=I'.hok _ _ (kat_at hk hi2).2
   obtain ⟨u1,u2,rfl,⟨t1,rfl⟩,⟨t2,rfl⟩⟩:=vals2 r2
   exact ⟨_,_,t1,_,t2,rfl,⟨o,e1,c,n,d⟩,rfl,rfl⟩
  obtain ⟨a,n,t,y,u,rfl,h1,rfl,rfl⟩:=gs i vi hi
  obtain ⟨a',n',t',y',u',rfl,h2,rfl,rfl⟩:=gs j vj hj
  exact HT.lt_tupA h1 h2 (.int (.str .nil)) hu hq'
 ·have hl:=rv.length
  rw [Qa] at hl
  have hk2:=argBest_lt (bt:=fun i j=>ltK (ks.getD i (0,Str.empty)) (ks.getD j (0,Str.empty))) (its.toArray.size - 1)
  have least:=zcr (fun i j=>ltK (ks.getD i (0,Str.empty)) (ks.getD j (0,Str.empty))) (fun i=>ltK_irrefl _) (fun i j k=>ltK_trans) (its.toArray.size - 1)
  generalize argBest (fun i j=>ltK (ks.getD i (0,Str.empty)) (ks.getD j (0,Str.empty))) (its.toArray.size - 1)=b at hv hk2 least
  rw [Qv] at hk2 least
  have hb2:b < as.length:=by omega
  have hv':its[b]?=some v:=by simpa using hv
  obtain ⟨u,e2,e3⟩:=rv.get (i:=b) (x:=.ref as[b]) (by simp [hb2])
  rw [hv'] at e2
  cases e2
  cases e3
  obtain ⟨hb3,hat⟩:=kat_at hk hb2
  have g1:ks.getD b (0,Str.empty)=ks[b]:=by simp [List.getD,hb3]
  rw [g1] at hat
  refine ⟨.ref as[b],H,keep h' tk k,rfl,q _ ks[b] (Qr hb3) hat fun k' hk'=>?_⟩
  obtain ⟨j,hj,rfl⟩:=Zq hk'
  have:=least j (by omega)
  have g2:ks.getD j (0,Str.empty)=ks[j]:=by simp [List.getD,hj]
  rw [g1,g2] at this
  exact leK_of this
theorem idx_le {x:Str}:∀ (l:List Str) (j:Nat) (hj:j < l.length),l[j]=x→l.idxOf x≤j
 | a::r,0,_,e=>by
  have e':a=x:=e
  rw [e',List.idxOf_cons_self];exact Qh _
 | a::r,j+1,hj,e=>by
  have:=idx_le r j (Nat.lt_of_succ_lt_succ hj) e
  rw [Kv]
  cases (a == x)
  ·exact Nat.succ_le_succ this
  ·exact Zd _
theorem ze8:∀ (l:List Str) (i:Nat),(l.eraseIdx i).map V.str=(l.map V.str).eraseIdx i
 | [],_=>rfl
 | a::r,0=>rfl
 | a::r,i+1=>congrArg (V.str a::·) (ze8 r i)
inductive RrRemove (x:V) (vs:List V) (H:Hp) (Q:VK):Prop
 | mk (l:Addr) (zs:List Str) (z:Str) (h0:x=.ref l) (h1:vs=[.str z]) (h2:H l=some (.lst (zs.map V.str))) (h3:z∈zs) (h4:Q .non (upd H l (.lst ((zs.erase z).map V.str)))):RrRemove x vs H Q
def rRemove:V→List V→Hp→VK→Prop:=fun x vs H Q=>RrRemove x vs H Q
theorem mt_remove:MtM X "list.remove" rRemove:=by
 intro pins s σ H x vs v us Q I rx rv h
 obtain ⟨l,zs,z,rfl,rfl,hH,hz,q⟩:=h
 cases rx
 obtain ⟨u,rfl,⟨t,rfl⟩⟩:=rv.one
 obtain ⟨zz,its,n,r,hl,e⟩:=I.lstM hH
 obtain ⟨ps,rfl,hps⟩:=zc9 r
 have hpl:ps.length=zs.length:=by rw [← hps,Qa]
 have hj:zs.idxOf z < ps.length:=by rw [hpl];exact List.idxOf_lt_length_of_mem hz
 have hnm:∀ (m:Nat) (hm:m < ps.length),ps[m].1=zs[m]'(hpl ▸ hm):=fun m hm=>by
  have:(ps.map (·.1))[m]'(by rw [Qa];exact hm)=zs[m]'(hpl ▸ hm):=by simp [hps]
  rw [← this,Yi]
 have hat:∀ (m:Nat) (hm:m < (strValues ps).toArray.size),(strValues ps).toArray[m]=.str (ps[m]'(by simpa [strValues] using hm)).1 (ps[m]'(by simpa [strValues] using hm)).2:=fun m hm=>by simp [strValues]
 have hsz:(strValues ps).toArray.size=ps.length:=by simp [strValues]
 refine call_meets F.slot_list_remove ⟨_,e,rfl⟩ F.entry_list_remove (F.args_list_remove_2 _ _)
  (MeetsSeq.list_remove l (strValues ps).toArray n (.str z t) (fun v=>match v with | .str a _=>a == z | _=>false) (fun y hy=>?_) (zs.idxOf z) (by rw [hsz];exact hj) ?_ (fun m hm hlt=>?_) (by rw [hsz,hpl];rw [Qa] at zz;exact zz)) ⟨e,?_⟩
 ·obtain ⟨pr,_,rfl⟩:=Qi.mp (by simpa [strValues] using hy:y∈ps.map fun p=>Value.str p.1 p.2)
  exact eqGives_str _ _ _ _
 ·rw [hat]
  show ((ps[zs.idxOf z]'hj).1 == z)=true
  rw [hnm,List.getElem_idxOf]
  exact beq_self_eq_true z
 ·rw [hat]
  show ((ps[m]'(by rw [← hsz];exact hm)).1 == z)=false
  rw [hnm]
  exact beq_eq_false_iff_ne.mpr fun ez=>absurd (idx_le zs m _ ez) (Nat.not_le.mpr hlt)
 ·refine ⟨.non,_,I.lset (its':=(strValues ps).eraseIdx (zs.idxOf z)) (ys:=(zs.erase z).map V.str) hH e (by rw [List.eraseIdxIfInBounds_toArray]) ?_ ?_,rfl,q⟩
  ·rw [List.erase_eq_eraseIdx_of_idxOf rfl,ze8]
   exact r.eraseIdx _
  ·rw [Qa] at zz ⊢
   exact Zf (List.length_erase_le ..) zz
theorem op_ne_lists (hu:X.A.units < cLine):OpR X (compareOp .NotEq) (fun x y H Q=>Ex3 fun l b zs=>Aj5 (x=.ref l) (y=.ref b) (SqL X.K H l (List.map V.str zs)) (SqL X.K H b (List.map V.str zs)) (Q (.bl false) H)):=by
 intro pins s σ H x y v u Q I rx ry h
 obtain ⟨l,b,zs,rfl,rfl,h1,h2,q⟩:=h
 cases rx;cases ry
 obtain ⟨its,r,pl,_⟩:=I.list h1
 obtain ⟨its2,r2,pl2,_⟩:=I.list h2
 have l1:=r.length
 have l2:=r2.length
 refine SeqAt.RcNeAt.lists (e:=fun _=>true) pl.isList pl2.isList (by rw [Qv,Qv];omega) hu (fun j j1 j2=>?_) _ _ _ _ ⟨.bl false,H,I,?_,q⟩
 ·have a1:j < (List.map V.str zs).length:=by rw [l1];simpa using j1
  have a2:j < zs.length:=by simpa using a1
  have g:(List.map V.str zs)[j]?=some (.str zs[j]):=by simp [a2]
  obtain ⟨u1,e1,t1,rfl⟩:=r.get g
  obtain ⟨u2,e2,t2,rfl⟩:=r2.get g
  rw [Jr,Jr,(Qz.mp e1).2,(Qz.mp e2).2]
  have:=Jl (A:=X.A.in1) (s:=s) zs[j] t1 zs[j] t2
  rw [beq_self_eq_true] at this
  exact this
 ·show Value.bool _=Value.bool false
  simp
end
section
variable {X:Cx}
theorem fm_some {β γ:Type} {f:β→Option γ} {g:β→γ}:∀ {l:List β},(∀ x∈l,f x=some (g x))→l.filterMap f=l.map g
 | [],_=>rfl
 | a::t,h=>by rw [List.filterMap_cons,h a Qb,Qk,fm_some fun x hx=>h x (Qf _ hx)]
theorem pick_rev (its:List Value):slicePick its.toArray none none (some (-1))=its.reverse.toArray:=by
 unfold slicePick sliceBounds
 simp only [Option.getD_some,show ¬ ((-1:Int) > 0) by decide,if_false,Qv]
 congr 1
 unfold sliceRange
 simp only [show ¬ ((-1:Int) > 0) by decide,if_false]
 have hc:(if ((its.length:Int) - 1) > -1 then (((its.length:Int) - 1) - -1 - -1 - 1) / (- -1) else 0).toNat=its.length:=by
  split
  ·rw [show (- (-1:Int))=1 from rfl,Int.ediv_one];omega
  ·omega
 rw [hc,List.filterMap_map]
 have hk:∀ k∈List.range its.length,((its.toArray[·]?) ∘ fun (k:Nat)=>(((its.length:Int) - 1)+-1*(k:Int)).toNat) k=some (its.reverse.getD k .none):=fun k hk=>by
  have hk:=Wu.mp hk
  have e:(((its.length:Int) - 1)+-1*(k:Int)).toNat=its.length - 1 - k:=by omega
  show its.toArray[(((its.length:Int) - 1)+-1*(k:Int)).toNat]?=_
  rw [e,List.getElem?_toArray,Yh,List.getElem?_reverse hk]
  rw [Qc (by omega)]
  rfl
 rw [fm_some hk]
 apply List.ext_getElem
 ·simp
 ·intro i h1 h2
  have h3:i < its.reverse.length:=h2
  rw [Yi,List.getElem_range,Yh,Qc h3]
  rfl
theorem pe_rev {e:Expr} {te:TE} {k:Nat} {p2 p3 p4 pos:Pos} (he:PE X e te):PE X (.Subscript e (.Slice none none (some (.UnaryOp .USub (.Constant (.int 1) k p4) p3)) p2) pos) (fun σ H Q=>te σ H fun x H1=>Ex2 fun a xs=>Aj3 (x=.ref a) (SqL X.K H1 a xs) (∀ p,H1 p=none→Q (.ref p) (upd H1 p (.lst xs.reverse)))):=by
 intro pins s σ H Q I h
 refine Subscript_ (thn (he pins s σ H _ I h) fun v s1 ⟨x,H1,I1,r1,a,xs,ex,hx,q⟩=>?_)
 subst ex
 cases r1
 refine wpAny_Slice (thn (zct (X:=X) pins s1 σ H1 (fun o H'=>o=none∧H'=H1) I1 ⟨rfl,rfl⟩) fun vl s2 ⟨l,H2,I2,pl,el,eh⟩=>?_)
 subst el;subst eh
 refine thn (zct (X:=X) pins s2 σ H2 (fun o H'=>o=none∧H'=H2) I2 ⟨rfl,rfl⟩) fun vu s3 ⟨l,H3,I3,pu,el,eh⟩=>?_
 subst el;subst eh
 refine thn (zc1 (X:=X) (pe_un un_neg (zai (X:=X))) pins s3 σ H3 (fun o H'=>o=some (-1)∧H'=H3) I3 ⟨_,rfl,_,rfl,rfl,rfl⟩) fun vs s4 ⟨l,H4,I4,ps,el,eh⟩=>?_
 subst el;subst eh
 have I5:Inv X pins σ H4 { s4 with heap:=s4.heap.push { cls:=.type "slice",data:=.fields #[vl,vu,vs] } }:=I4.kept (t':=s4.toks) fun b ob q=>Qj _ q
 obtain ⟨its,r,ht,hz⟩:=I5.list hx
 have hlen:=r.length
 show wpAny (model X.prog X.w) X.A (subscriptTail e (.Slice none none (some (.UnaryOp .USub (.Constant (.int 1) k p4) p3)) p2) (.ref a) (.ref s4.heap.objs.size)) (EP X pins σ Q) X.xe { s4 with heap:=s4.heap.push { cls:=.type "slice",data:=.fields #[vl,vu,vs] } }
 refine tail_any (ops:=[.ref a,.ref s4.heap.objs.size]) ht.isList.typeIs slot_list_getitem.lookup ?_ (by with_unfolding_all rfl)
 refine wpAny_getItem_list_slice ht.isList (Heap.IsSliceOf.new ..) pl pu ps (by decide) ?_ (by rw [Qv] <;> exact zd5 ‹_› ‹_›)
 rw [pick_rev]
 refine ⟨.ref _,_,I5.laid (t':=s4.toks) (o:=.lst xs.reverse) (fun b ob q=>Qj _ q) (Qh _) ?_,rfl,q _ (I5.hok.fresh (Qh _))⟩
 exact ⟨by rw [Ux];exact hz,_,0,r.reverse,Zc _ rfl⟩
theorem any_range (bs:List Bool):(List.range bs.length).any (fun i=>bs.getD i true)=bs.any id:=by
 rw [Zv,Yj,Yj]
 constructor
 ·rintro ⟨i,hi,h⟩
  have hi':=Wu.mp hi
  simp [List.getD,hi'] at h
  exact ⟨_,Qr hi',h⟩
 ·rintro ⟨x,hx,h⟩
  obtain ⟨i,hi,e⟩:=Zq hx
  refine ⟨i,Wu.mpr hi,?_⟩
  simp [List.getD,hi,e]
  exact h
theorem call_any (hc:X.calm=true):zca X (.builtin "any") (fun xs H Q=>Ex2 fun (p:Addr) (bs:List Bool)=>Aj3 (xs=[.ref p]) (SqL X.K H p (bs.map V.bl)) (Q (.bl (bs.any id)) H)):=by
 intro pins s σ H xs us Q I r h
 obtain ⟨p,bs,rfl,hq,q⟩:=h
 obtain ⟨u,rfl,rx⟩:=vals1 r
 cases rx
 refine call_any_walk (zdm hc I hq fun its It h1 rv W st lt keep=>⟨It,_,_,_,_,_,fun i=>bs.getD i true,rfl,W,st,fun i v s' Q' E' e q'=>?_,fun h' tk k=>⟨.bl (bs.any id),H,keep h' tk k,?_,q⟩⟩)
 ·have e':=zeo rv i v (by simpa using e)
  subst e'
  exact wpAny_truthy_bool q'
 ·have hl2:=rv.length
  rw [Qa] at hl2
  show Value.bool _=Value.bool _
  rw [Qv,← hl2,any_range]
theorem zh8 (hc:X.calm=true):zca X (.builtin "min") (fun xs H Q=>Ex2 fun (p:Addr) (ns:List Int)=>Aj4 (xs=[.ref p]) (SqL X.K H p (ns.map V.int)) (ns≠[]) (∀ n∈ns,(∀ m∈ns,n≤m)→Q (.int n) H)):=by
 intro pins s σ H xs us Q I r h
 obtain ⟨p,ns,rfl,hq,hne,q⟩:=h
 obtain ⟨u,rfl,rx⟩:=vals1 r
 cases rx
 have hpos:0 < ns.length:=Wk.mpr hne
 refine call_min_walk (zdm hc I hq fun its It h1 rv W st lt keep=>⟨It,_,_,_,_,_,fun i j=>decide (ns.getD i 0 < ns.getD j 0),rfl,W,st,lt,?_,fun i j vi vj s' Q' E' hi hj hq'=>?_,fun v h' tk hv k=>?_⟩)
 ·have:=rv.length
  rw [Qa] at this
  rw [Qv];omega
 ·obtain ⟨t1,rfl⟩:=zcu rv i vi (by simpa using hi)
  obtain ⟨t2,rfl⟩:=zcu rv j vj (by simpa using hj)
  exact PyProof.Rows.lt_int hq'
 ·have hl:=rv.length
  rw [Qa] at hl
  have hk:=argBest_lt (bt:=fun i j=>decide (ns.getD i 0 < ns.getD j 0)) (its.toArray.size - 1)
  have least:=zcr (fun i j=>decide (ns.getD i 0 < ns.getD j 0)) (fun i=>decide_eq_false (Int.lt_irrefl _)) (fun i j k a b=>decide_eq_true (Int.lt_trans (of_decide_eq_true a) (of_decide_eq_true b))) (its.toArray.size - 1)
  generalize argBest (fun i j=>decide (ns.getD i 0 < ns.getD j 0)) (its.toArray.size - 1)=b at hv hk least
  rw [Qv] at hk least
  have hb2:b < ns.length:=by omega
  obtain ⟨t,rfl⟩:=zcu rv b v (by simpa using hv)
  have g1:ns.getD b 0=ns[b]:=by simp [List.getD,hb2]
  refine ⟨.int (ns.getD b 0),H,keep h' tk k,⟨t,rfl⟩,?_⟩
  rw [g1]
  refine q _ (Qr hb2) fun m hm=>?_
  obtain ⟨j,hj,rfl⟩:=Zq hm
  have:=least j (by omega)
  have g2:ns.getD j 0=ns[j]:=by simp [List.getD,hj]
  rw [g1,g2,decide_eq_true_eq] at this
  omega
inductive RrDClear (x:V) (vs:List V) (H:Hp) (Q:VK):Prop
 | mk (a:Addr) (kvs:List (Key×V)) (h0:x=.ref a) (h1:vs=[]) (h2:H a=some (.dK kvs)) (h3:Q .non (upd H a (.dK []))):RrDClear x vs H Q
def rDClear:V→List V→Hp→VK→Prop:=fun x vs H Q=>RrDClear x vs H Q
theorem mt_dclear:MtM X "dict.clear" rDClear:=by
 intro pins s σ H x vs v us Q I rx rv h
 obtain ⟨a,kvs,rfl,rfl,e,q⟩:=h
 cases rx
 have hus:=rv.zero
 subst hus
 obtain ⟨z,hd,vs,rel,dd⟩:=dk_of I.hok e
 refine call_meetsIn PySem.F.slot_dict_clear dd.typeIs PySem.F.entry_dict_clear (PySem.F.args_dict_clear_1 _) (meets_dict_clear (zar X.prog X.w) a) ⟨vs,dd,by rw [← rel.length];exact z,fun h' dd' hs=>?_⟩
 have he:∃ q,h'.get? a=some q:=let ⟨q,_,_,hq,_⟩:=dd';⟨q,hq⟩
 exact ⟨.non,_,zgg (t':=s.toks) I (by rw [e];exact True.intro) hs he (dk_new (kvs:=[]) (Zd _) hd .nil dd'),rfl,q⟩
end
end L2
end
section
namespace K21
open PySem L2
def top (i:Nat):Stmt:=PySem.Challenge.pw_fivehues_k23_whole_six_hues.main.body.getD i (.Pass ⟨0,0,0,0⟩)
def eOf:Stmt→Expr
 | .Assign _ e _=>e
 | .Return (some e) _=>e
 | .For _ e _ _ _=>e
 | .While e _ _ _=>e
 | _=>.Name "" ⟨0,0,0,0⟩
def bOf:Stmt→List Stmt
 | .For _ _ b _ _=>b
 | .If _ b _ _=>b
 | _=>[]
def aOf (i:Nat):Expr→Expr
 | .Call _ a _ _=>a.getD i (.Name "" ⟨0,0,0,0⟩)
 | .BinOp l _ r _=>[l,r].getD i l
 | .BoolOp _ a _=>a.getD i (.Name "" ⟨0,0,0,0⟩)
 | .Compare _ _ a _=>a.getD i (.Name "" ⟨0,0,0,0⟩)
 | e=>e
def scOf:Expr→Scope
 | .ListComp _ _ sc _=>sc
 | .DictComp _ _ _ sc _=>sc
 | _=>{ kind:=.function,names:=[],isGenerator:=false,isCoroutine:=false }
abbrev sAt (s:Stmt) (i:Nat):Stmt:=(zao s).getD i (.Pass ⟨0,0,0,0⟩)
abbrev bAt (s:Stmt) (i:Nat):Stmt:=(bOf s).getD i (.Pass ⟨0,0,0,0⟩)
abbrev zeu:Stmt:=top 30
def Pot (H:Hp) (p:Addr) (b m:Int):Prop:=H p=some (.lst [.int b,.int m])∧0≤b∧0≤m∧m < 2147483648
inductive IspTake (vs:List V) (H:Hp) (Q:VK):Prop
 | mk (p:Addr) (b m n:Int) (h0:vs=[.ref p,.int n]) (h1:Pot H p b m) (h2:0 < n) (h3:n < 1073741824) (h4:∀ (d b' m':Int) (H':Hp),0≤d→d < n→Pot H' p b' m'→(∀ c o,H c=some o→c≠p→H' c=some o)→Q (.int d) H'):IspTake vs H Q
def ze6:Sp:=fun vs H Q _=>IspTake vs H Q
section
variable {P:Program} {w:World} {K:PySem.W.Frag} {mg:Str→Option Value} {base:Heap}
theorem scTake:zas ["_law_pot_here", "_law_many", "_law_digit"] ["_law_pot_here", "_law_many"] (zaf zeu):=⟨rfl,rfl,rfl,by decide +kernel,rfl,by decide +kernel,by decide +kernel⟩
theorem zhn {f:Addr} {fd:FuncData} (F:Fun K "_law_take" "_law_take" zeu f fd) (dm:mg "divmod" = none):FnOk P w K mg base CX0 1 f fd ["_law_pot_here", "_law_many"] ze6:=by
 refine F.ok scTake (fun vs H Q E h=>?_) (fun cdv A outer s H vs Q E hr h=>?_)
 ·obtain ⟨p,b,m,n,rfl,_⟩:=h
  rfl
 ·obtain ⟨p,b,m,n,rfl,⟨hp,hb,hm,hm2⟩,hn,hn2,k⟩:=h
  have i0:atI [V.int b,V.int m] ((0:Nat):Int)=some (.int b):=zbo rfl
  have i1:atI [V.int b,V.int m] ((1:Nat):Int)=some (.int m):=zbo rfl
  refine ⟨_,zae (zcg (zay op_gt (zbb zat (pv 0) zai (fun _ _=>rfl)) zai (zb0 _))
   (zae (ps_asg (zak call_divmod (by rfl) dm PyProof.Rows.boot_divmod (zab (zbb zat (pv 0) zai (fun _ _=>rfl)) (zab (pv 1) zag))) (zgz rfl (zbc (pg_sub (pv 0) zai set_list) (zbc (zaj (i:=2) scTake.nd rfl (Or.inl rfl)) zdf))))
    (zah (zbk (pv 2)))) za4)
   (zae (ps_asg (zaz zc7 (zaz zbl (zaz op_mul (zbb zat (pv 0) zai (fun _ _=>rfl)) zai) zai) zai) (pg_sub (pv 0) zai set_list))
   (zah (zbk (zaz zc7 (zaz op_fdiv (zaz zc7 (zaz op_mul (zbb zat (pv 0) zai (fun _ _=>rfl)) (zbb zat (pv 0) zai (fun _ _=>rfl))) zai) zai) (pv 1))))),?_⟩
  refine ⟨_,rfl,p,_,_,_,rfl,rfl,SqL.of hp,i0,_,_,rfl,rfl,_,rfl,?_⟩
  refine ite2 (fun hpos=>?_) (fun hneg=>?_)
  ·have hb0:0 < b:=of_decide_eq_true hpos
   refine ⟨_,rfl,p,_,_,_,rfl,rfl,SqL.of hp,i0,_,rfl,b,n,rfl,⟨hn,hn2⟩,fun t ht=>?_⟩
   have npt:p≠t:=zaa hp ht
   refine ⟨t,_,rfl,SqT.of zac,rfl,_,_,rfl,_,rfl,p,_,0,0,rfl,rfl,(by rw [zad npt];exact hp),rfl,_,_,rfl,rfl,_,rfl,?_⟩
   refine k (b % n) (b / n) m _ (Ju _ (by lia)) (Jf _ hn) ⟨zac,Int.ediv_nonneg hb (by lia),hm,hm2⟩ fun c o e hc=>?_
   rw [zad hc,zad (zaa e ht)]
   exact e
  ·have i1':∀ x:Int,atI [V.int b,V.int x] ((1:Nat):Int)=some (.int x):=fun x=>zbo rfl
   have r0:0≤(m*48283+10007) % 2147483587:=Ju _ (by decide)
   have r1:(m*48283+10007) % 2147483587 < 2147483587:=Jf _ (by decide)
   refine ⟨_,rfl,p,_,_,_,rfl,rfl,SqL.of hp,i1,_,_,rfl,rfl,.inl ⟨by lia,by lia⟩,_,_,rfl,rfl,_,_,rfl,rfl,(by show (0:Int) < 2147483587;decide),_,rfl,p,_,1,1,rfl,rfl,hp,rfl,?_⟩
   refine ⟨_,rfl,p,_,_,_,rfl,rfl,SqL.of zac,i1' _,_,rfl,p,_,_,_,rfl,rfl,SqL.of zac,i1' _,_,_,rfl,rfl,.inl ⟨by lia,by lia⟩,_,_,rfl,rfl,(by show (0:Int) < 2147483549;decide),_,_,rfl,rfl,⟨by decide,by decide⟩,_,rfl,_,_,rfl,rfl,hn,?_⟩
   refine k _ b ((m*48283+10007) % 2147483587) _ (Ju _ (by lia)) (Jf _ hn) ⟨zac,hb,r0,by lia⟩ fun c o e hc=>?_
   rw [zad hc]
   exact e
end
end K21
end
section
namespace Wb
section
variable {α:Type} [DecidableEq α]
def nxt (zs:List α) (x:α):α:=zs.getD ((zs.idxOf x+1) % zs.length) x
def ins (zs:List α):Option α→α→List α
 | none,n=>n::zs
 | some c,n=>zs.take (zs.idxOf c+1)++n::zs.drop (zs.idxOf c+1)
abbrev Rs (α:Type):=List (α×List α)
def row (rs:Rs α) (x:α):List α:=((rs.find? fun p=>decide (p.1=x)).map (·.2)).getD []
def zba (rs:Rs α) (x:α) (r:List α):Rs α:=rs.map fun p=>if p.1=x then (p.1,r) else p
def stp (rs:Rs α) (s:α×α):α×α:=(s.2,nxt (row rs s.2) s.1)
end
end Wb
namespace K21
open PySem L2 Wb
def Keep (xs:List Addr) (H H':Hp):Prop:=∀ c o,H c=some o→c∉xs→H' c=some o
theorem Keep.refl {xs:List Addr} {H:Hp}:Keep xs H H:=fun _ _ e _=>e
theorem Keep.trans {xs:List Addr} {H H1 H2:Hp} (a:Keep xs H H1) (b:Keep xs H1 H2):Keep xs H H2:=fun c o e n=>b c o (a c o e n) n
theorem Keep.sub {xs ys:List Addr} {H H1:Hp} (a:Keep xs H H1) (h:∀ x∈xs,x∈ys):Keep ys H H1:=fun c o e n=>a c o e fun z=>n (h c z)
theorem Keep.new {xs:List Addr} {H:Hp} {l:Addr} {o:HO} (h:H l=none):Keep xs H (upd H l o):=fun c u e _=>by rw [zad (zaa e h)];exact e
theorem Keep.wr {H:Hp} {l:Addr} {o:HO} {xs:List Addr} (h:l∈xs):Keep xs H (upd H l o):=fun c u e n=>by rw [zad (fun z=>n (by rw [z];exact h))];exact e
abbrev Ent:=Str×List Str×Addr
structure RAt (H:Hp) (d:Addr) (es:List Ent):Prop where
 dc:H d=some (.dK (es.map fun e=>((Sum.inr e.1:Key),V.ref e.2.2)))
 ro:∀ e∈es,H e.2.2=some (.lst (e.2.1.map V.str))
 nd:(es.map (·.1)).Nodup
def rsOf (es:List Ent):Rs Str:=es.map fun e=>(e.1,e.2.1)
theorem RAt.keep {H H':Hp} {d:Addr} {es:List Ent} {xs:List Addr} (r:RAt H d es) (k:Keep xs H H') (hd:d∉xs) (h:∀ e∈es,e.2.2∉xs):RAt H' d es:=⟨k _ _ r.dc hd,fun e he=>k _ _ (r.ro e he) (h e he),r.nd⟩
theorem zbx {es:List Ent} (nd:(es.map (·.1)).Nodup) {e:Ent} (h:e∈es):valV (es.map fun e=>((Sum.inr e.1:Key),V.ref e.2.2)) (Sum.inr e.1)=some (.ref e.2.2):=by
 induction es with
 | nil=>cases h
 | cons a t ih =>
  rw [Qk,Qt] at nd
  rw [Qk]
  rcases Qe.mp h with z | z
  ·subst z;exact zcm rfl
  ·rw [zbp]
   ·exact ih nd.2 z
   ·intro q
    exact nd.1 (by rw [Wm q];exact Qi.mpr ⟨e,z,rfl⟩)
theorem val_out {es:List Ent} {x:Str} (h:x∉es.map (·.1)):valV (es.map fun e=>((Sum.inr e.1:Key),V.ref e.2.2)) (Sum.inr x)=none:=by
 induction es with
 | nil=>rfl
 | cons a t ih =>
  rw [Qk,Qe,not_or] at h
  rw [Qk,zbp]
  ·exact ih h.2
  ·intro q;exact h.1 (Wm q).symm
theorem zb3 {es:List Ent} (nd:(es.map (·.1)).Nodup) {e:Ent} (h:e∈es):row (rsOf es) e.1=e.2.1:=by
 unfold row rsOf
 induction es with
 | nil=>cases h
 | cons a t ih =>
  rw [Qk,Qt] at nd
  rw [Qk]
  rcases Qe.mp h with z | z
  ·subst z;rw [Wh (by simp)];rfl
  ·rw [Wi]
   ·exact ih nd.2 z
   ·intro q
    exact nd.1 (by rw [of_decide_eq_true q];exact Qi.mpr ⟨e,z,rfl⟩)
def setE (es:List Ent) (x:Str) (r:List Str) (a:Addr):List Ent:=es.map fun e=>if e.1=x then (e.1,r,a) else e
theorem zey (es:List Ent) (x:Str) (r:List Str) (a:Addr):rsOf (setE es x r a)=zba (rsOf es) x r:=by
 unfold rsOf setE zba
 rw [Zn,Zn]
 refine Yy fun e _=>?_
 show (fun e:Ent=>(e.1,e.2.1)) (if e.1=x then (e.1,r,a) else e)=if e.1=x then (e.1,r) else (e.1,e.2.1)
 by_cases h:e.1=x
 ·rw [if_pos h,if_pos h]
 ·rw [if_neg h,if_neg h]
theorem put_setE {es:List Ent} {x:Str} {r:List Str} {a:Addr} (h:x∈es.map (·.1)):putK (es.map fun e=>((Sum.inr e.1:Key),V.ref e.2.2)) (Sum.inr x) (.ref a)=(setE es x r a).map fun e=>((Sum.inr e.1:Key),V.ref e.2.2):=by
 unfold putK setE
 rw [if_pos]
 ·rw [Zn,Zn]
  refine Yy fun e _=>?_
  show (if (Sum.inr e.1:Key)=Sum.inr x then ((Sum.inr e.1:Key),V.ref a) else (Sum.inr e.1,V.ref e.2.2))=(fun e:Ent=>((Sum.inr e.1:Key),V.ref e.2.2)) (if e.1=x then (e.1,r,a) else e)
  by_cases q:e.1=x
  ·rw [if_pos (by rw [q]),if_pos q]
  ·rw [if_neg (fun z=>q (Wm z)),if_neg q]
 ·obtain ⟨e,he,rfl⟩:=Qi.mp h
  exact Yj.mpr ⟨_,Qi.mpr ⟨e,he,rfl⟩,by simp⟩
theorem put_new {es:List Ent} {x:Str} {r:List Str} {a:Addr} (h:x∉es.map (·.1)):putK (es.map fun e=>((Sum.inr e.1:Key),V.ref e.2.2)) (Sum.inr x) (.ref a)=(es++[(x,r,a)]).map fun e=>((Sum.inr e.1:Key),V.ref e.2.2):=by
 rw [zea _ (val_out h),Qo]
 rfl
theorem zb5 (es:List Ent) (x:Str) (r:List Str) (a:Addr):(setE es x r a).map (·.1)=es.map (·.1):=by
 unfold setE
 rw [Zn]
 refine Yy fun e _=>?_
 show (if e.1=x then (e.1,r,a) else e).1=e.1
 split <;> rfl
theorem cut_to {xs:List V} {k:Nat} (h:k≤xs.length):cutV xs none (some (k:Int))=xs.take k:=by
 unfold cutV
 have e1:HT.sIx xs.length 0 none=0:=rfl
 have e2:HT.sIx xs.length xs.length (some (k:Int))=k:=by rw [HT.sIx_nat];omega
 rw [e1,e2];simp
theorem zel {xs:List V} {k:Nat} (h:k≤xs.length):cutV xs (some (k:Int)) none=xs.drop k:=by
 unfold cutV
 have e1:HT.sIx xs.length 0 (some (k:Int))=k:=by rw [HT.sIx_nat];omega
 have e2:HT.sIx xs.length xs.length none=xs.length:=rfl
 rw [e1,e2,Qp (by rw [List.length_drop];exact Qh _)]
theorem idx_lt {zs:List Str} {x:Str} (h:x∈zs):zs.idxOf x < zs.length:=List.idxOf_lt_length_iff.mpr h
theorem zhv {zs:List Str} {x:Str} (h:x∈zs):(∃ z,(zs.map V.str)[zs.idxOf x]?=some z∧eqV z (.str x)=true)∧∀ m z,m < zs.idxOf x→(zs.map V.str)[m]?=some z→eqV z (.str x)=false:=by
 refine ⟨⟨.str x,?_,beq_self_eq_true x⟩,fun m z hm e=>?_⟩
 ·rw [Qn,Qc (idx_lt h),List.getElem_idxOf];rfl
 ·rw [Qn] at e
  have hm2:m < zs.length:=Ws hm (idx_lt h)
  rw [Qc hm2] at e
  cases e
  show (zs[m] == x)=false
  refine beq_eq_false_iff_ne.mpr fun q=>?_
  have hne:∀ (l:List Str) (j:Nat) (hj:j < l.length),l[j]=x→l.idxOf x≤j:=by
   intro l
   induction l with
   | nil=>intro j hj;simp at hj
   | cons a t ih =>
    intro j hj e
    rw [Kv]
    cases j with
    | zero =>
     have e':a=x:=e
     rw [e'];simp
    | succ i =>
     have:=ih i (by simpa using hj) (by simpa using e)
     by_cases h:a=x
     ·rw [h];simp
     ·have hb:(a == x)=false:=beq_eq_false_iff_ne.mpr h
      rw [hb];simp;assumption
  have:=hne zs m hm2 q
  omega
theorem zcl (zs:List Str):(zs.map V.str).all zdu=true:=by
 rw [Ut];intro v hv;obtain ⟨x,_,rfl⟩:=Qi.mp hv;rfl
end K21
end
section
namespace K21
open PySem L2 Wb
abbrev sPot:Stmt:=top 29
abbrev zde:Stmt:=top 32
abbrev sPut:Stmt:=top 33
inductive IspPot (K:PySem.W.Frag) (vs:List V) (H:Hp) (Q:VK):Prop
 | mk (a:Addr) (ns:List Int) (j:Nat) (h0:vs=[.ref a,.int j]) (h1:SqL K H a (ns.map V.int)) (h2:j≤1000) (h3:∀ (l:Addr) (b m:Int) (H':Hp),H l=none→Pot H' l b m→Keep [] H H'→Q (.ref l) H'):IspPot K vs H Q
def spPot (K:PySem.W.Frag):Sp:=fun vs H Q _=>IspPot K vs H Q
inductive IspBehind (vs:List V) (H:Hp) (Q:VK):Prop
 | mk (a:Addr) (zs:List Str) (x:Str) (h0:vs=[.ref a,.str x]) (h1:H a=some (.lst (zs.map V.str))) (h2:x∈zs) (h3:zs.length≤1000) (h4:Q (.str (nxt zs x)) H):IspBehind vs H Q
def spBehind:Sp:=fun vs H Q _=>IspBehind vs H Q
def cornerV:Option Str→V
 | none=>.non
 | some c=>.str c
inductive IspPut (vs:List V) (H:Hp) (Q:VK):Prop
 | mk (d:Addr) (es:List Ent) (e:Ent) (c:Option Str) (n:Str) (h0:vs=[.ref d,.str e.1,cornerV c,.str n]) (h1:RAt H d es) (h2:e∈es) (h3:(∀ x,c=some x→x∈e.2.1)) (h4:e.2.1.length≤1000) (h5:es.length≤1000) (h6:∀ (a:Addr) (H':Hp),H a=none→RAt H' d (setE es e.1 (ins e.2.1 c n) a)→Keep [d] H H'→Q .non H'):IspPut vs H Q
def spPut:Sp:=fun vs H Q _=>IspPut vs H Q
section
variable {P:Program} {w:World} {K:PySem.W.Frag} {mg:Str→Option Value} {base:Heap}
theorem scPot:zas ["_law_script", "_law_k", "_law_cell"] ["_law_script", "_law_k"] (zaf sPot):=⟨rfl,rfl,rfl,by decide +kernel,rfl,by decide +kernel,by decide +kernel⟩
theorem ok_pot {f:Addr} {fd:FuncData} (F:Fun K "_law_pot" "_law_pot" sPot f fd) (hlen:mg "len" = none) (hmax:mg "max" = none) (habs:mg "abs" = none):FnOk P w K mg base CX0 1 f fd ["_law_script", "_law_k"] (spPot K):=by
 refine F.ok scPot (fun vs H Q E h=>?_) (fun cdv A outer s H vs Q E hr h=>?_)
 ·obtain ⟨a,ns,j,rfl,_⟩:=h
  rfl
 ·obtain ⟨a,ns,j,rfl,hS,hj,k⟩:=h
  refine ⟨_,zae (zam (i:=2) scPot.nd rfl (Or.inl rfl) (zaz zbl (zaz op_mul zai (pv 1)) zai))
   (zae (zcg (zay op_lt (pv 1) (zak zaq (by rfl) hlen Yb (zab (pv 0) zag)) (zb0 _)) (zah (zam (i:=2) scPot.nd rfl (Or.inl rfl) (zbb zat (pv 0) (pv 1) (fun _ _=>rfl)))) za4)
   (zah (zbk (zbd (zab (zak (call_max2 rfl) (by rfl) hmax PyProof.Rows.boot_max (zab zai (zab (zaz op_sub (zak call_abs (by rfl) habs PyProof.Rows.boot_abs (zab (pv 2) zag)) (zaz op_pow zai zai)) zag)))
    (zab (zaz zbl (zaz zc7 (zak call_abs (by rfl) habs PyProof.Rows.boot_abs (zab (pv 2) zag)) zai) zai) zag)))))),?_⟩
  have fin:∀ (c:Int) (l:Addr),H l=none→Q (.ref l) (upd H l (.lst [.int (if (if c < 0 then -c else c) - 10 ^ (18:Int).toNat > 0 then (if c < 0 then -c else c) - 10 ^ (18:Int).toNat else 0),.int ((if c < 0 then -c else c) % 2147483579+1)])):=fun c l hl=>by
   have h1:0≤(if c < 0 then -c else c) % 2147483579:=Ju _ (by decide)
   have h2:(if c < 0 then -c else c) % 2147483579 < 2147483579:=Jf _ (by decide)
   refine k l _ _ _ hl ⟨zac,?_,by lia,by lia⟩ (Keep.new hl)
   split <;> lia
  refine ⟨_,rfl,_,_,rfl,rfl,.inl ⟨by decide,by decide⟩,_,_,rfl,rfl,_,rfl,_,rfl,a,_,rfl,.inl hS,_,_,rfl,rfl,_,rfl,?_⟩
  refine ite2 (fun hlt=>?_) (fun _=>?_)
  ·have hlt':(j:Int) < ((ns.map V.int).length:Int):=of_decide_eq_true hlt
   have hj2:j < ns.length:=by rw [Qa] at hlt';exact zar8 ‹_›
   have g:(ns.map V.int)[j]?=some (.int ns[j]):=by rw [Qn,Qc hj2];rfl
   refine ⟨_,rfl,_,rfl,a,_,_,_,rfl,rfl,hS,zbo g,?_⟩
   refine ⟨_,rfl,_,rfl,_,_,rfl,rfl,⟨by decide,by decide,by decide⟩,_,_,rfl,rfl,_,_,rfl,_,rfl,_,rfl,_,_,rfl,rfl,(by show (0:Int) < 2147483579;decide),_,_,rfl,rfl,(by show 2≤sizeLine;decide),fun l hl=>fin _ l hl⟩
  ·refine ⟨_,rfl,_,rfl,_,_,rfl,rfl,⟨by decide,by decide,by decide⟩,_,_,rfl,rfl,_,_,rfl,_,rfl,_,rfl,_,_,rfl,rfl,(by show (0:Int) < 2147483579;decide),_,_,rfl,rfl,(by show 2≤sizeLine;decide),fun l hl=>fin _ l hl⟩
theorem scBehind:zas ["_law_row", "_law_name"] ["_law_row", "_law_name"] (zaf zde):=⟨rfl,rfl,rfl,by decide +kernel,rfl,by decide +kernel,by decide +kernel⟩
theorem ok_behind {f:Addr} {fd:FuncData} (F:Fun K "_law_behind" "_law_behind" zde f fd) (hlen:mg "len" = none):FnOk P w K mg base CX0 1 f fd ["_law_row", "_law_name"] spBehind:=by
 refine F.ok scBehind (fun vs H Q E h=>?_) (fun cdv A outer s H vs Q E hr h=>?_)
 ·obtain ⟨a,zs,x,rfl,_⟩:=h
  rfl
 ·obtain ⟨a,zs,x,rfl,ha,hx,hz,q⟩:=h
  refine ⟨_,zah (zbk (zbb zat (pv 0) (zaz zc7 (zaz zbl (zee Zu Km Kl zhq (pv 0) (zab (pv 1) zag)) zai)
   (zak zaq (by rfl) hlen Yb (zab (pv 0) zag))) (fun _ _=>rfl))),?_⟩
  obtain ⟨i1,i2⟩:=zhv hx
  have hpos:0 < zs.length:=Yf hx
  have hm:(zs.idxOf x+1) % zs.length < zs.length:=Nat.mod_lt _ hpos
  have g:(zs.map V.str)[(zs.idxOf x+1) % zs.length]?=some (.str (nxt zs x)):=by
   rw [Qn,Qc hm]
   unfold nxt
   simp [List.getD,hm]
  have e:((zs.idxOf x:Nat):Int)+1=((zs.idxOf x+1:Nat):Int):=by lia
  have g2:atI (zs.map V.str) ((((zs.idxOf x:Nat):Int)+1) % ((zs.map V.str).length:Int))=some (.str (nxt zs x)):=by
   rw [e,Qa,← Int.natCast_emod]
   exact zbo g
  refine ⟨_,rfl,_,rfl,.inl ⟨rfl,_,SqL.of ha⟩,_,rfl,a,_,_,_,rfl,rfl,ha,rfl,zcl zs,i1,i2,_,_,rfl,rfl,_,rfl,a,_,rfl,.inl (SqL.of ha),_,_,rfl,rfl,?_,a,_,_,_,rfl,rfl,SqL.of ha,g2,q⟩
  rw [Qa];exact zar9 ‹_›
theorem scPut:zas ["_law_rounds_here", "_law_one", "_law_corner", "_law_other", "_law_row", "_law_at"] ["_law_rounds_here", "_law_one", "_law_corner", "_law_other"] (zaf sPut):=⟨rfl,rfl,rfl,by decide +kernel,rfl,by decide +kernel,by decide +kernel⟩
theorem ok_put {f:Addr} {fd:FuncData} (F:Fun K "_law_put" "_law_put" sPut f fd):FnOk P w K mg base CX0 1 f fd ["_law_rounds_here", "_law_one", "_law_corner", "_law_other"] spPut:=by
 refine F.ok scPut (fun vs H Q E h=>?_) (fun cdv A outer s H vs Q E hr h=>?_)
 ·obtain ⟨d,es,e,c,n,rfl,_⟩:=h
  rfl
 ·obtain ⟨d,es,e,c,n,rfl,R,he,hc,hl,hes,k⟩:=h
  have hu:=zce hr
  have hrow:=R.ro e he
  refine ⟨_,zae (zam (i:=4) scPut.nd rfl (Or.inl rfl) (zau hu (pv 0) (pv 1) (fun _ _=>rfl)))
   (zae (zam (i:=5) scPut.nd rfl (Or.inl rfl) zai)
   (zae (zcg (ze7 (pc_notN (pv 2))) (zah (zam (i:=5) scPut.nd rfl (Or.inl rfl) (zaz zbl (zee Zu Km Kl zhq (pv 4) (zab (pv 2) zag)) zai))) za4)
   (zah (zbv hu (pv 0) (pv 1) (zaz zf0 (zaz zf0 (zcp zda (pv 4) zct (zc1 (pv 5))) (zbd (zab (pv 3) zag))) (zcp zda (pv 4) (zc1 (pv 5)) zct)) rfl)))),?_⟩
  refine ⟨_,rfl,_,rfl,d,_,rfl,(zbx R.nd he ▸ DGet.k (k:=Sum.inr e.1) R.dc),?_⟩
  have hes':es.length < sizeLine:=small1000 hes
  have fin:∀ j:Nat,j≤e.2.1.length→ins e.2.1 c n=e.2.1.take j++n::e.2.1.drop j→sDPut (tVar 0) (tVar 1) (tOp rCat (tOp rCat (tSl (rSlL K) (tVar 4) tNoPart (tPart (tVar 5))) (tLst (tCons (tVar 3) tNil))) (tSl (rSlL K) (tVar 4) (tPart (tVar 5)) tNoPart))
    {nx:=fun _ H'=>Q .non H',rt:=Q } [some (.ref d),some (.str e.1),some (cornerV c),some (.str n),some (.ref e.2.2),some (.int j)] H:=fun j hj ei=>by
   have hlm:(e.2.1.map V.str).length=e.2.1.length:=Qa ..
   have hs0:sizeLine=16777216:=sizeLine_eq
   refine ⟨_,rfl,_,rfl,_,rfl,e.2.2,_,rfl,SqL.of hrow,fun p1 h1=>?_⟩
   have k1:Keep [d] H (upd H p1 (.lst (cutV (e.2.1.map V.str) none (some (j:Int))))):=Keep.new h1
   refine ⟨_,rfl,(by show 1≤sizeLine;decide),fun p2 h2=>?_⟩
   have n12:p1≠p2:=zaa (o:=_) zac h2
   refine ⟨p1,p2,_,_,rfl,rfl,(by rw [zad n12];exact zac),zac,?_,fun p3 h3=>?_⟩
   ·have:=za1 (e.2.1.map V.str) none (some (j:Int))
    rw [hlm] at this
    show _+1≤sizeLine
    lia
   generalize hH2:upd (upd H p1 (.lst (cutV (e.2.1.map V.str) none (some (j:Int))))) p2 (.lst [.str n])=H2 at h3 ⊢
   have k2:Keep [] H H2:=by rw [← hH2];exact (Keep.new h1).trans (Keep.new h2)
   have hrow2:=k2 _ _ hrow (by simp)
   have n3:e.2.2≠p3:=zaa hrow2 h3
   refine ⟨_,rfl,_,rfl,_,rfl,e.2.2,_,rfl,SqL.of (by rw [zad n3];exact hrow2),fun p4 h4=>?_⟩
   have n34:p3≠p4:=zaa (o:=_) zac h4
   refine ⟨p3,p4,_,_,rfl,rfl,(by rw [zad n34];exact zac),zac,?_,fun p5 h5=>?_⟩
   ·have q1:=za1 (e.2.1.map V.str) none (some (j:Int))
    have q2:=za1 (e.2.1.map V.str) (some (j:Int)) none
    rw [hlm] at q1 q2
    rw [Qw]
    show _+1+_≤sizeLine
    lia
   generalize hH4:upd (upd H2 p3 (.lst (cutV (e.2.1.map V.str) none (some (j:Int))++[.str n]))) p4 (.lst (cutV (e.2.1.map V.str) (some (j:Int)) none))=H4 at h5 ⊢
   have k4:Keep [] H H4:=by rw [← hH4];exact (k2.trans (Keep.new h3)).trans (Keep.new h4)
   have hd4:=k4 _ _ R.dc (by simp)
   have nd5:d≠p5:=zaa hd4 h5
   refine ⟨_,rfl,_,rfl,d,_,rfl,DPut.k (k:=Sum.inr e.1) (by rw [zad nd5];exact hd4) (by rw [Qa];exact hes'),?_⟩
   have hnew:H p5=none:=by
    cases z:H p5 with
    | none=>rfl
    | some o=>rw [k4 _ _ z (by simp)] at h5;cases h5
   have hkey:e.1∈es.map (·.1):=Qi.mpr ⟨e,he,rfl⟩
   have el:cutV (e.2.1.map V.str) none (some (j:Int))++[V.str n]++cutV (e.2.1.map V.str) (some (j:Int)) none=(ins e.2.1 c n).map V.str:=by
    rw [cut_to (by rw [hlm];exact hj),zel (by rw [hlm];exact hj),ei,Qo,Qk,Ui,Jn,Qy]
    rfl
   refine k p5 _ hnew ⟨?_,fun e' he'=>?_,by rw [zb5];exact R.nd⟩ fun x o ex nx=>?_
   ·rw [zac,put_setE (r:=ins e.2.1 c n) hkey]
   ·unfold setE at he'
    obtain ⟨e0,h0,rfl⟩:=Qi.mp he'
    by_cases z:e0.1=e.1
    ·rw [if_pos z]
     rw [zad (Zl nd5),zac,el]
    ·rw [if_neg z]
     have r0:=R.ro e0 h0
     have nd0:e0.2.2≠d:=za0 r0 R.dc (by intro z;cases z)
     rw [zad nd0,zad (zaa (k4 _ _ r0 (by simp)) h5)]
     exact k4 _ _ r0 (by simp)
   ·have nxd:x≠d:=fun z=>nx (by rw [z];exact Qd.mpr rfl)
    rw [zad nxd,zad (zaa (k4 _ _ ex (by simp)) h5)]
    exact k4 _ _ ex (by simp)
  cases c with
  | none =>
   refine ⟨_,rfl,_,rfl,?_⟩
   refine iteF ?_
   exact fin 0 (Zd _) rfl
  | some x =>
   have hx:=hc x rfl
   obtain ⟨i1,i2⟩:=zhv hx
   refine ⟨_,rfl,_,rfl,?_⟩
   refine iteT ?_
   refine ⟨_,rfl,.inl ⟨rfl,_,SqL.of hrow⟩,_,rfl,e.2.2,_,_,_,rfl,rfl,hrow,rfl,zcl _,i1,i2,_,_,rfl,rfl,?_⟩
   have:=fin (e.2.1.idxOf x+1) (idx_lt hx) rfl
   have e1:((e.2.1.idxOf x+1:Nat):Int)=(e.2.1.idxOf x:Int)+1:=by lia
   rw [e1] at this
   exact this
end
end K21
end
section
namespace Wb
section
variable {α:Type} [DecidableEq α]
def itr (rs:Rs α) (s:α×α):Nat→α×α
 | 0=>s
 | n+1=>stp rs (itr rs s n)
def IsSt (rs:Rs α) (s:α×α):Prop:=∃ p∈rs,p.1=s.2∧s.1∈p.2
def zia (rs:Rs α):List (α×α):=rs.flatMap fun p=>p.2.map fun x=>(x,p.1)
theorem mem_allSt {rs:Rs α} {s:α×α}:s∈zia rs↔IsSt rs s:=by
 unfold zia IsSt
 rw [List.mem_flatMap]
 constructor
 ·rintro ⟨p,hp,h⟩
  obtain ⟨x,hx,rfl⟩:=Qi.mp h
  exact ⟨p,hp,rfl,hx⟩
 ·rintro ⟨p,hp,e,hx⟩
  exact ⟨p,hp,Qi.mpr ⟨s.1,hx,by rw [e]⟩⟩
def Clo (rs:Rs α):Prop:=∀ s,IsSt rs s→IsSt rs (stp rs s)
theorem itr_st {rs:Rs α} (c:Clo rs) {s:α×α} (h:IsSt rs s):∀ n,IsSt rs (itr rs s n)
 | 0=>h
 | n+1=>c _ (itr_st c h n)
def run (rs:Rs α) (s:α×α) (n:Nat):List (α×α):=(List.range n).map (itr rs s)
theorem run_succ (rs:Rs α) (s:α×α) (n:Nat):run rs s (n+1)=run rs s n++[itr rs s n]:=by
 unfold run;rw [List.range_succ,List.map_append];rfl
theorem zf6 {l m:List (α×α)} (nd:l.Nodup) (h:∀ x∈l,x∈m):l.length≤m.length:=by
 induction l generalizing m with
 | nil=>exact Zd _
 | cons a t ih =>
  rw [Qt] at nd
  have ha:=h a Qb
  have:=ih (m:=m.erase a) nd.2 fun x hx=>(Jq (fun e=>nd.1 (by rw [← e];exact hx))).mpr (h x (Qf _ hx))
  rw [Zy ha] at this
  have hp:0 < m.length:=Yf ha
  rw [Qq];lia
end
end Wb
namespace K21
open PySem L2 Wb
abbrev sFace:Stmt:=top 34
inductive IspFace (vs:List V) (H:Hp) (Q:VK):Prop
 | mk (d:Addr) (es:List Ent) (s:Str×Str) (h0:vs=[.ref d,.str s.1,.str s.2]) (h1:RAt H d es) (h2:IsSt (rsOf es) s) (h3:Clo (rsOf es)) (h4:(zia (rsOf es)).length≤900) (h5:(∀ e∈es,e.2.1.length≤900)) (h6:∀ (l:Addr) (as:List Addr) (n:Nat) (H':Hp),H l=none→H' l=some (.lst (as.map V.ref))→za7 H' as (run (rsOf es) s n)→(run (rsOf es) s n).Nodup→0 < n→itr (rsOf es) s n∈run (rsOf es) s n→Keep [] H H'→Q (.ref l) H'):IspFace vs H Q
def spFace:Sp:=fun vs H Q _=>IspFace vs H Q
section
variable {P:Program} {w:World} {K:PySem.W.Frag} {mg:Str→Option Value} {base:Heap}
theorem za7.keep {H H':Hp} {as:List Addr} {qs:List (Str×Str)} (r:za7 H as qs) (k:∀ b x y,H b=some (.tup [x,y])→H' b=some (.tup [x,y])):za7 H' as qs:=by
 induction r with
 | nil=>exact .nil
 | cons h t ih=>exact .cons (k _ _ _ h) ih
theorem za7.snoc {H:Hp} {as:List Addr} {qs:List (Str×Str)} {a:Addr} {q:Str×Str} (r:za7 H as qs) (h:H a=some (.tup [.str q.1,.str q.2])):za7 H (as++[a]) (qs++[q]):=by
 induction r with
 | nil=>exact .cons h .nil
 | cons h' t ih=>exact .cons h' ih
theorem scFace:zas ["_law_rounds_here", "_law_corner", "_law_one", "_law_found", "_law_step"] ["_law_rounds_here", "_law_corner", "_law_one"] (zaf sFace):=⟨rfl,rfl,rfl,by decide +kernel,rfl,by decide +kernel,by decide +kernel⟩
theorem ok_face {f fb:Addr} {fd fdb:FuncData} (F:Fun K "_law_face" "_law_face" sFace f fd) (FB:Fun K "_law_behind" "_law_behind" zde fb fdb) (bB:Binds K fdb ["_law_row", "_law_name"] []) (mB:mg "_law_behind" = some (.ref fb)) (hlen:mg "len" = none) :
  FnOk P w K mg base CX0 2 f fd ["_law_rounds_here", "_law_corner", "_law_one"] spFace:=by
 have GB:FnOk P w K mg base CX0 1 fb fdb ["_law_row", "_law_name"] spBehind:=ok_behind FB hlen
 refine F.ok scFace (fun vs H Q E h=>?_) (fun cdv A outer s H vs Q E hr h=>?_)
 ·obtain ⟨d,es,s,rfl,_⟩:=h
  rfl
 ·obtain ⟨d,es,st,rfl,R,hst,hclo,hN,hrl,k⟩:=h
  have hu:=zce hr
  refine ⟨_,zae (zam (i:=3) scFace.nd rfl (Or.inl rfl) (zbd zag))
   (zae (zam (i:=4) scFace.nd rfl (Or.inl rfl) (zfx (zab (pv 1) (zab (pv 2) zag))))
   (zae (zec Zg (zay (zgs hu) (pv 4) (pv 3) rfl)
    (zae (za8 (zee Zu Yw Yv zcc (pv 3) (zab (pv 4) zag)))
    (zah (zam (i:=4) scFace.nd rfl (Or.inl rfl) (zfx (zab (zbb zgc (pv 4) zai (fun _ _=>rfl))
     (zab (zal GB hr rfl mB FB.kp bB .nil zax (zab (zau hu (pv 0) (zbb zgc (pv 4) zai (fun _ _=>rfl)) (fun _ _=>rfl)) (zab (zbb zgc (pv 4) zai (fun _ _=>rfl)) zag))) zag)))))))
   (zah (zbk (pv 3))))),?_⟩
  refine ⟨(by show 0≤sizeLine;decide),fun l hl=>?_⟩
  refine ⟨_,rfl,_,rfl,(by show 2≤sizeLine;decide),fun t0 ht0=>?_⟩
  have nlt:l≠t0:=zaa (o:=_) zac ht0
  have k0:Keep [l] H (upd (upd H l (.lst [])) t0 (.tup [.str st.1,.str st.2])):=(Keep.new hl).trans (Keep.new ht0)
  refine ⟨fun m σ H1=>Ex3 fun (n:Nat) (t:Addr) (as:List Addr)=>Aj7 (m=901 - n) (σ=[some (.ref d),some (.str st.1),some (.str st.2),some (.ref l),some (.ref t)]) (Keep [l] H H1) (H1 l=some (.lst (as.map V.ref))) (za7 H1 as (run (rsOf es) st n)) ((run (rsOf es) st n).Nodup) (H1 t=some (.tup [.str (itr (rsOf es) st n).1,.str (itr (rsOf es) st n).2])),
   ⟨_,0,t0,[],rfl,rfl,k0,by rw [zad nlt];exact zac,.nil,Zo,zac⟩,?_⟩
  rintro m σ H1 ⟨n,t,as,rfl,rfl,k1,hl1,pa,nd,ht⟩
  refine ⟨_,rfl,_,rfl,t,l,itr (rsOf es) st n,as,run (rsOf es) st n,rfl,rfl,ht,SqL.of hl1,pa,_,rfl,?_⟩
  have hlen:as.length=n:=by
   have:=Ym pa
   unfold Wb.run at this
   rw [Qa,Uc] at this
   exact this
  by_cases hin:itr (rsOf es) st n∈run (rsOf es) st n
  ·-- it was there: the end
   have e:(if (true:Bool)=true then !decide (itr (rsOf es) st n∈run (rsOf es) st n) else decide (itr (rsOf es) st n∈run (rsOf es) st n))=false:=by
    rw [if_pos rfl,decide_eq_true hin];rfl
   rw [e]
   refine iteF ?_
   refine ⟨_,rfl,?_⟩
   have hn0:0 < n:=by
    rcases Nat.eq_zero_or_pos n with z | z
    ·rw [z] at hin;cases hin
    ·exact z
   refine k l as n H1 hl hl1 pa nd hn0 hin fun c o ec _=>k1 c o ec fun z=>?_
   rw [Qd.mp z,hl] at ec
   cases ec
  ·have e:(if (true:Bool)=true then !decide (itr (rsOf es) st n∈run (rsOf es) st n) else decide (itr (rsOf es) st n∈run (rsOf es) st n))=true:=by
    rw [if_pos rfl,decide_eq_false hin];rfl
   rw [e]
   refine iteT ?_
   have nd':(run (rsOf es) st (n+1)).Nodup:=by
    rw [run_succ,Za]
    refine ⟨nd,Qt.mpr ⟨by simp,Zo⟩,fun a ha b hb=>?_⟩
    rw [Qd.mp hb]
    exact fun z=>hin (z ▸ ha)
   have hn:n+1≤900:=by
    have:=zf6 nd' (m:=zia (rsOf es)) fun x hx=>by
     obtain ⟨i,_,rfl⟩:=Qi.mp hx
     exact mem_allSt.mpr (itr_st hclo hst i)
    unfold Wb.run at this
    rw [Qa,Uc] at this
    exact Zf ‹_› ‹_›
   obtain ⟨p,hp,ep,hsx⟩:=itr_st hclo hst n
   obtain ⟨en,hen,rfl⟩:=Qi.mp hp
   have hsx':(itr (rsOf es) st n).1∈en.2.1:=hsx
   have ep':en.1=(itr (rsOf es) st n).2:=ep
   have nld:d≠l:=zaa R.dc hl
   have hd1:=k1 _ _ R.dc (by simpa using nld)
   have hr1:=R.ro en hen
   have nlr:en.2.2≠l:=zaa hr1 hl
   have hrow1:=k1 _ _ hr1 (by simpa using nlr)
   have ntl:t≠l:=za0 ht hl1 (by intro z;cases z)
   have hs0:sizeLine=16777216:=sizeLine_eq
   refine ⟨_,fun σ' H' z=>z,?_⟩
   refine ⟨_,rfl,.inl ⟨rfl,_,SqL.of hl1⟩,_,rfl,l,_,_,rfl,rfl,hl1,by rw [Qa];lia,?_⟩
   generalize hH2:upd H1 l (.lst (as.map V.ref++[V.ref t]))=H2
   have ht2:H2 t=some (.tup [.str (itr (rsOf es) st n).1,.str (itr (rsOf es) st n).2]):=by rw [← hH2,zad ntl];exact ht
   have hl2:H2 l=some (.lst ((as++[t]).map V.ref)):=by rw [← hH2,zac,Qo];rfl
   have hd2:H2 d=some (.dK (es.map fun e=>((Sum.inr e.1:Key),V.ref e.2.2))):=by rw [← hH2,zad nld];exact hd1
   have hrow2:H2 en.2.2=some (.lst (en.2.1.map V.str)):=by rw [← hH2,zad nlr];exact hrow1
   have k2:Keep [l] H H2:=by rw [← hH2];exact k1.trans (Keep.wr Qb)
   have pa2:za7 H2 (as++[t]) (run (rsOf es) st (n+1)):=by
    rw [run_succ]
    refine za7.snoc (za7.keep pa fun b x y eb=>?_) ht2
    rw [← hH2,zad (za0 eb hl1 (by intro z;cases z))];exact eb
   have i0:∀ x y:V,atI [x,y] ((0:Nat):Int)=some x:=fun x y=>zbo rfl
   have i1:∀ x y:V,atI [x,y] ((1:Nat):Int)=some y:=fun x y=>zbo rfl
   refine ⟨_,rfl,t,_,_,_,rfl,rfl,SqT.of ht2,i1 _ _,?_⟩
   refine ⟨_,rfl,_,rfl,t,_,_,_,rfl,rfl,SqT.of ht2,i1 _ _,d,.ref en.2.2,rfl,?_,?_⟩
   ·have:=DGet.k (k:=Sum.inr en.1) hd2
    rw [zbx R.nd hen] at this
    rw [← ep']
    exact this
   refine ⟨_,rfl,t,_,_,_,rfl,rfl,SqT.of ht2,i0 _ _,?_⟩
   refine ⟨en.2.2,en.2.1,(itr (rsOf es) st n).1,rfl,hrow2,hsx',Zf (hrl en hen) (by decide),?_⟩
   refine ⟨(by show 2≤sizeLine;decide),fun t' ht'=>?_⟩
   have hrw:row (rsOf es) (itr (rsOf es) st n).2=en.2.1:=by rw [← ep'];exact zb3 R.nd hen
   have enx:itr (rsOf es) st (n+1)=((itr (rsOf es) st n).2,nxt en.2.1 (itr (rsOf es) st n).1):=by
    show stp (rsOf es) (itr (rsOf es) st n)=_
    unfold stp;rw [hrw]
   have nl':l≠t':=zaa hl2 ht'
   refine ⟨900 - n,by lia,n+1,t',as++[t],by lia,rfl,k2.trans (Keep.new ht'),by rw [zad nl'];exact hl2,za7.keep pa2 fun b x y eb=>?_,nd',by rw [zac,enx]⟩
   rw [zad (zaa eb ht')];exact eb
end
end K21
end
section
namespace Wb
section
variable {α:Type} [DecidableEq α]
structure Gen (G:Rs α→Prop):Prop where
 clo:∀ rs,G rs→Clo rs
 nd:∀ rs,G rs→(rs.map (·.1)).Nodup
 sub:∀ rs,G rs→∀ p∈rs,p.2.Nodup∧∀ x∈p.2,x∈rs.map (·.1)
 sy:∀ rs,G rs→∀ p∈rs,∀ x∈p.2,p.1∈row rs x
 nil:G []
 new:∀ rs x,G rs→x∉rs.map (·.1)→G (rs++[(x,[])])
 leaf:∀ rs x p c,G rs→x∉rs.map (·.1)→p∈rs→(∀ y,c=some y→y∈p.2)→(c=none→p.2=[])→G (zba (zba (rs++[(x,[])]) p.1 (ins p.2 c x)) x [p.1])
 tie:∀ rs c p n,G rs→p∈rs→c∈p.2→(itr rs (c,p.1) n).2≠p.1→(itr rs (c,p.1) n).2∉p.2 →
  G (zba (zba rs p.1 (ins p.2 (some c) (itr rs (c,p.1) n).2)) (itr rs (c,p.1) n).2 (ins (row rs (itr rs (c,p.1) n).2) (some (itr rs (c,p.1) n).1) p.1))
theorem zcd {l m:List α} (nd:l.Nodup) (h:∀ x∈l,x∈m):l.length≤m.length:=by
 induction l generalizing m with
 | nil=>exact Zd _
 | cons a t ih =>
  rw [Qt] at nd
  have ha:=h a Qb
  have:=ih (m:=m.erase a) nd.2 fun x hx=>(Jq (fun e=>nd.1 (by rw [← e];exact hx))).mpr (h x (Qf _ hx))
  rw [Zy ha] at this
  have hp:0 < m.length:=Yf ha
  rw [Qq];lia
theorem Gen.rows {G:Rs α→Prop} (g:Gen G) {rs:Rs α} (h:G rs):∀ p∈rs,p.2.length≤rs.length:=fun p hp=>by
 obtain ⟨a,b⟩:=g.sub rs h p hp
 have:=zcd a b
 rwa [Qa] at this
theorem Gen.steps {G:Rs α→Prop} (g:Gen G) {rs:Rs α} (h:G rs) (hl:rs.length≤30):(zia rs).length≤900:=by
 have key:∀ (l:Rs α) (n:Nat),(∀ p∈l,p.2.length≤n)→(zia l).length≤l.length*n:=by
  intro l n
  induction l with
  | nil=>intro _;simp [zia]
  | cons a t ih =>
   intro hh
   have h1:=ih fun p hp=>hh p (Qf _ hp)
   have h2:=hh a Qb
   unfold zia at h1 ⊢
   rw [Kh,Qw,Qa,Qq,Nat.succ_mul]
   lia
 have:=key rs rs.length (g.rows h)
 have:rs.length*rs.length≤30*30:=Nat.mul_le_mul hl hl
 exact Zf ‹_› ‹_›
end
end Wb
namespace K21
open PySem L2 Wb
abbrev sTie:Stmt:=top 35
theorem zc6 {H:Hp} {p a:Addr} {b m:Int} {zs:List Str} (h:Pot H p b m) (ha:H a=some (.lst (zs.map V.str))):a≠p:=za0 ha h.1 (by
 intro z
 have z':zs.map V.str=[.int b,.int m]:=by injection z
 cases zs with
 | nil=>cases z'
 | cons x t=>rw [Qk] at z';injection z' with z1 _;cases z1)
theorem pot_nd {H:Hp} {p d:Addr} {b m:Int} {kvs:List (Key×V)} (h:Pot H p b m) (hd:H d=some (.dK kvs)):d≠p:=za0 hd h.1 (by intro z;cases z)
theorem RAt.pot {H H':Hp} {d p:Addr} {b m:Int} {es:List Ent} (r:RAt H d es) (h:Pot H p b m) (k:Keep [p] H H'):RAt H' d es :=
 r.keep k (by simpa using pot_nd h r.dc) fun e he=>by simpa using zc6 h (r.ro e he)
theorem Pot.keep {H H':Hp} {p:Addr} {b m:Int} {xs:List Addr} (h:Pot H p b m) (k:Keep xs H H') (hp:p∉xs):Pot H' p b m:=⟨k _ _ h.1 hp,h.2⟩
theorem zbj {H H':Hp} {p:Addr} (h:∀ c o,H c=some o→c≠p→H' c=some o):Keep [p] H H':=fun c o e n=>h c o e fun z=>n (by rw [z];exact Qd.mpr rfl)
inductive IspTie (G:Rs Str→Prop) (vs:List V) (H:Hp) (Q:VK):Prop
 | mk (p d:Addr) (b m:Int) (es:List Ent) (h0:vs=[.ref p,.ref d]) (h1:Pot H p b m) (h2:RAt H d es) (h3:G (rsOf es)) (h4:es.length≤30) (h5:∀ (b' m':Int) (es':List Ent) (H':Hp),Pot H' p b' m'→RAt H' d es'→G (rsOf es')→es'.map (·.1)=es.map (·.1)→Keep [p,d] H H'→Q .non H'):IspTie G vs H Q
def spTie (G:Rs Str→Prop):Sp:=fun vs H Q _=>IspTie G vs H Q
section
variable {P:Program} {w:World} {K:PySem.W.Frag} {mg:Str→Option Value} {base:Heap}
theorem scTie:zas ["_law_pot_here", "_law_rounds_here", "_law_some", "_law_one", "_law_corner", "_law_steps", "_law_begin", "_law_after", "_law_other"] ["_law_pot_here", "_law_rounds_here"] (zaf sTie):=⟨rfl,rfl,rfl,by decide +kernel,rfl,by decide +kernel,by decide +kernel⟩
abbrev csTie:Scope:=scOf (aOf 0 (eOf (sAt sTie 0)))
theorem csTie_k:csTie.kind=.function:=by rfl
theorem csTie_c:∀ y∈csTie.names,y.2≠.cell:=by decide +kernel
theorem csTie_n:∀ y∈csTie.names,y.2=.local→csTie.names.lookup y.1=some .local:=by decide +kernel
theorem csTie_f:∀ y∈csTie.names,y.2=.free→(zaf sTie).names.lookup y.1=some .cell∨(zaf sTie).names.lookup y.1=some .free:=by decide +kernel
theorem csTie_l:csTie.names.lookup ("_law_rounds_here" : Str)=some NameKind.free:=by decide +kernel
theorem ze1 {x:Str} {zs:List Str}:inV (.str x) (zs.map V.str)=decide (x∈zs):=by
 unfold inV
 rw [Zv,Yj,decide_eq_true_iff]
 constructor
 ·rintro ⟨v,hv,e⟩
  obtain ⟨y,hy,rfl⟩:=Qi.mp hv
  have e':y=x:=eq_of_beq e
  rw [← e'];exact hy
 ·intro h
  exact ⟨.str x,Qi.mpr ⟨x,h,rfl⟩,beq_self_eq_true x⟩
theorem zbh {c:Bool} {A B:Prop} (h:c=false) (b:B):if c=true then A else B:=by rw [h];exact iteF b
theorem zb8 {c:Bool} {A B:Prop} (h:c=true) (a:A):if c=true then A else B:=by rw [h];exact iteT a
theorem op_ne_nilK {X:Cx} {K:PySem.W.Frag} (hK:X.K=K) (hu:X.A.units < cLine):OpR X (compareOp .NotEq) (rNil true K):=hK ▸ zeg hu
theorem nd2:(["_law_name", "_law_rounds_here"]:List Str).Nodup:=by decide +kernel
theorem ok_tie {G:Rs Str→Prop} (g:Gen G) {f ft fb ff fp:Addr} {fd fdt fdb fdf fdp:FuncData} (F:Fun K "_law_tie" "_law_tie" sTie f fd)
  (FT:Fun K "_law_take" "_law_take" zeu ft fdt) (bT:Binds K fdt ["_law_pot_here", "_law_many"] []) (mT:mg "_law_take" = some (.ref ft))
  (FB:Fun K "_law_behind" "_law_behind" zde fb fdb) (bB:Binds K fdb ["_law_row", "_law_name"] []) (mB:mg "_law_behind" = some (.ref fb))
  (FF:Fun K "_law_face" "_law_face" sFace ff fdf) (bF:Binds K fdf ["_law_rounds_here", "_law_corner", "_law_one"] []) (mF:mg "_law_face" = some (.ref ff))
  (FP:Fun K "_law_put" "_law_put" sPut fp fdp) (bP:Binds K fdp ["_law_rounds_here", "_law_one", "_law_corner", "_law_other"] []) (mP:mg "_law_put" = some (.ref fp))
  (hlen:mg "len" = none) (hsor:mg "sorted" = none) (hdm:mg "divmod" = none):FnOk P w K mg base CX0 3 f fd ["_law_pot_here", "_law_rounds_here"] (spTie G):=by
 have GT:FnOk P w K mg base CX0 1 ft fdt ["_law_pot_here", "_law_many"] ze6:=zhn FT hdm
 have GF:FnOk P w K mg base CX0 2 ff fdf ["_law_rounds_here", "_law_corner", "_law_one"] spFace:=ok_face FF FB bB mB hlen
 have GP:FnOk P w K mg base CX0 1 fp fdp ["_law_rounds_here", "_law_one", "_law_corner", "_law_other"] spPut:=ok_put FP
 refine F.ok scTie (fun vs H Q E h=>?_) (fun cdv A outer s0 H0 vs Q E hr h=>?_)
 ·obtain ⟨p,d,b,m,es,rfl,_⟩:=h
  rfl
 ·obtain ⟨p,d,b,m,es,rfl,hp,R,hG,hes,k⟩:=h
  have hu:=zce hr
  have hu1:=Jh hu
  have hr1:Room 1 _:=hr.mono (by decide)
  refine ⟨_,zae (zam (i:=2) scTie.nd rfl (Or.inl rfl) (zak zfb (by rfl) hsor Yx (zab
    (pe_thaw (zd1 (M:=["_law_name", "_law_rounds_here"]) (ix:=[none,some 1]) ⟨csTie_k,csTie_c,csTie_n,csTie_f,rfl,by decide +kernel,fun j i x h1 h2=>by
      match j,h1,h2 with
      | 0,_,h2=>cases h2
      | 1,h1,h2=>cases h1;cases h2;exact ⟨rfl,csTie_l⟩
      | n+2,h1,_=>cases h1⟩ rfl (zd0 (pv 1)) (fun C pins ex s H=>zaj (i:=0) nd2 rfl (Or.inl rfl) (Or.inr rfl))
     (fun C pins ex s H=>zc0 (zay (op_ne_nilK (K:=K) rfl hu1) (zau (by exact hu) (pv 1) (pv 0) (fun _ _=>rfl)) (zbd zag) (zb0 _))) (fun C pins ex s H=>pv 0))) zag)))
   (zae (zcg (zay (op_eq_nil hu1) (pv 2) (zbd zag) (zb0 _)) (zah ps_retN) za4)
   (zae (zam (i:=3) scTie.nd rfl (Or.inl rfl) (zbb zat (pv 2) (zal GT hr1 rfl mT FT.kp bT .nil zax (zab (pv 0) (zab (zak zaq (by rfl) hlen Yb (zab (pv 2) zag)) zag))) (fun _ _=>rfl)))
   (zae (zam (i:=4) scTie.nd rfl (Or.inl rfl) (zbb zat (zau hu (pv 1) (pv 3) (fun _ _=>rfl)) (zal GT hr1 rfl mT FT.kp bT .nil zax (zab (pv 0) (zab (zak zaq (by rfl) hlen Yb (zab (zau hu (pv 1) (pv 3) (fun _ _=>rfl)) zag)) zag))) (fun _ _=>rfl)))
   (zae (zam (i:=5) scTie.nd rfl (Or.inl rfl) (zal GF hr rfl mF FF.kp bF .nil zax (zab (pv 1) (zab (pv 4) (zab (pv 3) zag)))))
   (zae (zam (i:=6) scTie.nd rfl (Or.inl rfl) (zal GT hr1 rfl mT FT.kp bT .nil zax (zab (pv 0) (zab (zak zaq (by rfl) hlen Yb (zab (pv 5) zag)) zag))))
   (zah (zbe Zg rfl (zaw (zaz zf0 (zcp zda (pv 5) (zc1 (pv 6)) zct) (zcp zda (pv 5) zct (zc1 (pv 6)))))
     (zgz rfl (zbc (zaj (i:=7) scTie.nd rfl (Or.inl rfl)) (zbc (zaj (i:=8) scTie.nd rfl (Or.inl rfl)) zdf)))
    (zah (zcg (PW.pt (pw_and (zay op_ne (pv 8) (pv 3) (zb0 _)) (pw_and1 (zay zcq (pv 8) (zau hu (pv 1) (pv 3) (fun _ _=>rfl)) rfl))))
     (zae (za8 (zal GP hr1 rfl mP FP.kp bP .nil zax (zab (pv 1) (zab (pv 3) (zab (pv 4) (zab (pv 8) zag))))))
     (zae (za8 (zal GP hr1 rfl mP FP.kp bP .nil zax (zab (pv 1) (zab (pv 8) (zab (pv 7) (zab (pv 3) zag))))))
     (zah ps_retN))) za4))))))))),?_⟩
  have nfz:∀ o' u',H0 d≠some (.frz o' u'):=fun o' u' z=>by rw [R.dc] at z;cases z
  have hs0:sizeLine=16777216:=sizeLine_eq
  have hlenes:(rsOf es).length=es.length:=Qa ..
  have hrow:∀ e∈es,e.2.1.length≤30:=fun e he=>by
   have:=g.rows hG (e.1,e.2.1) (Qi.mpr ⟨e,he,rfl⟩)
   rw [hlenes] at this
   exact Zf this hes
  have hstp:=g.steps hG (by rw [hlenes];exact hes)
  refine ⟨_,rfl,d,_,rfl,R.dc,fun o=>⟨fun i m ys τ H1=>Aj6 (m=es.length - i) (i≤es.length) (ys=((es.take i).filter fun e=>!e.2.1.isEmpty).map (fun e=>V.str e.1)) (Ex1 fun x=>τ=[x,some (.ref d)]) (H1 d=some (.frz o (.dK (es.map fun e=>((Sum.inr e.1:Key),V.ref e.2.2))))) (Keep [d] H0 H1),
   ⟨es.length,by simp,Zd _,rfl,⟨none,rfl⟩,zac,Keep.wr Qb⟩,?_⟩⟩
  rintro i m1 ys τ H1 ⟨rfl,hi,rfl,⟨x0,rfl⟩,hz,k1⟩
  by_cases hlt:i < es.length
  ·refine .inr ⟨⟨hz,by rw [Qa];exact hlt⟩,?_,?_⟩
   ·have h1:(((es.take i).filter fun e=>!e.2.1.isEmpty).map (fun e=>V.str e.1)).length≤es.length:=by
     rw [Qa]
     exact Zf (Yl _ _) (by rw [Zm];lia)
    lia
   ·rintro x H' ⟨rfl,pr,e1,rfl⟩
    have g1:pr=((Sum.inr es[i].1:Key),V.ref es[i].2.2):=by
     rw [Qn,Qc hlt] at e1
     exact (Qm e1).symm
    subst g1
    have hei:es[i]∈es:=Qr hlt
    have hri:=R.ro _ hei
    have nri:es[i].2.2≠d:=za0 hri R.dc (by intro z;cases z)
    have hri1:=k1 _ _ hri (by simpa using nri)
    refine ⟨_,rfl,_,rfl,d,.ref es[i].2.2,rfl,.inl ⟨_,Sum.inr es[i].1,.inr ⟨o,hz⟩,rfl,(zbx R.nd hei).symm⟩,(by show 0≤sizeLine;decide),fun q hq=>?_⟩
    have nq:es[i].2.2≠q:=zaa hri1 hq
    have nqd:d≠q:=zaa hz hq
    refine ⟨es[i].2.2,q,_,rfl,rfl,SqL.of (by rw [zad nq];exact hri1),SqL.of zac,_,rfl,?_⟩
    have hk2:Keep [d] H0 (upd H' q (.lst [])):=k1.trans (Keep.new hq)
    have hz2:(upd H' q (.lst [])) d=some (.frz o (.dK (es.map fun e=>((Sum.inr e.1:Key),V.ref e.2.2)))):=by rw [zad nqd];exact hz
    have hts:es.take (i+1)=es.take i++[es[i]]:=Qg hlt
    have hem:(es[i].2.1.map V.str).isEmpty=es[i].2.1.isEmpty:=by cases es[i].2.1 <;> rfl
    rw [if_pos rfl,hem]
    by_cases hb:es[i].2.1.isEmpty=true
    ·rw [hb]
     refine iteF ⟨_,?_,rfl,hlt,?_,⟨_,rfl⟩,hz2,hk2⟩
     ·exact zar1 ‹_›
     ·rw [hts,Zs,Zj (by rw [hb];decide),Yd,Zr]
    ·have hb':es[i].2.1.isEmpty=false:=by simpa using hb
     rw [hb']
     refine iteT ⟨_,rfl,_,?_,rfl,hlt,?_,⟨_,rfl⟩,hz2,hk2⟩
     ·exact zar1 ‹_›
     ·rw [hts,Zs,Zi (by rw [hb'];decide),Yd,Qo]
      rfl
  ·have hie:i=es.length:=by exact zar3 ‹_› ‹_›
   subst hie
   refine .inl ⟨⟨hz,by rw [Qa];exact Qh _⟩,fun D hD=>?_⟩
   have ndD:d≠D:=zaa hz hD
   rw [Qp (Qh _)]
   refine ⟨d,o,_,(by rw [zad ndD];exact hz),nfz,?_⟩
   generalize hH2:upd (upd H1 D (.lst ((es.filter fun e=>!e.2.1.isEmpty).map fun e=>V.str e.1))) d (.dK (es.map fun e=>((Sum.inr e.1:Key),V.ref e.2.2)))=H2
   have k2:Keep [] H0 H2:=fun c u ec _=>by
    rw [← hH2]
    by_cases hcd:c=d
    ·subst hcd
     rw [zac,← R.dc];exact ec
    ·have ec1:=k1 c u ec (by simpa using hcd)
     rw [zad hcd,zad (zaa ec1 hD)];exact ec1
   have hD2:H2 D=some (.lst ((es.filter fun e=>!e.2.1.isEmpty).map fun e=>V.str e.1)):=by rw [← hH2,zad (Zl ndD)];exact zac
   have hDm:((es.filter fun e=>!e.2.1.isEmpty).map fun e=>V.str e.1)=((es.filter fun e=>!e.2.1.isEmpty).map (·.1)).map V.str:=by rw [Zn];rfl
   refine ⟨D,(es.filter fun e=>!e.2.1.isEmpty).map (·.1),rfl,SqL.of (by rw [hD2,hDm]),fun l ws hl hperm hsort=>?_⟩
   generalize hH3:upd H2 l (.lst (ws.map V.str))=H3
   have k3:Keep [] H0 H3:=by rw [← hH3];exact k2.trans (Keep.new hl)
   have hl3:H3 l=some (.lst (ws.map V.str)):=by rw [← hH3];exact zac
   have R3:RAt H3 d es:=R.keep k3 (by simp) (fun _ _=>by simp)
   have hp3:Pot H3 p b m:=hp.keep k3 (by simp)
   clear hH3 hH2 hD2 hz k1 hD hl hDm
   refine ⟨_,rfl,(by show 0≤sizeLine;decide),fun q hq=>?_⟩
   have nlq:l≠q:=zaa hl3 hq
   refine ⟨l,q,_,rfl,rfl,SqL.of (by rw [zad nlq];exact hl3),SqL.of zac,_,rfl,?_⟩
   generalize hH4:upd H3 q (.lst [])=H4
   have k4:Keep [] H0 H4:=by rw [← hH4];exact k3.trans (Keep.new hq)
   have hl4:H4 l=some (.lst (ws.map V.str)):=by rw [← hH4,zad nlq];exact hl3
   have R4:RAt H4 d es:=R.keep k4 (by simp) (fun _ _=>by simp)
   have hp4:Pot H4 p b m:=hp.keep k4 (by simp)
   clear hH4 hl3 R3 hp3 k3
   by_cases hws:ws=[]
   ·subst hws
    refine iteT ?_
    exact k b m es H4 hp4 R4 hG rfl (k4.sub (by simp))
   ·have hem:(ws.map V.str).isEmpty=false:=by
     cases ws with
     | nil=>exact absurd rfl hws
     | cons _ _=>rfl
    refine zbh hem ?_
    have hpos:0 < ws.length:=Wk.mpr hws
    have hwl:ws.length≤30:=by
     rw [hperm.length_eq,Qa]
     exact Zf (Yl _ _) hes
    refine ⟨_,rfl,_,rfl,_,rfl,l,_,rfl,.inl (SqL.of hl4),p,b,m,_,rfl,hp4,(by rw [Qa];exact zar9 ‹_›),(by rw [Qa];lia),fun j5 b5 m5 H5 hj5 hj5' hp5 kp5=>?_⟩
    have k5:=zbj kp5
    have hl5:=k5 _ _ hl4 (by simpa using zc6 hp4 hl4)
    have R5:=R4.pot hp4 k5
    obtain ⟨j,rfl⟩:=Ya hj5
    have hj:j < ws.length:=by rw [Qa] at hj5';exact zar8 ‹_›
    refine ⟨l,_,_,_,rfl,rfl,SqL.of hl5,zbo (by rw [Qn,Qc hj];rfl),?_⟩
    obtain ⟨en,hen,hname⟩:=Qi.mp (hperm.mem_iff.mp (Qr hj))
    obtain ⟨hen1,hen2⟩:=Zk.mp hen
    have hne:en.2.1≠[]:=by
     intro z
     rw [z] at hen2
     cases hen2
    have hpos2:0 < en.2.1.length:=Wk.mpr hne
    have hrl:=hrow en hen1
    have dg5:DGet H5 d (.str ws[j]) (some (.ref en.2.2)):=by
     have:=DGet.k (k:=Sum.inr en.1) R5.dc
     rw [zbx R5.nd hen1] at this
     rw [← hname]
     exact this
    have hr5:=R5.ro en hen1
    refine ⟨_,rfl,_,rfl,d,_,rfl,dg5,_,rfl,_,rfl,_,rfl,d,_,rfl,dg5,en.2.2,_,rfl,.inl (SqL.of hr5),p,b5,m5,_,rfl,hp5,(by rw [Qa];exact zar9 ‹_›),(by rw [Qa];lia),fun j6 b6 m6 H6 hj6 hj6' hp6 kp6=>?_⟩
    have k6:=zbj kp6
    have R6:=R5.pot hp5 k6
    have hr6:=R6.ro en hen1
    have hl6:=k6 _ _ hl5 (by simpa using zc6 hp5 hl5)
    obtain ⟨i6,rfl⟩:=Ya hj6
    have hi6:i6 < en.2.1.length:=by rw [Qa] at hj6';exact zar8 ‹_›
    refine ⟨en.2.2,_,_,_,rfl,rfl,SqL.of hr6,zbo (by rw [Qn,Qc hi6];rfl),?_⟩
    have hcm:en.2.1[i6]∈en.2.1:=Qr hi6
    generalize hcc:en.2.1[i6]=cc at hcm
    rw [← hname]
    have hst:IsSt (rsOf es) (cc,en.1):=⟨(en.1,en.2.1),Qi.mpr ⟨en,hen1,rfl⟩,rfl,hcm⟩
    refine ⟨_,rfl,_,rfl,_,rfl,d,es,(cc,en.1),rfl,R6,hst,g.clo _ hG,hstp,fun e he=>Zf (hrow e he) (by decide),fun l7 as n7 H7 hl7n hl7 pa7 nd7 hn7 hin7 k7=>?_⟩
    have R7:RAt H7 d es:=R6.keep k7 (by simp) (fun _ _=>by simp)
    have hp7:Pot H7 p b6 m6:=hp6.keep k7 (by simp)
    have hal:as.length=n7:=by
     have:=Ym pa7
     unfold Wb.run at this
     rw [Qa,Uc] at this
     exact this
    have hn9:n7≤900:=by
     have:=zf6 nd7 (m:=zia (rsOf es)) fun x hx=>by
      obtain ⟨i,_,rfl⟩:=Qi.mp hx
      exact mem_allSt.mpr (itr_st (g.clo _ hG) hst i)
     unfold Wb.run at this
     rw [Qa,Uc] at this
     exact Zf ‹_› ‹_›
    refine ⟨_,rfl,_,rfl,l7,_,rfl,.inl (SqL.of hl7),p,b6,m6,_,rfl,hp7,(by rw [Qa];lia),(by rw [Qa];lia),fun j8 b8 m8 H8 hj8 hj8' hp8 kp8=>?_⟩
    have k8:=zbj kp8
    have R8:=R7.pot hp7 k8
    have nl7:l7≠p:=za0 hl7 hp7.1 (by
     intro z
     have z':as.map V.ref=[.int b6,.int m6]:=by injection z
     cases as with
     | nil=>cases z'
     | cons x t=>rw [Qk] at z';injection z' with z1 _;cases z1)
    have hl8:=k8 _ _ hl7 (by simpa using nl7)
    have pa8:za7 H8 as (Wb.run (rsOf es) (cc,en.1) n7):=za7.keep pa7 fun c x y ec=>k8 c _ ec (by simpa using za0 ec hp7.1 (by intro z;cases z))
    obtain ⟨i8,rfl⟩:=Ya hj8
    have hi8:i8≤(as.map V.ref).length:=by lia
    refine ⟨_,rfl,_,rfl,_,rfl,l7,_,rfl,SqL.of hl8,fun q1 hq1=>?_⟩
    have n71:l7≠q1:=zaa hl8 hq1
    refine ⟨_,rfl,_,rfl,_,rfl,l7,_,rfl,SqL.of (by rw [zad n71];exact hl8),fun q2 hq2=>?_⟩
    have n12:q1≠q2:=zaa (o:=_) zac hq2
    refine ⟨q1,q2,_,_,rfl,rfl,(by rw [zad n12];exact zac),zac,?_,fun q3 hq3=>?_⟩
    ·have c1:=za1 (as.map V.ref) (some (i8:Int)) none
     have c2:=za1 (as.map V.ref) none (some (i8:Int))
     rw [Qa] at c1 c2
     lia
    have ecut:cutV (as.map V.ref) (some (i8:Int)) none++cutV (as.map V.ref) none (some (i8:Int))=(as.drop i8++as.take i8).map V.ref:=by
     rw [zel hi8,cut_to hi8,Qo,Jn,Ui]
    rw [ecut]
    generalize hH9:upd (upd (upd H8 q1 (.lst (cutV (as.map V.ref) (some (i8:Int)) none))) q2 (.lst (cutV (as.map V.ref) none (some (i8:Int))))) q3 (.lst ((as.drop i8++as.take i8).map V.ref))=H9
    have k9:Keep [] H8 H9:=by rw [← hH9];exact ((Keep.new hq1).trans (Keep.new hq2)).trans (Keep.new hq3)
    have hq9:H9 q3=some (.lst ((as.drop i8++as.take i8).map V.ref)):=by rw [← hH9];exact zac
    have R9:RAt H9 d es:=R8.keep k9 (by simp) (fun _ _=>by simp)
    have hp9:Pot H9 p b8 m8:=hp8.keep k9 (by simp)
    have pa9:za7 H9 as (Wb.run (rsOf es) (cc,en.1) n7):=za7.keep pa8 fun c x y ec=>k9 c _ ec (by simp)
    have kall:Keep [p,d] H0 H9:=by
     have s1:∀ x∈([]:List Addr),x∈[p,d]:=by simp
     have s2:∀ x∈[p],x∈[p,d]:=by simp
     exact (((((k4.sub s1).trans (k5.sub s2)).trans (k6.sub s2)).trans (k7.sub s1)).trans (k8.sub s2)).trans (k9.sub s1)
    have hr9:=R9.ro en hen1
    have dg9:DGet H9 d (.str en.1) (some (.ref en.2.2)):=by
     have:=DGet.k (k:=Sum.inr en.1) R9.dc
     rw [zbx R9.nd hen1] at this
     exact this
    refine ⟨q3,rfl,⟨_,SqL.of hq9⟩,zbm (xs:=(as.drop i8++as.take i8).map V.ref) (fun i σ H=>Aj2 (H=H9) (Ex2 fun x y=>σ=[some (.ref p),some (.ref d),some (.ref l),some (.str en.1),some (.str cc),some (.ref l7),some (.int i8),x,y]))
     ⟨rfl,none,none,rfl⟩ (fun i σ H _ hh=>by rw [hh.1];exact SqL.of hq9) ?_ ?_⟩
    ·rintro i x σ H hx ⟨rfl,x7,x8,rfl⟩
     obtain ⟨a,ha,rfl⟩:∃ a∈as,x=V.ref a:=by
      have:=Yn hx
      obtain ⟨a,ha,e⟩:=Qi.mp this
      refine ⟨a,?_,e.symm⟩
      rcases Ql.mp ha with z | z
      ·exact Ub z
      ·exact Uq z
     obtain ⟨nn,hnn⟩:∃ nn,H a=some (.tup [.str (itr (rsOf es) (cc,en.1) nn).1,.str (itr (rsOf es) (cc,en.1) nn).2]):=by
      have key:∀ {bs:List Addr} {qs:List (Str×Str)},za7 H bs qs→a∈bs→∃ q∈qs,H a=some (.tup [.str q.1,.str q.2]):=by
       intro bs qs r
       induction r with
       | nil=>intro h;cases h
       | cons h t ih =>
        intro hm
        rcases Qe.mp hm with z | z
        ·subst z;exact ⟨_,Qb,h⟩
        ·obtain ⟨q,h1,h2⟩:=ih z
         exact ⟨q,Qf _ h1,h2⟩
      obtain ⟨q,hq,e⟩:=key pa9 ha
      obtain ⟨nn,_,rfl⟩:=Qi.mp hq
      exact ⟨nn,e⟩
     have hsn:=itr_st (g.clo _ hG) hst nn
     have gt:=g.tie (rsOf es) cc (en.1,en.2.1) nn hG (Qi.mpr ⟨en,hen1,rfl⟩) hcm
     generalize itr (rsOf es) (cc,en.1) nn=qq at hnn hsn gt
     obtain ⟨pe',hpe,hpe1,hpe2⟩:=hsn
     obtain ⟨eo,heo,rfl⟩:=Qi.mp hpe
     have hpe1':eo.1=qq.2:=hpe1
     have hpe2':qq.1∈eo.2.1:=hpe2
     refine ⟨a,_,rfl,SqT.of hnn,rfl,_,_,rfl,_,_,rfl,rfl,?_⟩
     refine ⟨_,rfl,_,rfl,rfl,_,rfl,?_⟩
     by_cases h1:qq.2=en.1
     ·refine zbh (by rw [decide_eq_true (by rw [h1])];rfl) ?_
      exact iteF ⟨rfl,_,_,rfl⟩
     ·refine zb8 (by rw [decide_eq_false (fun z=>h1 (by injection z))];rfl) ?_
      refine ⟨_,rfl,_,rfl,_,rfl,d,_,rfl,dg9,en.2.2,_,rfl,.inl (SqL.of hr9),rfl,zcl _,_,rfl,?_⟩
      rw [if_pos rfl,ze1]
      by_cases h2:qq.2∈en.2.1
      ·refine zbh (by rw [decide_eq_true h2];rfl) ?_
       exact ⟨rfl,_,_,rfl⟩
      ·refine zb8 (by rw [decide_eq_false h2];rfl) ?_
       have hlr:∀ e∈es,e.2.1.length≤1000:=fun e he=>Zf (hrow e he) (by decide)
       refine ⟨_,rfl,_,rfl,_,rfl,_,rfl,d,es,en,some cc,qq.2,rfl,R9,hen1,fun z hz=>by cases hz;exact hcm,hlr en hen1,by lia,fun a1 H10 ha1 R10 k10=>?_⟩
       have heo':eo∈setE es en.1 (ins en.2.1 (some cc) qq.2) a1:=by
        refine Qi.mpr ⟨eo,heo,?_⟩
        rw [if_neg (fun z=>h1 (by rw [← hpe1',z]))]
       refine ⟨_,rfl,_,rfl,_,rfl,_,rfl,d,_,eo,some qq.1,en.1,(by rw [hpe1'];rfl),R10,heo',fun z hz=>by cases hz;exact hpe2',hlr eo heo,(by unfold setE;rw [List.length_map];lia),fun a2 H11 ha2 R11 k11=>?_⟩
       have hpd:p≠d:=Zl (pot_nd hp9 R9.dc)
       have k10':Keep [p,d] H H11:=(k10.sub (by simp)).trans (k11.sub (by simp))
       refine k b8 m8 _ H11 ⟨k11 _ _ (k10 _ _ hp9.1 (by simpa using hpd)) (by simpa using hpd),hp9.2⟩ R11 ?_ (by rw [zb5,zb5]) (kall.trans k10')
       rw [zey,zey]
       have:=gt h1 h2
       rw [hpe1']
       have hrw:row (rsOf es) qq.2=eo.2.1:=by rw [← hpe1'];exact zb3 R.nd heo
       rw [hrw] at this
       exact this
    ·rintro σ H ⟨rfl,x,y,rfl⟩
     exact k b8 m8 es H hp9 R9 hG rfl kall
end
end K21
end
section
namespace K21
open PySem L2 Wb
abbrev sMore:Stmt:=top 36
theorem rat_new {H:Hp} {d a:Addr} {es:List Ent} {x:Str} {r:List Str} (R:RAt H d es) (hx:x∉es.map (·.1)) (ha:H a=some (.lst (r.map V.str))) :
  RAt (upd H d (.dK (putK (es.map fun e=>((Sum.inr e.1:Key),V.ref e.2.2)) (Sum.inr x) (.ref a)))) d (es++[(x,r,a)]):=by
 refine ⟨by rw [zac,put_new (r:=r) hx],fun e he=>?_,?_⟩
 ·have key:∀ {b:Addr} {xs:List V},H b=some (.lst xs)→(upd H d (.dK (putK (es.map fun e=>((Sum.inr e.1:Key),V.ref e.2.2)) (Sum.inr x) (.ref a)))) b=some (.lst xs):=fun {b xs} hb=>by
   rw [zad (za0 hb R.dc (by intro z;cases z))];exact hb
  rcases Ql.mp he with z | z
  ·exact key (R.ro e z)
  ·rw [Qd.mp z];exact key ha
 ·rw [Qo,Za]
  refine ⟨R.nd,Qt.mpr ⟨by simp,Zo⟩,fun y hy z hz=>?_⟩
  have hz':z=x:=by simpa using hz
  rw [hz']
  exact fun e=>hx (e ▸ hy)
theorem rat_set {H:Hp} {d a:Addr} {es:List Ent} {x:Str} {r:List Str} (R:RAt H d es) (hx:x∈es.map (·.1)) (ha:H a=some (.lst (r.map V.str))) :
  RAt (upd H d (.dK (putK (es.map fun e=>((Sum.inr e.1:Key),V.ref e.2.2)) (Sum.inr x) (.ref a)))) d (setE es x r a):=by
 refine ⟨by rw [zac,put_setE (r:=r) hx],fun e he=>?_,by rw [zb5];exact R.nd⟩
 have key:∀ {b:Addr} {xs:List V},H b=some (.lst xs)→(upd H d (.dK (putK (es.map fun e=>((Sum.inr e.1:Key),V.ref e.2.2)) (Sum.inr x) (.ref a)))) b=some (.lst xs):=fun {b xs} hb=>by
  rw [zad (za0 hb R.dc (by intro z;cases z))];exact hb
 unfold setE at he
 obtain ⟨e0,h0,rfl⟩:=Qi.mp he
 by_cases z:e0.1=x
 ·rw [if_pos z];exact key ha
 ·rw [if_neg z];exact key (R.ro e0 h0)
theorem zej (es:List Ent):((es.map fun e=>((Sum.inr e.1:Key),V.ref e.2.2)).map fun p=>kV p.1)=(es.map (·.1)).map V.str:=by
 rw [Zn,Zn];rfl
inductive IspMore (G:Rs Str→Prop) (vs:List V) (H:Hp) (Q:VK):Prop
 | mk (p d:Addr) (b m:Int) (es:List Ent) (x:Str) (h0:vs=[.ref p,.ref d,.str x]) (h1:Pot H p b m) (h2:RAt H d es) (h3:G (rsOf es)) (h4:x∉es.map (·.1)) (h5:es.length≤29) (h6:∀ (b' m':Int) (es':List Ent) (H':Hp),Pot H' p b' m'→RAt H' d es'→G (rsOf es')→es'.map (·.1)=es.map (·.1)++[x]→Keep [p,d] H H'→Q .non H'):IspMore G vs H Q
def spMore (G:Rs Str→Prop):Sp:=fun vs H Q _=>IspMore G vs H Q
section
variable {P:Program} {w:World} {K:PySem.W.Frag} {mg:Str→Option Value} {base:Heap}
theorem scMore:zas ["_law_pot_here", "_law_rounds_here", "_law_name", "_law_some", "_law_one", "_law_corner"] ["_law_pot_here", "_law_rounds_here", "_law_name"] (zaf sMore):=⟨rfl,rfl,rfl,by decide +kernel,rfl,by decide +kernel,by decide +kernel⟩
theorem ok_more {G:Rs Str→Prop} (g:Gen G) {f ft fp:Addr} {fd fdt fdp:FuncData} (F:Fun K "_law_more" "_law_more" sMore f fd)
  (FT:Fun K "_law_take" "_law_take" zeu ft fdt) (bT:Binds K fdt ["_law_pot_here", "_law_many"] []) (mT:mg "_law_take" = some (.ref ft))
  (FP:Fun K "_law_put" "_law_put" sPut fp fdp) (bP:Binds K fdp ["_law_rounds_here", "_law_one", "_law_corner", "_law_other"] []) (mP:mg "_law_put" = some (.ref fp))
  (hlen:mg "len" = none) (hsor:mg "sorted" = none) (hdm:mg "divmod" = none):FnOk P w K mg base CX0 2 f fd ["_law_pot_here", "_law_rounds_here", "_law_name"] (spMore G):=by
 have GT:FnOk P w K mg base CX0 1 ft fdt ["_law_pot_here", "_law_many"] ze6:=zhn FT hdm
 have GP:FnOk P w K mg base CX0 1 fp fdp ["_law_rounds_here", "_law_one", "_law_corner", "_law_other"] spPut:=ok_put FP
 refine F.ok scMore (fun vs H Q E h=>?_) (fun cdv A outer s H vs Q E hr h=>?_)
 ·obtain ⟨p,d,b,m,es,x,rfl,_⟩:=h
  rfl
 ·obtain ⟨p,d,b,m,es,x,rfl,hp,R,hG,hx,hes,k⟩:=h
  have hu:=zce hr
  have hu1:=Jh hu
  have hs0:sizeLine=16777216:=sizeLine_eq
  refine ⟨_,zae (zam (i:=3) scMore.nd rfl (Or.inl rfl) (zak (zbu rfl) (by rfl) hsor Yx (zab (pv 1) zag)))
   (zae (zbv hu (pv 1) (pv 2) (zbd zag) rfl)
   (zae (zcg (PW.pt (pw_or (zay (op_eq_nil hu1) (pv 3) (zbd zag) (zb0 _)) (pw_or1 (zay op_eq (zal GT hr rfl mT FT.kp bT .nil zax (zab (pv 0) (zab zai zag))) zai (zb0 _))))) (zah ps_retN) za4)
   (zae (zam (i:=4) scMore.nd rfl (Or.inl rfl) (zbb zat (pv 3) (zal GT hr rfl mT FT.kp bT .nil zax (zab (pv 0) (zab (zak zaq (by rfl) hlen Yb (zab (pv 3) zag)) zag))) (fun _ _=>rfl)))
   (zae (zam (i:=5) scMore.nd rfl (Or.inl rfl) pe_non)
   (zae (zcg (zay (zeg hu1) (zau hu (pv 1) (pv 4) (fun _ _=>rfl)) (zbd zag) (zb0 _))
    (zah (zam (i:=5) scMore.nd rfl (Or.inl rfl) (zbb zat (zau hu (pv 1) (pv 4) (fun _ _=>rfl)) (zal GT hr rfl mT FT.kp bT .nil zax (zab (pv 0) (zab (zak zaq (by rfl) hlen Yb (zab (zau hu (pv 1) (pv 4) (fun _ _=>rfl)) zag)) zag))) (fun _ _=>rfl)))) za4)
   (zae (za8 (zal GP hr rfl mP FP.kp bP .nil zax (zab (pv 1) (zab (pv 4) (zab (pv 5) (zab (pv 2) zag))))))
   (zah (zbv hu (pv 1) (pv 2) (zbd (zab (pv 4) zag)) rfl)))))))),?_⟩
  refine ⟨_,rfl,d,_,es.map (·.1),rfl,.inl R.dc,zej es,fun l ws hl hperm hsort=>?_⟩
  refine ⟨(by show 0≤sizeLine;decide),fun a ha=>?_⟩
  generalize hH1:upd (upd H l (.lst (ws.map V.str))) a (.lst [])=H1
  have k1:Keep [] H H1:=by rw [← hH1];exact (Keep.new hl).trans (Keep.new ha)
  have nla:l≠a:=zaa (o:=_) zac ha
  have hl1:H1 l=some (.lst (ws.map V.str)):=by rw [← hH1,zad nla];exact zac
  have ha1:H1 a=some (.lst (([]:List Str).map V.str)):=by rw [← hH1];exact zac
  have R1:RAt H1 d es:=R.keep k1 (by simp) (fun _ _=>by simp)
  have hp1:Pot H1 p b m:=hp.keep k1 (by simp)
  clear hH1
  refine ⟨_,rfl,_,rfl,d,_,rfl,DPut.k (k:=Sum.inr x) R1.dc (by rw [Qa];lia),?_⟩
  have R2:=rat_new R1 hx ha1
  generalize hH2:upd H1 d (.dK (putK (es.map fun e=>((Sum.inr e.1:Key),V.ref e.2.2)) (Sum.inr x) (.ref a)))=H2 at R2
  have k2:Keep [d] H H2:=by rw [← hH2];exact (k1.sub (by simp)).trans (Keep.wr Qb)
  have npd:p≠d:=Zl (pot_nd hp R.dc)
  have hp2:Pot H2 p b m:=hp.keep k2 (by simpa using npd)
  have nld:l≠d:=za0 hl1 R1.dc (by intro z;cases z)
  have hl2:H2 l=some (.lst (ws.map V.str)):=by rw [← hH2,zad nld];exact hl1
  clear hH2 hl1 R1 hp1 ha1 k1
  have hG2:G (rsOf (es++[(x,[],a)])):=by
   unfold rsOf
   rw [Qo]
   exact g.new _ x hG (by rw [Zn];exact hx)
  have hkeys2:(es++[(x,([]:List Str),a)]).map (·.1)=es.map (·.1)++[x]:=by rw [Qo];rfl
  refine ⟨_,rfl,(by show 0≤sizeLine;decide),fun q hq=>?_⟩
  have nlq:l≠q:=zaa hl2 hq
  refine ⟨l,q,_,rfl,rfl,SqL.of (by rw [zad nlq];exact hl2),SqL.of zac,_,rfl,?_⟩
  generalize hH3:upd H2 q (.lst [])=H3
  have k3:Keep [] H2 H3:=by rw [← hH3];exact Keep.new hq
  have hl3:=k3 _ _ hl2 (by simp)
  have R3:RAt H3 d _:=R2.keep k3 (by simp) (fun _ _=>by simp)
  have hp3:Pot H3 p b m:=hp2.keep k3 (by simp)
  have kk3:Keep [p,d] H H3:=(k2.sub (by simp)).trans (k3.sub (by simp))
  clear hH3
  by_cases hws:ws=[]
  ·subst hws
   refine zb8 rfl ?_
   refine iteT ?_
   exact k b m _ H3 hp3 R3 hG2 hkeys2 kk3
  ·have hem:(ws.map V.str).isEmpty=false:=by
    cases ws with
    | nil=>exact absurd rfl hws
    | cons _ _=>rfl
   refine zbh hem ?_
   refine ⟨_,rfl,p,b,m,9,rfl,hp3,by decide,by decide,fun j4 b4 m4 H4 hj4 hj4' hp4 kp4=>?_⟩
   have k4:=zbj kp4
   have hl4:=k4 _ _ hl3 (by simpa using zc6 hp3 hl3)
   have R4:=R3.pot hp3 k4
   have kk4:=kk3.trans (k4.sub (by simp))
   refine ⟨rfl,_,rfl,?_⟩
   by_cases hz4:j4=0
   ·refine zb8 (by rw [decide_eq_true (by rw [hz4])]) ?_
    exact k b4 m4 _ H4 hp4 R4 hG2 hkeys2 kk4
   ·refine zbh (decide_eq_false (fun z=>hz4 (by injection z))) ?_
    have hpos:0 < ws.length:=Wk.mpr hws
    have hwl:ws.length≤30:=by rw [hperm.length_eq,Qa];exact zar16 ‹_›
    refine ⟨_,rfl,_,rfl,_,rfl,l,_,rfl,.inl (SqL.of hl4),p,b4,m4,_,rfl,hp4,(by rw [Qa];exact zar9 ‹_›),(by rw [Qa];lia),fun j5 b5 m5 H5 hj5 hj5' hp5 kp5=>?_⟩
    have k5:=zbj kp5
    have hl5:=k5 _ _ hl4 (by simpa using zc6 hp4 hl4)
    have R5:=R4.pot hp4 k5
    have kk5:=kk4.trans (k5.sub (by simp))
    obtain ⟨j,rfl⟩:=Ya hj5
    have hj:j < ws.length:=by rw [Qa] at hj5';exact zar8 ‹_›
    refine ⟨l,_,_,_,rfl,rfl,SqL.of hl5,zbo (by rw [Qn,Qc hj];rfl),?_⟩
    obtain ⟨en,hen1,hname⟩:=Qi.mp (hperm.mem_iff.mp (Qr hj))
    have hen2:en∈es++[(x,([]:List Str),a)]:=Qu _ hen1
    have hnx:en.1≠x:=fun z=>hx (z ▸ Qi.mpr ⟨en,hen1,rfl⟩)
    have hrl:en.2.1.length≤29:=by
     have:=g.rows hG (en.1,en.2.1) (Qi.mpr ⟨en,hen1,rfl⟩)
     rw [show (rsOf es).length=es.length from Qa ..] at this
     exact Zf this hes
    rw [← hname]
    have dget:∀ {H':Hp},RAt H' d (es++[(x,([]:List Str),a)])→DGet H' d (.str en.1) (some (.ref en.2.2)):=fun {H'} R'=>by
     have:=DGet.k (k:=Sum.inr en.1) R'.dc
     rw [zbx R'.nd hen2] at this
     exact this
    have hr5:=R5.ro en hen2
    have fin:∀ (c:Option Str) (bb mm:Int) (HH:Hp),(∀ y,c=some y→y∈en.2.1)→(c=none→en.2.1=[])→Pot HH p bb mm→RAt HH d (es++[(x,([]:List Str),a)])→Keep [p,d] H HH →
      ∀ (a1:Addr) (H6:Hp),RAt H6 d (setE (es++[(x,([]:List Str),a)]) en.1 (ins en.2.1 c x) a1)→Keep [d] HH H6→∀ a2,H6 a2=none→∃ a3 H4,V.ref d=.ref a3∧DPut (upd H6 a2 (.lst [.str en.1])) a3 (.str x) (.ref a2) H4∧Q .non H4:=fun c bb mm HH hc1 hc2 hpp RR kk a1 H6 R6 k6 a2 ha2=>by
     have npd2:p≠d:=Zl (pot_nd hpp RR.dc)
     have hp6:Pot H6 p bb mm:=hpp.keep k6 (by simpa using npd2)
     have R7:RAt (upd H6 a2 (.lst [.str en.1])) d _:=R6.keep (xs:=[]) (Keep.new ha2) (by simp) (fun _ _=>by simp)
     have hp7:Pot (upd H6 a2 (.lst [.str en.1])) p bb mm:=hp6.keep (xs:=[]) (Keep.new ha2) (by simp)
     have hxk:x∈(setE (es++[(x,([]:List Str),a)]) en.1 (ins en.2.1 c x) a1).map (·.1):=by rw [zb5,hkeys2];simp
     refine ⟨d,_,rfl,DPut.k (k:=Sum.inr x) R7.dc (by rw [Qa];unfold setE;rw [List.length_map,List.length_append];show _+1 < sizeLine;lia),?_⟩
     have R8:=rat_set (r:=[en.1]) R7 hxk zac
     have kk8:Keep [p,d] H (upd (upd H6 a2 (.lst [.str en.1])) d (.dK (putK ((setE (es++[(x,([]:List Str),a)]) en.1 (ins en.2.1 c x) a1).map fun e=>((Sum.inr e.1:Key),V.ref e.2.2)) (Sum.inr x) (.ref a2)))) :=
      ((kk.trans (k6.sub (by simp))).trans (Keep.new ha2)).trans (Keep.wr (by simp))
     refine k bb mm _ _ (hp7.keep (xs:=[d]) (Keep.wr Qb) (by simpa using npd2)) R8 ?_ (by rw [zb5,zb5,hkeys2]) kk8
     rw [zey,zey]
     have:=g.leaf (rsOf es) x (en.1,en.2.1) c hG (by unfold rsOf;rw [List.map_map];exact hx) (List.mem_map.mpr ⟨en,hen1,rfl⟩) hc1 hc2
     unfold rsOf at this ⊢
     rw [Qo]
     exact this
    refine ⟨_,rfl,_,rfl,d,_,rfl,dget R5,(by show 0≤sizeLine;decide),fun q6 hq6=>?_⟩
    have nrq:en.2.2≠q6:=zaa hr5 hq6
    refine ⟨en.2.2,q6,_,rfl,rfl,SqL.of (by rw [zad nrq];exact hr5),SqL.of zac,_,rfl,?_⟩
    generalize hH6:upd H5 q6 (.lst [])=H6
    have k6:Keep [] H5 H6:=by rw [← hH6];exact Keep.new hq6
    have R6:RAt H6 d _:=R5.keep k6 (by simp) (fun _ _=>by simp)
    have hp6:Pot H6 p b5 m5:=hp5.keep k6 (by simp)
    have kk6:Keep [p,d] H H6:=kk5.trans (k6.sub (by simp))
    have hr6:=R6.ro en hen2
    clear hH6
    by_cases hre:en.2.1=[]
    ·refine zbh (by rw [hre];rfl) ?_
     refine ⟨_,rfl,_,rfl,_,rfl,_,rfl,d,_,en,none,x,rfl,R6,hen2,(fun y hy=>by cases hy),by lia,by rw [Qw];show _+1≤1000;lia,fun a1 H9 ha1 R9 k9=>⟨_,rfl,(by show 1≤sizeLine;decide),fun a2 ha2=>?_⟩⟩
     obtain ⟨a3,H4,e,dp,q⟩:=fin none b5 m5 H6 (fun y hy=>by cases hy) (fun _=>hre) hp6 R6 kk6 a1 H9 R9 k9 a2 ha2
     exact ⟨_,rfl,_,rfl,a3,H4,e,dp,q⟩
    ·have hpos2:0 < en.2.1.length:=Wk.mpr hre
     refine zb8 (by cases hh:en.2.1 with
      | nil=>exact absurd hh hre
      | cons _ _=>rfl) ?_
     refine ⟨_,rfl,_,rfl,d,_,rfl,dget R6,_,rfl,_,rfl,_,rfl,d,_,rfl,dget R6,en.2.2,_,rfl,.inl (SqL.of hr6),p,b5,m5,_,rfl,hp6,(by rw [Qa];exact zar9 ‹_›),(by rw [Qa];lia),fun j7 b7 m7 H7 hj7 hj7' hp7 kp7=>?_⟩
     have k7:=zbj kp7
     have R7:=R6.pot hp6 k7
     have hr7:=R7.ro en hen2
     obtain ⟨i7,rfl⟩:=Ya hj7
     have hi7:i7 < en.2.1.length:=by rw [Qa] at hj7';exact zar8 ‹_›
     refine ⟨en.2.2,_,_,_,rfl,rfl,SqL.of hr7,zbo (by rw [Qn,Qc hi7];rfl),?_⟩
     refine ⟨_,rfl,_,rfl,_,rfl,_,rfl,d,_,en,(some en.2.1[i7]),x,rfl,R7,hen2,(fun y hy=>by cases hy;exact Qr hi7),by lia,by rw [Qw];show _+1≤1000;lia,fun a1 H9 ha1 R9 k9=>⟨_,rfl,(by show 1≤sizeLine;decide),fun a2 ha2=>?_⟩⟩
     obtain ⟨a3,H4,e,dp,q⟩:=fin (some en.2.1[i7]) b7 m7 H7 (fun y hy=>by cases hy;exact Qr hi7) (fun z=>by cases z) hp7 R7 (kk6.trans (k7.sub (by simp))) a1 H9 R9 k9 a2 ha2
     exact ⟨_,rfl,_,rfl,a3,H4,e,dp,q⟩
end
abbrev zdc:Stmt:=top 31
def zdl (z:Str):Prop:=1≤z.length∧z.length≤8∧∀ c∈z.cps.toList,97≤c∧c≤122
theorem join_cps:∀ zs:List Str,(Txt.join "" zs).cps.toList=zs.flatMap (·.cps.toList):=by
 intro zs
 unfold Txt.join
 rw [StrLaws.glued_eq_join]
 have key:∀ zs:List Str,(Str.join "" zs).cps.toList=zs.flatMap (·.cps.toList):=by
  intro zs
  induction zs with
  | nil=>rfl
  | cons a t ih =>
   cases t with
   | nil=>show a.cps.toList=_;rw [Kh,List.flatMap_nil,Zr]
   | cons b r =>
    show (a.cps++("" : Str).cps++(Str.join "" (b::r)).cps).toList=_
    rw [Zz,Zz,ih,Kh (x:=a)]
    rw [show ("" : Str).cps.toList=[] from by decide +kernel,Zr]
 exact key zs
theorem flat_one (cs:List Nat):cs.flatMap (fun c=>[c])=cs:=by
 induction cs with
 | nil=>rfl
 | cons a t ih=>rw [Kh,ih];rfl
theorem zfn (cs:List Nat):((cs.map (fun c=>(⟨#[c]⟩:Str))).map fun z=>z.length+("" : Str).length).sum=cs.length:=by
 induction cs with
 | nil=>rfl
 | cons a t ih =>
  rw [Qk,Qk,Ze,ih,Qq]
  have:(⟨#[a]⟩:Str).length+("" : Str).length=1:=by
   rw [show ("" : Str).length=0 from by decide +kernel];rfl
  omega
theorem nodup_of_map {α β:Type} {f:α→β} {l:List α} (h:(l.map f).Nodup):l.Nodup:=by
 induction l with
 | nil=>exact Zo
 | cons a t ih =>
  rw [Qk,Qt] at h
  exact Qt.mpr ⟨fun z=>h.1 (Qi.mpr ⟨a,z,rfl⟩),ih h.2⟩
theorem zhp {α β:Type} {f:α→β} {l:List α} (nd:l.Nodup) (h:∀ a∈l,∀ b∈l,f a=f b→a=b):(l.map f).Nodup:=by
 induction l with
 | nil=>exact Zo
 | cons a t ih =>
  rw [Qt] at nd
  rw [Qk,Qt]
  refine ⟨fun z=>?_,ih nd.2 fun x hx y hy=>h x (Qf _ hx) y (Qf _ hy)⟩
  obtain ⟨b,hb,e⟩:=Qi.mp z
  exact nd.1 (h b (Qf _ hb) a Qb e ▸ hb)
theorem zf5 {β:Type} {f:Nat→β} {n:Nat} (h:∀ a,a < n→∀ b,b < n→f a=f b→a=b):((List.range n).map f).Nodup :=
 zhp List.nodup_range fun a ha b hb=>h a (Wu.mp ha) b (Wu.mp hb)
def zez:Str := "abcdefghijklmnopqrstuvwxyz"
theorem letters_at:∀ i:Fin 26,zez.cps.toList[i.1]?=some (97+i.1):=by decide +kernel
theorem zf9:zez.length≤sizeLine:=by decide +kernel
theorem letter_at {j:Int} (h0:0≤j) (h1:j < 26):atI zez.cps.toList j=some (97+j.toNat):=by
 obtain ⟨n,rfl⟩:=Ya h0
 exact zbo (letters_at ⟨n,by exact zar8 ‹_›⟩)
inductive IspNames (vs:List V) (H:Hp) (Q:VK):Prop
 | mk (p:Addr) (b m:Int) (n:Nat) (h0:vs=[.ref p,.int n]) (h1:Pot H p b m) (h2:n≤26) (h3:∀ (l:Addr) (zs:List Str) (b' m':Int) (H':Hp),H' l=some (.lst (zs.map V.str))→zs.length=n→zs.Nodup→(∀ z∈zs,zdl z)→Pot H' p b' m'→H l=none→Keep [p] H H'→Q (.ref l) H'):IspNames vs H Q
def spNames:Sp:=fun vs H Q _=>IspNames vs H Q
abbrev zd4:Scope:=scOf (eOf (bAt (sAt zdc 3) 0))
theorem csNames_k:zd4.kind=.function:=by rfl
theorem csNames_c:∀ y∈zd4.names,y.2≠.cell:=by decide +kernel
theorem csNames_n:∀ y∈zd4.names,y.2=.local→zd4.names.lookup y.1=some .local:=by decide +kernel
theorem csNames_f:∀ y∈zd4.names,y.2=.free→(zaf zdc).names.lookup y.1=some .cell∨(zaf zdc).names.lookup y.1=some .free:=by decide +kernel
theorem csNames_l:zd4.names.lookup ("_law_letters" : Str)=some NameKind.free:=by decide +kernel
theorem csNames_p:zd4.names.lookup ("_law_pot_here" : Str)=some NameKind.free:=by decide +kernel
theorem nd3:(["_law_turn", "_law_letters", "_law_pot_here"]:List Str).Nodup:=by decide +kernel
section
variable {P:Program} {w:World} {K:PySem.W.Frag} {mg:Str→Option Value} {base:Heap}
theorem zet:zas ["_law_pot_here", "_law_many", "_law_letters", "_law_shift", "_law_found", "_law_k", "_law_tail"] ["_law_pot_here", "_law_many"] (zaf zdc):=⟨rfl,rfl,rfl,by decide +kernel,rfl,by decide +kernel,by decide +kernel⟩
theorem ok_names {f ft:Addr} {fd fdt:FuncData} (F:Fun K "_law_names" "_law_names" zdc f fd)
  (FT:Fun K "_law_take" "_law_take" zeu ft fdt) (bT:Binds K fdt ["_law_pot_here", "_law_many"] []) (mT:mg "_law_take" = some (.ref ft))
  (hran:mg "range" = none) (hdm:mg "divmod" = none):FnOk P w K mg base CX0 2 f fd ["_law_pot_here", "_law_many"] spNames:=by
 have GT:FnOk P w K mg base CX0 1 ft fdt ["_law_pot_here", "_law_many"] ze6:=zhn FT hdm
 refine F.ok zet (fun vs H Q E h=>?_) (fun cdv A outer s H vs Q E hr h=>?_)
 ·obtain ⟨p,b,m,n,rfl,_⟩:=h
  rfl
 ·obtain ⟨p,b,m,n,rfl,hp,hn,k⟩:=h
  have hu:=zce hr
  refine ⟨_,zae (zam (i:=2) zet.nd rfl (Or.inr rfl) pe_str)
   (zae (zam (i:=3) zet.nd rfl (Or.inl rfl) (zal GT hr rfl mT FT.kp bT .nil zax (zab (pv 0) (zab zai zag))))
   (zae (zam (i:=4) zet.nd rfl (Or.inl rfl) (zbd zag))
   (zae (zbe Zg rfl (zbs rfl hran (zab (pv 1) zag)) (zaj (i:=5) zet.nd rfl (Or.inl rfl))
    (zae (ps_lc (i:=6) (M:=["_law_turn", "_law_letters", "_law_pot_here"]) (ix:=[none,some 2,some 0]) zet.nd rfl rfl ⟨csNames_k,csNames_c,csNames_n,csNames_f,rfl,by decide +kernel,fun j i x h1 h2=>by
      match j,h1,h2 with
      | 0,_,h2=>cases h2
      | 1,h1,h2=>cases h1;cases h2;exact ⟨rfl,csNames_l⟩
      | 2,h1,h2=>cases h1;cases h2;exact ⟨rfl,csNames_p⟩
      | n+3,h1,_=>cases h1⟩ rfl
      (zbs rfl hran (zab (zbb zat (zbd (zab zai (zab zai (zab zai zag)))) (zal GT hr rfl mT FT.kp bT .nil zax (zab (pv 0) (zab zai zag))) (fun _ _=>rfl)) zag))
      (fun C pins ex s H=>zaj (i:=0) nd3 rfl (Or.inl rfl) (Or.inr rfl))
      (fun C pins ex s H=>zb9) (fun C pins ex s H=>zbb ix_str (pv 1) (zal GT (by exact hr) rfl (by exact mT) FT.kp bT .nil zax (zab (pv 2) (zab zai zag))) (fun _ _=>rfl)) rfl)
    (zah (za8 (zee Zu Yw Yv zcc (pv 4) (zab (zaz op_add_str (zbb ix_str (pv 2) (zaz zc7 (zaz zbl (pv 3) (zaz op_mul zai (pv 5))) zai) (fun _ _=>rfl))
     (zee PySem.F.plainAttrs_str PySem.F.slot_str_join PySem.F.type_str_join mt_join pe_str (zab (pv 6) zag))) zag))))))
   (zah (zbk (pv 4)))))),?_⟩
  have hs0:sizeLine=16777216:=sizeLine_eq
  refine ⟨_,rfl,p,b,m,26,rfl,hp,by decide,by decide,fun sh b1 m1 H1 hsh0 hsh1 hp1 kp1=>?_⟩
  have k1:=zbj kp1
  refine ⟨(by show 0≤sizeLine;decide),fun l hl=>?_⟩
  have npl:p≠l:=zaa hp1.1 hl
  have hl0:H l=none:=by
   cases z:H l with
   | none=>rfl
   | some o=>rw [k1 _ _ z (by simpa using Zl npl)] at hl;cases hl
  refine ⟨_,rfl,(n:Int),rfl,by omega,by omega,?_⟩
  rw [Wj]
  refine zck (fun i σ H2=>Ex5 fun (zs:List Str) (bb mm:Int) (x5 x6:Option V)=>Aj7 (σ=[some (.ref p),some (.int n),some (.str zez),some (.int sh),some (.ref l),x5,x6]) (H2 l=some (.lst (zs.map V.str))) (zs.length=i) (zs.map (fun z=>z.cps.toList.head?)=(List.range i).map (fun q:Nat=>some (97+((sh+11*(q:Int)) % 26).toNat))) (∀ z∈zs,zdl z) (Pot H2 p bb mm) (Keep [p,l] H H2))
   ⟨[],b1,m1,none,none,rfl,zac,rfl,rfl,by simp,hp1.keep (xs:=[]) (Keep.new hl) (by simp),(k1.sub (by simp)).trans (Keep.new hl)⟩ ?_ ?_
  ·rintro i σ H2 hi ⟨zs,bb,mm,x5,x6,rfl,hl2,hzl,hheads,hok,hp2,k2⟩
   refine ⟨(by show 3≤sizeLine;decide),fun q hq=>?_⟩
   have hlq:l≠q:=zaa hl2 hq
   refine ⟨_,rfl,p,bb,mm,3,rfl,hp2.keep (xs:=[]) (Keep.new hq) (by simp),by decide,by decide,fun d3 b3 m3 H3 h30 h31 hp3 kp3=>?_⟩
   have k3:=zbj kp3
   have nqp:q≠p:=Zl (zaa hp2.1 hq)
   have nlp:l≠p:=Zl npl
   have hq3:H3 q=some (.lst [.int 0,.int 1,.int 7]):=k3 _ _ zac (by simpa using nqp)
   have hl3:H3 l=some (.lst (zs.map V.str)):=k3 _ _ (by rw [zad hlq];exact hl2) (by simpa using nlp)
   have kk3:Keep [p,l] H H3:=(k2.trans (Keep.new hq)).trans (k3.sub (by simp))
   obtain ⟨j,hj,hat⟩:∃ j:Nat,j≤7∧atI [V.int 0,V.int 1,V.int 7] d3=some (.int (j:Int)):=by
    have:d3=0∨d3=1∨d3=2:=by omega
    rcases this with rfl | rfl | rfl
    ·exact ⟨0,by decide,rfl⟩
    ·exact ⟨1,by decide,rfl⟩
    ·exact ⟨7,by decide,rfl⟩
   refine ⟨q,_,_,_,rfl,rfl,SqL.of hq3,hat,(j:Int),rfl,by omega,by omega,?_⟩
   rw [Wj]
   refine ⟨fun i' m' ys τ H4=>Ex4 fun (cs:List Nat) (b4 m4:Int) (x0:Option V)=>Aj8 (m'=j - i') (i'≤j) (ys=cs.map (fun c=>V.str ⟨#[c]⟩)) (cs.length=i') (∀ c∈cs,97≤c∧c≤122) (τ=[x0,some (.str zez),some (.ref p)]) (Pot H4 p b4 m4) (Keep [p] H3 H4),
    ⟨j,[],b3,m3,none,rfl,Zd _,rfl,rfl,by simp,rfl,hp3,Keep.refl⟩,?_⟩
   rintro i' m' ys τ H4 ⟨cs,b4,m4,x0,rfl,hi',rfl,hcl,hcs,rfl,hp4,k4⟩
   by_cases hlt:i' < j
   ·refine .inr ⟨hlt,by rw [Qa];omega,?_⟩
    rintro x H5 ⟨rfl,rfl⟩
    refine ⟨_,rfl,_,rfl,p,b4,m4,26,rfl,hp4,by decide,by decide,fun d6 b6 m6 H6 h60 h61 hp6 kp6=>?_⟩
    refine ⟨_,_,_,rfl,rfl,zf9,letter_at h60 h61,_,?_,cs++[97+d6.toNat],b6,m6,_,rfl,hlt,?_,?_,?_,rfl,hp6,k4.trans (zbj kp6)⟩
    ·exact zar1 ‹_›
    ·rw [Qo];rfl
    ·rw [Qw];show _+1=_;omega
    ·intro c hc
     rcases Ql.mp hc with z | z
     ·exact hcs c z
     ·rw [Qd.mp z];omega
   ·have hij:i'=j:=by exact zar3 ‹_› ‹_›
    subst hij
    refine .inl ⟨Qh _,fun D hD=>?_⟩
    have hl4:H4 l=some (.lst (zs.map V.str)):=k4 _ _ hl3 (by simpa using nlp)
    have nlD:l≠D:=zaa hl4 hD
    have hl5:(upd H4 D (.lst (cs.map (fun c=>V.str ⟨#[c]⟩)))) l=some (.lst (zs.map V.str)):=by rw [zad nlD];exact hl4
    have kk5:Keep [p,l] H (upd H4 D (.lst (cs.map (fun c=>V.str ⟨#[c]⟩)))):=(kk3.trans (k4.sub (by simp))).trans (Keep.new hD)
    have hp5:Pot (upd H4 D (.lst (cs.map (fun c=>V.str ⟨#[c]⟩)))) p b4 m4:=hp4.keep (xs:=[]) (Keep.new hD) (by simp)
    have hD5:(upd H4 D (.lst (cs.map (fun c=>V.str ⟨#[c]⟩)))) D=some (.lst ((cs.map (fun c=>(⟨#[c]⟩:Str))).map V.str)):=by rw [zac,Zn];rfl
    generalize upd H4 D (.lst (cs.map (fun c=>V.str ⟨#[c]⟩)))=H5 at hl5 kk5 hp5 hD5
    have hmod0:0≤(sh+11*(i:Int)) % 26:=Ju _ (by decide)
    have hmod1:(sh+11*(i:Int)) % 26 < 26:=Jf _ (by decide)
    have hjl:(Txt.join "" (cs.map (fun c=>(⟨#[c]⟩:Str)))).cps.toList=cs:=by
     rw [join_cps,List.flatMap_map]
     show cs.flatMap (fun c=>[c])=cs
     exact flat_one cs
    have hjn:(Txt.join "" (cs.map (fun c=>(⟨#[c]⟩:Str)))).length=i':=by
     show (Txt.join "" (cs.map (fun c=>(⟨#[c]⟩:Str)))).cps.size=_
     rw [← Yz,hjl,hcl]
    generalize hjj:Txt.join "" (cs.map (fun c=>(⟨#[c]⟩:Str)))=J at hjl hjn
    have hat2:atI zez.cps.toList ((sh+11*((0:Int)+(i:Int))) % 26)=some (97+((sh+11*(i:Int)) % 26).toNat):=by
     rw [Int.zero_add]
     exact letter_at hmod0 hmod1
    refine ⟨_,rfl,.inl ⟨rfl,_,SqL.of hl5⟩,_,rfl,_,rfl,_,rfl,_,_,rfl,rfl,.inl ⟨by decide,by omega⟩,_,_,rfl,rfl,_,_,rfl,rfl,(by show (0:Int) < 26;decide),_,_,_,rfl,rfl,zf9,hat2,rfl,_,rfl,D,_,_,rfl,rfl,hD5,?_,?_⟩
    ·rw [zfn];omega
    ·rw [hjj]
     have hcat:((⟨#[97+((sh+11*(i:Int)) % 26).toNat]⟩:Str)++J).cps.toList=(97+((sh+11*(i:Int)) % 26).toNat)::cs:=by
      show ((#[97+((sh+11*(i:Int)) % 26).toNat]:Array Nat)++J.cps).toList=_
      rw [Zz,hjl];rfl
     have hcl2:((⟨#[97+((sh+11*(i:Int)) % 26).toNat]⟩:Str)++J).length=i'+1:=by
      show ((⟨#[97+((sh+11*(i:Int)) % 26).toNat]⟩:Str)++J).cps.size=_
      rw [← Yz,hcat,Qq,hcl]
     refine ⟨_,_,rfl,rfl,(by rw [hjn];show 1+i'≤sizeLine;omega),l,_,_,rfl,rfl,hl5,by rw [Qa];omega,?_⟩
     refine ⟨zs++[(⟨#[97+((sh+11*(i:Int)) % 26).toNat]⟩:Str)++J],b4,m4,_,_,rfl,?_,?_,?_,?_,?_,kk5.trans (Keep.wr (by simp))⟩
     ·rw [zac,Qo];rfl
     ·rw [Qw,hzl];rfl
     ·rw [Qo,hheads,Ku,Qo,Qk,Qk,Jj,Jj,hcat];rfl
     ·intro z hz
      rcases Ql.mp hz with h | h
      ·exact hok z h
      ·rw [Qd.mp h]
       refine ⟨by omega,by omega,fun c hc=>?_⟩
       rw [hcat] at hc
       rcases Qe.mp hc with h2 | h2
       ·rw [h2];omega
       ·exact hcs c h2
     ·exact hp5.keep (xs:=[l]) (Keep.wr Qb) (by simpa using npl)
  ·rintro σ H2 ⟨zs,bb,mm,x5,x6,rfl,hl2,hzl,hheads,hok,hp2,k2⟩
   refine ⟨_,rfl,k l zs bb mm H2 hl2 hzl ?_ hok hp2 hl0 fun c o ec hc=>k2 c o ec ?_⟩
   ·have:(zs.map (fun z=>z.cps.toList.head?)).Nodup:=by
     rw [hheads]
     refine zf5 fun a ha c hc e=>?_
     injection e with e
     omega
    exact nodup_of_map this
   ·have:c≠l:=zaa ec hl0
    simp at hc ⊢
    exact ⟨hc,this⟩
end
abbrev zdw:Stmt:=top 37
inductive IspRounds (G:Rs Str→Prop) (vs:List V) (H:Hp) (Q:VK):Prop
 | mk (p:Addr) (b m:Int) (most:Nat) (h0:vs=[.ref p,.int most]) (h1:Pot H p b m) (h2:most≤25) (h3:∀ (d:Addr) (es:List Ent) (b' m':Int) (H':Hp),RAt H' d es→G (rsOf es)→es.length≤most→(∀ e∈es,zdl e.1)→Pot H' p b' m'→H d=none→Keep [p] H H'→Q (.ref d) H'):IspRounds G vs H Q
def spRounds (G:Rs Str→Prop):Sp:=fun vs H Q _=>IspRounds G vs H Q
theorem zbt {xs:List Addr} {H H':Hp} {l:Addr} (k:Keep xs H H') (h:H' l=none) (hx:l∉xs):H l=none:=by
 cases z:H l with
 | none=>rfl
 | some o=>rw [k _ _ z hx] at h;cases h
theorem Keep.cut {xs:List Addr} {H H':Hp} {l:Addr} (k:Keep (l::xs) H H') (h:H l=none):Keep xs H H':=fun c o ec hc=>k c o ec (by
 have:c≠l:=zaa ec h
 simp [this,hc])
section
variable {P:Program} {w:World} {K:PySem.W.Frag} {mg:Str→Option Value} {base:Heap}
theorem zdp:zas ["_law_pot_here", "_law_most", "_law_rounds_here", "_law_thick", "_law_name", "_law_turn"] ["_law_pot_here", "_law_most"] (zaf zdw):=⟨rfl,rfl,rfl,by decide +kernel,rfl,by decide +kernel,by decide +kernel⟩
theorem ok_rounds {G:Rs Str→Prop} (g:Gen G) {f ft fn fm fi:Addr} {fd fdt fdn fdm fdi:FuncData} (F:Fun K "_law_rounds" "_law_rounds" zdw f fd)
  (FT:Fun K "_law_take" "_law_take" zeu ft fdt) (bT:Binds K fdt ["_law_pot_here", "_law_many"] []) (mT:mg "_law_take" = some (.ref ft))
  (FN:Fun K "_law_names" "_law_names" zdc fn fdn) (bN:Binds K fdn ["_law_pot_here", "_law_many"] []) (mN:mg "_law_names" = some (.ref fn))
  (FM:Fun K "_law_more" "_law_more" sMore fm fdm) (bM:Binds K fdm ["_law_pot_here", "_law_rounds_here", "_law_name"] []) (mM:mg "_law_more" = some (.ref fm))
  (FI:Fun K "_law_tie" "_law_tie" sTie fi fdi) (bI:Binds K fdi ["_law_pot_here", "_law_rounds_here"] []) (mI:mg "_law_tie" = some (.ref fi))
  (GT:FnOk P w K mg base CX0 1 ft fdt ["_law_pot_here", "_law_many"] ze6)
  (GN:FnOk P w K mg base CX0 2 fn fdn ["_law_pot_here", "_law_many"] spNames)
  (GM:FnOk P w K mg base CX0 2 fm fdm ["_law_pot_here", "_law_rounds_here", "_law_name"] (spMore G))
  (GI:FnOk P w K mg base CX0 3 fi fdi ["_law_pot_here", "_law_rounds_here"] (spTie G))
  (hran:mg "range" = none):FnOk P w K mg base CX0 4 f fd ["_law_pot_here", "_law_most"] (spRounds G):=by
 refine F.ok zdp (fun vs H Q E h=>?_) (fun cdv A outer s H vs Q E hr h=>?_)
 ·obtain ⟨p,b,m,n,rfl,_⟩:=h
  rfl
 ·obtain ⟨p,b,m,most,rfl,hp,hmost,k⟩:=h
  have hu:=zce hr
  have hr1:Room 1 _:=hr.mono (by decide)
  have hr2:Room 2 _:=hr.mono (by decide)
  have hs0:sizeLine=16777216:=sizeLine_eq
  refine ⟨_,zae (zam (i:=2) zdp.nd rfl (Or.inl rfl) zed)
   (zae (zam (i:=3) zdp.nd rfl (Or.inl rfl) (zal GT hr1 rfl mT FT.kp bT .nil zax (zab (pv 0) (zab zai zag))))
   (zae (zbe Zg rfl (zaw (zal GN hr2 rfl mN FN.kp bN .nil zax (zab (pv 0) (zab (zal GT hr1 rfl mT FT.kp bT .nil zax (zab (pv 0) (zab (zaz zbl (pv 1) zai) zag))) zag)))) (zaj (i:=4) zdp.nd rfl (Or.inl rfl))
    (zae (za8 (zal GM hr2 rfl mM FM.kp bM .nil zax (zab (pv 0) (zab (pv 2) (zab (pv 4) zag)))))
    (zah (zbe Zg rfl (zbs rfl hran (zab (pv 3) zag)) (zaj (i:=5) zdp.nd rfl (Or.inl rfl))
     (zah (za8 (zal GI hr rfl mI FI.kp bI .nil zax (zab (pv 0) (zab (pv 2) zag)))))))))
   (zae (zbe Zg rfl (zbs rfl hran (zab (zbb zat (zbd (zab zai (zab zai (zab zai zag)))) (zal GT hr1 rfl mT FT.kp bT .nil zax (zab (pv 0) (zab zai zag))) (fun _ _=>rfl)) zag)) (zaj (i:=5) zdp.nd rfl (Or.inl rfl))
     (zah (za8 (zal GI hr rfl mI FI.kp bI .nil zax (zab (pv 0) (zab (pv 2) zag))))))
   (zah (zbk (pv 2)))))),?_⟩
  refine (fun d hd=>?_)
  have npd:p≠d:=zaa hp.1 hd
  refine ⟨_,rfl,p,b,m,4,rfl,hp.keep (xs:=[]) (Keep.new hd) (by simp),by decide,by decide,fun th b1 m1 H1 hth0 hth1 hp1 kp1=>?_⟩
  have k1:Keep [p,d] H H1:=(Keep.new hd).trans ((zbj kp1).sub (by simp))
  have hd1:H1 d=some (.dK []):=kp1 _ _ zac (Zl npd)
  refine ⟨_,rfl,_,rfl,_,rfl,_,_,rfl,rfl,p,b1,m1,_,rfl,hp1,(by lia),(by lia),fun n2 b2 m2 H2 hn20 hn21 hp2 kp2=>?_⟩
  obtain ⟨n,rfl⟩:=Ya hn20
  have k2:Keep [p,d] H H2:=k1.trans ((zbj kp2).sub (by simp))
  have hd2:H2 d=some (.dK []):=kp2 _ _ hd1 (Zl npd)
  refine ⟨p,b2,m2,n,rfl,hp2,by lia,fun l zs b3 m3 H3 hl3 hzl hznd hzok hp3 hl2 k3=>?_⟩
  have nlp:l≠p:=zc6 hp3 hl3
  have hd3:H3 d=some (.dK []):=k3 _ _ hd2 (by simpa using Zl npd)
  have nld:l≠d:=za0 hl3 hd3 (by intro z;cases z)
  have kk3:Keep [p,d] H H3:=k2.trans (k3.sub (by simp))
  obtain ⟨t,rfl⟩:=Ya hth0
  let St0:List Str→Hp→Prop:=fun ks H'=>∃ (es:List Ent) (b' m':Int),RAt H' d es∧G (rsOf es)∧es.map (·.1)=ks∧Pot H' p b' m'∧Keep [p,d] H H'
  have lkeep:∀ {H':Hp},Keep [p,d] H3 H'→H' l=some (.lst (zs.map V.str)):=fun kk=>kk _ _ hl3 (by simp [nlp,nld])
  refine ⟨l,rfl,⟨_,SqL.of hl3⟩,zbm (xs:=zs.map V.str) (fun i σ H'=>Aj3 (Keep [p,d] H3 H') (Ex2 fun x4 x5=>σ=[some (.ref p),some (.int most),some (.ref d),some (.int t),x4,x5]) (Ex3 fun (es:List Ent) (b' m':Int)=>Aj4 (RAt H' d es) (G (rsOf es)) (es.map (·.1)=zs.take i) (Pot H' p b' m')))
   ⟨Keep.refl,⟨none,none,rfl⟩,[],b3,m3,⟨hd3,by simp,Zo⟩,g.nil,rfl,hp3⟩ (fun i σ H' _ hh=>SqL.of (lkeep hh.1)) ?_ ?_⟩
  ·rintro i x σ H4 hx ⟨k4,⟨x4,x5,rfl⟩,es,b4,m4,R4,hG4,hks4,hp4⟩
   have hi:i < zs.length:=by
    have:=(Qz.mp hx).1
    rwa [Qa] at this
   have hxz:x=.str zs[i]:=by
    rw [Qn,Qc hi] at hx
    exact (Qm hx).symm
   subst hxz
   have hle:es.length=i:=by
    have:=congrArg List.length hks4
    rw [Qa,Zm] at this
    lia
   have hts:zs.take (i+1)=zs.take i++[zs[i]]:=Qg hi
   have hnew:zs[i]∉es.map (·.1):=by
    rw [hks4]
    have:(zs.take (i+1)).Nodup:=Yu (Ul _ _) hznd
    rw [hts,Za] at this
    exact fun z=>this.2.2 _ z _ (Qd.mpr rfl) rfl
   refine ⟨_,rfl,_,rfl,_,rfl,p,d,b4,m4,es,zs[i],rfl,hp4,R4,hG4,hnew,by lia,fun b5 m5 es5 H5 hp5 R5 hG5 hk5 k5=>?_⟩
   refine ⟨_,rfl,(t:Int),rfl,by lia,by lia,?_⟩
   rw [Wj]
   refine zck (fun j σ H'=>Aj3 (Keep [p,d] H3 H') (Ex1 fun x5=>σ=[some (.ref p),some (.int most),some (.ref d),some (.int t),some (.str zs[i]),x5]) (Ex3 fun (es:List Ent) (b' m':Int)=>Aj4 (RAt H' d es) (G (rsOf es)) (es.map (·.1)=zs.take (i+1)) (Pot H' p b' m')))
    ⟨k4.trans k5,⟨_,rfl⟩,es5,b5,m5,R5,hG5,by rw [hk5,hks4,hts],hp5⟩ ?_ ?_
   ·rintro j σ H6 hj ⟨k6,⟨x5,rfl⟩,es6,b6,m6,R6,hG6,hk6,hp6⟩
    have hle6:es6.length≤30:=by
     have:=congrArg List.length hk6
     rw [Qa,Zm] at this
     lia
    refine ⟨_,rfl,_,rfl,p,d,b6,m6,es6,rfl,hp6,R6,hG6,hle6,fun b7 m7 es7 H7 hp7 R7 hG7 hk7 k7=>?_⟩
    exact ⟨k6.trans k7,⟨_,rfl⟩,es7,b7,m7,R7,hG7,by rw [hk7,hk6],hp7⟩
   ·rintro σ H6 ⟨k6,⟨x5,rfl⟩,r⟩
    exact ⟨k6,⟨_,_,rfl⟩,r⟩
  ·rintro σ H4 ⟨k4,⟨x4,x5,rfl⟩,es,b4,m4,R4,hG4,hks4,hp4⟩
   rw [Qa,Qp (Qh _)] at hks4
   have hle4:es.length=n:=by
    have:=congrArg List.length hks4
    rw [Qa] at this
    lia
   refine ⟨(by show 3≤sizeLine;decide),fun q hq=>?_⟩
   refine ⟨_,rfl,p,b4,m4,3,rfl,hp4.keep (xs:=[]) (Keep.new hq) (by simp),by decide,by decide,fun d5 b5 m5 H5 h50 h51 hp5 kp5=>?_⟩
   have k5:=zbj kp5
   have nqp:q≠p:=Zl (zaa hp4.1 hq)
   have hq5:H5 q=some (.lst [.int 0,.int 8,.int 30]):=k5 _ _ zac (by simpa using nqp)
   have R5:RAt H5 d es:=RAt.pot (R4.keep (xs:=[]) (Keep.new hq) (by simp) (fun _ _=>by simp)) (hp4.keep (xs:=[]) (Keep.new hq) (by simp)) k5
   have kk5:Keep [p,d] H H5:=((kk3.trans k4).trans (Keep.new hq)).trans (k5.sub (by simp))
   obtain ⟨j,hj,hat⟩:∃ j:Nat,j≤30∧atI [V.int 0,V.int 8,V.int 30] d5=some (.int (j:Int)):=by
    have:d5=0∨d5=1∨d5=2:=by lia
    rcases this with rfl | rfl | rfl
    ·exact ⟨0,by decide,rfl⟩
    ·exact ⟨8,by decide,rfl⟩
    ·exact ⟨30,by decide,rfl⟩
   refine ⟨q,_,_,_,rfl,rfl,SqL.of hq5,hat,(j:Int),rfl,by lia,by lia,?_⟩
   rw [Wj]
   refine zck (fun j σ H'=>Aj3 (Keep [p,d] H H') (Ex2 fun x4 x5=>σ=[some (.ref p),some (.int most),some (.ref d),some (.int t),x4,x5]) (Ex3 fun (es:List Ent) (b' m':Int)=>Aj4 (RAt H' d es) (G (rsOf es)) (es.map (·.1)=zs) (Pot H' p b' m')))
    ⟨kk5,⟨_,_,rfl⟩,es,b5,m5,R5,hG4,hks4,hp5⟩ ?_ ?_
   ·rintro j σ H6 hj ⟨k6,⟨x4,x5,rfl⟩,es6,b6,m6,R6,hG6,hk6,hp6⟩
    have hle6:es6.length≤30:=by
     have:=congrArg List.length hk6
     rw [Qa] at this
     lia
    refine ⟨_,rfl,_,rfl,p,d,b6,m6,es6,rfl,hp6,R6,hG6,hle6,fun b7 m7 es7 H7 hp7 R7 hG7 hk7 k7=>?_⟩
    exact ⟨k6.trans k7,⟨_,_,rfl⟩,es7,b7,m7,R7,hG7,by rw [hk7,hk6],hp7⟩
   ·rintro σ H6 ⟨k6,⟨x4,x5,rfl⟩,es6,b6,m6,R6,hG6,hk6,hp6⟩
    have hle6:es6.length≤most:=by
     have:=congrArg List.length hk6
     rw [Qa] at this
     lia
    refine ⟨_,rfl,k d es6 b6 m6 H6 R6 hG6 hle6 (fun e he=>hzok _ (hk6 ▸ Qi.mpr ⟨e,he,rfl⟩)) hp6 hd ?_⟩
    exact Keep.cut (k6.sub (by simp)) hd
end
abbrev sWeb:Stmt:=top 27
abbrev zev:Stmt:=inClass sWeb 1
structure TAt (H:Hp) (d:Addr) (es:List Ent):Prop where
 dc:H d=some (.dK (es.map fun e=>((Sum.inr e.1:Key),V.ref e.2.2)))
 ro:∀ e∈es,H e.2.2=some (.tup (e.2.1.map V.str))
 nd:(es.map (·.1)).Nodup
theorem TAt.keep {H H':Hp} {d:Addr} {es:List Ent} {xs:List Addr} (r:TAt H d es) (k:Keep xs H H') (hd:d∉xs) (h:∀ e∈es,e.2.2∉xs):TAt H' d es:=⟨k _ _ r.dc hd,fun e he=>k _ _ (r.ro e he) (h e he),r.nd⟩
structure WAt (H:Hp) (C x dx d:Addr) (es:List Ent):Prop where
 ob:H x=some (.ins C dx [("rounds",.ref d)])
 ta:TAt H d es
theorem WAt.keep {H H':Hp} {C x dx d:Addr} {es:List Ent} {xs:List Addr} (r:WAt H C x dx d es) (k:Keep xs H H') (hx:x∉xs) (hd:d∉xs) (h:∀ e∈es,e.2.2∉xs):WAt H' C x dx d es :=
 ⟨k _ _ r.ob hx,r.ta.keep k hd h⟩
inductive IspPlaces (C:Addr) (vs:List V) (H:Hp) (Q:VK):Prop
 | mk (x dx d:Addr) (es:List Ent) (h0:vs=[.ref x]) (h1:WAt H C x dx d es) (h2:∀ l,H l=none→Q (.ref l) (upd H l (.lst ((es.map (·.1)).map V.str)))):IspPlaces C vs H Q
def spPlaces (C:Addr):Sp:=fun vs H Q _=>IspPlaces C vs H Q
theorem refs_perm {ws:List V} {as:List Addr} (h:ws.Perm (as.map V.ref)):∃ as':List Addr,ws=as'.map V.ref∧as'.Perm as:=by
 have key:∀ ws:List V,(∀ v∈ws,∃ a,v=V.ref a)→∃ as':List Addr,ws=as'.map V.ref:=by
  intro ws
  induction ws with
  | nil=>intro _;exact ⟨[],rfl⟩
  | cons v t ih =>
   intro hh
   obtain ⟨a,rfl⟩:=hh v Qb
   obtain ⟨as',rfl⟩:=ih fun v hv=>hh v (Qf _ hv)
   exact ⟨a::as',rfl⟩
 obtain ⟨as',rfl⟩:=key ws fun v hv=>by
  obtain ⟨a,_,rfl⟩:=Qi.mp (h.mem_iff.mp hv)
  exact ⟨a,rfl⟩
 refine ⟨as',rfl,?_⟩
 have:=h.map (fun v:V=>match v with | .ref a=>a | _=>0)
 rw [Zn,Zn] at this
 have e:∀ l:List Addr,l.map ((fun v:V=>match v with | .ref a=>a | _=>0) ∘ V.ref)=l:=fun l=>List.map_id l
 rw [e,e] at this
 exact this
section
variable {P:Program} {w:World} {K:PySem.W.Frag} {mg:Str→Option Value} {base:Heap}
theorem scPlaces:zas ["self"] ["self"] (zaf zev):=⟨rfl,rfl,rfl,by decide +kernel,rfl,by decide +kernel,by decide +kernel⟩
theorem ok_places {f C:Addr} {fd:FuncData} (F:Fun K "places" "Web.places" zev f fd) (cW:Cls K C) (nW:zen K C "rounds") (hlist:mg "list" = none):FnOk P w K mg base CX0 1 f fd ["self"] (spPlaces C):=by
 refine F.ok scPlaces (fun vs H Q E h=>?_) (fun cdv A outer s H vs Q E hr h=>?_)
 ·obtain ⟨x,dx,d,es,rfl,_⟩:=h
  rfl
 ·obtain ⟨x,dx,d,es,rfl,wt,k⟩:=h
  have hx:=wt.ob
  have T:=wt.ta
  refine ⟨_,zah (zbk (zdg (zgu rfl) (by rfl) hlist PyProof.Rows.boot_list (zab (pe_fld (pv 0) rfl) zag))),?_⟩
  refine ⟨_,rfl,x,C,dx,_,_,rfl,hx,cW,nW,rfl,d,_,rfl,.inl T.dc,fun l hl=>?_⟩
  rw [zej]
  exact k l hl
end
theorem zbg {α β:Type} {R:α→β→Prop}:∀ {as:List α} {bs:List β},Paired R as bs→∀ {i:Nat} (hi:i < as.length),∃ hi2:i < bs.length,R as[i] bs[i]:=by
 intro as bs r
 induction r with
 | nil=>intro i hi;simp at hi
 | cons h t ih =>
  intro i hi
  cases i with
  | zero=>exact ⟨by simp,h⟩
  | succ j =>
   obtain ⟨a,b⟩:=ih (i:=j) (by simpa using hi)
   exact ⟨by simpa using a,b⟩
section
variable {P:Program} {w:World} {K:PySem.W.Frag} {mg:Str→Option Value} {base:Heap}
end
end K21
end
section
namespace L2
open PySem
theorem zgr {X:Cx} {st:Stmt}:PS X st (fun _ _ _=>False):=fun _ _ _ _ _ _ h=>h.elim
theorem pe_tyN {X:Cx} {x:Str} {T:String} {pos:Pos} (hg:Gl X x) (hm:X.mg x=none) (hv:bootBuiltins x=some (.type T)) (hn:x ≠ "__name__" := by decide) (hdb:(x == ("__debug__" : Str))=false:=by decide):PE X (.Name x pos) (tC (.ty T)):=by
 intro pins s σ H Q I h
 exact ld_blt I hg hm hv ⟨.ty T,H,I,rfl,h⟩ hn hdb
end L2
namespace K21
open PySem L2 Wb
abbrev zcs:Stmt:=top 21
inductive IspIsName (vs:List V) (H:Hp) (Q:VK):Prop
 | mk (z:Str) (h0:vs=[.str z]) (h1:zdl z) (h2:∀ H',Keep [] H H'→Q (.bl true) H'):IspIsName vs H Q
def spIsName:Sp:=fun vs H Q _=>IspIsName vs H Q
abbrev zem:Scope:=scOf (aOf 0 (aOf 1 (eOf (sAt zcs 1))))
theorem csIsName_k:zem.kind=.function:=by rfl
theorem csIsName_c:∀ y∈zem.names,y.2≠.cell:=by decide +kernel
theorem csIsName_n:∀ y∈zem.names,y.2=.local→zem.names.lookup y.1=some .local:=by decide +kernel
theorem csIsName_f:∀ y∈zem.names,y.2=.free→(zaf zcs).names.lookup y.1=some .cell∨(zaf zcs).names.lookup y.1=some .free:=by decide +kernel
theorem nd1:(["sign"]:List Str).Nodup:=by decide +kernel
section
variable {P:Program} {w:World} {K:PySem.W.Frag} {mg:Str→Option Value} {base:Heap}
theorem scIsName:zas ["thing"] ["thing"] (zaf zcs):=⟨rfl,rfl,rfl,by decide +kernel,rfl,by decide +kernel,by decide +kernel⟩
theorem ok_isname {f:Addr} {fd:FuncData} {tk:Tok} (F:Fun K "is_name" "is_name" zcs f fd) (hML:mg "MOST_LETTERS" = some (.int 8 tk))
  (hisi:mg "isinstance" = none) (hstr:mg "str" = none) (hlen:mg "len" = none) (hall:mg "all" = none):FnOk P w K mg base CX0 1 f fd ["thing"] spIsName:=by
 refine F.ok scIsName (fun vs H Q E h=>?_) (fun cdv A outer s H vs Q E hr h=>?_)
 ·obtain ⟨z,rfl,_⟩:=h
  rfl
 ·obtain ⟨z,rfl,hz,k⟩:=h
  have hu:=zce hr
  have hs0:sizeLine=16777216:=sizeLine_eq
  refine ⟨_,zae (zcg (pt_not (pt_val (zak call_isi_str (by rfl) hisi PyProof.Rows.boot_isinstance (zab (pv 0) (zab (pe_tyN (T := "str") rfl hstr PyProof.Rows.boot_str) zag))))) (zah zgr) za4)
   (zah (zbk (pe_and (zhl op_le op_le zai (zak call_len_str (by rfl) hlen Yb (zab (pv 0) zag)) (pe_glob (v:=.int 8) rfl hML ⟨tk,rfl⟩))
    (pe_one (zak (call_all rfl) (by rfl) hall PyProof.Rows.boot_all (zab (zd1 (M:=["sign"]) (ix:=[none]) ⟨csIsName_k,csIsName_c,csIsName_n,csIsName_f,rfl,by decide +kernel,fun j i x h1 h2=>by
       match j,h1,h2 with
       | 0,_,h2=>cases h2
       | n+1,h1,_=>cases h1⟩ rfl (pi_str (pv 0)) (fun C pins ex s H=>zaj (i:=0) nd1 rfl (Or.inl rfl) (Or.inr rfl))
       (fun C pins ex s H=>zb9) (fun C pins ex s H=>zhl op_le_str op_le_str pe_str (pv 0) pe_str)) zag)))))),?_⟩
  obtain ⟨hz1,hz2,hz3⟩:=hz
  have hz1':1≤z.cps.size:=hz1
  have hz2':z.cps.size≤8:=hz2
  refine ⟨_,rfl,z,rfl,_,rfl,zbh rfl ?_⟩
  refine ⟨_,rfl,z,rfl,(by show z.cps.size≤sizeLine;lia),_,_,rfl,rfl,_,rfl,zb8 (decide_eq_true (by show (1:Int)≤(z.cps.size:Int);exact zar9 ‹_›)) ?_⟩
  refine ⟨_,_,rfl,rfl,_,rfl,zb8 (decide_eq_true (by show (z.cps.size:Int)≤8;lia)) ?_⟩
  have asc:z.cps.all (· < 128)=true:=by
   rw [Array.all_eq_true]
   intro i hi
   have:=hz3 z.cps[i] (by rw [Array.mem_toList_iff];exact Array.getElem_mem hi)
   exact decide_eq_true (by lia)
  refine ⟨_,rfl,z,rfl,asc,fun i m ys τ H1=>Aj5 (H1=H) (m=z.cps.size - i) (i≤z.cps.size) (ys=List.replicate i (V.bl true)) (Ex1 fun x0=>τ=[x0]),⟨_,rfl,rfl,Zd _,rfl,none,rfl⟩,?_⟩
  rintro i m ys τ H1 ⟨rfl,rfl,hi,rfl,x0,rfl⟩
  by_cases hlt:i < z.cps.size
  ·refine .inr ⟨hlt,by rw [Uk];lia,?_⟩
   rintro y H' ⟨rfl,c,hc,rfl⟩
   obtain ⟨h1,h2⟩:=hz3 c (by rw [Array.mem_toList_iff];exact Array.mem_of_getElem? hc)
   have l1:(!decide ((⟨#[c]⟩:Str).cps.toList < ("a" : Str).cps.toList))=true:=by
    rw [Bool.not_eq_true',decide_eq_false_iff_not,show ("a" : Str).cps.toList=[97] from by decide +kernel]
    show ¬ [c] < [97]
    intro h
    have:=List.cons_lt_cons_iff.mp h
    rcases this with q | ⟨_,q⟩
    ·exact zar10 ‹_› ‹_›
    ·exact Kc _ q
   have l2:(!decide (("z" : Str).cps.toList < (⟨#[c]⟩:Str).cps.toList))=true:=by
    rw [Bool.not_eq_true',decide_eq_false_iff_not,show ("z" : Str).cps.toList=[122] from by decide +kernel]
    show ¬ [122] < [c]
    intro h
    have:=List.cons_lt_cons_iff.mp h
    rcases this with q | ⟨_,q⟩
    ·exact zar10 ‹_› ‹_›
    ·exact Kc _ q
   refine ⟨_,rfl,_,_,rfl,rfl,_,rfl,zb8 l1 ?_⟩
   refine ⟨_,_,rfl,rfl,_,?_,rfl,rfl,hlt,?_,_,rfl⟩
   ·exact zar1 ‹_›
   ·rw [l2,List.replicate_succ']
  ·have e:i=z.cps.size:=by exact zar3 ‹_› ‹_›
   subst e
   refine .inl ⟨Qh _,fun D hD=>?_⟩
   refine ⟨D,List.replicate z.cps.size true,rfl,SqL.of (by rw [zac,List.map_replicate]),?_⟩
   have:(List.replicate z.cps.size true).all id=true:=by
    rw [Ut];intro b hb;exact (List.mem_replicate.mp hb).2
   rw [this]
   exact k _ (Keep.new hD)
end
end K21
end
section
namespace L2
open PySem
theorem lc_at {K:PySem.W.Frag} {g:TG} {te:TE} {Q:VK} {a:Addr} {τ:St} {H:Hp} {xs:List V} (T:St→Prop) (ys:List V) (hl:ys.length=xs.length) (ha:SqL K H a xs) (hn:xs.length≤sizeLine) (h0:T τ)
  (hs:∀ (i:Nat) (hi:i < xs.length) (hi':i < ys.length),∀ τ,T τ→∀ k:V→St→Hp→Prop,(∀ τ2,T τ2→k ys[i] τ2 H)→g xs[i] τ H fun τ2 H2=>te τ2 H2 fun y H4=>k y τ2 H4)
  (q:∀ D,H D=none→Q (.ref D) (upd H D (.lst ys))):rLC g tAll te Q (Itl K a) τ H:=by
 refine ⟨fun i m zs τ H1=>Aj5 (H1=H) (T τ) (m=xs.length - i) (i≤xs.length) (zs=ys.take i),⟨_,rfl,h0,rfl,Zd _,rfl⟩,?_⟩
 rintro i m zs τ H1 ⟨rfl,ht,rfl,hi,rfl⟩
 by_cases hlt:i < xs.length
 ·refine .inr ⟨⟨xs,xs[i],ha,Qc hlt⟩,by rw [Zm];lia,?_⟩
  rintro x H' ⟨rfl,hx⟩
  have hx':=hx xs ha
  rw [Qc hlt] at hx'
  have hxe:xs[i]=x:=Qm hx'
  rw [← hxe]
  refine hs i hlt (by exact zar6 ‹_› ‹_›) τ ht (fun y τ2 H4=>∃ m',m' < xs.length - i∧Aj5 (H4=H') (T τ2) (m'=xs.length - (i+1)) (i+1≤xs.length) (ys.take i++[y]=ys.take (i+1))) fun τ2 h2=>?_
  exact ⟨_,by exact zar1 ‹_›,rfl,h2,rfl,hlt,by rw [Qg (by exact zar6 ‹_› ‹_›:i < ys.length)]⟩
 ·have e:i=xs.length:=by exact zar3 ‹_› ‹_›
  refine .inl ⟨⟨xs,ha,by lia⟩,fun D hD=>?_⟩
  rw [Qp (by lia)]
  exact q D hD
end L2
namespace K21
open PySem L2 Wb
structure RwAt (H:Hp) (l:Addr) (as:List Addr) (es:List Ent):Prop where
 ls:H l=some (.lst (as.map V.ref))
 ts:Paired (fun a (e:Ent)=>H a=some (.tup [.str e.1,.ref e.2.2])) as es
 ro:∀ e∈es,H e.2.2=some (.lst (e.2.1.map V.str))
theorem RwAt.keep {H H':Hp} {l:Addr} {as:List Addr} {es:List Ent} (r:RwAt H l as es) (k:Keep [] H H'):RwAt H' l as es :=
 ⟨k _ _ r.ls (by simp),Paired.imp' (fun _ _ h=>k _ _ h (by simp)) r.ts,fun e he=>k _ _ (r.ro e he) (by simp)⟩
abbrev zcz:Stmt:=top 22
abbrev zcv:Stmt:=top 23
abbrev zdy:Stmt:=top 24
inductive zhd (vs:List V) (H:Hp) (Q:VK):Prop
 | mk (l:Addr) (as:List Addr) (es:List Ent) (h0:vs=[.ref l]) (h1:RwAt H l as es) (h2:(∀ e∈es,e.2.1.length≤100∧zdl e.1∧∀ x∈e.2.1,zdl x)) (h3:∀ H',Keep [] H H'→Q .non H'):zhd vs H Q
def spNoNames:Sp:=fun vs H Q _=>zhd vs H Q
inductive IspTwice (vs:List V) (H:Hp) (Q:VK):Prop
 | mk (l:Addr) (as:List Addr) (es:List Ent) (h0:vs=[.ref l]) (h1:RwAt H l as es) (h2:es.length≤100) (h3:(es.map (·.1)).Nodup) (h4:(∀ e∈es,e.2.1.length≤100∧e.2.1.Nodup)) (h5:∀ H',Keep [] H H'→Q .non H'):IspTwice vs H Q
def spTwice:Sp:=fun vs H Q _=>IspTwice vs H Q
inductive IspOneWay (vs:List V) (H:Hp) (Q:VK):Prop
 | mk (l:Addr) (as:List Addr) (es:List Ent) (h0:vs=[.ref l]) (h1:RwAt H l as es) (h2:(es.map (·.1)).Nodup) (h3:(∀ e∈es,e.1∉e.2.1∧∀ x∈e.2.1,∃ e'∈es,e'.1=x∧e.1∈e'.2.1)) (h4:∀ H',Keep [] H H'→Q .non H'):IspOneWay vs H Q
def spOneWay:Sp:=fun vs H Q _=>IspOneWay vs H Q
section
variable {P:Program} {w:World} {K:PySem.W.Frag} {mg:Str→Option Value} {base:Heap}
theorem zd9:zas ["rows", "place", "around", "thing"] ["rows"] (zaf zcz):=⟨rfl,rfl,rfl,by decide +kernel,rfl,by decide +kernel,by decide +kernel⟩
theorem ok_nonames {f fn:Addr} {fd fdn:FuncData} (F:Fun K "refuse_no_names" "refuse_no_names" zcz f fd)
  (FN:Fun K "is_name" "is_name" zcs fn fdn) (bN:Binds K fdn ["thing"] []) (mN:mg "is_name" = some (.ref fn)) (GN:FnOk P w K mg base CX0 1 fn fdn ["thing"] spIsName):FnOk P w K mg base CX0 2 f fd ["rows"] spNoNames:=by
 refine F.ok zd9 (fun vs H Q E h=>?_) (fun cdv A outer s H vs Q E hr h=>?_)
 ·obtain ⟨l,as,es,rfl,_⟩:=h
  rfl
 ·obtain ⟨l,as,es,rfl,R,hok,k⟩:=h
  have hu:=zce hr
  have hs0:sizeLine=16777216:=sizeLine_eq
  refine ⟨_,zah (zbe Zg rfl (zaw (pv 0)) (zgz rfl (zbc (zaj (i:=1) zd9.nd rfl (Or.inl rfl)) (zbc (zaj (i:=2) zd9.nd rfl (Or.inl rfl)) zdf)))
   (zah (zbe Zg rfl (zaw (zaz zf0 (zbd (zab (pv 1) zag)) (pv 2))) (zaj (i:=3) zd9.nd rfl (Or.inl rfl))
    (zah (zcg (pt_not (pt_val (zal GN hr rfl mN FN.kp bN .nil zax (zab (pv 3) zag)))) (zah zgr) za4))))),?_⟩
  refine ⟨_,rfl,l,rfl,⟨_,SqL.of R.ls⟩,zbm (xs:=as.map V.ref) (fun i σ H'=>Aj2 (Keep [] H H') (Ex3 fun x1 x2 x3=>σ=[some (.ref l),x1,x2,x3])) ⟨Keep.refl,none,none,none,rfl⟩ (fun i σ H' _ hh=>SqL.of (hh.1 _ _ R.ls (by simp))) ?_ ?_⟩
  ·rintro i y σ H1 hx ⟨k1,x1,x2,x3,rfl⟩
   have hi:i < as.length:=by
    have:=(Qz.mp hx).1
    rwa [Qa] at this
   have hxz:y=.ref as[i]:=by
    rw [Qn,Qc hi] at hx
    exact (Qm hx).symm
   subst hxz
   obtain ⟨hi2,hai⟩:=zbg R.ts hi
   obtain ⟨hl3,hn1,hn2⟩:=hok _ (Qr hi2)
   have hro:=k1 _ _ (R.ro _ (Qr hi2)) (by simp)
   refine ⟨as[i],_,rfl,SqT.of (k1 _ _ hai (by simp)),rfl,_,_,rfl,_,_,rfl,rfl,?_⟩
   refine ⟨_,rfl,(by show 1≤sizeLine;decide),fun q hq=>?_⟩
   have nq:es[i].2.2≠q:=zaa hro hq
   refine ⟨_,rfl,q,es[i].2.2,_,_,rfl,rfl,zac,(by rw [zad nq];exact hro),(by rw [Qa];show 1+_≤sizeLine;lia),fun q2 hq2=>?_⟩
   have k2:Keep [] H (upd (upd H1 q (.lst [.str es[i].1])) q2 (.lst ([V.str es[i].1]++es[i].2.1.map V.str))):=(k1.trans (Keep.new hq)).trans (Keep.new hq2)
   have hq2':(upd (upd H1 q (.lst [.str es[i].1])) q2 (.lst ([V.str es[i].1]++es[i].2.1.map V.str))) q2=some (.lst ((es[i].1::es[i].2.1).map V.str)):=zac
   generalize upd (upd H1 q (.lst [.str es[i].1])) q2 (.lst ([V.str es[i].1]++es[i].2.1.map V.str))=H2 at k2 hq2'
   refine ⟨q2,rfl,⟨_,SqL.of hq2'⟩,zbm (xs:=(es[i].1::es[i].2.1).map V.str) (fun j σ H'=>Aj2 (Keep [] H2 H') (Ex3 fun x1 x2 x3=>σ=[some (.ref l),x1,x2,x3])) ⟨Keep.refl,_,_,_,rfl⟩ (fun j σ H' _ hh=>SqL.of (hh.1 _ _ hq2' (by simp))) ?_ ?_⟩
   ·rintro j y σ H3 hy ⟨k3,y1,y2,y3,rfl⟩
    obtain ⟨z,hz,rfl⟩:=Qi.mp (Yn hy)
    have hzn:zdl z:=by
     rcases Qe.mp hz with e | e
     ·rw [e];exact hn1
     ·exact hn2 z e
    refine ⟨_,rfl,z,rfl,hzn,fun H4 k4=>⟨_,rfl,zbh rfl ?_⟩⟩
    exact ⟨k3.trans k4,_,_,_,rfl⟩
   ·rintro σ H3 ⟨k3,y1,y2,y3,rfl⟩
    exact ⟨k2.trans k3,_,_,_,rfl⟩
  ·rintro σ H1 ⟨k1,x1,x2,x3,rfl⟩
   exact k H1 k1
abbrev csTwA:Scope:=scOf (eOf (sAt zcv 0))
abbrev csTwB:Scope:=scOf (aOf 1 (eOf (sAt zcv 1)))
theorem csTwA_k:csTwA.kind=.function:=by rfl
theorem csTwA_c:∀ y∈csTwA.names,y.2≠.cell:=by decide +kernel
theorem csTwA_n:∀ y∈csTwA.names,y.2=.local→csTwA.names.lookup y.1=some .local:=by decide +kernel
theorem csTwA_f:∀ y∈csTwA.names,y.2=.free→(zaf zcv).names.lookup y.1=some .cell∨(zaf zcv).names.lookup y.1=some .free:=by decide +kernel
theorem csTwB_k:csTwB.kind=.function:=by rfl
theorem csTwB_c:∀ y∈csTwB.names,y.2≠.cell:=by decide +kernel
theorem csTwB_n:∀ y∈csTwB.names,y.2=.local→csTwB.names.lookup y.1=some .local:=by decide +kernel
theorem csTwB_f:∀ y∈csTwB.names,y.2=.free→(zaf zcv).names.lookup y.1=some .cell∨(zaf zcv).names.lookup y.1=some .free:=by decide +kernel
theorem ndPA:(["place", "around"]:List Str).Nodup:=by decide +kernel
theorem scTwice:zas ["rows", "places", "names"] ["rows"] (zaf zcv):=⟨rfl,rfl,rfl,by decide +kernel,rfl,by decide +kernel,by decide +kernel⟩
theorem noB {X:Cx} {sc:Scope} {M:List Str} {n:Nat} (h1:sc.kind=.function) (h2:∀ y∈sc.names,y.2≠.cell) (h3:∀ y∈sc.names,y.2=.local→sc.names.lookup y.1=some .local) (h4:∀ y∈sc.names,y.2=.free→X.env.scope.names.lookup y.1=some .cell∨X.env.scope.names.lookup y.1=some .free)
  (h5:n=M.length) (h6:M.Nodup):Blk X sc M (List.replicate n none):=⟨h1,h2,h3,h4,by rw [Uk,h5],h6,fun j i x _ h=>by
   have:=Yn h
   have:=(List.mem_replicate.mp this).2
   cases this⟩
theorem pg_tupK {X:Cx} {K:PySem.W.Frag} (hK:X.K=K) {es:List Expr} {k:Nat} {pos:Pos} {t:TGs} {n:Nat} (hc:X.calm=true) (h:PGs X es t)
  (hn:(assignEach es X.env).length=n:=by rfl) (hst:(assignEach es X.env).findIdx? (·.1)=none:=by rfl):PG X (.Tuple es k pos) (gTup K n t):=hK ▸ zgz hc h hn hst
theorem ok_twice {f:Addr} {fd:FuncData} (F:Fun K "refuse_twice" "refuse_twice" zcv f fd) (hlen:mg "len" = none) (hset:mg "set" = none):FnOk P w K mg base CX0 1 f fd ["rows"] spTwice:=by
 refine F.ok scTwice (fun vs H Q E h=>?_) (fun cdv A outer s H vs Q E hr h=>?_)
 ·obtain ⟨l,as,es,rfl,_⟩:=h
  rfl
 ·obtain ⟨l,as,es,rfl,R,hel,hnd,hok,k⟩:=h
  have hu:=zce hr
  have hs0:sizeLine=16777216:=sizeLine_eq
  refine ⟨_,zae (ps_lc (i:=1) (M:=["place", "around"]) (ix:=[none,none]) scTwice.nd rfl rfl (noB (n:=2) csTwA_k csTwA_c csTwA_n csTwA_f rfl ndPA) rfl (zaw (pv 0))
    (fun C pins ex s H=>pg_tupK (K:=K) (n:=2) rfl rfl (zbc (zaj (i:=0) ndPA rfl (Or.inl rfl) (Or.inr rfl)) (zbc (zaj (i:=1) ndPA rfl (Or.inl rfl) (Or.inr rfl)) zdf)))
    (fun C pins ex s H=>zb9) (fun C pins ex s H=>pv 0) rfl)
   (zah (zbe Zg rfl (zaw (zaz zf0 (zbd (zab (pv 1) zag)) (zd1 (M:=["place", "around"]) (ix:=[none,none]) (noB (n:=2) csTwB_k csTwB_c csTwB_n csTwB_f rfl ndPA) rfl (zaw (pv 0))
    (fun C pins ex s H=>pg_tupK (K:=K) (n:=2) rfl rfl (zbc (zaj (i:=0) ndPA rfl (Or.inl rfl) (Or.inr rfl)) (zbc (zaj (i:=1) ndPA rfl (Or.inl rfl) (Or.inr rfl)) zdf)))
    (fun C pins ex s H=>zb9) (fun C pins ex s H=>pv 1)))) (zaj (i:=2) scTwice.nd rfl (Or.inl rfl))
    (zah (zcg (zay op_lt (zak zh9 (by rfl) hlen Yb (zab (zdg (zh6 rfl) (by rfl) hset PyProof.Rows.boot_set (zab (pv 2) zag)) zag))
     (zak zaq (by rfl) hlen Yb (zab (pv 2) zag)) (zb0 _)) (zah zgr) za4)))),?_⟩
  have hal:as.length=es.length:=Ym R.ts
  refine ⟨_,rfl,l,rfl,⟨_,SqL.of R.ls⟩,lc_at (xs:=as.map V.ref) (fun τ=>∃ x0 x1,τ=[x0,x1]) ((es.map (·.1)).map V.str) (by rw [Qa,Qa,Qa,hal]) (SqL.of R.ls) (by rw [Qa];lia) ⟨none,none,rfl⟩ ?_ (fun D hD=>?_)⟩
  ·rintro i hi hi' τ ⟨x0,x1,rfl⟩ kk hk
   rw [Qa] at hi
   obtain ⟨hi2,hai⟩:=zbg R.ts hi
   rw [Yi]
   refine ⟨as[i],_,rfl,SqT.of hai,rfl,_,_,rfl,_,_,rfl,rfl,_,rfl,?_⟩
   have e:((es.map (·.1)).map V.str)[i]=V.str es[i].1:=by rw [Yi,Yi]
   rw [e] at hk
   exact hk _ ⟨_,_,rfl⟩
  ·have k1:Keep [] H (upd H D (.lst ((es.map (·.1)).map V.str))):=Keep.new hD
   have hD1:(upd H D (.lst ((es.map (·.1)).map V.str))) D=some (.lst ((es.map (·.1)).map V.str)):=zac
   generalize upd H D (.lst ((es.map (·.1)).map V.str))=H1 at k1 hD1
   have R1:=R.keep k1
   refine ⟨_,rfl,(by show 1≤sizeLine;decide),fun q hq=>?_⟩
   have k2:Keep [] H1 (upd H1 q (.lst [.ref D])):=Keep.new hq
   have hq2:(upd H1 q (.lst [.ref D])) q=some (.lst [.ref D]):=zac
   generalize upd H1 q (.lst [.ref D])=H2 at k2 hq2
   have R2:=R1.keep k2
   refine ⟨_,rfl,l,rfl,⟨_,SqL.of R2.ls⟩,lc_at (xs:=as.map V.ref) (fun τ=>∃ x0 x1,τ=[x0,x1]) (es.map fun e=>V.ref e.2.2) (by rw [Qa,Qa,hal]) (SqL.of R2.ls) (by rw [Qa];lia) ⟨none,none,rfl⟩ ?_ (fun D2 hD2=>?_)⟩
   ·rintro i hi hi' τ ⟨x0,x1,rfl⟩ kk hk
    rw [Qa] at hi
    obtain ⟨hi2,hai⟩:=zbg R2.ts hi
    rw [Yi]
    refine ⟨as[i],_,rfl,SqT.of hai,rfl,_,_,rfl,_,_,rfl,rfl,_,rfl,?_⟩
    rw [Yi] at hk
    exact hk _ ⟨_,_,rfl⟩
   ·have k3:Keep [] H2 (upd H2 D2 (.lst (es.map fun e=>V.ref e.2.2))):=Keep.new hD2
    have hD3:(upd H2 D2 (.lst (es.map fun e=>V.ref e.2.2))) D2=some (.lst (es.map fun e=>V.ref e.2.2)):=zac
    generalize upd H2 D2 (.lst (es.map fun e=>V.ref e.2.2))=H3 at k3 hD3
    refine ⟨q,D2,_,_,rfl,rfl,k3 _ _ hq2 (by simp),hD3,(by rw [Qa];show 1+_≤sizeLine;lia),fun q4 hq4=>?_⟩
    have k4:Keep [] H3 (upd H3 q4 (.lst ([V.ref D]++es.map fun e=>V.ref e.2.2))):=Keep.new hq4
    have hq4':(upd H3 q4 (.lst ([V.ref D]++es.map fun e=>V.ref e.2.2))) q4=some (.lst ([V.ref D]++es.map fun e=>V.ref e.2.2)):=zac
    generalize upd H3 q4 (.lst ([V.ref D]++es.map fun e=>V.ref e.2.2))=H4 at k4 hq4'
    have kk4:Keep [] H H4:=((k1.trans k2).trans k3).trans k4
    refine ⟨q4,rfl,⟨_,SqL.of hq4'⟩,zbm (xs:=[V.ref D]++es.map fun e=>V.ref e.2.2) (fun i σ H'=>Aj2 (Keep [] H4 H') (Ex2 fun x1 x2=>σ=[some (.ref l),x1,x2])) ⟨Keep.refl,_,_,rfl⟩ (fun i σ H' _ hh=>SqL.of (hh.1 _ _ hq4' (by simp))) ?_ ?_⟩
    ·rintro i y σ H5 hy ⟨k5,x1,x2,rfl⟩
     obtain ⟨a,zs,rfl,ha,hzn,hzl⟩:∃ (a:Addr) (zs:List Str),y=V.ref a∧H5 a=some (.lst (zs.map V.str))∧zs.Nodup∧zs.length≤100:=by
      rcases Ql.mp (Yn hy) with z | z
      ·refine ⟨D,es.map (·.1),Qd.mp z,?_,hnd,by rw [Qa];exact hel⟩
       exact k5 _ _ (k4 _ _ (k3 _ _ (k2 _ _ hD1 (by simp)) (by simp)) (by simp)) (by simp)
      ·obtain ⟨e,he,rfl⟩:=Qi.mp z
       exact ⟨e.2.2,e.2.1,rfl,k5 _ _ (kk4 _ _ (R.ro e he) (by simp)) (by simp),(hok e he).2,(hok e he).1⟩
     refine ⟨_,rfl,a,zs,rfl,SqL.of ha,hzn,by lia,fun t ht=>?_⟩
     have nat':a≠t:=zaa ha ht
     refine ⟨t,zs,rfl,zac,by lia,_,rfl,a,_,rfl,.inl (SqL.of (by rw [zad nat'];exact ha)),_,_,rfl,rfl,_,rfl,zbh (decide_eq_false (by rw [Qa];lia)) ?_⟩
     exact ⟨k5.trans (Keep.new ht),_,_,rfl⟩
    ·rintro σ H5 ⟨k5,x1,x2,rfl⟩
     exact k H5 (kk4.trans k5)
end
end K21
end
section
namespace K21
open PySem L2 Wb
abbrev zfv:Stmt:=top 26
inductive IspLeast (vs:List V) (H:Hp) (Q:VK):Prop
 | mk (a:Addr) (zs:List Str) (h0:vs=[.ref a]) (h1:H a=some (.lst (zs.map V.str))) (h2:zs.length≤100) (h3:∀ (t:Addr) (j:Nat) (H':Hp),j≤zs.length→H' t=some (.tup ((zs.drop j++zs.take j).map V.str))→H t=none→Keep [] H H'→Q (.ref t) H'):IspLeast vs H Q
def spLeast:Sp:=fun vs H Q _=>IspLeast vs H Q
theorem paired_map {α β γ:Type} {R:α→γ→Prop} {f:β→γ}:∀ {as:List α} {bs:List β},Paired (fun a b=>R a (f b)) as bs→Paired R as (bs.map f):=by
 intro as bs r
 induction r with
 | nil=>exact .nil
 | cons h t ih=>exact .cons h ih
section
variable {P:Program} {w:World} {K:PySem.W.Frag} {mg:Str→Option Value} {base:Heap}
theorem zd8:zas ["rows", "rounds", "one", "around", "other"] ["rows"] (zaf zdy):=⟨rfl,rfl,rfl,by decide +kernel,rfl,by decide +kernel,by decide +kernel⟩
theorem ok_oneway {f:Addr} {fd:FuncData} (F:Fun K "refuse_one_way" "refuse_one_way" zdy f fd) (hdict:mg "dict" = none):FnOk P w K mg base CX0 1 f fd ["rows"] spOneWay:=by
 refine F.ok zd8 (fun vs H Q E h=>?_) (fun cdv A outer s H vs Q E hr h=>?_)
 ·obtain ⟨l,as,es,rfl,_⟩:=h
  rfl
 ·obtain ⟨l,as,es,rfl,R,hnd,hok,k⟩:=h
  have hu:=zce hr
  have hs0:sizeLine=16777216:=sizeLine_eq
  refine ⟨_,zae (zam (i:=1) zd8.nd rfl (Or.inl rfl) (zdg (zgv rfl) (by rfl) hdict PyProof.Rows.boot_dict (zab (pv 0) zag)))
   (zah (zbe Zg rfl (zaw (pv 0)) (zgz rfl (zbc (zaj (i:=2) zd8.nd rfl (Or.inl rfl)) (zbc (zaj (i:=3) zd8.nd rfl (Or.inl rfl)) zdf)))
    (zah (zbe Zg rfl (zaw (pv 3)) (zaj (i:=4) zd8.nd rfl (Or.inl rfl))
     (zah (zcg (PW.pt (pw_or (zay op_eq (pv 4) (pv 2) (zb0 _)) (pw_or1 (zay zcq (pv 2) (pe_dget2 hu (pv 1) (pv 4) (zbd zag) ⟨rfl,rfl,rfl,rfl⟩) rfl)))) (zah zgr) za4)))))),?_⟩
  have hps:(es.map fun e:Ent=>(e.1,V.ref e.2.2)).map (·.1)=es.map (·.1):=by rw [Zn];rfl
  refine ⟨_,rfl,l,as,es.map fun e=>(e.1,V.ref e.2.2),rfl,R.ls,paired_map R.ts,by rw [hps];exact hnd,fun d hd=>?_⟩
  have hpd:((es.map fun e:Ent=>(e.1,V.ref e.2.2)).map fun p=>((Sum.inr p.1:Key),p.2))=es.map fun e=>((Sum.inr e.1:Key),V.ref e.2.2):=by rw [Zn];rfl
  rw [hpd]
  have k1:Keep [] H (upd H d (.dK (es.map fun e=>((Sum.inr e.1:Key),V.ref e.2.2)))):=Keep.new hd
  have hd1:(upd H d (.dK (es.map fun e=>((Sum.inr e.1:Key),V.ref e.2.2)))) d=some (.dK (es.map fun e=>((Sum.inr e.1:Key),V.ref e.2.2))):=zac
  generalize upd H d (.dK (es.map fun e=>((Sum.inr e.1:Key),V.ref e.2.2)))=H1 at k1 hd1
  have R1:=R.keep k1
  refine ⟨_,rfl,l,rfl,⟨_,SqL.of R1.ls⟩,zbm (xs:=as.map V.ref) (fun i σ H'=>Aj2 (Keep [] H1 H') (Ex3 fun x2 x3 x4=>σ=[some (.ref l),some (.ref d),x2,x3,x4])) ⟨Keep.refl,none,none,none,rfl⟩ (fun i σ H' _ hh=>SqL.of (hh.1 _ _ R1.ls (by simp))) ?_ ?_⟩
  ·rintro i y σ H2 hx ⟨k2,x2,x3,x4,rfl⟩
   have hi:i < as.length:=by
    have:=(Qz.mp hx).1
    rwa [Qa] at this
   have hxz:y=.ref as[i]:=by
    rw [Qn,Qc hi] at hx
    exact (Qm hx).symm
   subst hxz
   obtain ⟨hi2,hai⟩:=zbg R1.ts hi
   obtain ⟨hn1,hn2⟩:=hok _ (Qr hi2)
   have hro:=k2 _ _ (R1.ro _ (Qr hi2)) (by simp)
   refine ⟨as[i],_,rfl,SqT.of (k2 _ _ hai (by simp)),rfl,_,_,rfl,_,_,rfl,rfl,?_⟩
   refine ⟨_,rfl,es[i].2.2,rfl,⟨_,SqL.of hro⟩,zbm (xs:=es[i].2.1.map V.str) (fun j σ H'=>Aj2 (Keep [] H2 H') (Ex1 fun x4=>σ=[some (.ref l),some (.ref d),some (.str es[i].1),some (.ref es[i].2.2),x4])) ⟨Keep.refl,_,rfl⟩ (fun j σ H' _ hh=>SqL.of (hh.1 _ _ hro (by simp))) ?_ ?_⟩
   ·rintro j y σ H3 hy ⟨k3,y4,rfl⟩
    obtain ⟨z,hz,rfl⟩:=Qi.mp (Yn hy)
    obtain ⟨e',he',hez,hin⟩:=hn2 z hz
    have hne:z≠es[i].1:=fun q=>hn1 (q ▸ hz)
    have hd3:=k3 _ _ (k2 _ _ hd1 (by simp)) (by simp)
    refine ⟨_,rfl,_,rfl,rfl,_,rfl,zbh (decide_eq_false (fun q=>hne (by injection q))) ?_⟩
    refine ⟨_,rfl,_,rfl,d,rfl,.inl ⟨_,.inl hd3⟩,_,rfl,(by show 0≤sizeLine;decide),fun q hq=>?_⟩
    have ndq:d≠q:=zaa hd3 hq
    have hd4:(upd H3 q (.lst [])) d=some (.dK (es.map fun e=>((Sum.inr e.1:Key),V.ref e.2.2))):=by rw [zad ndq];exact hd3
    have hr4:(upd H3 q (.lst [])) e'.2.2=some (.lst (e'.2.1.map V.str)):=by
     have h3:=k3 _ _ (k2 _ _ (R1.ro e' he') (by simp)) (by simp)
     rw [zad (zaa h3 hq)];exact h3
    have dg:=DGet.k (k:=Sum.inr z) hd4
    rw [← hez,zbx hnd he',hez] at dg
    refine ⟨_,dg,e'.2.2,_,rfl,.inl (SqL.of hr4),rfl,zcl _,_,rfl,?_⟩
    refine zbh (by rw [if_pos rfl,ze1,decide_eq_true hin];rfl) ?_
    exact ⟨k3.trans (Keep.new hq),_,rfl⟩
   ·rintro σ H3 ⟨k3,y4,rfl⟩
    exact ⟨k2.trans k3,_,_,_,rfl⟩
  ·rintro σ H2 ⟨k2,x2,x3,x4,rfl⟩
   exact k H2 (k1.trans k2)
theorem scLeast:zas ["around", "at"] ["around"] (zaf zfv):=⟨rfl,rfl,rfl,by decide +kernel,rfl,by decide +kernel,by decide +kernel⟩
theorem ok_least {f:Addr} {fd:FuncData} (F:Fun K "from_least" "from_least" zfv f fd) (hmin:mg "min" = none) (htup:mg "tuple" = none):FnOk P w K mg base CX0 1 f fd ["around"] spLeast:=by
 refine F.ok scLeast (fun vs H Q E h=>?_) (fun cdv A outer s H vs Q E hr h=>?_)
 ·obtain ⟨a,zs,rfl,_⟩:=h
  rfl
 ·obtain ⟨a,zs,rfl,ha,hz,k⟩:=h
  have hs0:sizeLine=16777216:=sizeLine_eq
  refine ⟨_,zae (zam (i:=1) scLeast.nd rfl (Or.inl rfl) (pe_ifExp (zeb (pv 0) (by intro _;rfl)) (zee Zu Km Kl zhq (pv 0) (zab (zak (zh7 rfl) (by rfl) hmin Uj (zab (pv 0) zag)) zag)) zai))
   (zah (zbk (zdg zh5 (by rfl) htup PyProof.Rows.boot_tuple (zab (zaz zf0 (zcp zda (pv 0) (zc1 (pv 1)) zct) (zcp zda (pv 0) zct (zc1 (pv 1)))) zag)))),?_⟩
  have hlm:(zs.map V.str).length=zs.length:=Qa ..
  refine ⟨_,rfl,_,.inl ⟨_,SqL.of ha,rfl⟩,?_⟩
  by_cases hze:zs=[]
  ·refine zbh (by rw [hze];rfl) ?_
   have h0:0≤zs.length:=Zd _
   refine ⟨_,rfl,_,rfl,_,rfl,a,_,rfl,SqL.of ha,fun p1 h1=>?_⟩
   have n1:a≠p1:=zaa ha h1
   refine ⟨_,rfl,_,rfl,_,rfl,a,_,rfl,SqL.of (by rw [zad n1];exact ha),fun p2 h2=>?_⟩
   have n12:p1≠p2:=zaa (o:=_) zac h2
   refine ⟨p1,p2,_,_,rfl,rfl,(by rw [zad n12];exact zac),zac,?_,fun p3 h3=>?_⟩
   ·have q1:=za1 (zs.map V.str) (some (0:Int)) none
    have q2:=za1 (zs.map V.str) none (some (0:Int))
    rw [hlm] at q1 q2
    show _+_≤sizeLine
    lia
   have ecut:cutV (zs.map V.str) (some (0:Int)) none++cutV (zs.map V.str) none (some (0:Int))=(zs.drop (0:Nat)++zs.take (0:Nat)).map V.str:=by
    show cutV (zs.map V.str) (some (((0:Nat)):Int)) none++cutV (zs.map V.str) none (some (((0:Nat)):Int))=_
    rw [zel (by rw [hlm];exact h0),cut_to (by rw [hlm];exact h0),Qo,Jn,Ui]
   rw [ecut]
   refine ⟨p3,_,rfl,.inl ⟨SqL.of zac,fun t ht=>?_⟩⟩
   have kk:Keep [] H _:=(((Keep.new h1).trans (Keep.new h2)).trans (Keep.new h3)).trans (Keep.new (o:=.tup ((zs.drop (0:Nat)++zs.take (0:Nat)).map V.str)) ht)
   exact k t (0:Nat) _ h0 zac (zbt (xs:=[]) (((Keep.new h1).trans (Keep.new h2)).trans (Keep.new h3)) ht (by simp)) kk
  ·refine zb8 (by cases hh:zs with
    | nil=>exact absurd hh hze
    | cons _ _=>rfl) ?_
   refine ⟨_,rfl,.inl ⟨rfl,_,SqL.of ha⟩,_,rfl,a,zs,rfl,SqL.of ha,hze,fun z hzm _=>?_⟩
   obtain ⟨i1,i2⟩:=zhv hzm
   have hj:zs.idxOf z≤zs.length:=Wt (idx_lt hzm)
   refine ⟨a,_,_,_,rfl,rfl,ha,rfl,zcl _,i1,i2,?_⟩
   refine ⟨_,rfl,_,rfl,_,rfl,a,_,rfl,SqL.of ha,fun p1 h1=>?_⟩
   have n1:a≠p1:=zaa ha h1
   refine ⟨_,rfl,_,rfl,_,rfl,a,_,rfl,SqL.of (by rw [zad n1];exact ha),fun p2 h2=>?_⟩
   have n12:p1≠p2:=zaa (o:=_) zac h2
   refine ⟨p1,p2,_,_,rfl,rfl,(by rw [zad n12];exact zac),zac,?_,fun p3 h3=>?_⟩
   ·have q1:=za1 (zs.map V.str) (some ((zs.idxOf z):Int)) none
    have q2:=za1 (zs.map V.str) none (some ((zs.idxOf z):Int))
    rw [hlm] at q1 q2
    show _+_≤sizeLine
    lia
   have ecut:cutV (zs.map V.str) (some ((zs.idxOf z):Int)) none++cutV (zs.map V.str) none (some ((zs.idxOf z):Int))=(zs.drop (zs.idxOf z)++zs.take (zs.idxOf z)).map V.str:=by
    rw [zel (by rw [hlm];exact hj),cut_to (by rw [hlm];exact hj),Qo,Jn,Ui]
   rw [ecut]
   refine ⟨p3,_,rfl,.inl ⟨SqL.of zac,fun t ht=>?_⟩⟩
   have kk:Keep [] H _:=(((Keep.new h1).trans (Keep.new h2)).trans (Keep.new h3)).trans (Keep.new (o:=.tup ((zs.drop (zs.idxOf z)++zs.take (zs.idxOf z)).map V.str)) ht)
   exact k t (zs.idxOf z) _ hj zac (zbt (xs:=[]) (((Keep.new h1).trans (Keep.new h2)).trans (Keep.new h3)) ht (by simp)) kk
end
end K21
end
section
namespace Wb
section lk
variable {β:Type}
def Lk (f:β→β):β→List β→β→Prop
 | s,[],e=>f s=e
 | s,x::t,e=>f s=x∧Lk f x t e
theorem lk_app {f:β→β} {x e:β} {B:List β}:∀ {A:List β} {s:β},Lk f s (A++x::B) e↔Lk f s A x∧Lk f x B e:=by
 intro A
 induction A with
 | nil=>intro s;exact Iff.rfl
 | cons a t ih =>
  intro s
  show f s=a∧Lk f a (t++x::B) e↔(f s=a∧Lk f a t x)∧Lk f x B e
  rw [ih,and_assoc]
theorem lk_congr {f g:β→β} {e:β}:∀ {t:List β} {s:β},(∀ y,y=s∨y∈t→g y=f y)→Lk f s t e→Lk g s t e:=by
 intro t
 induction t with
 | nil=>intro s h k;exact (h s (.inl rfl)).trans k
 | cons a t ih =>
  intro s h k
  refine ⟨(h s (.inl rfl)).trans k.1,ih (fun y hy=>h y (.inr ?_)) k.2⟩
  rcases hy with z | z
  ·rw [z];exact Qb
  ·exact Qf _ z
def Cyc (f:β→β) (c:List β):Prop:=∃ s t,c=s::t∧Lk f s t s
theorem zdh {f:β→β} {A B:List β} {x:β} (h:Cyc f (A++x::B)):Lk f x (B++A) x:=by
 obtain ⟨s,t,e,k⟩:=h
 cases A with
 | nil =>
  cases e
  rw [Zr];exact k
 | cons a A' =>
  cases e
  obtain ⟨k1,k2⟩:=lk_app.mp k
  exact lk_app.mpr ⟨k2,k1⟩
theorem zek {f g:β→β} {c:List β} (h:∀ y∈c,g y=f y) (k:Cyc f c):Cyc g c:=by
 obtain ⟨s,t,e,k⟩:=k
 subst e
 exact ⟨s,t,rfl,lk_congr (fun y hy=>h y (Qe.mpr hy)) k⟩
end lk
section nx
variable {α:Type} [DecidableEq α]
theorem za2 {A B:List α} {w:α} (h:w∉A):(B++A++[w]).head?=some (nxt (A++w::B) w):=by
 have hi:(A++w::B).idxOf w=A.length:=by
  rw [List.idxOf_append,if_neg h,List.idxOf_cons_self];lia
 unfold nxt
 rw [hi,Qw,Qq]
 cases B with
 | nil =>
  have e:(A.length+1) % (A.length+(([]:List α).length+1))=0:=by simp
  rw [e]
  cases A with
  | nil=>rfl
  | cons a t=>rfl
 | cons b t =>
  have e:(A.length+1) % (A.length+((b::t).length+1))=A.length+1:=Nat.mod_eq_of_lt (by rw [Qq];lia)
  rw [e]
  have:(A++w::b::t).getD (A.length+1) w=b:=by
   rw [Yh,Ur (by exact Wr _ _)]
   have:A.length+1 - A.length=1:=by lia
   rw [this];rfl
  rw [this];rfl
theorem zbq {zs:List α} {c:α} (h:c∈zs) (nd:zs.Nodup):∃ A B,zs=A++c::B∧c∉A∧c∉B:=by
 obtain ⟨A,B,e⟩:=Ys h
 refine ⟨A,B,e,?_,?_⟩
 ·rw [e,Za] at nd
  exact fun z=>nd.2.2 _ z _ Qb rfl
 ·rw [e,Za,Qt] at nd
  exact nd.2.1.1
theorem zcw {A B:List α} {c n:α} (h:c∉A):ins (A++c::B) (some c) n=A++c::n::B:=by
 have hi:(A++c::B).idxOf c=A.length:=by
  rw [List.idxOf_append,if_neg h,List.idxOf_cons_self];lia
 show (A++c::B).take ((A++c::B).idxOf c+1)++n::(A++c::B).drop ((A++c::B).idxOf c+1)=_
 rw [hi]
 have e1:(A++c::B).take (A.length+1)=A++[c]:=by
  rw [List.take_append,Qp (by exact Wr _ _)]
  have:A.length+1 - A.length=1:=by lia
  rw [this];rfl
 have e2:(A++c::B).drop (A.length+1)=B:=by
  rw [List.drop_append,List.drop_of_length_le (by exact Wr _ _)]
  have:A.length+1 - A.length=1:=by lia
  rw [this];rfl
 rw [e1,e2,Qy];rfl
variable {zs:List α} {c n:α}
theorem mem_ins (hc:c∈zs) (nd:zs.Nodup) {w:α}:w∈ins zs (some c) n↔w=n∨w∈zs:=by
 obtain ⟨A,B,rfl,h1,h2⟩:=zbq hc nd
 rw [zcw h1]
 simp only [Ql,Qe]
 constructor
 ·rintro (h | h | h | h)
  ·exact .inr (.inl h)
  ·exact .inr (.inr (.inl h))
  ·exact .inl h
  ·exact .inr (.inr (.inr h))
 ·rintro (h | h | h | h)
  ·exact .inr (.inr (.inl h))
  ·exact .inl h
  ·exact .inr (.inl h)
  ·exact .inr (.inr (.inr h))
theorem zhs (hc:c∈zs) (nd:zs.Nodup):(ins zs (some c) n).length=zs.length+1:=by
 obtain ⟨A,B,rfl,h1,h2⟩:=zbq hc nd
 rw [zcw h1]
 simp only [Qw,Qq];lia
theorem nd_ins (hc:c∈zs) (nd:zs.Nodup) (hn:n∉zs):(ins zs (some c) n).Nodup:=by
 obtain ⟨A,B,rfl,h1,h2⟩:=zbq hc nd
 rw [zcw h1]
 rw [Za,Qt] at nd
 rw [Ql,Qe,not_or,not_or] at hn
 obtain ⟨nA,⟨ncB,nB⟩,nAB⟩:=nd
 rw [Za,Qt,Qt]
 refine ⟨nA,⟨?_,hn.2.2,nB⟩,fun a ha b hb=>?_⟩
 ·rw [Qe,not_or];exact ⟨fun e=>hn.2.1 e.symm,ncB⟩
 ·rcases Qe.mp hb with z | z
  ·rw [z];exact nAB a ha c Qb
  ·rcases Qe.mp z with y | y
   ·rw [y];exact fun e=>hn.1 (e ▸ ha)
   ·exact nAB a ha b (Qf _ y)
theorem zf4 (hc:c∈zs) (nd:zs.Nodup):nxt (ins zs (some c) n) c=n:=by
 obtain ⟨A,B,rfl,h1,h2⟩:=zbq hc nd
 rw [zcw h1]
 have k:=za2 (B:=n::B) h1
 exact (Qm k).symm
theorem zf3 (hc:c∈zs) (nd:zs.Nodup) (hn:n∉zs):nxt (ins zs (some c) n) n=nxt zs c:=by
 obtain ⟨A,B,rfl,h1,h2⟩:=zbq hc nd
 rw [zcw h1]
 rw [Ql,Qe,not_or,not_or] at hn
 have e:A++c::n::B=(A++[c])++n::B:=by rw [Qy];rfl
 have hnA:n∉A++[c]:=by
  rw [Ql,not_or,Qd];exact ⟨hn.1,hn.2.1⟩
 have k1:=za2 (B:=B) hnA
 have k2:=za2 (B:=B) h1
 rw [← e] at k1
 refine Qm (k1.symm.trans (Eq.trans ?_ k2))
 cases B with
 | cons b t=>rfl
 | nil=>cases A with
  | nil=>rfl
  | cons a t=>rfl
theorem zf2 (hc:c∈zs) (nd:zs.Nodup) (hn:n∉zs) {w:α} (hw:w∈zs) (hwc:w≠c):nxt (ins zs (some c) n) w=nxt zs w:=by
 obtain ⟨A,B,rfl,h1,h2⟩:=zbq hc nd
 rw [zcw h1]
 rw [Za,Qt] at nd
 obtain ⟨nA,⟨ncB,nB⟩,nAB⟩:=nd
 rw [Ql,Qe,not_or,not_or] at hn
 rcases Ql.mp hw with h | h
 ·obtain ⟨A1,A2,rfl,g1,g2⟩:=zbq h nA
  have k1:=za2 (A:=A1) (B:=A2++c::n::B) g1
  have k2:=za2 (A:=A1) (B:=A2++c::B) g1
  rw [Qy,Us,Qy,Us]
  refine Qm (k1.symm.trans (Eq.trans ?_ k2))
  cases A2 <;> rfl
 ·rcases Qe.mp h with z | z
  ·exact absurd z hwc
  ·obtain ⟨B1,B2,rfl,g1,g2⟩:=zbq z nB
   have hwA:w∉A:=fun q=>nAB _ q _ (Qf _ z) rfl
   have hwn:w≠n:=fun q=>hn.2.2 (q ▸ z)
   have m1:w∉A++c::n::B1:=by
    simp only [Ql,Qe,not_or];exact ⟨hwA,hwc,hwn,g1⟩
   have m2:w∉A++c::B1:=by
    simp only [Ql,Qe,not_or];exact ⟨hwA,hwc,g1⟩
   have k1:=za2 (B:=B2) m1
   have k2:=za2 (B:=B2) m2
   have e1:A++c::n::(B1++w::B2)=(A++c::n::B1)++w::B2:=by rw [Qy];rfl
   have e2:A++c::(B1++w::B2)=(A++c::B1)++w::B2:=by rw [Qy];rfl
   rw [e1,e2]
   refine Qm (k1.symm.trans (Eq.trans ?_ k2))
   cases B2 with
   | cons b t=>rfl
   | nil=>cases A <;> rfl
theorem nxt_rot (nd:zs.Nodup) (k:Nat) {w:α} (hw:w∈zs):nxt (zs.drop k++zs.take k) w=nxt zs w:=by
 obtain ⟨A,B,rfl,h1,h2⟩:=zbq hw nd
 have k2:=za2 (B:=B) h1
 by_cases hk:k≤A.length
 ·have e:(A++w::B).drop k++(A++w::B).take k=A.drop k++w::(B++A.take k):=by
   rw [List.drop_append,List.take_append]
   have:k - A.length=0:=by lia
   rw [this,List.drop_zero,List.take_zero,Zr,Qy];rfl
  have k1:=za2 (A:=A.drop k) (B:=B++A.take k) (fun z=>h1 (Ub z))
  rw [e]
  refine Qm (k1.symm.trans (Eq.trans ?_ k2))
  rw [Qy B,Yq]
 ·have e:(A++w::B).drop k++(A++w::B).take k=(B.drop (k - A.length - 1)++A)++w::B.take (k - A.length - 1):=by
   rw [List.drop_append,List.take_append,List.drop_of_length_le (by lia),Qp (by lia)]
   have:k - A.length=(k - A.length - 1)+1:=by lia
   conv=>lhs;rw [this]
   rw [List.drop_succ_cons,List.take_succ_cons,Jt,Qy]
  have k1:=za2 (A:=B.drop (k - A.length - 1)++A) (B:=B.take (k - A.length - 1)) (fun z=>by
   rcases Ql.mp z with y | y
   ·exact h2 (Ub y)
   ·exact h1 y)
  rw [e]
  refine Qm (k1.symm.trans (Eq.trans ?_ k2))
  rw [← Qy,Yq]
end nx
section
variable {α:Type} [DecidableEq α]
def st (r:α→List α) (s:α×α):α×α:=(s.2,nxt (r s.2) s.1)
inductive Conn (r:α→List α) (x:α):α→Prop
 | refl:Conn r x x
 | step {y z:α}:Conn r x y→z∈r y→Conn r x z
theorem Conn.trans {r:α→List α} {x y z:α} (a:Conn r x y) (b:Conn r y z):Conn r x z:=by
 induction b with
 | refl=>exact a
 | step _ h ih=>exact .step ih h
theorem Conn.mono {r r':α→List α} (h:∀ x y,y∈r x→y∈r' x) {x y:α} (a:Conn r x y):Conn r' x y:=by
 induction a with
 | refl=>exact .refl
 | step _ hz ih=>exact .step ih (h _ _ hz)
def wt (ns:List α) (r:α→List α) (lab:α→α) (t:α):Int:=(ns.map fun x=>if lab x=t then 2+(if r x=[] then 2 else 0) - ((r x).length:Int) else 0).sum
def ct (cs:List (List (α×α))) (lab:α→α) (t:α):Int:=(cs.map fun c=>if (c.any fun s=>decide (lab s.1=t))=true then (2:Int) else 0).sum
structure Cert (ns:List α) (r:α→List α) (cs:List (List (α×α))) (lab:α→α):Prop where
 nd:ns.Nodup
 ro:∀ x,x∉ns→r x=[]
 rn:∀ x,(r x).Nodup
 ir:∀ x,x∉r x
 sy:∀ x y,y∈r x→x∈r y
 cf:cs.flatten.Nodup
 cm:∀ s,s∈cs.flatten↔s.1∈r s.2
 cy:∀ c∈cs,Cyc (st r) c
 ln:∀ x∈ns,lab x∈ns
 la:∀ x y,y∈r x→lab y=lab x
 co:∀ x∈ns,∀ y∈ns,lab x=lab y→Conn r x y
 eu:∀ x∈ns,wt ns r lab (lab x)+ct cs lab (lab x)=4
variable {ns:List α} {r r':α→List α} {cs:List (List (α×α))} {lab:α→α}
theorem Cert.inn (C:Cert ns r cs lab) {x y:α} (h:y∈r x):x∈ns:=Decidable.byContradiction fun z=>by rw [C.ro x z] at h;cases h
theorem Cert.inn' (C:Cert ns r cs lab) {x y:α} (h:y∈r x):y∈ns:=C.inn (C.sy x y h)
theorem zeq {g g':α→Int} {a:α}:∀ {l:List α},l.Nodup→a∈l→(∀ x∈l,x≠a→g' x=g x)→(l.map g').sum=(l.map g).sum+(g' a - g a):=by
 intro l
 induction l with
 | nil=>intro _ h;cases h
 | cons b t ih =>
  intro nd h e
  rw [Qt] at nd
  rw [Qk,Qk,Ze,Ze]
  by_cases hb:b=a
  ·have:(t.map g').sum=(t.map g).sum:=by
    congr 1
    exact Yy fun x hx=>e x (Qf _ hx) fun z=>nd.1 (by rw [hb,← z];exact hx)
   rw [this,hb];lia
  ·have h':a∈t:=by
    rcases Qe.mp h with z | z
    ·exact absurd z.symm hb
    ·exact z
   rw [ih nd.2 h' fun x hx=>e x (Qf _ hx),e b Qb hb];lia
theorem zcb {β:Type} {g g':β→Int} {l:List β} (h:∀ x∈l,g' x=g x):(l.map g').sum=(l.map g).sum:=by
 congr 1;exact Yy h
theorem zh4 (C:Cert ns r cs lab) {N R:List (List (α×α))} {c0 news:List (α×α)} (hR:∀ c∈R,c∈cs) (hflat:cs.flatten.Perm (c0++R.flatten)) (hN:N.flatten.Perm (news++c0))
  (hnd:news.Nodup) (hno:∀ s∈news,s.1∉r s.2) (hmem:∀ s:α×α,s.1∈r' s.2↔s∈news∨s.1∈r s.2) (hcy:∀ c∈N,Cyc (st r') c) (hst:∀ s:α×α,s.1∈r s.2→s∉c0→st r' s=st r s) :
  (N++R).flatten.Nodup∧(∀ s,s∈(N++R).flatten↔s.1∈r' s.2)∧∀ c∈N++R,Cyc (st r') c:=by
 have hp:(N++R).flatten.Perm (news++cs.flatten):=by
  rw [Wl]
  refine (List.Perm.append_right _ hN).trans ?_
  rw [Qy]
  exact Yc _ hflat.symm
 refine ⟨?_,fun s=>?_,fun c hc=>?_⟩
 ·rw [hp.nodup_iff,Za]
  exact ⟨hnd,C.cf,fun a ha b hb e=>hno a ha (by rw [e];exact (C.cm b).mp hb)⟩
 ·rw [hp.mem_iff,Ql,hmem,C.cm]
 ·rcases Ql.mp hc with z | z
  ·exact hcy c z
  ·refine zek (fun y hy=>?_) (C.cy c (hR c z))
   have hyR:y∈R.flatten:=Zt.mpr ⟨c,z,hy⟩
   refine hst y ((C.cm y).mp (hflat.mem_iff.mpr (Qs _ hyR))) fun hy0=>?_
   have:=hflat.nodup_iff.mp C.cf
   rw [Za] at this
   exact this.2.2 y hy0 y hyR rfl
theorem zdo {β:Type} {g:β→Int}:∀ {l:List β},(∀ x∈l,g x=0)→(l.map g).sum=0:=by
 intro l
 induction l with
 | nil=>intro _;rfl
 | cons a t ih =>
  intro h
  rw [Qk,Ze,h a Qb,ih fun x hx=>h x (Qf _ hx)];rfl
theorem Cert.inc (C:Cert ns r cs lab) {c:List (α×α)} (hc:c∈cs) {s:α×α} (hs:s∈c):s.1∈r s.2:=(C.cm s).mp (Zt.mpr ⟨c,hc,hs⟩)
theorem ct_lab {lab':α→α} {t:α} (h:∀ c∈cs,∀ s∈c,lab' s.1=lab s.1):ct cs lab' t=ct cs lab t:=by
 refine zcb fun c hc=>?_
 have:(c.any fun s=>decide (lab' s.1=t))=c.any fun s=>decide (lab s.1=t):=by
  rw [Zv,Yj,Yj]
  constructor
  ·rintro ⟨s,hs,e⟩;exact ⟨s,hs,by rwa [h c hc s hs] at e⟩
  ·rintro ⟨s,hs,e⟩;exact ⟨s,hs,by rw [h c hc s hs];exact e⟩
 rw [this]
theorem cert_new (C:Cert ns r cs lab) {x:α} (hx:x∉ns) {lab':α→α} (hl:∀ y∈ns,lab' y=lab y) (hlx:lab' x=x):Cert (ns++[x]) r cs lab':=by
 have hrx:r x=[]:=C.ro x hx
 have ne:∀ {y},y∈ns→y≠x:=fun {y} hy e=>hx (e ▸ hy)
 have hin:∀ c∈cs,∀ s∈c,s.1∈ns:=fun c hc s hs=>C.inn' (C.inc hc hs)
 have hct:∀ t,ct cs lab' t=ct cs lab t:=fun t=>ct_lab fun c hc s hs=>hl _ (hin c hc s hs)
 have lx:∀ y∈ns,lab y≠x:=fun y hy e=>hx (e ▸ C.ln y hy)
 have hct0:ct cs lab x=0:=zdo fun c hc=>if_neg fun z=>by
  obtain ⟨s,hs,e⟩:=Yj.mp z
  exact lx _ (hin c hc s hs) (of_decide_eq_true e)
 have hw:∀ t,wt (ns++[x]) r lab' t=wt ns r lab t+if x=t then 4 else 0:=fun t=>by
  unfold wt
  rw [Qo,List.sum_append,Qk,Jj,Ze,List.sum_nil]
  congr 1
  ·exact zcb fun z hz=>by rw [hl z hz]
  ·rw [hlx,hrx];simp
 refine ⟨?_,fun y hy=>C.ro y fun z=>hy (Qu _ z),C.rn,C.ir,C.sy,C.cf,C.cm,C.cy,fun y hy=>?_,fun y z hz=>?_,fun y hy z hz e=>?_,fun y hy=>?_⟩
 ·rw [Za]
  exact ⟨C.nd,Qt.mpr ⟨by simp,Zo⟩,fun a ha b hb=>by rw [Qd.mp hb];exact ne ha⟩
 ·rcases Ql.mp hy with h | h
  ·rw [hl y h];exact Qu _ (C.ln y h)
  ·rw [Qd.mp h,hlx];exact Qs _ Qb
 ·rw [hl _ (C.inn' hz),hl _ (C.inn hz)];exact C.la y z hz
 ·rcases Ql.mp hy with h | h <;> rcases Ql.mp hz with g | g
  ·rw [hl _ h,hl _ g] at e;exact C.co y h z g e
  ·rw [hl _ h,Qd.mp g,hlx] at e
   exact absurd e (lx y h)
  ·rw [hl _ g,Qd.mp h,hlx] at e
   exact absurd e.symm (lx z g)
  ·rw [Qd.mp h,Qd.mp g];exact .refl
 ·rw [hct,hw]
  rcases Ql.mp hy with h | h
  ·rw [hl _ h,if_neg (fun z=>lx y h z.symm)]
   have:=C.eu y h;lia
  ·rw [Qd.mp h,hlx,if_pos rfl,hct0]
   have:wt ns r lab x=0:=zdo fun z hz=>if_neg (lx z hz)
   rw [this];rfl
end
section
variable {β:Type}
theorem zhr {f g:β→β} {e s s':β}:∀ {t:List β},g s'=f s→(∀ y∈t,g y=f y)→Lk f s t e→Lk g s' t e:=by
 intro t
 cases t with
 | nil=>intro h _ k;exact h.trans k
 | cons a t =>
  intro h hh k
  exact ⟨h.trans k.1,lk_congr (fun y hy=>hh y (Qe.mpr hy)) k.2⟩
theorem lk_lab {γ:Type} {f:β→β} {lb:β→γ} {e:β}:∀ {t:List β} {s:β},(∀ y,y=s∨y∈t→lb (f y)=lb y)→Lk f s t e→∀ y∈t,lb y=lb s:=by
 intro t
 induction t with
 | nil=>intro s _ _ y hy;cases hy
 | cons a t ih =>
  intro s h k y hy
  have ha:lb a=lb s:=by rw [← k.1];exact h s (.inl rfl)
  rcases Qe.mp hy with z | z
  ·rw [z];exact ha
  ·rw [← ha]
   exact ih (fun y hy=>h y (.inr (Qe.mpr hy))) k.2 y z
theorem zfi {l m:List Int} (h:l.Perm m):l.sum=m.sum:=by
 induction h with
 | nil=>rfl
 | cons x _ ih=>rw [Ze,Ze,ih]
 | swap x y l=>rw [Ze,Ze,Ze,Ze];omega
 | trans _ _ a b=>exact a.trans b
end
section
variable {α:Type} [DecidableEq α] {ns:List α} {r r':α→List α} {cs:List (List (α×α))} {lab lab':α→α}
theorem ct_perm {cs':List (List (α×α))} (h:cs.Perm cs') (t:α):ct cs lab t=ct cs' lab t:=zfi (h.map _)
theorem zdi (c:List (α×α)) (t:α):ct (c::cs) lab t=(if (c.any fun s=>decide (lab s.1=t))=true then (2:Int) else 0)+ct cs lab t:=by
 unfold ct;rw [List.map_cons,List.sum_cons]
theorem Cert.one_lab (C:Cert ns r cs lab) {c:List (α×α)} (hc:c∈cs) {s u:α×α} (hs:s∈c) (hu:u∈c):lab u.1=lab s.1:=by
 obtain ⟨A,B,rfl⟩:=Ys hs
 have k:=zdh (C.cy _ hc)
 have hl:∀ y,y=s∨y∈B++A→lab (st r y).1=lab y.1:=fun y hy=>by
  have hy':y∈A++s::B:=by
   rcases hy with z | z
   ·rw [z];exact hs
   ·rcases Ql.mp z with q | q
    ·exact Qs _ (Qf _ q)
    ·exact Qu _ q
  exact (C.la _ _ (C.inc hc hy')).symm
 rcases Ql.mp hu with z | z
 ·exact lk_lab (lb:=fun y:α×α=>lab y.1) hl k u (Qs _ z)
 ·rcases Qe.mp z with q | q
  ·rw [q]
  ·exact lk_lab (lb:=fun y:α×α=>lab y.1) hl k u (Qu _ q)
theorem zdk {c:List (α×α)} {t u:α} (h:∀ s∈c,lab s.1=u) (hne:c≠[]):(c.any fun s=>decide (lab s.1=t))=decide (u=t):=by
 rw [Zv,Yj,decide_eq_true_iff]
 constructor
 ·rintro ⟨s,hs,e⟩;rw [← h s hs];exact of_decide_eq_true e
 ·intro e
  cases c with
  | nil=>exact absurd rfl hne
  | cons s _=>exact ⟨s,Qb,decide_eq_true ((h s Qb).trans e)⟩
theorem zb2 {c:List (α×α)} (hc:c∈cs):cs.flatten.Perm (c++(cs.erase c).flatten):=by
 have:=List.Perm.flatten (Up hc)
 rwa [Yr] at this
theorem zfa (C:Cert ns r cs lab) {p x:α} (hp:p∈ns) (hx:x∉ns) {cs':List (List (α×α))} (h1:r' x=[p]) (h3:∀ y,y≠x→y≠p→r' y=r y) (hm:∀ w,w∈r' p↔w=x∨w∈r p) (hn:(r' p).Nodup) (hlen:(r' p).length=(r p).length+1)
  (hl:∀ y∈ns,lab' y=lab y) (hlx:lab' x=lab p) (hc:cs'.flatten.Nodup∧(∀ s,s∈cs'.flatten↔s.1∈r' s.2)∧∀ c∈cs',Cyc (st r') c)
  (hct:∀ t,ct cs' lab' t=ct cs lab t+if lab p=t then (if r p=[] then 2 else 0) else 0):Cert (ns++[x]) r' cs' lab':=by
 have hpx:p≠x:=fun e=>hx (e ▸ hp)
 have hrx:r x=[]:=C.ro x hx
 have ne:∀ {y},y∈ns→y≠x:=fun {y} hy e=>hx (e ▸ hy)
 have sub:∀ z y,y∈r z→y∈r' z:=fun z y hy=>by
  by_cases hz:z=p
  ·rw [hz] at hy ⊢;exact (hm y).mpr (.inr hy)
  ·rw [h3 z (ne (C.inn hy)) hz];exact hy
 have hw:∀ t,wt (ns++[x]) r' lab' t=wt ns r lab t - if lab p=t then (if r p=[] then 2 else 0) else 0:=fun t=>by
  unfold wt
  rw [Qo,List.sum_append,Qk,Jj,Ze,List.sum_nil,hlx,h1]
  have e1:(ns.map fun y=>if lab' y=t then (2:Int)+(if r' y=[] then 2 else 0) - ((r' y).length:Int) else 0).sum=(ns.map fun y=>if lab y=t then (2:Int)+(if r' y=[] then 2 else 0) - ((r' y).length:Int) else 0).sum :=
   zcb fun y hy=>by rw [hl y hy]
  rw [e1,zeq (g:=fun y=>if lab y=t then (2:Int)+(if r y=[] then 2 else 0) - ((r y).length:Int) else 0) C.nd hp (fun y hy hyp=>by rw [h3 y (ne hy) hyp])]
  have hne:r' p≠[]:=fun e=>by rw [e] at hlen;simp at hlen
  by_cases ht:lab p=t
  ·simp only [ht,if_true,hne,if_false,hlen]
   by_cases hr0:r p=[]
   ·simp [hr0];omega
   ·simp [hr0];omega
  ·simp only [ht,if_false];omega
 refine ⟨?_,fun y hy=>?_,fun y=>?_,fun y=>?_,fun y z hz=>?_,hc.1,hc.2.1,hc.2.2,fun y hy=>?_,fun y z hz=>?_,fun y hy z hz e=>?_,fun y hy=>?_⟩
 ·rw [Za]
  exact ⟨C.nd,Qt.mpr ⟨by simp,Zo⟩,fun a ha b hb=>by rw [Qd.mp hb];exact ne ha⟩
 ·rw [Ql,not_or,Qd] at hy
  rw [h3 y hy.2 (fun e=>hy.1 (e ▸ hp))];exact C.ro y hy.1
 ·by_cases hyx:y=x
  ·rw [hyx,h1];exact Qt.mpr ⟨by simp,Zo⟩
  ·by_cases hyp:y=p
   ·rw [hyp];exact hn
   ·rw [h3 y hyx hyp];exact C.rn y
 ·by_cases hyx:y=x
  ·rw [hyx,h1,Qd];exact Zl hpx
  ·by_cases hyp:y=p
   ·rw [hyp,hm,not_or];exact ⟨hpx,C.ir p⟩
   ·rw [h3 y hyx hyp];exact C.ir y
 ·by_cases hyx:y=x
  ·rw [hyx,h1,Qd] at hz
   rw [hz,hyx];exact (hm x).mpr (.inl rfl)
  ·by_cases hyp:y=p
   ·rw [hyp] at hz ⊢
    rcases (hm z).mp hz with q | q
    ·rw [q,h1];exact Qb
    ·exact sub z p (C.sy p z q)
   ·rw [h3 y hyx hyp] at hz
    exact sub z y (C.sy y z hz)
 ·rcases Ql.mp hy with h | h
  ·rw [hl y h];exact Qu _ (C.ln y h)
  ·rw [Qd.mp h,hlx];exact Qu _ (C.ln p hp)
 ·by_cases hyx:y=x
  ·rw [hyx,h1,Qd] at hz
   rw [hz,hyx,hlx,hl p hp]
  ·by_cases hyp:y=p
   ·rw [hyp] at hz ⊢
    rcases (hm z).mp hz with q | q
    ·rw [q,hlx,hl p hp]
    ·rw [hl _ (C.inn' q),hl p hp];exact C.la p z q
   ·rw [h3 y hyx hyp] at hz
    rw [hl _ (C.inn' hz),hl _ (C.inn hz)];exact C.la y z hz
 ·have xp:Conn r' x p:=.step .refl (by rw [h1];exact Qb)
  rcases Ql.mp hy with h | h <;> rcases Ql.mp hz with g | g
  ·rw [hl _ h,hl _ g] at e;exact (C.co y h z g e).mono sub
  ·rw [hl _ h,Qd.mp g,hlx] at e
   rw [Qd.mp g]
   exact .step ((C.co y h p hp e).mono sub) ((hm x).mpr (.inl rfl))
  ·rw [hl _ g,Qd.mp h,hlx] at e
   rw [Qd.mp h]
   exact xp.trans ((C.co p hp z g e).mono sub)
  ·rw [Qd.mp h,Qd.mp g];exact .refl
 ·have key:∀ u∈ns,wt (ns++[x]) r' lab' (lab u)+ct cs' lab' (lab u)=4:=fun u hu=>by
   rw [hw,hct]
   have:=C.eu u hu;omega
  rcases Ql.mp hy with h | h
  ·rw [hl _ h];exact key y h
  ·rw [Qd.mp h,hlx];exact key p hp
end
section
variable {α:Type} [DecidableEq α] {ns:List α} {r r':α→List α} {cs:List (List (α×α))} {lab lab':α→α}
theorem zho (p:α):nxt [p] p=p:=by
 unfold nxt
 simp
theorem leaf_mem (C:Cert ns r cs lab) {p x:α} (hp:p∈ns) (hx:x∉ns) (h1:r' x=[p]) (h3:∀ y,y≠x→y≠p→r' y=r y) (hm:∀ w,w∈r' p↔w=x∨w∈r p) :
  ∀ s:α×α,s.1∈r' s.2↔s∈[(x,p),(p,x)]∨s.1∈r s.2:=fun s=>by
 obtain ⟨a,b⟩:=s
 have hpx:p≠x:=fun e=>hx (e ▸ hp)
 show a∈r' b↔(a,b)∈[(x,p),(p,x)]∨a∈r b
 rw [Qe,Qd,Prod.mk.injEq,Prod.mk.injEq]
 by_cases hbx:b=x
 ·subst hbx
  rw [h1,C.ro b hx,Qd]
  constructor
  ·intro e;exact .inl (.inr ⟨e,rfl⟩)
  ·rintro ((⟨_,e⟩ | ⟨e,_⟩) | e)
   ·exact absurd e.symm hpx
   ·exact e
   ·cases e
 ·by_cases hbp:b=p
  ·subst hbp
   rw [hm]
   constructor
   ·rintro (e | e)
    ·exact .inl (.inl ⟨e,rfl⟩)
    ·exact .inr e
   ·rintro ((⟨e,_⟩ | ⟨_,e⟩) | e)
    ·exact .inl e
    ·exact absurd e hbx
    ·exact .inr e
  ·rw [h3 b hbx hbp]
   constructor
   ·exact .inr
   ·rintro ((⟨_,e⟩ | ⟨_,e⟩) | e)
    ·exact absurd e hbp
    ·exact absurd e hbx
    ·exact e
theorem leaf_nd {p x:α} (hpx:p≠x):([(x,p),(p,x)]:List (α×α)).Nodup:=by
 rw [Qt,Qd]
 exact ⟨fun e=>hpx (Jo e).1.symm,Qt.mpr ⟨by simp,Zo⟩⟩
theorem leaf_no (C:Cert ns r cs lab) {p x:α} (hx:x∉ns):∀ s∈([(x,p),(p,x)]:List (α×α)),s.1∉r s.2:=fun s hs h=>by
 rcases Qe.mp hs with e | e
 ·rw [e] at h;exact hx (C.inn' h)
 ·rw [Qd.mp e] at h;exact hx (C.inn h)
theorem cert_leaf0 (C:Cert ns r cs lab) {p x:α} (hp:p∈ns) (hx:x∉ns) (hrp:r p=[]) (h1:r' x=[p]) (h2:r' p=[x]) (h3:∀ y,y≠x→y≠p→r' y=r y) (hl:∀ y∈ns,lab' y=lab y) (hlx:lab' x=lab p) :
  Cert (ns++[x]) r' ([(x,p),(p,x)]::cs) lab':=by
 have hpx:p≠x:=fun e=>hx (e ▸ hp)
 have hm:∀ w,w∈r' p↔w=x∨w∈r p:=fun w=>by rw [h2,hrp,Qd];simp
 refine zfa C hp hx h1 h3 hm (by rw [h2];exact Qt.mpr ⟨by simp,Zo⟩) (by rw [h2,hrp];rfl) hl hlx ?_ fun t=>?_
 ·refine zh4 (N:=[[(x,p),(p,x)]]) (R:=cs) (c0:=[]) (news:=[(x,p),(p,x)]) C (fun c h=>h) (by rw [Jt]) (by simp) (leaf_nd hpx) (leaf_no C hx) (leaf_mem C hp hx h1 h3 hm) (fun c hc=>?_) fun s hs _=>?_
  ·rw [Qd.mp hc]
   refine ⟨(x,p),[(p,x)],rfl,?_,?_⟩
   ·show (p,nxt (r' p) x)=(p,x)
    rw [h2,zho]
   ·show (x,nxt (r' x) p)=(x,p)
    rw [h1,zho]
  ·have hsx:s.2≠x:=fun e=>hx (e ▸ C.inn hs)
   have hsp:s.2≠p:=fun e=>by rw [e,hrp] at hs;cases hs
   unfold st;rw [h3 s.2 hsx hsp]
 ·rw [zdi,zdk (u:=lab p) (fun s hs=>?_) (by simp)]
  ·have:ct cs lab' t=ct cs lab t:=ct_lab fun c hc s hs=>hl _ (C.inn' (C.inc hc hs))
   rw [this]
   simp only [decide_eq_true_eq,hrp,if_true]
   lia
  ·rcases Qe.mp hs with e | e
   ·rw [e];exact hlx
   ·rw [Qd.mp e];exact hl p hp
theorem cert_leaf (C:Cert ns r cs lab) {p x c:α} (hp:p∈ns) (hx:x∉ns) (hc:c∈r p) (h1:r' x=[p]) (h2:r' p=ins (r p) (some c) x) (h3:∀ y,y≠x→y≠p→r' y=r y) (hl:∀ y∈ns,lab' y=lab y) (hlx:lab' x=lab p) :
  ∃ cs',Cert (ns++[x]) r' cs' lab':=by
 have hpx:p≠x:=fun e=>hx (e ▸ hp)
 have hxp:x∉r p:=fun h=>hx (C.inn' h)
 have hm:∀ w,w∈r' p↔w=x∨w∈r p:=fun w=>by rw [h2];exact mem_ins hc (C.rn p)
 obtain ⟨c1,hc1,hs1⟩:=Zt.mp ((C.cm (c,p)).mpr hc)
 obtain ⟨A,B,hAB⟩:=Ys hs1
 have k:=zdh (hAB ▸ C.cy c1 hc1)
 have old:∀ y∈c1,y.1∈r y.2:=fun y hy=>C.inc hc1 hy
 have nd1:c1.Nodup:=by
  have:=(zb2 hc1).nodup_iff.mp C.cf
  rw [Za] at this
  exact this.1
 have hst:∀ s:α×α,s.1∈r s.2→s≠(c,p)→st r' s=st r s:=fun s hs hne=>by
  have hsx:s.2≠x:=fun e=>hx (e ▸ C.inn hs)
  by_cases hsp:s.2=p
  ·unfold st
   rw [hsp,h2]
   rw [hsp] at hs
   rw [zf2 hc (C.rn p) hxp hs (fun e=>hne (Jp e hsp))]
  ·unfold st;rw [h3 s.2 hsx hsp]
 have inBA:∀ y∈B++A,y∈c1∧y≠(c,p):=fun y hy=>by
  rw [hAB] at nd1 ⊢
  rw [Za,Qt] at nd1
  rcases Ql.mp hy with z | z
  ·exact ⟨Qs _ (Qf _ z),fun e=>nd1.2.1.1 (e ▸ z)⟩
  ·exact ⟨Qu _ z,fun e=>nd1.2.2 y z (c,p) Qb e⟩
 refine ⟨[(c,p)::(p,x)::(x,p)::(B++A)]++cs.erase c1,zfa C hp hx h1 h3 hm (by rw [h2];exact nd_ins hc (C.rn p) hxp) (by rw [h2];exact zhs hc (C.rn p)) hl hlx ?_ fun t=>?_⟩
 ·refine zh4 (c0:=c1) (news:=[(x,p),(p,x)]) C (fun c h=>Wo h) (zb2 hc1) ?_ (leaf_nd hpx) (leaf_no C hx) (leaf_mem C hp hx h1 h3 hm) (fun c' hc'=>?_) fun s hs hn=>hst s hs fun e=>hn (e ▸ hs1)
  ·rw [hAB]
   refine Jw.mpr fun a=>?_
   simp only [Yr,List.flatten_nil,Zr,Ki,Kw,List.count_nil]
   lia
  ·rw [Qd.mp hc']
   refine ⟨(c,p),_,rfl,?_,?_,zhr (f:=st r) (s:=(c,p)) ?_ (fun y hy=>hst y (old y (inBA y hy).1) (inBA y hy).2) k⟩
   ·show (p,nxt (r' p) c)=(p,x)
    rw [h2,zf4 hc (C.rn p)]
   ·show (x,nxt (r' x) p)=(x,p)
    rw [h1,zho]
   ·show (p,nxt (r' p) x)=(p,nxt (r p) c)
    rw [h2,zf3 hc (C.rn p) hxp]
 ·have hne:r p≠[]:=Ug hc
  have e2:ct cs lab t=ct (c1::cs.erase c1) lab t:=ct_perm (Up hc1) t
  have e3:ct (cs.erase c1) lab' t=ct (cs.erase c1) lab t:=ct_lab fun c h s hs=>hl _ (C.inn' (C.inc (Wo h) hs))
  have lc:∀ s∈c1,lab s.1=lab p:=fun s hs=>(C.one_lab hc1 hs1 hs).trans (C.la p c hc)
  rw [e2,zdi,Wn,zdi,e3,zdk (u:=lab p) lc (Ug hs1),zdk (u:=lab p) (fun s hs=>?_) (by simp),if_neg hne]
  ·simp
  ·rcases Qe.mp hs with e | hs
   ·rw [e];exact (hl _ (C.inn' hc)).trans (C.la p c hc)
   ·rcases Qe.mp hs with e | hs
    ·rw [e];exact hl p hp
    ·rcases Qe.mp hs with e | hs
     ·rw [e];exact hlx
     ·rw [hl _ (C.inn' (old s (inBA s hs).1))];exact lc s (inBA s hs).1
theorem cert_tie (C:Cert ns r cs lab) {p c a o:α} {c1:List (α×α)} (hc1:c1∈cs) (hs1:(c,p)∈c1) (hs2:(a,o)∈c1) (hop:o≠p) (hno:o∉r p) (h1:r' p=ins (r p) (some c) o) (h2:r' o=ins (r o) (some a) p) (h3:∀ y,y≠p→y≠o→r' y=r y) :
  ∃ cs',Cert ns r' cs' lab:=by
 have hc:c∈r p:=C.inc hc1 hs1
 have ha:a∈r o:=C.inc hc1 hs2
 have hp:p∈ns:=C.inn hc
 have ho:o∈ns:=C.inn ha
 have hnp:p∉r o:=fun h=>hno (C.sy o p h)
 have hm1:∀ w,w∈r' p↔w=o∨w∈r p:=fun w=>by rw [h1];exact mem_ins hc (C.rn p)
 have hm2:∀ w,w∈r' o↔w=p∨w∈r o:=fun w=>by rw [h2];exact mem_ins ha (C.rn o)
 have hlab:lab o=lab p:=by
  rw [← C.la o a ha,← C.la p c hc];exact C.one_lab hc1 hs1 hs2
 obtain ⟨A,B,hAB⟩:=Ys hs1
 have k:=zdh (hAB ▸ C.cy c1 hc1)
 have old:∀ y∈c1,y.1∈r y.2:=fun y hy=>C.inc hc1 hy
 have nd1:c1.Nodup:=by
  have:=(zb2 hc1).nodup_iff.mp C.cf
  rw [Za] at this
  exact this.1
 have hs2':(a,o)∈B++A:=by
  rw [hAB] at hs2
  rcases Ql.mp hs2 with z | z
  ·exact Qs _ z
  ·rcases Qe.mp z with q | q
   ·exact absurd (Jo q).2 hop
   ·exact Qu _ q
 obtain ⟨A2,B2,hAB2⟩:=Ys hs2'
 rw [hAB2] at k
 obtain ⟨k1,k2⟩:=lk_app.mp k
 have pm:c1.Perm ((c,p)::(A2++(a,o)::B2)):=by
  rw [hAB,← hAB2]
  refine Jw.mpr fun a=>?_
  simp only [Ki,Kw]
  lia
 have nd2:=pm.nodup_iff.mp nd1
 rw [Qt,Za,Qt] at nd2
 obtain ⟨n1,n2,⟨n3,n4⟩,n5⟩:=nd2
 have inA:∀ y∈A2,y∈c1∧y≠(c,p)∧y≠(a,o):=fun y hy=>⟨pm.mem_iff.mpr (Qf _ (Qu _ hy)),fun e=>n1 (e ▸ Qu _ hy),fun e=>n5 y hy (a,o) Qb e⟩
 have inB:∀ y∈B2,y∈c1∧y≠(c,p)∧y≠(a,o):=fun y hy=>⟨pm.mem_iff.mpr (Qf _ (Qs _ (Qf _ hy))),fun e=>n1 (e ▸ Qs _ (Qf _ hy)),fun e=>n3 (e ▸ hy)⟩
 have hst:∀ s:α×α,s.1∈r s.2→s≠(c,p)→s≠(a,o)→st r' s=st r s:=fun s hs hn1 hn2=>by
  by_cases hsp:s.2=p
  ·unfold st
   rw [hsp,h1]
   rw [hsp] at hs
   rw [zf2 hc (C.rn p) hno hs (fun e=>hn1 (Jp e hsp))]
  ·by_cases hso:s.2=o
   ·unfold st
    rw [hso,h2]
    rw [hso] at hs
    rw [zf2 ha (C.rn o) hnp hs (fun e=>hn2 (Jp e hso))]
   ·unfold st;rw [h3 s.2 hsp hso]
 have sub:∀ z y,y∈r z→y∈r' z:=fun z y hy=>by
  by_cases hz:z=p
  ·rw [hz] at hy ⊢;exact (hm1 y).mpr (.inr hy)
  ·by_cases hz2:z=o
   ·rw [hz2] at hy ⊢;exact (hm2 y).mpr (.inr hy)
   ·rw [h3 z hz hz2];exact hy
 have hmem:∀ s:α×α,s.1∈r' s.2↔s∈[(o,p),(p,o)]∨s.1∈r s.2:=fun s=>by
  obtain ⟨u,b⟩:=s
  show u∈r' b↔(u,b)∈[(o,p),(p,o)]∨u∈r b
  rw [Qe,Qd,Prod.mk.injEq,Prod.mk.injEq]
  by_cases hbp:b=p
  ·subst hbp
   rw [hm1]
   constructor
   ·rintro (e | e)
    ·exact .inl (.inl ⟨e,rfl⟩)
    ·exact .inr e
   ·rintro ((⟨e,_⟩ | ⟨_,e⟩) | e)
    ·exact .inl e
    ·exact absurd e.symm hop
    ·exact .inr e
  ·by_cases hbo:b=o
   ·subst hbo
    rw [hm2]
    constructor
    ·rintro (e | e)
     ·exact .inl (.inr ⟨e,rfl⟩)
     ·exact .inr e
    ·rintro ((⟨_,e⟩ | ⟨e,_⟩) | e)
     ·exact absurd e hbp
     ·exact .inl e
     ·exact .inr e
   ·rw [h3 b hbp hbo]
    constructor
    ·exact .inr
    ·rintro ((⟨_,e⟩ | ⟨_,e⟩) | e)
     ·exact absurd e hbp
     ·exact absurd e hbo
     ·exact e
 have nnd:([(o,p),(p,o)]:List (α×α)).Nodup:=by
  rw [Qt,Qd]
  exact ⟨fun e=>hop (Jo e).1,Qt.mpr ⟨by simp,Zo⟩⟩
 have hcc:=zh4 (N:=[(c,p)::(p,o)::B2,(a,o)::(o,p)::A2]) (R:=cs.erase c1) (c0:=c1) (news:=[(o,p),(p,o)]) (r':=r') C (fun c h=>Wo h) (zb2 hc1) (by
   refine List.Perm.trans ?_ (Yc _ pm.symm)
   refine Jw.mpr fun a=>?_
   simp only [Yr,List.flatten_nil,Zr,Ki,Kw,List.count_nil]
   lia) nnd (fun s hs h=>by
    rcases Qe.mp hs with e | e
    ·rw [e] at h;exact hno h
    ·rw [Qd.mp e] at h;exact hnp h) hmem (fun c' hc'=>by
   rcases Qe.mp hc' with e | e
   ·rw [e]
    refine ⟨(c,p),_,rfl,?_,zhr (f:=st r) (s:=(a,o)) ?_ (fun y hy=>hst y (old y (inB y hy).1) (inB y hy).2.1 (inB y hy).2.2) k2⟩
    ·show (p,nxt (r' p) c)=(p,o)
     rw [h1,zf4 hc (C.rn p)]
    ·show (o,nxt (r' o) p)=(o,nxt (r o) a)
     rw [h2,zf3 ha (C.rn o) hnp]
   ·rw [Qd.mp e]
    refine ⟨(a,o),_,rfl,?_,zhr (f:=st r) (s:=(c,p)) ?_ (fun y hy=>hst y (old y (inA y hy).1) (inA y hy).2.1 (inA y hy).2.2) k1⟩
    ·show (o,nxt (r' o) a)=(o,p)
     rw [h2,zf4 ha (C.rn o)]
    ·show (p,nxt (r' p) o)=(p,nxt (r p) c)
     rw [h1,zf3 hc (C.rn p) hno]) fun s hs hn=>hst s hs (fun e=>hn (e ▸ hs1)) fun e=>hn (e ▸ hs2)
 refine ⟨_,C.nd,fun y hy=>?_,fun y=>?_,fun y=>?_,fun y z hz=>?_,hcc.1,hcc.2.1,hcc.2.2,C.ln,fun y z hz=>?_,fun y hy z hz e=>(C.co y hy z hz e).mono sub,fun y hy=>?_⟩
 ·rw [h3 y (fun e=>hy (e ▸ hp)) (fun e=>hy (e ▸ ho))];exact C.ro y hy
 ·by_cases hyp:y=p
  ·rw [hyp,h1];exact nd_ins hc (C.rn p) hno
  ·by_cases hyo:y=o
   ·rw [hyo,h2];exact nd_ins ha (C.rn o) hnp
   ·rw [h3 y hyp hyo];exact C.rn y
 ·by_cases hyp:y=p
  ·rw [hyp,hm1,not_or];exact ⟨Zl hop,C.ir p⟩
  ·by_cases hyo:y=o
   ·rw [hyo,hm2,not_or];exact ⟨hop,C.ir o⟩
   ·rw [h3 y hyp hyo];exact C.ir y
 ·by_cases hyp:y=p
  ·rw [hyp] at hz ⊢
   rcases (hm1 z).mp hz with q | q
   ·rw [q];exact (hm2 p).mpr (.inl rfl)
   ·exact sub z p (C.sy p z q)
  ·by_cases hyo:y=o
   ·rw [hyo] at hz ⊢
    rcases (hm2 z).mp hz with q | q
    ·rw [q];exact (hm1 o).mpr (.inl rfl)
    ·exact sub z o (C.sy o z q)
   ·rw [h3 y hyp hyo] at hz
    exact sub z y (C.sy y z hz)
 ·by_cases hyp:y=p
  ·rw [hyp] at hz ⊢
   rcases (hm1 z).mp hz with q | q
   ·rw [q];exact hlab
   ·exact C.la p z q
  ·by_cases hyo:y=o
   ·rw [hyo] at hz ⊢
    rcases (hm2 z).mp hz with q | q
    ·rw [q];exact hlab.symm
    ·exact C.la o z q
   ·rw [h3 y hyp hyo] at hz
    exact C.la y z hz
 ·have e2:ct cs lab (lab y)=ct (c1::cs.erase c1) lab (lab y):=ct_perm (Up hc1) _
  have lc:∀ s∈c1,lab s.1=lab p:=fun s hs=>(C.one_lab hc1 hs1 hs).trans (C.la p c hc)
  have l1:∀ s∈(c,p)::(p,o)::B2,lab s.1=lab p:=fun s hs=>by
   rcases Qe.mp hs with e | hs
   ·rw [e];exact C.la p c hc
   ·rcases Qe.mp hs with e | hs
    ·rw [e]
    ·exact lc s (inB s hs).1
  have l2:∀ s∈(a,o)::(o,p)::A2,lab s.1=lab p:=fun s hs=>by
   rcases Qe.mp hs with e | hs
   ·rw [e];exact (C.la o a ha).trans hlab
   ·rcases Qe.mp hs with e | hs
    ·rw [e];exact hlab
    ·exact lc s (inA s hs).1
  have hct:ct ([(c,p)::(p,o)::B2,(a,o)::(o,p)::A2]++cs.erase c1) lab (lab y)=ct cs lab (lab y)+if lab p=lab y then 2 else 0:=by
   rw [e2,zdi,Us,zdi,Us,zdi,Jt,zdk lc (Ug hs1),zdk l1 (by simp),zdk l2 (by simp)]
   simp only [decide_eq_true_eq]
   split <;> lia
  have hw:wt ns r' lab (lab y)=wt ns r lab (lab y) - if lab p=lab y then 2 else 0:=by
   have hr1:∀ {zs:List α} {w n:α},w∈zs→zs.Nodup→ins zs (some w) n≠[]:=fun {zs w n} hw nd e=>by
    have:=zhs (n:=n) hw nd
    rw [e] at this;simp at this
   unfold wt
   have s1:=zeq (g:=fun x=>if lab x=lab y then (2:Int)+(if r x=[] then 2 else 0) - ((r x).length:Int) else 0)
    (g':=fun x=>if x=p then (if lab p=lab y then (2:Int)+(if r' p=[] then 2 else 0) - ((r' p).length:Int) else 0) else if lab x=lab y then (2:Int)+(if r x=[] then 2 else 0) - ((r x).length:Int) else 0) C.nd hp (fun x _ hx=>if_neg hx)
   have s2:=zeq (g:=fun x=>if x=p then (if lab p=lab y then (2:Int)+(if r' p=[] then 2 else 0) - ((r' p).length:Int) else 0) else if lab x=lab y then (2:Int)+(if r x=[] then 2 else 0) - ((r x).length:Int) else 0)
    (g':=fun x=>if lab x=lab y then (2:Int)+(if r' x=[] then 2 else 0) - ((r' x).length:Int) else 0) C.nd ho (fun x _ hx=>by
     by_cases hxp:x=p
     ·rw [if_pos hxp,hxp]
     ·rw [if_neg hxp,h3 x hxp hx])
   rw [s2,s1]
   simp only [if_true,hop,if_false,hlab,h1,h2,hr1 hc (C.rn p),hr1 ha (C.rn o),zhs hc (C.rn p),zhs ha (C.rn o),Ug hc,Ug ha]
   by_cases ht:lab p=lab y
   ·simp only [ht,if_true];lia
   ·simp only [ht,if_false];lia
  rw [hct,hw]
  have:=C.eu y hy
  lia
end
section
variable {α:Type} [DecidableEq α]
def Good (rs:Rs α):Prop:=∃ cs lab,Cert (rs.map (·.1)) (row rs) cs lab
theorem zhz {β:Type} {f:β→β} {c:List β} (h:Cyc f c) {s:β} (hs:s∈c):f s∈c:=by
 obtain ⟨A,B,rfl⟩:=Ys hs
 have k:=zdh h
 cases e:B++A with
 | nil =>
  rw [e] at k
  rw [show f s=s from k];exact hs
 | cons a t =>
  rw [e] at k
  rw [k.1]
  have:a∈B++A:=by rw [e];exact Qb
  rcases Ql.mp this with z | z
  ·exact Qs _ (Qf _ z)
  ·exact Qu _ z
variable {rs:Rs α}
theorem zfw (nd:(rs.map (·.1)).Nodup) {p:α×List α} (h:p∈rs):row rs p.1=p.2:=by
 unfold row
 induction rs with
 | nil=>cases h
 | cons a t ih =>
  rw [Qk,Qt] at nd
  rcases Qe.mp h with z | z
  ·subst z;rw [Wh (by simp)];rfl
  ·rw [Wi]
   ·exact ih nd.2 z
   ·intro q
    exact nd.1 (by rw [of_decide_eq_true q];exact Qi.mpr ⟨p,z,rfl⟩)
theorem zhj {x:α} (h:x∉rs.map (·.1)):row rs x=[]:=by
 unfold row
 rw [List.find?_eq_none.mpr]
 ·rfl
 ·intro p hp q
  exact h (of_decide_eq_true q ▸ Qi.mpr ⟨p,hp,rfl⟩)
theorem zhu (nd:(rs.map (·.1)).Nodup) {s:α×α}:IsSt rs s↔s.1∈row rs s.2:=by
 constructor
 ·rintro ⟨p,hp,e,h⟩
  rw [← e,zfw nd hp];exact h
 ·intro h
  by_cases hx:s.2∈rs.map (·.1)
  ·obtain ⟨p,hp,e⟩:=Qi.mp hx
   have e':p.1=s.2:=e
   rw [← e',zfw nd hp] at h
   exact ⟨p,hp,e',h⟩
  ·rw [zhj hx] at h;cases h
theorem zb4 (x:α) (rr:List α):(zba rs x rr).map (·.1)=rs.map (·.1):=by
 unfold zba
 rw [Zn]
 refine Yy fun p _=>?_
 show (if p.1=x then (p.1,rr) else p).1=p.1
 split <;> rfl
theorem zbz {x:α} {rr:List α} (h:x∈rs.map (·.1)):row (zba rs x rr) x=rr:=by
 unfold row zba
 induction rs with
 | nil=>cases h
 | cons a t ih =>
  rw [Qk]
  by_cases hx:a.1=x
  ·rw [if_pos hx,Wh (by simpa using hx)];rfl
  ·rw [if_neg hx,Wi (by simpa using hx)]
   refine ih ?_
   rw [Qk] at h
   rcases Qe.mp h with z | z
   ·exact absurd z.symm hx
   ·exact z
theorem zbi {x y:α} {rr:List α} (h:y≠x):row (zba rs x rr) y=row rs y:=by
 unfold row zba
 induction rs with
 | nil=>rfl
 | cons a t ih =>
  rw [Qk]
  by_cases hy:a.1=y
  ·have hx:a.1≠x:=fun e=>h (hy ▸ e)
   rw [if_neg hx,Wh (by simpa using hy),Wh (by simpa using hy)]
  ·have h1:(if a.1=x then (a.1,rr) else a).1=a.1:=by split <;> rfl
   rw [Wi (by rw [h1];simpa using hy),Wi (by simpa using hy)]
   exact ih
theorem row_snoc {x:α} (h:x∉rs.map (·.1)):row (rs++[(x,[])])=row rs:=by
 funext y
 unfold row
 rw [List.find?_append]
 cases e:rs.find? fun p=>decide (p.1=y) with
 | some p=>rfl
 | none =>
  rw [Option.none_or]
  by_cases hy:x=y
  ·rw [Wh (by simpa using hy)];rfl
  ·rw [Wi (by simpa using hy)];rfl
theorem gen_good:Gen (Good (α:=α)) where
 clo:=fun rs ⟨cs,lab,C⟩ s hs=>by
  obtain ⟨c,hc,h⟩:=Zt.mp ((C.cm s).mpr ((zhu C.nd).mp hs))
  exact (zhu C.nd).mpr ((C.cm _).mp (Zt.mpr ⟨c,hc,zhz (C.cy c hc) h⟩))
 nd:=fun rs ⟨cs,lab,C⟩=>C.nd
 sub:=fun rs ⟨cs,lab,C⟩ p hp=>by
  have e:=zfw C.nd hp
  exact ⟨e ▸ C.rn p.1,fun x hx=>C.inn' (x:=p.1) (by rw [e];exact hx)⟩
 sy:=fun rs ⟨cs,lab,C⟩ p hp x hx=>C.sy p.1 x (by rw [zfw C.nd hp];exact hx)
 nil:=by
  refine ⟨[],id,⟨Zo,fun _ _=>rfl,fun _=>Zo,fun _ h=>?_,fun _ _ h=>?_,Zo,fun s=>⟨fun h=>?_,fun h=>?_⟩,fun c h=>?_,fun _ h=>?_,fun _ _ h=>?_,fun _ h=>?_,fun _ h=>?_⟩⟩
  ·exact absurd h (by simp [row])
  ·exact absurd h (by simp [row])
  ·cases h
  ·exact absurd h (by simp [row])
  ·cases h
  ·cases h
  ·exact absurd h (by simp [row])
  ·cases h
  ·cases h
 new:=fun rs x ⟨cs,lab,C⟩ hx=>by
  refine ⟨cs,fun y=>if y=x then x else lab y,?_⟩
  rw [row_snoc hx,Qo]
  exact cert_new C hx (fun y hy=>if_neg (fun e:y=x=>hx (e ▸ hy))) (if_pos rfl)
 leaf:=fun rs x p c ⟨cs,lab,C⟩ hx hp hc hc0=>by
  have hpn:p.1∈rs.map (·.1):=Qi.mpr ⟨p,hp,rfl⟩
  have hpx:p.1≠x:=fun e=>hx (e ▸ hpn)
  have e0:(zba (zba (rs++[(x,[])]) p.1 (ins p.2 c x)) x [p.1]).map (·.1)=rs.map (·.1)++[x]:=by rw [zb4,zb4,Qo];rfl
  have hxin:x∈(zba (rs++[(x,[])]) p.1 (ins p.2 c x)).map (·.1):=by rw [zb4,Qo];exact Qs _ Qb
  have hpin:p.1∈(rs++[(x,([]:List α))]).map (·.1):=by rw [Qo];exact Qu _ hpn
  have r1:row (zba (zba (rs++[(x,[])]) p.1 (ins p.2 c x)) x [p.1]) x=[p.1]:=zbz hxin
  have r2:row (zba (zba (rs++[(x,[])]) p.1 (ins p.2 c x)) x [p.1]) p.1=ins p.2 c x:=by rw [zbi hpx,zbz hpin]
  have r3:∀ y,y≠x→y≠p.1→row (zba (zba (rs++[(x,[])]) p.1 (ins p.2 c x)) x [p.1]) y=row rs y:=fun y h1 h2=>by rw [zbi h1,zbi h2,row_snoc hx]
  have er:=zfw C.nd hp
  have hl:∀ y∈rs.map (·.1),(fun y=>if y=x then lab p.1 else lab y) y=lab y:=fun y hy=>if_neg (fun e:y=x=>hx (e ▸ hy))
  have hlx:(fun y=>if y=x then lab p.1 else lab y) x=lab p.1:=if_pos rfl
  unfold Good
  rw [e0]
  cases c with
  | none =>
   have h0:=hc0 rfl
   refine ⟨_,_,cert_leaf0 C hpn hx (er.trans h0) r1 ?_ r3 hl hlx⟩
   rw [r2,h0];rfl
  | some y =>
   have hy:=hc y rfl
   obtain ⟨cs',C'⟩:=cert_leaf C hpn hx (c:=y) (by rw [er];exact hy) r1 (by rw [r2,er]) r3 hl hlx
   exact ⟨cs',_,C'⟩
 tie:=fun rs c p n ⟨cs,lab,C⟩ hp hc h1 h2=>by
  have er:=zfw C.nd hp
  obtain ⟨c1,hc1,hs1⟩:=Zt.mp ((C.cm (c,p.1)).mpr (by rw [er];exact hc))
  have hs2:∀ n,itr rs (c,p.1) n∈c1:=fun n=>by
   induction n with
   | zero=>exact hs1
   | succ n ih=>exact zhz (C.cy c1 hc1) ih
  have hsn:=hs2 n
  generalize itr rs (c,p.1) n=q at h1 h2 hsn
  have hpn:p.1∈rs.map (·.1):=Qi.mpr ⟨p,hp,rfl⟩
  have hqn:q.2∈rs.map (·.1):=C.inn (C.inc hc1 hsn)
  unfold Good
  rw [zb4,zb4]
  obtain ⟨cs',C'⟩:=cert_tie (r':=row (zba (zba rs p.1 (ins p.2 (some c) q.2)) q.2 (ins (row rs q.2) (some q.1) p.1))) C hc1 hs1 (a:=q.1) (o:=q.2) hsn h1 (by rw [er];exact h2)
   (by rw [zbi (Zl h1),zbz hpn,er]) (by rw [zbz (by rw [zb4];exact hqn)]) (fun y h3 h4=>by rw [zbi h4,zbi h3])
  exact ⟨cs',lab,C'⟩
end
section
variable {α:Type} [DecidableEq α] {ns ns':List α} {r r':α→List α} {cs:List (List (α×α))} {lab:α→α}
theorem zfh (zs:List α) (k:Nat):(zs.drop k++zs.take k).Perm zs:=by
 refine Wf.trans ?_
 rw [Yq]
theorem cert_turn (C:Cert ns r cs lab) (hn:ns'.Perm ns) (hr:∀ x,∃ k,r' x=(r x).drop k++(r x).take k):Cert ns' r' cs lab:=by
 have hp:∀ x,(r' x).Perm (r x):=fun x=>by obtain ⟨k,e⟩:=hr x;rw [e];exact zfh _ k
 have hm:∀ {x y},y∈r' x↔y∈r x:=fun {x y}=>(hp x).mem_iff
 have hst:∀ s:α×α,s.1∈r s.2→st r' s=st r s:=fun s hs=>by
  obtain ⟨k,e⟩:=hr s.2
  unfold st;rw [e,nxt_rot (C.rn _) k hs]
 have hw:∀ t,wt ns' r' lab t=wt ns r lab t:=fun t=>by
  unfold wt
  rw [zfi (hn.map _)]
  refine zcb fun x _=>?_
  have h1:=(hp x).length_eq
  have h2:(r' x=[])=(r x=[]):=propext ⟨fun e=>by rw [e] at h1;exact List.eq_nil_of_length_eq_zero h1.symm,fun e=>by rw [e] at h1;exact List.eq_nil_of_length_eq_zero h1⟩
  simp only [h1,h2]
 refine ⟨hn.nodup_iff.mpr C.nd,fun x hx=>?_,fun x=>(hp x).nodup_iff.mpr (C.rn x),fun x h=>C.ir x (hm.mp h),fun x y h=>hm.mpr (C.sy x y (hm.mp h)),C.cf,fun s=>(C.cm s).trans hm.symm,fun c hc=>?_,fun x hx=>hn.mem_iff.mpr (C.ln x (hn.mem_iff.mp hx)),fun x y h=>C.la x y (hm.mp h),fun x hx y hy e=>?_,fun x hx=>?_⟩
 ·have:=hp x
  rw [C.ro x (fun z=>hx (hn.mem_iff.mpr z))] at this
  exact List.Perm.eq_nil this
 ·exact zek (fun y hy=>hst y (C.inc hc hy)) (C.cy c hc)
 ·exact (C.co x (hn.mem_iff.mp hx) y (hn.mem_iff.mp hy) e).mono fun _ _ h=>hm.mpr h
 ·rw [hw];exact C.eu x (hn.mem_iff.mp hx)
end
section
variable {α:Type} [DecidableEq α]
theorem zgf {A B:List α} {n:α} (h:n∉A):(A++n::B).erase n=A++B:=by
 rw [List.erase_append_right _ h,List.erase_cons_head]
theorem nxt_erase {zs:List α} (nd:zs.Nodup) {n w:α} (hn:n∈zs) (hw:w∈zs) (hwn:w≠n):nxt (zs.erase n) w=if nxt zs w=n then nxt zs n else nxt zs w:=by
 obtain ⟨A,B,rfl,hA,hB⟩:=zbq hw nd
 have k1:=za2 (B:=B) hA
 rw [Za,Qt] at nd
 obtain ⟨nA,⟨_,nB⟩,nAB⟩:=nd
 rcases Ql.mp hn with h | h
 ·obtain ⟨A1,A2,rfl,h1,h2⟩:=zbq h nA
  have e0:(A1++n::A2)++w::B=A1++n::(A2++w::B):=by rw [Qy];rfl
  have hw':w∉A1++A2:=fun z=>hA (by
   rcases Ql.mp z with q | q
   ·exact Qu _ q
   ·exact Qs _ (Qf _ q))
  have k2:=za2 (B:=B) hw'
  have e1:((A1++n::A2)++w::B).erase n=(A1++A2)++w::B:=by rw [e0,zgf h1,Qy]
  have k3:=za2 (B:=A2++w::B) h1
  rw [← e0] at k3
  rw [e1]
  cases B with
  | cons b t =>
   have q1:=Qm k1;have q2:=Qm k2
   rw [if_neg (fun z=>nAB n h n (Qf _ (by rw [q1.trans z];exact Qb)) rfl)]
   exact q2.symm.trans q1
  | nil =>
   cases A1 with
   | cons a t =>
    have q1:=Qm k1;have q2:=Qm k2
    rw [if_neg (fun z=>h1 (by rw [q1.trans z];exact Qb))]
    exact q2.symm.trans q1
   | nil =>
    have q1:=Qm k1
    rw [if_pos q1.symm]
    refine Qm (k2.symm.trans (Eq.trans ?_ k3))
    cases A2 <;> rfl
 ·have h':n∈B:=by
   rcases Qe.mp h with z | z
   ·exact absurd z.symm hwn
   ·exact z
  obtain ⟨B1,B2,rfl,h1,h2⟩:=zbq h' nB
  have hnA:n∉A:=fun z=>nAB n z n h rfl
  have hm:n∉A++w::B1:=by
   simp only [Ql,Qe,not_or];exact ⟨hnA,fun z=>hwn z.symm,h1⟩
  have e0:A++w::(B1++n::B2)=(A++w::B1)++n::B2:=by rw [Qy];rfl
  have e1:(A++w::(B1++n::B2)).erase n=A++w::(B1++B2):=by rw [e0,zgf hm,Qy];rfl
  have k2:=za2 (B:=B1++B2) hA
  have k3:=za2 (B:=B2) hm
  rw [← e0] at k3
  rw [e1]
  cases B1 with
  | cons b t =>
   have q1:=Qm k1;have q2:=Qm k2
   rw [if_neg (fun z=>h1 (by rw [q1.trans z];exact Qb))]
   exact q2.symm.trans q1
  | nil =>
   have q1:=Qm k1
   rw [if_pos q1.symm]
   refine Qm (k2.symm.trans (Eq.trans ?_ k3))
   cases B2 with
   | cons b t=>rfl
   | nil=>cases A <;> rfl
theorem nxt_self {zs:List α} (nd:zs.Nodup) {w:α} (hw:w∈zs) (h:nxt zs w=w):zs=[w]:=by
 obtain ⟨A,B,rfl,hA,hB⟩:=zbq hw nd
 have k:=za2 (B:=B) hA
 rw [h] at k
 cases B with
 | cons b t=>exact absurd (by rw [← Qm k];exact Qb) hB
 | nil =>
  cases A with
  | nil=>rfl
  | cons a t=>exact absurd (by rw [← Qm k];exact Qb) hA
structure Web (ns:List α) (r:α→List α) (cs:List (List (α×α))):Prop where
 nd:ns.Nodup
 ro:∀ x,x∉ns→r x=[]
 rn:∀ x,(r x).Nodup
 ir:∀ x,x∉r x
 sy:∀ x y,y∈r x→x∈r y
 cf:cs.flatten.Nodup
 cm:∀ s,s∈cs.flatten↔s.1∈r s.2
 cy:∀ c∈cs,Cyc (st r) c
def vl (r:α→List α) (x:α):Int:=2+(if r x=[] then 2 else 0) - ((r x).length:Int)
def tot (ns:List α) (r:α→List α) (cs:List (List (α×α))):Int:=(ns.map (vl r)).sum+2*(cs.length:Int)
structure Flat (ns:List α) (r:α→List α) (cs:List (List (α×α))):Prop extends Web ns r cs where
 fl:∀ T:List α,(∀ t∈T,t∈ns)→T.Pairwise (fun x y=>¬ Conn r x y)→4*(T.length:Int)≤tot ns r cs
theorem Conn.symm {r:α→List α} (sy:∀ x y,y∈r x→x∈r y) {x y:α} (h:Conn r x y):Conn r y x:=by
 induction h with
 | refl=>exact .refl
 | step a hz ih=>exact Conn.trans (.step .refl (sy _ _ hz)) ih
variable {ns:List α} {r r':α→List α} {cs:List (List (α×α))}
theorem Web.inn (C:Web ns r cs) {x y:α} (h:y∈r x):x∈ns:=Decidable.byContradiction fun z=>by rw [C.ro x z] at h;cases h
structure Less (r r':α→List α) (v u:α):Prop where
 tie:u∈r v
 one:r' v=(r v).erase u
 two:r' u=(r u).erase v
 els:∀ x,x≠v→x≠u→r' x=r x
section del
variable {v u:α} (C:Web ns r cs) (L:Less r r' v u)
include C L
theorem del_ne:v≠u:=fun e=>C.ir u (by have:=L.tie;rwa [e] at this)
theorem zb6 (s:α×α):s.1∈r' s.2↔s.1∈r s.2∧s≠(v,u)∧s≠(u,v):=by
 obtain ⟨a,b⟩:=s
 have hvu:=del_ne C L
 by_cases hb:b=v
 ·subst hb
  show a∈r' b↔a∈r b∧_
  rw [L.one,(C.rn b).mem_erase_iff]
  constructor
  ·rintro ⟨h1,h2⟩
   exact ⟨h2,fun e=>hvu (congrArg Prod.snd e),fun e=>h1 (congrArg Prod.fst e)⟩
  ·rintro ⟨h1,h2,h3⟩
   exact ⟨fun e=>h3 (by rw [e]),h1⟩
 ·by_cases hb2:b=u
  ·subst hb2
   show a∈r' b↔a∈r b∧_
   rw [L.two,(C.rn b).mem_erase_iff]
   constructor
   ·rintro ⟨h1,h2⟩
    exact ⟨h2,fun e=>h1 (congrArg Prod.fst e),fun e=>hb (congrArg Prod.snd e)⟩
   ·rintro ⟨h1,h2,h3⟩
    exact ⟨fun e=>h2 (by rw [e]),h1⟩
  ·show a∈r' b↔a∈r b∧_
   rw [L.els b hb hb2]
   exact ⟨fun h=>⟨h,fun e=>hb2 (congrArg Prod.snd e),fun e=>hb (congrArg Prod.snd e)⟩,fun h=>h.1⟩
theorem del_st {s:α×α} (hs:s.1∈r' s.2):st r' s=if st r s=(v,u) then st r (u,v) else if st r s=(u,v) then st r (v,u) else st r s:=by
 have hm:=(zb6 C L s).mp hs
 obtain ⟨a,b⟩:=s
 have hvu:=del_ne C L
 obtain ⟨ha,hn1,hn2⟩:=hm
 by_cases hb:b=v
 ·subst hb
  have hau:a≠u:=fun e=>hn2 (by rw [e])
  have k:=nxt_erase (C.rn b) L.tie ha hau
  show (b,nxt (r' b) a)=if (b,nxt (r b) a)=(b,u) then (b,nxt (r b) u) else if (b,nxt (r b) a)=(u,b) then _ else (b,nxt (r b) a)
  rw [L.one,k]
  by_cases h:nxt (r b) a=u
  ·rw [if_pos h,if_pos (by rw [h])]
  ·rw [if_neg h,if_neg (fun e=>h (congrArg Prod.snd e)),if_neg (fun e=>hvu (congrArg Prod.fst e))]
 ·by_cases hb2:b=u
  ·subst hb2
   have hau:a≠v:=fun e=>hn1 (by rw [e])
   have k:=nxt_erase (C.rn b) (C.sy _ _ L.tie) ha hau
   show (b,nxt (r' b) a)=if (b,nxt (r b) a)=(v,b) then _ else if (b,nxt (r b) a)=(b,v) then (b,nxt (r b) v) else (b,nxt (r b) a)
   rw [L.two,k,if_neg (fun e=>hb (congrArg Prod.fst e))]
   by_cases h:nxt (r b) a=v
   ·rw [if_pos h,if_pos (by rw [h])]
   ·rw [if_neg h,if_neg (fun e=>h (congrArg Prod.snd e))]
  ·show (b,nxt (r' b) a)=if (b,nxt (r b) a)=(v,u) then _ else if (b,nxt (r b) a)=(u,v) then _ else (b,nxt (r b) a)
   rw [if_neg (fun e=>hb (congrArg Prod.fst e)),if_neg (fun e=>hb2 (congrArg Prod.fst e)),L.els b hb hb2]
theorem del_web {cs':List (List (α×α))} (hp:cs.flatten.Perm ((v,u)::(u,v)::cs'.flatten)) (hc:∀ c∈cs',Cyc (st r') c):Web ns r' cs':=by
 have hvu:=del_ne C L
 have nd:=hp.nodup_iff.mp C.cf
 rw [Qt,Qt,Qe,not_or] at nd
 refine ⟨C.nd,fun x hx=>?_,fun x=>?_,fun x h=>?_,fun x y h=>?_,nd.2.2,fun s=>?_,hc⟩
 ·have hv:x≠v:=fun e=>hx (by rw [e];exact C.inn L.tie)
  have hu:x≠u:=fun e=>hx (by rw [e];exact C.inn (C.sy _ _ L.tie))
  rw [L.els x hv hu,C.ro x hx]
 ·by_cases h1:x=v
  ·rw [h1,L.one];exact (C.rn v).erase _
  ·by_cases h2:x=u
   ·rw [h2,L.two];exact (C.rn u).erase _
   ·rw [L.els x h1 h2];exact C.rn x
 ·exact C.ir x ((zb6 C L (x,x)).mp h).1
 ·obtain ⟨h1,h2,h3⟩:=(zb6 C L (y,x)).mp h
  exact (zb6 C L (x,y)).mpr ⟨C.sy x y h1,fun e=>h3 (by cases e;rfl),fun e=>h2 (by cases e;rfl)⟩
 ·rw [zb6 C L,← C.cm,hp.mem_iff,Qe,Qe]
  constructor
  ·intro h
   exact ⟨.inr (.inr h),fun e=>nd.1.2 (e ▸ h),fun e=>nd.2.1 (e ▸ h)⟩
  ·rintro ⟨h | h | h,h2,h3⟩
   ·exact absurd h h2
   ·exact absurd h h3
   ·exact h
theorem del_tot {cs':List (List (α×α))}:tot ns r' cs'=tot ns r cs+2+(if r' v=[] then 2 else 0)+(if r' u=[] then 2 else 0)+2*((cs'.length:Int) - (cs.length:Int)):=by
 have hvu:=del_ne C L
 have hv:=C.inn L.tie
 have hu:=C.inn (C.sy _ _ L.tie)
 have e1:=zeq (g:=vl r) (g':=fun x=>if x=v then vl r' v else vl r x) C.nd hv fun x _ h=>if_neg h
 have e2:=zeq (g:=fun x=>if x=v then vl r' v else vl r x) (g':=vl r') C.nd hu fun x _ h=>by
  show vl r' x=if x=v then vl r' v else vl r x
  by_cases hx:x=v
  ·rw [if_pos hx,hx]
  ·rw [if_neg hx];unfold vl;rw [L.els x hx h]
 have a1:(if v=v then vl r' v else vl r v)=vl r' v:=if_pos rfl
 have a2:(if u=v then vl r' v else vl r u)=vl r u:=if_neg fun e=>hvu e.symm
 have l1:=Zy L.tie
 have l2:=Zy (C.sy _ _ L.tie)
 have p1:=Yf L.tie
 have p2:=Yf (C.sy _ _ L.tie)
 have n1:r v≠[]:=fun e=>by have:=L.tie;rw [e] at this;cases this
 have n2:r u≠[]:=fun e=>by have:=C.sy _ _ L.tie;rw [e] at this;cases this
 have b1:vl r' v=vl r v+1+(if r' v=[] then 2 else 0):=by
  unfold vl;rw [if_neg n1];rw [← L.one] at l1;rw [l1];omega
 have b2:vl r' u=vl r u+1+(if r' u=[] then 2 else 0):=by
  unfold vl;rw [if_neg n2];rw [← L.two] at l2;rw [l2];omega
 unfold tot
 rw [e2,e1]
 show (_+((if v=v then vl r' v else vl r v) - vl r v))+(vl r' u - (if u=v then vl r' v else vl r u))+_=_
 rw [a1,a2,b1,b2];omega
theorem del_conn {x y:α} (h:Conn r x y):Conn r' x y∨(Conn r' x v∧Conn r' u y)∨(Conn r' x u∧Conn r' v y):=by
 induction h with
 | refl=>exact .inl .refl
 | @step y z a hz ih =>
  by_cases h1:(z,y)=(v,u)
  ·cases h1
   rcases ih with h | ⟨h,_⟩ | ⟨h,_⟩
   ·exact .inr (.inr ⟨h,.refl⟩)
   ·exact .inl h
   ·exact .inr (.inr ⟨h,.refl⟩)
  ·by_cases h2:(z,y)=(u,v)
   ·cases h2
    rcases ih with h | ⟨h,_⟩ | ⟨h,_⟩
    ·exact .inr (.inl ⟨h,.refl⟩)
    ·exact .inr (.inl ⟨h,.refl⟩)
    ·exact .inl h
   ·have hz':z∈r' y:=(zb6 C L (z,y)).mpr ⟨hz,h1,h2⟩
    rcases ih with h | ⟨h,k⟩ | ⟨h,k⟩
    ·exact .inl (.step h hz')
    ·exact .inr (.inl ⟨h,.step k hz'⟩)
    ·exact .inr (.inr ⟨h,.step k hz'⟩)
end del
end
section
variable {α:Type} [DecidableEq α] {ns:List α} {r r':α→List α} {cs:List (List (α×α))}
theorem Web.iso (C:Web ns r cs) {p q:α} (h:p∈r q):(r q).erase p=[]↔st r (p,q)=(q,p):=by
 constructor
 ·intro e
  have l:=Zy h
  rw [e] at l
  have p1:=Yf h
  obtain ⟨a,ha⟩:=List.length_eq_one_iff.mp (show (r q).length=1 by simp at l;omega)
  rw [ha] at h
  have:p=a:=Qd.mp h
  show (q,nxt (r q) p)=_
  rw [ha,this,zho]
 ·intro e
  have:=nxt_self (C.rn q) h (congrArg Prod.snd e)
  rw [this,List.erase_cons_head]
section del
variable {v u:α} (C:Web ns r cs) (L:Less r r' v u)
include C L
theorem lk_del {x:α×α}:∀ {t:List (α×α)} {s:α×α},Lk (st r) s t x→(∀ y,y=s∨y∈t→y.1∈r' y.2)→Lk (st r') s t (if x=(v,u) then st r (u,v) else if x=(u,v) then st r (v,u) else x):=by
 intro t
 induction t with
 | nil=>intro s k h;rw [← show st r s=x from k];exact del_st C L (h s (.inl rfl))
 | cons a t ih =>
  intro s k h
  refine ⟨?_,ih k.2 fun y hy=>h y (.inr (Qe.mpr hy))⟩
  have ha:=((zb6 C L a).mp (h a (.inr Qb))).2
  rw [del_st C L (h s (.inl rfl)),k.1,if_neg ha.1,if_neg ha.2]
theorem rest_cyc {c:List (α×α)} (hc:c∈cs) (h1:(v,u)∉c) (h2:(u,v)∉c):Cyc (st r') c:=by
 refine zek (fun y hy=>?_) (C.cy c hc)
 have hn:=zhz (C.cy c hc) hy
 have hy':y.1∈r' y.2:=(zb6 C L y).mpr ⟨(C.cm y).mp (Zt.mpr ⟨c,hc,hy⟩),fun e=>h1 (e ▸ hy),fun e=>h2 (e ▸ hy)⟩
 rw [del_st C L hy',if_neg (show st r y≠(v,u) from fun e=>h1 (by rw [← e];exact hn)),if_neg (show st r y≠(u,v) from fun e=>h2 (by rw [← e];exact hn))]
theorem lk_conn (sy:∀ x y,y∈r' x→x∈r' y) {x:α×α}:∀ {t:List (α×α)} {s:α×α},Lk (st r) s t x→(∀ y,y=s∨y∈t→y.1∈r' y.2)→Conn r' s.1 x.1:=by
 intro t
 induction t with
 | nil=>intro s k h;rw [← show st r s=x from k];exact .step .refl (sy _ _ (h s (.inl rfl)))
 | cons a t ih =>
  intro s k h
  refine Conn.trans (.step .refl (sy _ _ (h s (.inl rfl)))) ?_
  have:=ih k.2 fun y hy=>h y (.inr (Qe.mpr hy))
  rwa [show a.1=s.2 by rw [← k.1];rfl] at this
end del
theorem filter_one {T:List α} {R:α→α→Prop} {P:α→Bool} (h:T.Pairwise fun x y=>¬ R x y) (hR:∀ x y,P x=false→P y=false→R x y):T.length≤(T.filter P).length+1:=by
 induction T with
 | nil=>exact Zd _
 | cons a t ih =>
  rw [Kb] at h
  by_cases ha:P a=true
  ·rw [Zi ha]
   have:=ih h.2
   rw [Qq,Qq];omega
  ·rw [Zj ha]
   have:t.filter P=t:=Jx.mpr fun y hy=>by
    cases e:P y with
    | true=>rfl
    | false=>exact absurd (hR a y (by simpa using ha) e) (h.1 y hy)
   rw [this];exact Qh _
theorem web_less {v u:α} (C:Web ns r cs) (L:Less r r' v u):∃ cs',Web ns r' cs'∧(tot ns r' cs'=tot ns r cs∧Conn r' u v∨tot ns r' cs'=tot ns r cs+4):=by
 have hvu:=del_ne C L
 have hme:v∈r u:=C.sy _ _ L.tie
 have hne:((u,v):α×α)≠(v,u):=fun e=>hvu (congrArg Prod.snd e)
 obtain ⟨c,hc,hec⟩:=Zt.mp ((C.cm (v,u)).mpr hme)
 obtain ⟨P,Q,ecq⟩:=Ys hec
 have k0:Lk (st r) (v,u) (Q++P) (v,u):=zdh (ecq ▸ C.cy c hc)
 have pc:c.Perm ((v,u)::(Q++P)):=by
  rw [ecq];exact Jm.trans ((Wf).cons _)
 by_cases hb:(u,v)∈c
 ·have hb':(u,v)∈Q++P:=by
   rcases Qe.mp (pc.mem_iff.mp hb) with z | z
   ·exact absurd z hne
   ·exact z
  obtain ⟨A,B,eAB⟩:=Ys hb'
  rw [eAB] at k0 pc
  obtain ⟨kA,kB⟩:=lk_app.mp k0
  have pc2:c.Perm ((v,u)::(u,v)::(A++B)):=pc.trans (Jm.cons _)
  let N:List (List (α×α)):=(if A=[] then [] else [A])++(if B=[] then [] else [B])
  have hN:N.flatten=A++B:=by
   show ((if A=[] then [] else [A])++(if B=[] then [] else [B])).flatten=_
   rw [Wl]
   congr 1
   ·by_cases h:A=[]
    ·rw [if_pos h,h];rfl
    ·rw [if_neg h];simp
   ·by_cases h:B=[]
    ·rw [if_pos h,h];rfl
    ·rw [if_neg h];simp
  have hp:cs.flatten.Perm ((v,u)::(u,v)::(N++cs.erase c).flatten):=by
   rw [Wl,hN]
   refine (zb2 hc).trans ((pc2.append_right _).trans ?_)
   exact List.Perm.refl _
  have nd:=hp.nodup_iff.mp C.cf
  have hin:∀ y,y∈(N++cs.erase c).flatten→y.1∈r' y.2:=fun y hy=>by
   rw [Qt,Qt,Qe,not_or] at nd
   exact (zb6 C L y).mpr ⟨(C.cm y).mp (hp.mem_iff.mpr (Qf _ (Qf _ hy))),fun e=>nd.1.2 (e ▸ hy),fun e=>nd.2.1 (e ▸ hy)⟩
  have hinA:∀ y∈A,y.1∈r' y.2:=fun y hy=>hin y (by rw [Wl,hN];exact Qu _ (Qu _ hy))
  have hinB:∀ y∈B,y.1∈r' y.2:=fun y hy=>hin y (by rw [Wl,hN];exact Qu _ (Qs _ hy))
  have cA:∀ a t,A=a::t→Cyc (st r') A:=fun a t e=>by
   subst e
   have k:=lk_del C L kA.2 fun y hy=>hinA y (Qe.mpr hy)
   rw [if_neg hne,if_pos rfl,kA.1] at k
   exact ⟨a,t,rfl,k⟩
  have cB:∀ a t,B=a::t→Cyc (st r') B:=fun a t e=>by
   subst e
   have k:=lk_del C L kB.2 fun y hy=>hinB y (Qe.mpr hy)
   rw [if_pos rfl,kB.1] at k
   exact ⟨a,t,rfl,k⟩
  have hcy:∀ d∈N++cs.erase c,Cyc (st r') d:=fun d hd=>by
   rcases Ql.mp hd with z | z
   ·rcases Ql.mp z with y | y
    ·cases A with
     | nil=>rw [if_pos rfl] at y;cases y
     | cons a t =>
      rw [if_neg (Kr _ _)] at y
      rw [Qd.mp y];exact cA a t rfl
    ·cases B with
     | nil=>rw [if_pos rfl] at y;cases y
     | cons a t =>
      rw [if_neg (Kr _ _)] at y
      rw [Qd.mp y];exact cB a t rfl
   ·rw [Qt,Qt,Qe,not_or] at nd
    have hf:∀ y∈d,y∈(N++cs.erase c).flatten:=fun y hy=>Zt.mpr ⟨d,hd,hy⟩
    exact rest_cyc C L (Wo z) (fun y=>nd.1.2 (hf _ y)) (fun y=>nd.2.1 (hf _ y))
  have W:=del_web C L hp hcy
  have iA:r' u=[]↔A=[]:=by
   rw [L.two,C.iso hme]
   constructor
   ·intro e
    cases A with
    | nil=>rfl
    | cons a t =>
     have ha:a=(u,v):=kA.1.symm.trans e
     have:=((zb6 C L a).mp (hinA a Qb)).2.2
     exact absurd ha this
   ·intro e;subst e;exact kA
  have iB:r' v=[]↔B=[]:=by
   rw [L.one,C.iso L.tie]
   constructor
   ·intro e
    cases B with
    | nil=>rfl
    | cons a t =>
     have ha:a=(v,u):=kB.1.symm.trans e
     have:=((zb6 C L a).mp (hinB a Qb)).2.1
     exact absurd ha this
   ·intro e;subst e;exact kB
  have ht:tot ns r' (N++cs.erase c)=tot ns r cs+4:=by
   rw [del_tot C L (cs':=N++cs.erase c)]
   have lc:=Zy hc
   have lp:=Yf hc
   have ln:N.length=(if A=[] then 0 else 1)+(if B=[] then 0 else 1):=by
    show ((if A=[] then [] else [A])++(if B=[] then [] else [B])).length=_
    rw [Qw]
    congr 1
    ·by_cases h:A=[]
     ·rw [if_pos h,if_pos h];rfl
     ·rw [if_neg h,if_neg h];rfl
    ·by_cases h:B=[]
     ·rw [if_pos h,if_pos h];rfl
     ·rw [if_neg h,if_neg h];rfl
   rw [Qw,ln,lc]
   by_cases hA:A=[]
   ·by_cases hB:B=[]
    ·rw [if_pos (iA.mpr hA),if_pos (iB.mpr hB),if_pos hA,if_pos hB];omega
    ·rw [if_pos (iA.mpr hA),if_neg (fun z=>hB (iB.mp z)),if_pos hA,if_neg hB];omega
   ·by_cases hB:B=[]
    ·rw [if_neg (fun z=>hA (iA.mp z)),if_pos (iB.mpr hB),if_neg hA,if_pos hB];omega
    ·rw [if_neg (fun z=>hA (iA.mp z)),if_neg (fun z=>hB (iB.mp z)),if_neg hA,if_neg hB];omega
  exact ⟨N++cs.erase c,W,.inr ht⟩
 ·obtain ⟨c2,hc2,hec2⟩:=Zt.mp ((C.cm (u,v)).mpr L.tie)
  have hcc:c2≠c:=fun e=>hb (e ▸ hec2)
  have hc2':c2∈cs.erase c:=(Jq hcc).mpr hc2
  obtain ⟨P2,Q2,ecq2⟩:=Ys hec2
  have k2:Lk (st r) (u,v) (Q2++P2) (u,v):=zdh (ecq2 ▸ C.cy c2 hc2)
  have pc2:c2.Perm ((u,v)::(Q2++P2)):=by
   rw [ecq2];exact Jm.trans ((Wf).cons _)
  generalize hA:Q++P=A at k0 pc
  generalize hB:Q2++P2=B at k2 pc2
  have hp:cs.flatten.Perm ((v,u)::(u,v)::((A++B)::(cs.erase c).erase c2).flatten):=by
   rw [Yr]
   refine (zb2 hc).trans ((pc.append_right _).trans ?_)
   rw [Us]
   refine List.Perm.cons _ ?_
   refine ((zb2 hc2').append_left A).trans ?_
   refine ((pc2.append_right _).append_left A).trans ?_
   rw [Us]
   refine Jm.trans ?_
   rw [Qy]
  have nd:=hp.nodup_iff.mp C.cf
  have hin:∀ y,y∈((A++B)::(cs.erase c).erase c2).flatten→y.1∈r' y.2:=fun y hy=>by
   rw [Qt,Qt,Qe,not_or] at nd
   exact (zb6 C L y).mpr ⟨(C.cm y).mp (hp.mem_iff.mpr (Qf _ (Qf _ hy))),fun e=>nd.1.2 (e ▸ hy),fun e=>nd.2.1 (e ▸ hy)⟩
  have hinA:∀ y∈A,y.1∈r' y.2:=fun y hy=>hin y (by rw [Yr];exact Qu _ (Qu _ hy))
  have hinB:∀ y∈B,y.1∈r' y.2:=fun y hy=>hin y (by rw [Yr];exact Qu _ (Qs _ hy))
  have nA:∃ a t,A=a::t:=by
   cases A with
   | nil =>
    have:=congrArg Prod.fst (show st r (v,u)=(v,u) from k0)
    exact absurd this.symm hvu
   | cons a t=>exact ⟨a,t,rfl⟩
  have nB:∃ a t,B=a::t:=by
   cases B with
   | nil =>
    have:=congrArg Prod.fst (show st r (u,v)=(u,v) from k2)
    exact absurd this hvu
   | cons a t=>exact ⟨a,t,rfl⟩
  obtain ⟨a,tA,rfl⟩:=nA
  obtain ⟨b,tB,rfl⟩:=nB
  have hcy:∀ d∈((a::tA)++(b::tB))::(cs.erase c).erase c2,Cyc (st r') d:=fun d hd=>by
   rcases Qe.mp hd with z | z
   ·have k:=lk_del C L k0.2 fun y hy=>hinA y (Qe.mpr hy)
    have k':=lk_del C L k2.2 fun y hy=>hinB y (Qe.mpr hy)
    rw [if_pos rfl,k2.1] at k
    rw [if_neg hne,if_pos rfl,k0.1] at k'
    rw [z]
    exact ⟨a,tA++b::tB,rfl,lk_app.mpr ⟨k,k'⟩⟩
   ·rw [Qt,Qt,Qe,not_or] at nd
    have hf:∀ y∈d,y∈(((a::tA)++(b::tB))::(cs.erase c).erase c2).flatten:=fun y hy=>Zt.mpr ⟨d,hd,hy⟩
    exact rest_cyc C L (Wo (Wo z)) (fun y=>nd.1.2 (hf _ y)) (fun y=>nd.2.1 (hf _ y))
  have W:=del_web C L hp hcy
  have nu:r' u≠[]:=fun e=>by
   rw [L.two,C.iso hme] at e
   have ha:a=(u,v):=k0.1.symm.trans e
   exact ((zb6 C L a).mp (hinA a Qb)).2.2 ha
  have nv:r' v≠[]:=fun e=>by
   rw [L.one,C.iso L.tie] at e
   have ha:b=(v,u):=k2.1.symm.trans e
   exact ((zb6 C L b).mp (hinB b Qb)).2.1 ha
  have hcon:Conn r' u v:=by
   have:=lk_conn C L W.sy k0.2 fun y hy=>hinA y (Qe.mpr hy)
   rwa [← k0.1] at this
  refine ⟨_,W,.inl ⟨?_,hcon⟩⟩
  rw [del_tot C L,if_neg nu,if_neg nv]
  have lc:=Zy hc
  have lc2:=Zy hc2'
  have lp:=Yf hc
  have lp2:=Yf hc2'
  rw [Qq,lc2,lc]
  omega
theorem zha {v u:α} (C:Web ns r cs) (L:Less r r' v u) (sy:∀ x y,y∈r' x→x∈r' y) {T:List α} (hpw:T.Pairwise fun x y=>¬ Conn r' x y):∃ T':List α,(∀ t∈T',t∈T)∧T'.Pairwise (fun x y=>¬ Conn r x y)∧T.length≤T'.length+1:=by
 let P:α→Bool:=fun x=>@decide (¬ Conn r' x v) (Classical.propDecidable _)
 have hP:∀ x,P x=false→Conn r' x v:=fun x e=>by
  have:=@of_decide_eq_false _ (Classical.propDecidable _) e
  exact Classical.not_not.mp this
 refine ⟨T.filter P,fun t ht=>(Zk.mp ht).1,?_,filter_one (P:=P) hpw fun x y hx hy=>Conn.trans (hP x hx) (Conn.symm sy (hP y hy))⟩
 refine Kk ?_ (hpw.filter P)
 intro x y hx hy hxy hc
 have px:¬ Conn r' x v:=@of_decide_eq_true _ (Classical.propDecidable _) (Zk.mp hx).2
 have py:¬ Conn r' y v:=@of_decide_eq_true _ (Classical.propDecidable _) (Zk.mp hy).2
 rcases del_conn C L hc with h | ⟨h,_⟩ | ⟨_,h⟩
 ·exact hxy h
 ·exact px h
 ·exact py (Conn.symm sy h)
theorem back_less {v u:α} (C:Web ns r cs) (L:Less r r' v u) (sy:∀ x y,y∈r' x→x∈r' y) (h:Conn r' u v) {x y:α} (hc:Conn r x y):Conn r' x y:=by
 rcases del_conn C L hc with z | ⟨z1,z2⟩ | ⟨z1,z2⟩
 ·exact z
 ·exact (z1.trans (Conn.symm sy h)).trans z2
 ·exact (z1.trans h).trans z2
theorem flat_less {v u:α} (F:Flat ns r cs) (L:Less r r' v u):∃ cs',Flat ns r' cs':=by
 obtain ⟨cs',W,⟨ht,hcon⟩ | ht⟩:=web_less F.toWeb L
 ·refine ⟨cs',W,fun T hT hpw=>?_⟩
  rw [ht]
  exact F.fl T hT (hpw.imp fun {x y} h hc=>h (back_less F.toWeb L W.sy hcon hc))
 ·refine ⟨cs',W,fun T hT hpw=>?_⟩
  obtain ⟨T',h1,h2,h3⟩:=zha F.toWeb L W.sy hpw
  have:=F.fl T' (fun t ht=>hT t (h1 t ht)) h2
  rw [ht]
  omega
end
section
variable {α:Type} [DecidableEq α] {ns:List α} {r r':α→List α} {cs:List (List (α×α))}
theorem conn_iso {x y:α} (hr:r x=[]) (h:Conn r x y):y=x:=by
 induction h with
 | refl=>rfl
 | step _ hz ih=>rw [ih,hr] at hz;cases hz
theorem flat_iso (F:Flat ns r cs) {x:α} (hx:x∈ns) (hr:r x=[]):Flat (ns.erase x) r cs where
 nd:=F.nd.erase x
 ro:=fun y hy=>by
  by_cases h:y=x
  ·rw [h];exact hr
  ·exact F.ro y fun z=>hy ((Jq h).mpr z)
 rn:=F.rn
 ir:=F.ir
 sy:=F.sy
 cf:=F.cf
 cm:=F.cm
 cy:=F.cy
 fl:=fun T hT hp=>by
  have hs:=zfi ((Up hx).map (vl r))
  rw [Qk,Ze] at hs
  have hv:vl r x=4:=by unfold vl;rw [hr,if_pos rfl];rfl
  have:=F.fl (x::T) (fun t ht=>by
   rcases Qe.mp ht with z | z
   ·rw [z];exact hx
   ·exact Wo (hT t z)) (Kb.mpr ⟨fun y hy hc=>by
    have e:=conn_iso hr hc
    exact (F.nd.mem_erase_iff.mp (hT y hy)).1 e,hp⟩)
  unfold tot at this ⊢
  rw [Qq] at this
  omega
theorem flat_drop {v:α} (hv:v∈ns):∀ {n:Nat} {r:α→List α} {cs:List (List (α×α))},Flat ns r cs→(r v).length=n→∃ cs',Flat (ns.erase v) (fun x=>if x=v then [] else (r x).erase v) cs':=by
 intro n
 induction n with
 | zero =>
  intro r cs F h
  have hr:=Kq.mp h
  have e:(fun x=>if x=v then [] else (r x).erase v)=r:=by
   funext x
   by_cases hx:x=v
   ·rw [if_pos hx,hx,hr]
   ·rw [if_neg hx]
    exact Xa fun z=>by have:=F.sy _ _ z;rw [hr] at this;cases this
  rw [e]
  exact ⟨cs,flat_iso F hv hr⟩
 | succ n ih =>
  intro r cs F h
  obtain ⟨u,hu⟩:∃ u,u∈r v:=List.exists_mem_of_length_pos (by omega)
  have huv:u≠v:=fun e=>F.ir v (by rw [e] at hu;exact hu)
  let r1:α→List α:=fun x=>if x=v then (r v).erase u else if x=u then (r u).erase v else r x
  have L:Less r r1 v u:=⟨hu,if_pos rfl,(if_neg huv).trans (if_pos rfl),fun x h1 h2=>(if_neg h1).trans (if_neg h2)⟩
  obtain ⟨cs1,F1⟩:=flat_less F L
  have hl:(r1 v).length=n:=by
   rw [L.one,Zy hu];omega
  obtain ⟨cs2,F2⟩:=ih F1 hl
  refine ⟨cs2,?_⟩
  have e:(fun x=>if x=v then [] else (r1 x).erase v)=(fun x=>if x=v then [] else (r x).erase v):=by
   funext x
   by_cases hx:x=v
   ·rw [if_pos hx,if_pos hx]
   ·rw [if_neg hx,if_neg hx]
    by_cases hx2:x=u
    ·rw [hx2,L.two]
     exact Xa fun z=>((F.rn u).mem_erase_iff.mp z).1 rfl
    ·rw [L.els x hx hx2]
  rwa [e] at F2
theorem six_sum {l:List α} (h:∀ x∈l,6≤(r x).length):(l.map (vl r)).sum=2*(l.length:Int) - ((l.map fun x=>(r x).length).sum:Nat)∧6*l.length≤(l.map fun x=>(r x).length).sum:=by
 induction l with
 | nil=>exact ⟨rfl,Qh _⟩
 | cons a t ih =>
  obtain ⟨i1,i2⟩:=ih fun x hx=>h x (Qf _ hx)
  have ha:=h a Qb
  have hv:vl r a=2 - ((r a).length:Int):=by
   unfold vl
   rw [if_neg (fun e=>by rw [e] at ha;simp at ha)];omega
  rw [Qk,Qk,Ze,Ze,Qq,hv,i1]
  constructor <;> omega
theorem Web.steps (C:Web ns r cs):cs.flatten.length=(ns.map fun x=>(r x).length).sum:=by
 have nd:(ns.flatMap fun y=>(r y).map fun x=>(x,y)).Nodup:=by
  refine List.pairwise_flatMap.mpr ⟨fun y _=>?_,?_⟩
  ·exact List.Pairwise.map _ (fun a b h e=>h (congrArg Prod.fst e)) (C.rn y)
  ·refine List.Pairwise.imp ?_ C.nd
   intro a b hab x hx y hy e
   obtain ⟨p,_,rfl⟩:=Qi.mp hx
   obtain ⟨q,_,rfl⟩:=Qi.mp hy
   exact hab (congrArg Prod.snd e)
 have hp:=(Uo C.cf nd).mpr fun s=>by
  rw [C.cm,List.mem_flatMap]
  constructor
  ·intro h
   exact ⟨s.2,C.inn h,Qi.mpr ⟨s.1,h,rfl⟩⟩
  ·rintro ⟨y,_,h⟩
   obtain ⟨p,hp,rfl⟩:=Qi.mp h
   exact hp
 rw [hp.length_eq,List.length_flatMap]
 congr 1
 exact Yy fun y _=>Qa _
theorem three_len {cs:List (List (α×α))} (h:∀ c∈cs,3≤c.length):3*cs.length≤cs.flatten.length:=by
 induction cs with
 | nil=>exact Qh _
 | cons a t ih =>
  have:=h a Qb
  have:=ih fun c hc=>h c (Qf _ hc)
  rw [Yr,Qw,Qq];omega
theorem deg5 (F:Flat ns r cs) (hne:ns≠[]):∃ x∈ns,(r x).length≤5:=by
 refine Uw fun hno=>?_
 have h6:∀ x∈ns,6≤(r x).length:=fun x hx=>Nat.lt_of_not_le fun z=>hno ⟨x,hx,z⟩
 obtain ⟨e1,e2⟩:=six_sum h6
 have e3:=F.steps
 have e4:=three_len (cs:=cs) fun c hc=>by
  obtain ⟨s,t,rfl,k⟩:=F.cy c hc
  have hs:s.1∈r s.2:=(F.cm s).mp (Zt.mpr ⟨_,hc,Qb⟩)
  cases t with
  | nil =>
   have:s.2=s.1:=congrArg Prod.fst (show st r s=s from k)
   exact absurd (by rw [this] at hs;exact hs) (F.ir s.1)
  | cons y t =>
   cases t with
   | nil =>
    have k1:st r s=y:=k.1
    have k2:st r y=s:=k.2
    have h1:y.2=s.1:=congrArg Prod.fst k2
    have h2:nxt (r s.2) s.1=s.1:=(congrArg Prod.snd k1).trans h1
    have h3:=nxt_self (F.rn s.2) hs h2
    have:=h6 s.2 (F.inn hs)
    rw [h3] at this
    simp at this
   | cons z t=>rw [Qq,Qq,Qq];omega
 obtain ⟨x,t,rfl⟩:∃ x t,ns=x::t:=by
  cases ns with
  | nil=>exact absurd rfl hne
  | cons x t=>exact ⟨x,t,rfl⟩
 have:=F.fl [x] (fun t ht=>by rw [Qd.mp ht];exact Qb) (Ko _ _)
 unfold tot at this
 rw [e1,← e3] at this
 rw [← e3] at e2
 simp only [Qq,Wx] at this e2
 omega
theorem zfn {L:List α} (nd:L.Nodup) {a:α} (h:a∈L) (k:Int):(L.map fun l=>if a=l then k else 0).sum=k:=by
 have:=zeq (g:=fun _=>(0:Int)) (g':=fun l=>if a=l then k else 0) nd h fun x _ hx=>if_neg fun e=>hx e.symm
 rw [this,zdo fun _ _=>rfl,if_pos rfl];omega
theorem zfo {β:Type} (f g:β→Int):∀ l:List β,(l.map fun x=>f x+g x).sum=(l.map f).sum+(l.map g).sum:=by
 intro l
 induction l with
 | nil=>rfl
 | cons a t ih=>rw [Qk,Qk,Qk,Ze,Ze,Ze,ih];omega
theorem sum_exch {β:Type} {L:List α} (nd:L.Nodup) (f:β→α) (g:β→Int):∀ {xs:List β},(∀ x∈xs,f x∈L)→(L.map fun l=>(xs.map fun x=>if f x=l then g x else 0).sum).sum=(xs.map g).sum:=by
 intro xs
 induction xs with
 | nil=>intro _;exact zdo fun _ _=>rfl
 | cons a t ih =>
  intro h
  rw [Qk,Ze,← ih fun x hx=>h x (Qf _ hx),← zfn nd (h a Qb) (g a),← zfo]
  refine zcb fun l _=>?_
  rw [Qk,Ze]
theorem labels (lab:α→α):∀ ns:List α,∃ L:List α,L.Nodup∧(∀ x∈ns,lab x∈L)∧∀ l∈L,∃ x∈ns,lab x=l:=by
 intro ns
 induction ns with
 | nil=>exact ⟨[],Zo,(by intro x h;cases h),(by intro x h;cases h)⟩
 | cons a t ih =>
  obtain ⟨L,h1,h2,h3⟩:=ih
  by_cases h:lab a∈L
  ·refine ⟨L,h1,fun x hx=>?_,fun l hl=>?_⟩
   ·rcases Qe.mp hx with z | z
    ·rw [z];exact h
    ·exact h2 x z
   ·obtain ⟨x,hx,e⟩:=h3 l hl
    exact ⟨x,Qf _ hx,e⟩
  ·refine ⟨lab a::L,Qt.mpr ⟨h,h1⟩,fun x hx=>?_,fun l hl=>?_⟩
   ·rcases Qe.mp hx with z | z
    ·rw [z];exact Qb
    ·exact Qf _ (h2 x z)
   ·rcases Qe.mp hl with z | z
    ·exact ⟨a,Qb,z.symm⟩
    ·obtain ⟨x,hx,e⟩:=h3 l z
     exact ⟨x,Qf _ hx,e⟩
theorem cert_flat {lab:α→α} (C:Cert ns r cs lab):Flat ns r cs:=by
 refine ⟨⟨C.nd,C.ro,C.rn,C.ir,C.sy,C.cf,C.cm,C.cy⟩,fun T hT hp=>?_⟩
 obtain ⟨L,h1,h2,h3⟩:=labels lab ns
 have e1:(L.map fun l=>wt ns r lab l).sum=(ns.map (vl r)).sum:=sum_exch h1 lab (vl r) h2
 have e2:(L.map fun l=>ct cs lab l).sum=2*(cs.length:Int):=by
  have key:∀ D:List (List (α×α)),(∀ c∈D,c∈cs)→(L.map fun l=>ct D lab l).sum=2*(D.length:Int):=by
   intro D
   induction D with
   | nil=>intro _;exact zdo fun _ _=>rfl
   | cons c D ih =>
    intro h
    have hc:=h c Qb
    obtain ⟨s,t,rfl,_⟩:=C.cy c hc
    have ha:lab s.1∈L:=h2 _ (C.inn' (C.inc hc Qb))
    have hs:∀ l∈L,ct ((s::t)::D) lab l=(if lab s.1=l then 2 else 0)+ct D lab l:=fun l _=>by
     rw [zdi,zdk (fun u hu=>C.one_lab hc Qb hu) (Kr _ _)]
     congr 1
     by_cases e:lab s.1=l
     ·rw [if_pos e,if_pos (decide_eq_true e)]
     ·rw [if_neg e,if_neg (fun z=>e (of_decide_eq_true z))]
    rw [zcb hs,zfo,zfn h1 ha,ih fun d hd=>h d (Qf _ hd),Qq];omega
  exact key cs fun _ h=>h
 have e3:(L.map fun l=>wt ns r lab l+ct cs lab l).sum=4*(L.length:Int):=by
  have:∀ M:List α,(∀ l∈M,l∈L)→(M.map fun l=>wt ns r lab l+ct cs lab l).sum=4*(M.length:Int):=by
   intro M
   induction M with
   | nil=>intro _;rfl
   | cons a t ih =>
    intro h
    obtain ⟨x,hx,e⟩:=h3 a (h a Qb)
    rw [Qk,Ze,ih fun l hl=>h l (Qf _ hl),← e,C.eu x hx,Qq];omega
  exact this L fun _ h=>h
 rw [zfo,e1,e2] at e3
 have nd:(T.map lab).Nodup:=Ww.mpr (Kk (fun {x y} hx hy h e=>h (C.co x (hT x hx) y (hT y hy) e)) hp)
 have:=nd.length_le_of_subset (l₂:=L) fun l hl=>by
  obtain ⟨x,hx,rfl⟩:=Qi.mp hl
  exact h2 x (hT x hx)
 rw [Qa] at this
 unfold tot
 omega
end
section
variable {α:Type} [DecidableEq α] {ns:List α} {r r':α→List α} {cs:List (List (α×α))}
theorem zg5 {l:List α} (nd:l.Nodup) (D:List α) (d:α):(l.filter fun x=>decide (x∉D)).erase d=l.filter fun x=>decide (x∉d::D):=by
 rw [Kd (Yu Uy nd),List.filter_filter]
 refine We fun x _=>?_
 rw [Zv,Ks,decide_eq_true_iff,decide_eq_true_iff,bne_iff_ne,Qe,not_or]
theorem flat_off (F:Flat ns r cs):∀ D:List α,∃ cs',Flat (ns.filter fun x=>decide (x∉D)) (fun x=>if x∈D then [] else (r x).filter fun y=>decide (y∉D)) cs':=by
 intro D
 induction D with
 | nil =>
  refine ⟨cs,?_⟩
  have e1:(ns.filter fun x=>decide (x∉([]:List α)))=ns:=Jx.mpr fun x _=>by simp
  have e2:(fun x=>if x∈([]:List α) then [] else (r x).filter fun y=>decide (y∉([]:List α)))=r:=by
   funext x
   rw [if_neg (by simp)]
   exact Jx.mpr fun x _=>by simp
  rw [e1,e2];exact F
 | cons d D ih =>
  obtain ⟨c1,F1⟩:=ih
  have rin:∀ x,∀ y∈r x,y∈ns:=fun x y h=>F.inn (F.sy _ _ h)
  by_cases hd:d∈ns.filter fun x=>decide (x∉D)
  ·obtain ⟨c2,F2⟩:=flat_drop hd F1 rfl
   refine ⟨c2,?_⟩
   rw [zg5 F.nd] at F2
   have e:(fun x=>if x=d then [] else (if x∈D then [] else (r x).filter fun y=>decide (y∉D)).erase d)=fun x=>if x∈d::D then [] else (r x).filter fun y=>decide (y∉d::D):=by
    funext x
    by_cases h1:x=d
    ·rw [if_pos h1,if_pos (by rw [h1];exact Qb)]
    ·rw [if_neg h1]
     by_cases h2:x∈D
     ·rw [if_pos h2,if_pos (Qf _ h2)];rfl
     ·rw [if_neg h2,if_neg (by rw [Qe,not_or];exact ⟨h1,h2⟩),zg5 (F.rn x)]
   rwa [e] at F2
  ·have same:∀ l:List α,(∀ y∈l,y∈ns)→(l.filter fun y=>decide (y∉D))=l.filter fun y=>decide (y∉d::D):=fun l hl=>by
    refine We fun y hy=>?_
    rw [Zv,decide_eq_true_iff,decide_eq_true_iff,Qe,not_or]
    exact ⟨fun h=>⟨fun e=>hd (Zk.mpr ⟨e ▸ hl y hy,decide_eq_true (e ▸ h)⟩),h⟩,fun h=>h.2⟩
   refine ⟨c1,?_⟩
   have e:(fun x=>if x∈D then [] else (r x).filter fun y=>decide (y∉D))=fun x=>if x∈d::D then [] else (r x).filter fun y=>decide (y∉d::D):=by
    funext x
    by_cases h2:x∈D
    ·rw [if_pos h2,if_pos (Qf _ h2)]
    ·rw [if_neg h2]
     by_cases h1:x=d
     ·rw [if_pos (by rw [h1];exact Qb)]
      have:x∉ns:=fun z=>hd (Zk.mpr ⟨h1 ▸ z,decide_eq_true (h1 ▸ h2)⟩)
      rw [F.ro x this];rfl
     ·rw [if_neg (by rw [Qe,not_or];exact ⟨h1,h2⟩),same _ (rin x)]
   rw [← same ns fun _ h=>h,← e]
   exact F1
theorem deg_left (F:Flat ns r cs) (D:List α) {x:α} (hx:x∈ns) (hxD:x∉D):∃ y∈ns,y∉D∧((r y).filter fun z=>decide (z∉D)).length≤5:=by
 obtain ⟨c1,F1⟩:=flat_off F D
 obtain ⟨y,hy,hl⟩:=deg5 F1 (fun e=>by
  have:x∈ns.filter fun x=>decide (x∉D):=Zk.mpr ⟨hx,decide_eq_true hxD⟩
  rw [e] at this;cases this)
 obtain ⟨h1,h2⟩:=Zk.mp hy
 have h3:=of_decide_eq_true h2
 rw [if_neg h3] at hl
 exact ⟨y,h1,h3,hl⟩
end
section
variable {α:Type} [DecidableEq α] {ns:List α} {r r':α→List α} {cs:List (List (α×α))} {lab:α→α}
def cutR (r:α→List α) (v u:α):α→List α:=fun x=>if x=v then (r v).erase u else if x=u then (r u).erase v else r x
theorem cut_less (C:Web ns r cs) {v u:α} (h:u∈r v):Less r (cutR r v u) v u :=
 have hvu:v≠u:=fun e=>C.ir u (by rw [e] at h;exact h)
 ⟨h,if_pos rfl,(if_neg (Zl hvu)).trans (if_pos rfl),fun x h1 h2=>(if_neg h1).trans (if_neg h2)⟩
theorem sum_lt {f g:α→Nat}:∀ {l:List α},(∀ x∈l,f x≤g x)→(∃ a∈l,f a < g a)→(l.map f).sum < (l.map g).sum:=by
 intro l
 induction l with
 | nil=>rintro _ ⟨a,h,_⟩;cases h
 | cons b t ih =>
  rintro h ⟨a,ha,hl⟩
  rw [Qk,Qk,Ze,Ze]
  have h1:=h b Qb
  have h2:(t.map f).sum≤(t.map g).sum:=by
   clear ih hl ha
   induction t with
   | nil=>exact Qh _
   | cons c t ih2 =>
    rw [Qk,Qk,Ze,Ze]
    have:=h c (by simp)
    have:=ih2 (fun x hx=>h x (by rcases Qe.mp hx with z | z <;> simp [z]))
    omega
  rcases Qe.mp ha with z | z
  ·subst z;omega
  ·have:=ih (fun x hx=>h x (Qf _ hx)) ⟨a,z,hl⟩
   omega
theorem genus:∀ (n:Nat) {r:α→List α} {cs:List (List (α×α))},Web ns r cs→(ns.map fun x=>(r x).length).sum=n→∃ T:List α,(∀ t∈T,t∈ns)∧T.Pairwise (fun x y=>¬ Conn r x y)∧tot ns r cs≤4*(T.length:Int):=by
 intro n
 induction n using Nat.strongRecOn with
 | ind n ih =>
  intro r cs C hn
  by_cases h:∃ v u,u∈r v
  ·obtain ⟨v,u,h⟩:=h
   have L:=cut_less C h
   obtain ⟨cs',W,hh⟩:=web_less C L
   have hle:∀ x∈ns,(cutR r v u x).length≤(r x).length:=fun x _=>by
    unfold cutR
    by_cases e1:x=v
    ·rw [if_pos e1,e1];exact List.length_erase_le ..
    ·rw [if_neg e1]
     by_cases e2:x=u
     ·rw [if_pos e2,e2];exact List.length_erase_le ..
     ·rw [if_neg e2];exact Qh _
   have hlt:(ns.map fun x=>(cutR r v u x).length).sum < n:=by
    rw [← hn]
    refine sum_lt hle ⟨v,C.inn h,?_⟩
    rw [L.one,Zy h]
    have:=Yf h
    omega
   obtain ⟨T,h1,h2,h3⟩:=ih _ hlt W rfl
   rcases hh with ⟨ht,hcon⟩ | ht
   ·exact ⟨T,h1,h2.imp fun {x y} h hc=>h (back_less C L W.sy hcon hc),by rw [← ht];exact h3⟩
   ·obtain ⟨T',g1,g2,g3⟩:=zha C L W.sy h2
    exact ⟨T',fun t ht=>h1 t (g1 t ht),g2,by omega⟩
  ·have hr:∀ x,r x=[]:=fun x=>by
    cases e:r x with
    | nil=>rfl
    | cons a t=>exact absurd ⟨x,a,by rw [e];exact Qb⟩ h
   have hcs:cs=[]:=by
    cases cs with
    | nil=>rfl
    | cons c t =>
     obtain ⟨s,t',rfl,_⟩:=C.cy c Qb
     have:=(C.cm s).mp (by rw [Yr];exact Qu _ Qb)
     rw [hr] at this
     cases this
   refine ⟨ns,fun t h=>h,C.nd.imp fun {x y} h hc=>h (conn_iso (hr x) hc).symm,?_⟩
   have:∀ l:List α,(l.map (vl r)).sum=4*(l.length:Int):=by
    intro l
    induction l with
    | nil=>rfl
    | cons a t ih2 =>
     rw [Qk,Ze,ih2,Qq]
     unfold vl
     rw [if_pos (hr a),hr a,Wx]
     omega
   unfold tot
   rw [hcs,this,Wx]
   omega
theorem Web.inc (C:Web ns r cs) {c:List (α×α)} (hc:c∈cs) {s:α×α} (hs:s∈c):s.1∈r s.2:=(C.cm s).mp (Zt.mpr ⟨c,hc,hs⟩)
theorem Web.one_lab (C:Web ns r cs) (la:∀ x y,y∈r x→lab y=lab x) {c:List (α×α)} (hc:c∈cs) {s u:α×α} (hs:s∈c) (hu:u∈c):lab u.1=lab s.1:=by
 obtain ⟨A,B,rfl⟩:=Ys hs
 have k:=zdh (C.cy _ hc)
 have hl:∀ y,y=s∨y∈B++A→lab (st r y).1=lab y.1:=fun y hy=>by
  have hy':y∈A++s::B:=by
   rcases hy with z | z
   ·rw [z];exact hs
   ·rcases Ql.mp z with q | q
    ·exact Qs _ (Qf _ q)
    ·exact Qu _ q
  exact (la _ _ (C.inc hc hy')).symm
 rcases Ql.mp hu with z | z
 ·exact lk_lab (lb:=fun y:α×α=>lab y.1) hl k u (Qs _ z)
 ·rcases Qe.mp z with q | q
  ·rw [q]
  ·exact lk_lab (lb:=fun y:α×α=>lab y.1) hl k u (Qu _ q)
theorem sum_filter {β:Type} (p:β→Bool) (f:β→Int):∀ l:List β,((l.filter p).map f).sum=(l.map fun x=>if p x=true then f x else 0).sum:=by
 intro l
 induction l with
 | nil=>rfl
 | cons a t ih =>
  rw [Qk,Ze]
  by_cases h:p a=true
  ·rw [Zi h,if_pos h,Qk,Ze,ih]
  ·rw [Zj h,if_neg h,ih];omega
theorem zhy {β:Type} (p:List β→Bool):∀ cs:List (List β),(cs.filter p).flatten.Sublist cs.flatten
 | []=>List.Sublist.refl _
 | c::t=>by
  by_cases h:p c=true
  ·rw [Zi h,Yr,Yr]
   exact List.Sublist.append (List.Sublist.refl _) (zhy p t)
  ·rw [Zj h,Yr]
   exact (zhy p t).trans (List.sublist_append_right _ _)
theorem sum_two {β:Type} (p:β→Bool) (l:List β):(l.map fun c=>if p c=true then (2:Int) else 0).sum=2*((l.filter p).length:Int):=by
 rw [← sum_filter p fun _=>2]
 induction l.filter p with
 | nil=>rfl
 | cons a t ih=>rw [Qk,Ze,ih,Qq];omega
theorem piece_le (C:Web ns r cs) (la:∀ x y,y∈r x→lab y=lab x) (co:∀ x∈ns,∀ y∈ns,lab x=lab y→Conn r x y) (t:α):wt ns r lab t+ct cs lab t≤4:=by
 let rt:α→List α:=fun x=>if lab x=t then r x else []
 have r1:∀ {x},lab x=t→rt x=r x:=fun h=>if_pos h
 have r0:∀ {x},¬ lab x=t→rt x=[]:=fun h=>if_neg h
 have rm:∀ {x y},y∈rt x↔y∈r x∧lab x=t:=fun {x y}=>by
  by_cases h:lab x=t
  ·rw [r1 h];exact ⟨fun z=>⟨z,h⟩,fun z=>z.1⟩
  ·rw [r0 h];exact ⟨fun z=>(by cases z),fun z=>absurd z.2 h⟩
 have hany:∀ {c},c∈cs→(c.any fun s=>decide (lab s.1=t))=true→∀ s∈c,lab s.2=t:=fun {c} hc h s hs=>by
  obtain ⟨q,hq,e⟩:=Yj.mp h
  rw [← la _ _ (C.inc hc hs),C.one_lab la hc hq hs]
  exact of_decide_eq_true e
 have W:Web (ns.filter fun x=>decide (lab x=t)) rt (cs.filter fun c=>c.any fun s=>decide (lab s.1=t)):=by
  refine ⟨C.nd.filter _,fun x hx=>?_,fun x=>?_,fun x h=>C.ir x (rm.mp h).1,fun x y h=>?_,Yu (zhy _ cs) C.cf,fun s=>?_,fun c hc=>?_⟩
  ·by_cases h:lab x=t
   ·rw [r1 h]
    exact C.ro x fun z=>hx (Zk.mpr ⟨z,decide_eq_true h⟩)
   ·exact r0 h
  ·by_cases h:lab x=t
   ·rw [r1 h];exact C.rn x
   ·rw [r0 h];exact Zo
  ·obtain ⟨h1,h2⟩:=rm.mp h
   exact rm.mpr ⟨C.sy _ _ h1,(la _ _ h1).trans h2⟩
  ·rw [rm]
   constructor
   ·intro h
    obtain ⟨c,hc,hs⟩:=Zt.mp h
    obtain ⟨h1,h2⟩:=Zk.mp hc
    exact ⟨C.inc h1 hs,hany h1 h2 s hs⟩
   ·rintro ⟨h1,h2⟩
    obtain ⟨c,hc,hs⟩:=Zt.mp ((C.cm s).mpr h1)
    exact Zt.mpr ⟨c,Zk.mpr ⟨hc,Yj.mpr ⟨s,hs,decide_eq_true ((la _ _ h1).trans h2)⟩⟩,hs⟩
  ·obtain ⟨h1,h2⟩:=Zk.mp hc
   refine zek (fun y hy=>?_) (C.cy c h1)
   show (y.2,nxt (rt y.2) y.1)=(y.2,nxt (r y.2) y.1)
   rw [r1 (hany h1 h2 y hy)]
 have e1:((ns.filter fun x=>decide (lab x=t)).map (vl rt)).sum=wt ns r lab t:=by
  rw [sum_filter]
  refine zcb fun x _=>?_
  by_cases h:lab x=t
  ·rw [if_pos (decide_eq_true h),if_pos h]
   unfold vl
   rw [r1 h]
  ·rw [if_neg (by simpa using h),if_neg h]
 have e2:=sum_two (fun c:List (α×α)=>c.any fun s=>decide (lab s.1=t)) cs
 obtain ⟨T,h1,h2,h3⟩:=genus _ W rfl
 unfold tot at h3
 rw [e1,← e2] at h3
 have hl:T.length≤1:=by
  match T,h1,h2 with
  | [],_,_=>exact Zd _
  | [_],_,_=>exact Qh _
  | a::b::T',h1,h2 =>
   obtain ⟨a1,a2⟩:=Zk.mp (h1 a Qb)
   obtain ⟨b1,b2⟩:=Zk.mp (h1 b (by simp))
   have a2:=of_decide_eq_true a2
   have b2:=of_decide_eq_true b2
   have key:∀ {y},Conn r a y→Conn rt a y∧lab y=t:=fun {y} h=>by
    induction h with
    | refl=>exact ⟨.refl,a2⟩
    | step _ hz ih=>exact ⟨.step ih.1 (rm.mpr ⟨hz,ih.2⟩),(la _ _ hz).trans ih.2⟩
   exact absurd (key (co a a1 b b1 (a2.trans b2.symm))).1 ((Kb.mp h2).1 b Qb)
 have:wt ns r lab t+ct cs lab t≤4*(T.length:Int):=h3
 omega
theorem tot_sum (C:Web ns r cs) (la:∀ x y,y∈r x→lab y=lab x) {L:List α} (h1:L.Nodup) (h2:∀ x∈ns,lab x∈L):(L.map fun l=>wt ns r lab l+ct cs lab l).sum=tot ns r cs:=by
 have e1:(L.map fun l=>wt ns r lab l).sum=(ns.map (vl r)).sum:=sum_exch h1 lab (vl r) h2
 have e2:(L.map fun l=>ct cs lab l).sum=2*(cs.length:Int):=by
  have key:∀ D:List (List (α×α)),(∀ c∈D,c∈cs)→(L.map fun l=>ct D lab l).sum=2*(D.length:Int):=by
   intro D
   induction D with
   | nil=>intro _;exact zdo fun _ _=>rfl
   | cons c D ih =>
    intro h
    have hc:=h c Qb
    obtain ⟨s,t,rfl,_⟩:=C.cy c hc
    have ha:lab s.1∈L:=h2 _ (C.inn (C.sy _ _ (C.inc hc Qb)))
    have hs:∀ l∈L,ct ((s::t)::D) lab l=(if lab s.1=l then 2 else 0)+ct D lab l:=fun l _=>by
     rw [zdi,zdk (fun u hu=>C.one_lab la hc Qb hu) (Kr _ _)]
     congr 1
     by_cases e:lab s.1=l
     ·rw [if_pos e,if_pos (decide_eq_true e)]
     ·rw [if_neg e,if_neg (fun z=>e (of_decide_eq_true z))]
    rw [zcb hs,zfo,zfn h1 ha,ih fun d hd=>h d (Qf _ hd),Qq];omega
  exact key cs fun _ h=>h
 rw [zfo,e1,e2]
 rfl
theorem all_four {g:α→Int}:∀ {L:List α},(∀ l∈L,g l≤4)→4*(L.length:Int)≤(L.map g).sum→∀ l∈L,g l=4:=by
 intro L
 induction L with
 | nil=>intro _ _ l hl;cases hl
 | cons a t ih =>
  intro h hs l hl
  rw [Qk,Ze,Qq] at hs
  have ha:=h a Qb
  have ht:(t.map g).sum≤4*(t.length:Int):=by
   clear ih hs hl ha
   induction t with
   | nil=>exact Int.le_refl _
   | cons b t ih =>
    rw [Qk,Ze,Qq]
    have:=h b (by simp)
    have:=ih fun x hx=>h x (by rcases Qe.mp hx with z | z <;> simp [z])
    omega
  rcases Qe.mp hl with z | z
  ·rw [z];omega
  ·exact ih (fun x hx=>h x (Qf _ hx)) (by omega) l z
theorem flat_cert (F:Flat ns r cs):∃ lab,Cert ns r cs lab:=by
 have C:=F.toWeb
 let f:α→Option α:=fun x=>ns.find? fun y=>@decide (Conn r x y) (Classical.propDecidable _)
 have hf:∀ {x},x∈ns→∃ y,f x=some y∧y∈ns∧Conn r x y:=fun {x} hx=>by
  cases e:f x with
  | none=>exact absurd (@decide_eq_true _ (Classical.propDecidable _) (Conn.refl (r:=r) (x:=x))) (List.find?_eq_none.mp e x hx)
  | some y =>
   have h:=List.find?_some (p:=fun y=>@decide (Conn r x y) (Classical.propDecidable _)) e
   exact ⟨y,rfl,List.mem_of_find?_eq_some e,@of_decide_eq_true _ (Classical.propDecidable _) h⟩
 have hs:∀ {x y},Conn r x y→f x=f y:=fun {x y} h=>by
  show ns.find? _=ns.find? _
  congr 1
  funext z
  congr 1
  exact propext ⟨fun q=>(h.symm C.sy).trans q,fun q=>h.trans q⟩
 let lab:α→α:=fun x=>(f x).getD x
 have hl:∀ {x},x∈ns→lab x∈ns∧Conn r x (lab x):=fun {x} hx=>by
  obtain ⟨y,e,h1,h2⟩:=hf hx
  show (f x).getD x∈ns∧Conn r x ((f x).getD x)
  rw [e];exact ⟨h1,h2⟩
 have he:∀ {x y},x∈ns→y∈ns→Conn r x y→lab x=lab y:=fun {x y} hx hy h=>by
  obtain ⟨z,e,_⟩:=hf hy
  show (f x).getD x=(f y).getD y
  rw [hs h,e];rfl
 have la:∀ x y,y∈r x→lab y=lab x:=fun x y h=>(he (C.inn h) (C.inn (C.sy _ _ h)) (.step .refl h)).symm
 have co:∀ x∈ns,∀ y∈ns,lab x=lab y→Conn r x y:=fun x hx y hy e=>by
  have h1:=(hl hx).2
  rw [e] at h1
  exact h1.trans ((hl hy).2.symm C.sy)
 obtain ⟨L,h1,h2,h3⟩:=labels lab ns
 have hL:∀ l∈L,l∈ns∧lab l=l:=fun l hl'=>by
  obtain ⟨x,hx,e⟩:=h3 l hl'
  obtain ⟨a,b⟩:=hl hx
  refine ⟨e ▸ a,?_⟩
  have:=he hx a b
  rw [e] at this
  exact this.symm
 have fl:=F.fl L (fun l h=>(hL l h).1) (Kk (fun {x y} hx hy hxy hc=>hxy (by
  have:=he (hL x hx).1 (hL y hy).1 hc
  rwa [(hL x hx).2,(hL y hy).2] at this)) h1)
 rw [← tot_sum C la h1 h2] at fl
 have four:=all_four (fun l _=>piece_le C la co l) fl
 exact ⟨lab,C.nd,C.ro,C.rn,C.ir,C.sy,C.cf,C.cm,C.cy,fun x hx=>(hl hx).1,la,co,fun x hx=>four _ (h2 x hx)⟩
theorem cert_less {v u:α} (C:Cert ns r cs lab) (L:Less r r' v u):∃ cs' lab',Cert ns r' cs' lab':=by
 obtain ⟨cs',F⟩:=flat_less (cert_flat C) L
 obtain ⟨lab',C'⟩:=flat_cert F
 exact ⟨cs',lab',C'⟩
end
section
variable {α β:Type} [DecidableEq α] [DecidableEq β] {ns:List α} {r:α→List α} {cs:List (List (α×α))} {f:α→β}
theorem idx_map (hf:∀ x y,f x=f y→x=y) (w:α):∀ zs:List α,(zs.map f).idxOf (f w)=zs.idxOf w
 | []=>rfl
 | a::t=>by
  rw [Qk,Kv,Kv,idx_map hf w t]
  by_cases h:a=w
  ·rw [h,beq_self_eq_true,beq_self_eq_true]
  ·rw [beq_eq_false_iff_ne.mpr h,beq_eq_false_iff_ne.mpr fun e=>h (hf _ _ e)]
theorem nxt_map (hf:∀ x y,f x=f y→x=y) (zs:List α) (w:α):nxt (zs.map f) (f w)=f (nxt zs w):=by
 unfold nxt
 rw [idx_map hf,Qa,Yh,Yh,Qn]
 cases zs[(zs.idxOf w+1) % zs.length]? <;> rfl
theorem lk_map {γ δ:Type} {F:γ→γ} {G:δ→δ} {g:γ→δ} {e:γ}:∀ {t:List γ} {s:γ},(∀ y,y=s∨y∈t→G (g y)=g (F y))→Lk F s t e→Lk G (g s) (t.map g) (g e):=by
 intro t
 induction t with
 | nil=>intro s h k;exact (h s (.inl rfl)).trans (congrArg g k)
 | cons a t ih =>
  intro s h k
  exact ⟨(h s (.inl rfl)).trans (congrArg g k.1),ih (fun y hy=>h y (.inr (Qe.mpr hy))) k.2⟩
theorem cert_map (hf:∀ x y,f x=f y→x=y) {a:α} (C:Cert ns r cs fun _=>a) {r':β→List β} (hr:∀ x,r' (f x)=(r x).map f) (hr0:∀ y,(∀ x,y≠f x)→r' y=[]) (ha:a∈ns) :
  Cert (ns.map f) r' (cs.map fun c=>c.map fun s=>(f s.1,f s.2)) fun _=>f a:=by
 have hm:∀ {y z},z∈r' y→∃ x w,y=f x∧z=f w∧w∈r x:=fun {y z} h=>by
  by_cases hy:∃ x,y=f x
  ·obtain ⟨x,rfl⟩:=hy
   rw [hr] at h
   obtain ⟨w,hw,rfl⟩:=Qi.mp h
   exact ⟨x,w,rfl,rfl,hw⟩
  ·rw [hr0 y fun x e=>hy ⟨x,e⟩] at h
   cases h
 have hb:∀ {x w},w∈r x→f w∈r' (f x):=fun h=>by rw [hr];exact Qi.mpr ⟨_,h,rfl⟩
 have hg:∀ s t:α×α,(f s.1,f s.2)=(f t.1,f t.2)→s=t:=fun s t e=>Jp (hf _ _ (congrArg Prod.fst e)) (hf _ _ (congrArg Prod.snd e))
 have hmn:∀ {l:List α},l.Nodup→(l.map f).Nodup:=fun nd=>Ww.mpr (nd.imp fun h e=>h (hf _ _ e))
 have hfl:(cs.map fun c=>c.map fun s=>(f s.1,f s.2)).flatten=cs.flatten.map fun s=>(f s.1,f s.2):=List.map_flatten.symm
 refine ⟨hmn C.nd,fun y hy=>?_,fun y=>?_,fun y h=>?_,fun x y h=>?_,?_,fun s=>?_,fun c hc=>?_,fun x hx=>Qi.mpr ⟨a,ha,rfl⟩,fun _ _ _=>rfl,fun x hx y hy _=>?_,fun x hx=>?_⟩
 ·cases e:r' y with
  | nil=>rfl
  | cons z t =>
   obtain ⟨x,w,rfl,_,hw⟩:=hm (y:=y) (z:=z) (by rw [e];exact Qb)
   exact absurd (Qi.mpr ⟨x,C.inn hw,rfl⟩) hy
 ·by_cases hy:∃ x,y=f x
  ·obtain ⟨x,rfl⟩:=hy
   rw [hr];exact hmn (C.rn x)
  ·rw [hr0 y fun x e=>hy ⟨x,e⟩];exact Zo
 ·obtain ⟨x,w,e1,e2,hw⟩:=hm h
  have:=hf _ _ (e1.symm.trans e2)
  subst this
  exact C.ir _ hw
 ·obtain ⟨a,w,rfl,rfl,hw⟩:=hm h
  exact hb (C.sy _ _ hw)
 ·rw [hfl]
  exact Ww.mpr (C.cf.imp fun h e=>h (hg _ _ e))
 ·rw [hfl]
  constructor
  ·intro h
   obtain ⟨t,ht,rfl⟩:=Qi.mp h
   exact hb ((C.cm t).mp ht)
  ·intro h
   obtain ⟨x,w,e1,e2,hw⟩:=hm h
   exact Qi.mpr ⟨(w,x),(C.cm (w,x)).mpr hw,Jp e2.symm e1.symm⟩
 ·obtain ⟨c0,hc0,rfl⟩:=Qi.mp hc
  obtain ⟨s,t,rfl,k⟩:=C.cy c0 hc0
  refine ⟨(f s.1,f s.2),_,rfl,lk_map (g:=fun s:α×α=>(f s.1,f s.2)) (fun y _=>?_) k⟩
  show (f y.2,nxt (r' (f y.2)) (f y.1))=(f y.2,f (nxt (r y.2) y.1))
  rw [hr,nxt_map hf]
 ·obtain ⟨x0,hx0,rfl⟩:=Qi.mp hx
  obtain ⟨y0,hy0,rfl⟩:=Qi.mp hy
  have:=C.co x0 hx0 y0 hy0 rfl
  clear hy hy0
  induction this with
  | refl=>exact .refl
  | step _ hz ih=>exact .step ih (hb hz)
 ·have e1:wt (ns.map f) r' (fun _=>f a) (f a)=wt ns r (fun _=>a) a:=by
   unfold wt
   rw [Zn]
   refine zcb fun x _=>?_
   show (if f a=f a then _ else _)=_
   rw [if_pos rfl,if_pos rfl,hr,Qa]
   simp only [List.map_eq_nil_iff]
  have e2:ct (cs.map fun c=>c.map fun s=>(f s.1,f s.2)) (fun _=>f a) (f a)=ct cs (fun _=>a) a:=by
   unfold ct
   rw [Zn]
   refine zcb fun c _=>?_
   show (if (List.any (c.map fun s=>(f s.1,f s.2)) fun s=>decide (f a=f a))=true then _ else _)=_
   rw [List.any_map]
   simp only [Function.comp_def,decide_true]
  rw [e1,e2]
  exact C.eu a ha
end
def icR:Fin 12→List (Fin 12)
 | 0=>[10,1,6,5,4] | 1=>[10,2,7,6,0] | 2=>[10,3,8,7,1] | 3=>[10,4,9,8,2] | 4=>[10,0,5,9,3]
 | 5=>[11,9,4,0,6] | 6=>[11,5,0,1,7] | 7=>[11,6,1,2,8] | 8=>[11,7,2,3,9] | 9=>[11,8,3,4,5]
 | 10=>[4,3,2,1,0] | 11=>[5,6,7,8,9]
def icN:List (Fin 12):=[0,5,1,6,2,7,3,8,4,9,10,11]
def icT:List (Fin 12×Fin 12×Fin 12):=[(10,0,1),(1,0,6),(6,0,5),(5,0,4),(4,0,10),(10,1,2),(2,1,7),(7,1,6),(10,2,3),(3,2,8),(8,2,7),(10,3,4),(4,3,9),(9,3,8),(5,4,9),(11,5,9),(6,5,11),(7,6,11),(8,7,11),(9,8,11)]
def icC:List (List (Fin 12×Fin 12)):=icT.map fun t=>[(t.1,t.2.1),(t.2.1,t.2.2),(t.2.2,t.1)]
theorem ic_cert:Cert icN icR icC fun _=>10:=by
 have cyc:∀ t∈icT,st icR (t.1,t.2.1)=(t.2.1,t.2.2)∧st icR (t.2.1,t.2.2)=(t.2.2,t.1)∧st icR (t.2.2,t.1)=(t.1,t.2.1):=by decide +kernel
 have cm:∀ a b:Fin 12,(a,b)∈icC.flatten↔a∈icR b:=by decide +kernel
 have all:∀ x:Fin 12,x∈icN:=by decide +kernel
 have far:∀ x:Fin 12,x=10∨x∈icR 10∨(∃ y∈icR 10,x∈icR y)∨∃ y∈icR 10,∃ z∈icR y,x∈icR z:=by decide +kernel
 have sy:∀ x y:Fin 12,y∈icR x→x∈icR y:=by decide +kernel
 have con:∀ x:Fin 12,Conn icR 10 x:=fun x=>by
  rcases far x with rfl | h | ⟨y,h1,h2⟩ | ⟨y,h1,z,h2,h3⟩
  ·exact .refl
  ·exact .step .refl h
  ·exact .step (.step .refl h1) h2
  ·exact .step (.step (.step .refl h1) h2) h3
 refine ⟨by decide +kernel,fun x hx=>absurd (all x) hx,by decide +kernel,by decide +kernel,sy,by decide +kernel,fun s=>cm s.1 s.2,fun c hc=>?_,fun _ _=>all _,fun _ _ _=>rfl,fun x _ y _ _=>((con x).symm sy).trans (con y),fun x _=>by decide +kernel⟩
 obtain ⟨t,ht,rfl⟩:=Qi.mp hc
 obtain ⟨h1,h2,h3⟩:=cyc t ht
 exact ⟨_,_,rfl,h1,h2,h3⟩
end Wb
end
section
namespace K21
open PySem L2 Wb
abbrev zft:Stmt:=top 15
structure BAt (H:Hp) (b:Addr) (bs:List ((Str×Str)×Addr)) (r:Str→List Str):Prop where
 dc:H b=some (.dT (bs.map fun e=>(kP e.1,V.ref e.2)))
 tp:∀ e∈bs,H e.2=some (.tup [.str (st r e.1).1,.str (st r e.1).2])
 nd:(bs.map (·.1)).Nodup
theorem BAt.keep {H H':Hp} {b:Addr} {bs:List ((Str×Str)×Addr)} {r:Str→List Str} {xs:List Addr} (h:BAt H b bs r) (k:Keep xs H H') (hb:b∉xs) (ht:∀ e∈bs,e.2∉xs):BAt H' b bs r :=
 ⟨k _ _ h.dc hb,fun e he=>k _ _ (h.tp e he) (ht e he),h.nd⟩
theorem kP_inj {s u:Str×Str} (h:kP s=kP u):s=u:=by
 unfold kP at h
 injection h with h1 h2
 injection h2 with h2 _
 exact Jp (Wm h1) (Wm h2)
theorem valT_out {bs:List ((Str×Str)×Addr)} {s:Str×Str} (h:s∉bs.map (·.1)):valV (bs.map fun e=>(kP e.1,V.ref e.2)) (kP s)=none:=by
 induction bs with
 | nil=>rfl
 | cons a t ih =>
  rw [Qk,Qe,not_or] at h
  rw [Qk,zbp]
  ·exact ih h.2
  ·intro q;exact h.1 (kP_inj q).symm
theorem valT_in {bs:List ((Str×Str)×Addr)} (nd:(bs.map (·.1)).Nodup) {e:(Str×Str)×Addr} (h:e∈bs):valV (bs.map fun e=>(kP e.1,V.ref e.2)) (kP e.1)=some (.ref e.2):=by
 induction bs with
 | nil=>cases h
 | cons a t ih =>
  rw [Qk,Qt] at nd
  rw [Qk]
  rcases Qe.mp h with z | z
  ·subst z;exact zcm rfl
  ·rw [zbp]
   ·exact ih nd.2 z
   ·intro q
    exact nd.1 (by rw [kP_inj q];exact Qi.mpr ⟨e,z,rfl⟩)
inductive IspSteps (vs:List V) (H:Hp) (Q:VK):Prop
 | mk (d:Addr) (es:List Ent) (h0:vs=[.ref d]) (h1:TAt H d es) (h2:es.length≤100) (h3:(∀ e∈es,e.2.1.Nodup∧e.2.1.length≤100)) (h4:∀ (b:Addr) (bs:List ((Str×Str)×Addr)) (H':Hp),BAt H' b bs (row (rsOf es))→(∀ s,s∈bs.map (·.1)↔s.1∈row (rsOf es) s.2)→bs.length≤10000→H b=none→Keep [] H H'→Q (.ref b) H'):IspSteps vs H Q
def spSteps:Sp:=fun vs H Q _=>IspSteps vs H Q
def pidx (n j:Nat):Nat:=if j=0 then n - 1 else j - 1
theorem atI_prev {zs:List V} {j:Nat} (hj:j < zs.length):atI zs ((j:Int) - 1)=zs[pidx zs.length j]?:=by
 unfold pidx
 by_cases h:j=0
 ·subst h
  rw [if_pos rfl]
  unfold atI ixN
  have e1:¬ (0:Int)≤((0:Nat):Int) - 1:=by lia
  have e2:-(zs.length:Int)≤((0:Nat):Int) - 1:=by lia
  rw [if_neg e1,if_pos e2]
  show zs[(((0:Nat):Int) - 1+(zs.length:Int)).toNat]?=_
  congr 1;lia
 ·rw [if_neg h]
  have e:(j:Int) - 1=((j - 1:Nat):Int):=by lia
  rw [e,zbo (Qc (by lia)),Qc (by lia)]
theorem idx_at {zs:List Str} (nd:zs.Nodup) {i:Nat} (hi:i < zs.length):zs.idxOf zs[i]=i:=by
 have h1:zs.idxOf zs[i] < zs.length:=idx_lt (Qr hi)
 have h2:zs[zs.idxOf zs[i]]=zs[i]:=List.getElem_idxOf h1
 exact (Uf nd).mp h2
theorem nxt_idx {zs:List Str} (nd:zs.Nodup) {j:Nat} (hj:j < zs.length) (hp:pidx zs.length j < zs.length):nxt zs zs[pidx zs.length j]=zs[j]:=by
 unfold nxt
 rw [idx_at nd hp]
 have e:(pidx zs.length j+1) % zs.length=j:=by
  unfold pidx
  by_cases h:j=0
  ·rw [if_pos h,h]
   have:zs.length - 1+1=zs.length:=by lia
   rw [this,Nat.mod_self]
  ·rw [if_neg h]
   have:j - 1+1=j:=by lia
   rw [this,Nat.mod_eq_of_lt hj]
 rw [e,Yh,Qc hj];rfl
section
variable {P:Program} {w:World} {K:PySem.W.Frag} {mg:Str→Option Value} {base:Heap}
theorem zes:zas ["rounds", "behind", "place", "around", "at", "to"] ["rounds"] (zaf zft):=⟨rfl,rfl,rfl,by decide +kernel,rfl,by decide +kernel,by decide +kernel⟩
theorem ok_steps {f:Addr} {fd:FuncData} (F:Fun K "steps_behind" "steps_behind" zft f fd) (henum:mg "enumerate" = none):FnOk P w K mg base CX0 1 f fd ["rounds"] spSteps:=by
 refine F.ok zes (fun vs H Q E h=>?_) (fun cdv A outer s H vs Q E hr h=>?_)
 ·obtain ⟨d,es,rfl,_⟩:=h
  rfl
 ·obtain ⟨d,es,rfl,T,hes,hok,k⟩:=h
  have hu:=zce hr
  have hs0:sizeLine=16777216:=sizeLine_eq
  refine ⟨_,zae (zam (i:=1) zes.nd rfl (Or.inl rfl) pe_dnewT)
   (zae (zhk (zbe Zg rfl (zd0 (pv 0)) (zaj (i:=2) zes.nd rfl (Or.inl rfl))
    (zae (zam (i:=3) zes.nd rfl (Or.inl rfl) (zau hu (pv 0) (pv 2) (fun _ _=>rfl)))
    (zah (zbe Zg rfl (pi_enum rfl henum (zab (pv 3) zag)) (zgz rfl (zbc (zaj (i:=4) zes.nd rfl (Or.inl rfl)) (zbc (zaj (i:=5) zes.nd rfl (Or.inl rfl)) zdf)))
     (zah (zbv hu (pv 1) (zfx (zab (zbb zgc (pv 3) (zaz op_sub (pv 4) zai) (fun _ _=>rfl)) (zab (pv 2) zag))) (zfx (zab (pv 2) (zab (pv 5) zag))) rfl)))))))
   (zah (zbk (pv 1)))),?_⟩
  refine fun b hb=>?_
  have nfz:∀ o' u',H d≠some (.frz o' u'):=fun o' u' z=>by rw [T.dc] at z;cases z
  have nbd:d≠b:=zaa T.dc hb
  have k1:Keep [] H (upd H b (.dT [])):=Keep.new hb
  have hb1:BAt (upd H b (.dT [])) b [] (row (rsOf es)):=⟨zac,fun e he=>(by cases he),Zo⟩
  have T1:TAt (upd H b (.dT [])) d es:=T.keep k1 (by simp) (fun _ _=>by simp)
  generalize upd H b (.dT [])=H1 at k1 hb1 T1
  have hbm:∀ {H':Hp} {bs:List ((Str×Str)×Addr)},BAt H' b bs (row (rsOf es))→b≠d:=fun _=>Zl nbd
  refine ⟨_,rfl,d,_,rfl,T1.dc,fun o=>zhx (fun i σ H'=>Aj4 (Ex4 fun x2 x3 x4 x5=>σ=[some (.ref d),some (.ref b),x2,x3,x4,x5]) (H' d=some (.frz o (.dK (es.map fun e=>((Sum.inr e.1:Key),V.ref e.2.2))))) (Keep [d,b] H1 H') (Ex1 fun bs=>Aj3 (BAt H' b bs (row (rsOf es))) (bs.length≤100*i) (∀ s,s∈bs.map (·.1)↔s.2∈(es.take i).map (·.1)∧s.1∈row (rsOf es) s.2)))
   ⟨⟨_,_,_,_,rfl⟩,zac,Keep.wr (by simp),[],hb1.keep (xs:=[d]) (Keep.wr (by simp)) (by simpa using Zl nbd) (fun e he=>by cases he),Zd _,fun s=>⟨fun h=>(by cases h),fun h=>(by cases h.1)⟩⟩
   (fun i σ H' _ hh=>hh.2) ?_ ?_⟩
  ·rintro i pr σ H2 hpr ⟨⟨x2,x3,x4,x5,rfl⟩,hz,k2,bs,hb2,hbl,hks⟩
   have hi:i < es.length:=by
    have:=(Qz.mp hpr).1
    rwa [Qa] at this
   have g1:pr=((Sum.inr es[i].1:Key),V.ref es[i].2.2):=by
    rw [Qn,Qc hi] at hpr
    exact (Qm hpr).symm
   subst g1
   have hei:es[i]∈es:=Qr hi
   obtain ⟨hnd,hln⟩:=hok _ hei
   have hrw:row (rsOf es) es[i].1=es[i].2.1:=zb3 T.nd hei
   have hri1:=T1.ro _ hei
   have nrd:es[i].2.2≠d:=za0 hri1 T1.dc (by intro z;cases z)
   have nrb:es[i].2.2≠b:=za0 hri1 hb1.dc (by intro z;cases z)
   have hri2:=k2 _ _ hri1 (by simp [nrd,nrb])
   refine ⟨_,rfl,_,rfl,d,.ref es[i].2.2,rfl,.inl ⟨_,Sum.inr es[i].1,.inr ⟨o,hz⟩,rfl,(zbx T.nd hei).symm⟩,?_⟩
   have hnew:es[i].1∉(es.take i).map (·.1):=by
    have h1:(es.map (·.1)).take (i+1)=(es.map (·.1)).take i++[es[i].1]:=by
     rw [Qg (by rw [Qa];exact hi),Yi]
    have h2:((es.map (·.1)).take (i+1)).Nodup:=Yu (Ul _ _) T.nd
    rw [h1,Za,← Ui] at h2
    exact fun z=>h2.2.2 _ z _ (Qd.mpr rfl) rfl
   refine ⟨_,rfl,es[i].2.2,rfl,⟨_,SqT.of hri2⟩,for_enum (xs:=es[i].2.1.map V.str) (fun j σ H'=>Aj4 (Ex2 fun x4 x5=>σ=[some (.ref d),some (.ref b),some (.str es[i].1),some (.ref es[i].2.2),x4,x5]) (H' d=some (.frz o (.dK (es.map fun e=>((Sum.inr e.1:Key),V.ref e.2.2))))) (Keep [d,b] H1 H') (Ex1 fun bs=>Aj3 (BAt H' b bs (row (rsOf es))) (bs.length≤100*i+j) (∀ s,s∈bs.map (·.1)↔(s.2∈(es.take i).map (·.1)∧s.1∈row (rsOf es) s.2)∨∃ (m:Nat) (hm:m < j) (hp:pidx es[i].2.1.length m < es[i].2.1.length),s=(es[i].2.1[pidx es[i].2.1.length m],es[i].1))))
    ⟨⟨_,_,rfl⟩,hz,k2,bs,hb2,hbl,fun s=>(hks s).trans ⟨.inl,fun h=>by
     rcases h with z | ⟨m,hm,_⟩
     ·exact z
     ·exact absurd hm (Kt m)⟩⟩ (fun j σ H' _ hh=>hh.3 _ _ hri1 (by simp [nrd,nrb])) ?_ ?_⟩
   ·rintro j y t σ H3 hy ⟨⟨y4,y5,rfl⟩,hz3,k3,bs3,hb3,hbl3,hks3⟩ ht
    have hj:j < es[i].2.1.length:=by
     have:=(Qz.mp hy).1
     rwa [Qa] at this
    have hyz:y=.str es[i].2.1[j]:=by
     rw [Qn,Qc hj] at hy
     exact (Qm hy).symm
    subst hyz
    have hpj:pidx es[i].2.1.length j < es[i].2.1.length:=by unfold pidx;split <;> lia
    have hri3:=k3 _ _ hri1 (by simp [nrd,nrb])
    have k4:Keep [] H3 (upd H3 t (.tup [.int j,.str es[i].2.1[j]])):=Keep.new ht
    refine ⟨t,_,rfl,SqT.of zac,rfl,_,_,rfl,_,_,rfl,rfl,?_⟩
    generalize upd H3 t (.tup [.int j,.str es[i].2.1[j]])=H4 at k4
    refine ⟨_,rfl,_,rfl,(by show 2≤sizeLine;decide),fun v hv=>?_⟩
    have k5:Keep [] H4 (upd H4 v (.tup [.str es[i].1,.str es[i].2.1[j]])):=Keep.new hv
    have hv5:(upd H4 v (.tup [.str es[i].1,.str es[i].2.1[j]])) v=some (.tup [.str es[i].1,.str es[i].2.1[j]]):=zac
    generalize upd H4 v (.tup [.str es[i].1,.str es[i].2.1[j]])=H5 at k5 hv5
    have k35:Keep [] H3 H5:=k4.trans k5
    have hri5:=k35 _ _ hri3 (by simp)
    have hat:atI (es[i].2.1.map V.str) ((j:Int) - 1)=some (.str es[i].2.1[pidx es[i].2.1.length j]):=by
     rw [atI_prev (by rw [Qa];exact hj),Qa,Qn,Qc hpj];rfl
    refine ⟨_,rfl,_,rfl,_,rfl,_,_,rfl,rfl,es[i].2.2,_,_,_,rfl,rfl,SqT.of hri5,hat,_,rfl,(by show 2≤sizeLine;decide),fun q hq=>?_⟩
    have k6:Keep [] H5 (upd H5 q (.tup [.str es[i].2.1[pidx es[i].2.1.length j],.str es[i].1])):=Keep.new hq
    have hq6:(upd H5 q (.tup [.str es[i].2.1[pidx es[i].2.1.length j],.str es[i].1])) q=some (.tup ((kP (es[i].2.1[pidx es[i].2.1.length j],es[i].1)).map kV)):=zac
    generalize upd H5 q (.tup [.str es[i].2.1[pidx es[i].2.1.length j],.str es[i].1])=H6 at k6 hq6
    have k36:Keep [] H3 H6:=k35.trans k6
    have hb6:BAt H6 b bs3 (row (rsOf es)):=hb3.keep k36 (by simp) (fun _ _=>by simp)
    have hv6:=k6 _ _ hv5 (by simp)
    have hz6:=k36 _ _ hz3 (by simp)
    refine ⟨b,_,rfl,DPut.t hb6.dc hq6 (by rw [Qa];lia),?_⟩
    have hfresh:(es[i].2.1[pidx es[i].2.1.length j],es[i].1)∉bs3.map (·.1):=fun z=>by
     rcases (hks3 _).mp z with ⟨z1,_⟩ | ⟨m,hm,hpm,e⟩
     ·exact hnew z1
     ·have e1:=(Jo e).1
      have e2:=(Uf hnd).mp e1
      unfold pidx at e2
      by_cases hj0:j=0
      ·lia
      ·rw [if_neg hj0] at e2
       by_cases hm0:m=0
       ·rw [if_pos hm0] at e2;lia
       ·rw [if_neg hm0] at e2;lia
    have hput:putK (bs3.map fun e=>(kP e.1,V.ref e.2)) (kP (es[i].2.1[pidx es[i].2.1.length j],es[i].1)) (.ref v)=(bs3++[((es[i].2.1[pidx es[i].2.1.length j],es[i].1),v)]).map fun e=>(kP e.1,V.ref e.2):=by
     rw [zea _ (valT_out hfresh),Qo];rfl
    have hst:st (row (rsOf es)) (es[i].2.1[pidx es[i].2.1.length j],es[i].1)=(es[i].1,es[i].2.1[j]):=by
     show (es[i].1,nxt (row (rsOf es) es[i].1) es[i].2.1[pidx es[i].2.1.length j])=_
     rw [hrw,nxt_idx hnd hj hpj]
    refine ⟨⟨_,_,rfl⟩,by rw [zad nbd];exact hz6,(k3.trans (k36.sub (by simp))).trans (Keep.wr (by simp)),_,⟨by rw [zac,hput],fun e he=>?_,?_⟩,?_,fun s=>?_⟩
    ·rcases Ql.mp he with z | z
     ·have:=hb6.tp e z
      rw [zad (za0 this hb6.dc (by intro z;cases z))];exact this
     ·rw [Qd.mp z,hst,zad (za0 hv6 hb6.dc (by intro z;cases z))];exact hv6
    ·rw [Qo,Za]
     refine ⟨hb3.nd,Qt.mpr ⟨by simp,Zo⟩,fun x hx y hy e=>?_⟩
     have hy':y=(es[i].2.1[pidx es[i].2.1.length j],es[i].1):=by simpa using hy
     exact hfresh (by rw [← hy',← e];exact hx)
    ·rw [Qw];show _+1≤_;exact zar4 ‹_›
    ·rw [Qo,Ql,hks3]
     constructor
     ·rintro ((z | ⟨m,hm,hp,e⟩) | z)
      ·exact .inl z
      ·exact .inr ⟨m,by exact zar16 ‹_›,hp,e⟩
      ·exact .inr ⟨j,by exact Qh _,hpj,by simpa using z⟩
     ·rintro (z | ⟨m,hm,hp,e⟩)
      ·exact .inl (.inl z)
      ·by_cases hmj:m < j
       ·exact .inl (.inr ⟨m,hmj,hp,e⟩)
       ·have:m=j:=by lia
        subst this
        exact .inr (by rw [e];exact Qb)
   ·rintro σ H3 ⟨⟨y4,y5,rfl⟩,hz3,k3,bs3,hb3,hbl3,hks3⟩
    rw [Qa] at hks3 hbl3
    refine ⟨⟨_,_,_,_,rfl⟩,hz3,k3,bs3,hb3,by lia,fun s=>(hks3 s).trans ?_⟩
    have hts:(es.take (i+1)).map (·.1)=(es.take i).map (·.1)++[es[i].1]:=by rw [Qg hi,Qo];rfl
    rw [hts,Ql,Qd]
    constructor
    ·rintro (⟨z1,z2⟩ | ⟨m,hm,hp,e⟩)
     ·exact ⟨.inl z1,z2⟩
     ·rw [e];exact ⟨.inr rfl,by rw [hrw];exact Qr hp⟩
    ·rintro ⟨z1 | z1,z2⟩
     ·exact .inl ⟨z1,z2⟩
     ·refine .inr ?_
      rw [z1,hrw] at z2
      obtain ⟨q,hq,e⟩:=Zq z2
      by_cases hlast:q+1 < es[i].2.1.length
      ·have hp0:pidx es[i].2.1.length (q+1) < es[i].2.1.length:=by unfold pidx;rw [if_neg (by lia)];assumption
       refine ⟨q+1,hlast,hp0,Jp ?_ z1⟩
       show s.1=es[i].2.1[pidx es[i].2.1.length (q+1)]
       rw [← e];congr 1
      ·have hp0:pidx es[i].2.1.length 0 < es[i].2.1.length:=by unfold pidx;rw [if_pos rfl];lia
       refine ⟨0,by lia,hp0,Jp ?_ z1⟩
       show s.1=es[i].2.1[pidx es[i].2.1.length 0]
       rw [← e];congr 1
       unfold pidx;rw [if_pos rfl];lia
  ·rintro σ H2 ⟨⟨x2,x3,x4,x5,rfl⟩,hz,k2,bs,hb2,hbl,hks⟩
   rw [Qa] at hks hbl
   rw [Qp (Qh _)] at hks
   refine ⟨d,o,_,hz,nfz,?_⟩
   have kf:Keep [] H (upd H2 d (.dK (es.map fun e=>((Sum.inr e.1:Key),V.ref e.2.2)))):=fun c u ec _=>by
    have nc:c≠b:=zaa ec hb
    by_cases hcd:c=d
    ·subst hcd
     rw [zac,← T.dc];exact ec
    ·rw [zad hcd]
     exact k2 c u (k1 c u ec (by simp)) (by simp [hcd,nc])
   refine ⟨_,rfl,k b bs _ (hb2.keep (xs:=[d]) (Keep.wr (by simp)) (by simpa using Zl nbd) (fun e he=>by simpa using za0 (hb2.tp e he) hz (by intro z;cases z))) (fun s=>?_) (by lia) hb kf⟩
   rw [hks]
   constructor
   ·exact fun h=>h.2
   ·intro h
    refine ⟨?_,h⟩
    obtain ⟨p,hp,e,_⟩:=(zhu (rs:=rsOf es) (by unfold rsOf;rw [List.map_map];exact T.nd)).mpr h
    obtain ⟨en,hen,rfl⟩:=Qi.mp hp
    exact Qi.mpr ⟨en,hen,e⟩
end
abbrev zdd:Stmt:=top 16
def zc8 (H:Hp) (a:Addr) (h:Str):Prop:=∃ t:List Str,H a=some (.lst ((h::t).map V.str))
def ze0 (es:List Ent):List Str:=(es.filter fun e=>e.2.1.isEmpty).map (·.1)
inductive IspFaces (vs:List V) (H:Hp) (Q:VK):Prop
 | mk (d:Addr) (es:List Ent) (cs:List (List (Str×Str))) (lab:Str→Str) (h0:vs=[.ref d]) (h1:TAt H d es) (h2:es.length≤100) (h3:(∀ e∈es,e.2.1.length≤100)) (h4:Cert (es.map (·.1)) (row (rsOf es)) cs lab) (h5:∀ (l:Addr) (as:List Addr) (hd hc:List Str) (cs':List (List (Str×Str))) (H':Hp),H' l=some (.lst (as.map V.ref))→as.length≤20000→Paired (zc8 H') as hd→hd.Perm (ze0 es++hc)→cs'.Perm cs→Paired (fun h c=>∃ s∈c,s.1=h) hc cs'→Keep [] H H'→Q (.ref l) H'):IspFaces vs H Q
def spFaces:Sp:=fun vs H Q _=>IspFaces vs H Q
theorem pt_truthK {X:Cx} {K:PySem.W.Frag} {a:Expr} {ta:TE} (hK:X.K=K) (ha:PE X a ta) (he:∀ whole,isTrue a X.env whole=(do let v ← whole;standAt a.pos;holding [v] (truthy v))) :
  PT X a (fun σ H Q=>ta σ H fun x H'=>RTr K x H' Q):=hK ▸ zeb ha he
abbrev ze3:Scope:=scOf (eOf (sAt zdd 1))
theorem csFaces_k:ze3.kind=.function:=by rfl
theorem csFaces_c:∀ y∈ze3.names,y.2≠.cell:=by decide +kernel
theorem csFaces_n:∀ y∈ze3.names,y.2=.local→ze3.names.lookup y.1=some .local:=by decide +kernel
theorem csFaces_f:∀ y∈ze3.names,y.2=.free→(zaf zdd).names.lookup y.1=some .cell∨(zaf zdd).names.lookup y.1=some .free:=by decide +kernel
theorem csFaces_l:ze3.names.lookup ("rounds" : Str)=some NameKind.free:=by decide +kernel
theorem ndF:(["place", "rounds"]:List Str).Nodup:=by decide +kernel
theorem valG_out {gs:List (Str×Str)} {s:Str×Str} (h:s∉gs):valV (gs.map fun s=>(kP s,V.bl true)) (kP s)=none:=by
 induction gs with
 | nil=>rfl
 | cons a t ih =>
  rw [Qe,not_or] at h
  rw [Qk,zbp]
  ·exact ih h.2
  ·intro q;exact h.1 (kP_inj q).symm
theorem valG_in {gs:List (Str×Str)} {s:Str×Str} (h:s∈gs):valV (gs.map fun s=>(kP s,V.bl true)) (kP s)=some (.bl true):=by
 induction gs with
 | nil=>cases h
 | cons a t ih =>
  rw [Qk]
  by_cases e:a=s
  ·exact zcm (by rw [e])
  ·rw [zbp (fun q=>e (kP_inj q))]
   rcases Qe.mp h with z | z
   ·exact absurd z.symm e
   ·exact ih z
theorem lk_get {β:Type} {f:β→β} {e:β}:∀ {t:List β} {s:β},Lk f s t e→∀ k,k < (s::t).length→f ((s::t).getD k e)=(s::t).getD (k+1) e:=by
 intro t
 induction t with
 | nil =>
  intro s h k hk
  have:k=0:=by simp at hk;exact hk
  subst this;exact h
 | cons a t ih =>
  intro s h k hk
  cases k with
  | zero=>exact h.1
  | succ n =>
   have:=ih h.2 n (by simpa using hk)
   simpa using this
theorem zcx {H H':Hp} {D g:Addr} {fa:List Addr} {hd:List Str} {xs:List Addr} (k:Keep xs H H') (h:Paired (zc8 H) fa hd) (hx:∀ a (h:Str) (t:List Str),H a=some (.lst ((h::t).map V.str))→a∉xs):Paired (zc8 H') fa hd :=
 Paired.imp' (fun a h ⟨t,e⟩=>⟨t,k _ _ e (hx a h t e)⟩) h
theorem za3 {α β:Type} {R:α→β→Prop}:∀ {as as':List α} {bs bs':List β},Paired R as bs→Paired R as' bs'→Paired R (as++as') (bs++bs'):=by
 intro as as' bs bs' r r'
 induction r with
 | nil=>exact r'
 | cons h t ih=>exact .cons h ih
section
variable {P:Program} {w:World} {K:PySem.W.Frag} {mg:Str→Option Value} {base:Heap}
theorem zdb:zas ["rounds", "behind", "found", "gone", "first", "face", "step"] ["rounds"] (zaf zdd):=⟨rfl,rfl,rfl,by decide +kernel,rfl,by decide +kernel,by decide +kernel⟩
theorem ok_faces {f fs:Addr} {fd fds:FuncData} (F:Fun K "faces_of" "faces_of" zdd f fd) (FS:Fun K "steps_behind" "steps_behind" zft fs fds) (bS:Binds K fds ["rounds"] []) (mS:mg "steps_behind" = some (.ref fs)) (GS:FnOk P w K mg base CX0 1 fs fds ["rounds"] spSteps)
  (hsor:mg "sorted" = none):FnOk P w K mg base CX0 2 f fd ["rounds"] spFaces:=by
 refine F.ok zdb (fun vs H Q E h=>?_) (fun cdv A outer s H vs Q E hr h=>?_)
 ·obtain ⟨d,es,cs,lab,rfl,_⟩:=h
  rfl
 ·obtain ⟨d,es,cs,lab,rfl,T,hes,hrl,C,k⟩:=h
  have hu:=zce hr
  have hu8:(A.deeper (PyProof.Rows.envOfC "faces_of" (zaf zdd) s.heap.objs.size f cdv)).units+8 < cLine:=Ka (Nat.add_le_add_left (by decide:8≤64) _) hr.units
  have hs0:sizeLine=16777216:=sizeLine_eq
  refine ⟨_,zae (zam (i:=1) zdb.nd rfl (Or.inl rfl) (zal GS hr rfl mS FS.kp bS .nil zax (zab (pv 0) zag)))
   (zae (zhk (ps_lc (i:=2) (M:=["place", "rounds"]) (ix:=[none,some 0]) zdb.nd rfl rfl ⟨csFaces_k,csFaces_c,csFaces_n,csFaces_f,rfl,by decide +kernel,fun j i x h1 h2=>by
      match j,h1,h2 with
      | 0,_,h2=>cases h2
      | 1,h1,h2=>cases h1;cases h2;exact ⟨rfl,csFaces_l⟩
      | n+2,h1,_=>cases h1⟩ rfl (zd0 (pv 0)) (fun C pins ex s H=>zaj (i:=0) ndF rfl (Or.inl rfl) (Or.inr rfl))
     (fun C pins ex s H=>zc0 (pt_not (pt_truthK (K:=K) rfl (zau (by exact hu) (pv 1) (pv 0) (fun _ _=>rfl)) (by intro _;rfl)))) (fun C pins ex s H=>zbd (zab (pv 0) zag)) rfl))
   (zae (zam (i:=3) zdb.nd rfl (Or.inl rfl) pe_dnewT)
   (zae (zbe Zg rfl (zaw (zak (zgt rfl) (by rfl) hsor Yx (zab (pv 1) zag))) (zaj (i:=4) zdb.nd rfl (Or.inl rfl))
    (zae (zam (i:=5) zdb.nd rfl (Or.inl rfl) (zbd zag))
    (zae (zam (i:=6) zdb.nd rfl (Or.inl rfl) (pv 4))
    (zae (zec Zg (ze7 (zef hu (pv 6) (pv 3)))
     (zae (zbv hu (pv 3) (pv 6) pe_bl rfl)
     (zae (za8 (zee Zu Yw Yv zcc (pv 5) (zab (zbb zgc (pv 6) zai (fun _ _=>rfl)) zag)))
     (zah (zam (i:=6) zdb.nd rfl (Or.inl rfl) (zau hu (pv 1) (pv 6) (fun _ _=>rfl)))))))
    (zah (zcg (zeb (pv 5) (by intro _;rfl)) (zah (za8 (zee Zu Yw Yv zcc (pv 2) (zab (pv 5) zag)))) za4))))))
   (zah (zbk (zak (ze4 hu8) (by rfl) hsor Yx (zab (pv 2) zag))))))),?_⟩
  have hrow:∀ e∈es,row (rsOf es) e.1=e.2.1:=fun e he=>zb3 T.nd he
  refine ⟨_,rfl,d,es,rfl,T,hes,fun e he=>⟨hrow e he ▸ C.rn e.1,hrl e he⟩,fun b bs H1 hb1 hks hbl hbfr k1=>?_⟩
  have T1:TAt H1 d es:=T.keep k1 (by simp) (fun _ _=>by simp)
  have nfz:∀ o' u',H d≠some (.frz o' u'):=fun o' u' z=>by rw [T.dc] at z;cases z
  refine ⟨_,rfl,d,_,rfl,T1.dc,fun o=>⟨fun i m ys τ H2=>Aj6 (m=es.length - i) (i≤es.length) (Ex1 fun x0=>τ=[x0,some (.ref d)]) (H2 d=some (.frz o (.dK (es.map fun e=>((Sum.inr e.1:Key),V.ref e.2.2))))) (Keep [d] H1 H2) (Ex1 fun (as:List Addr)=>Aj3 (ys=as.map V.ref) (as.length≤i) (Paired (zc8 H2) as (ze0 (es.take i)))),
   ⟨es.length,rfl,Zd _,⟨none,rfl⟩,zac,Keep.wr Qb,[],rfl,Zd _,.nil⟩,?_⟩⟩
  rintro i m ys τ H2 ⟨rfl,hi,⟨x0,rfl⟩,hz,k2,fa,rfl,hfl,hpa⟩
  by_cases hlt:i < es.length
  ·refine .inr ⟨⟨hz,by rw [Qa];exact hlt⟩,by rw [Qa];lia,?_⟩
   rintro y H' ⟨rfl,pr,e1,rfl⟩
   have g1:pr=((Sum.inr es[i].1:Key),V.ref es[i].2.2):=by
    rw [Qn,Qc hlt] at e1
    exact (Qm e1).symm
   subst g1
   have hei:es[i]∈es:=Qr hlt
   have hri:=T1.ro _ hei
   have nri:es[i].2.2≠d:=za0 hri T1.dc (by intro z;cases z)
   have hri2:=k2 _ _ hri (by simpa using nri)
   have hts:es.take (i+1)=es.take i++[es[i]]:=Qg hlt
   refine ⟨_,rfl,_,rfl,d,.ref es[i].2.2,rfl,.inl ⟨_,Sum.inr es[i].1,.inr ⟨o,hz⟩,rfl,(zbx T.nd hei).symm⟩,_,.inr (.inl ⟨_,SqT.of hri2,rfl⟩),?_⟩
   have hem:(es[i].2.1.map V.str).isEmpty=es[i].2.1.isEmpty:=by cases es[i].2.1 <;> rfl
   cases hb:es[i].2.1.isEmpty with
   | false =>
    refine zbh (by rw [hem,hb];rfl) ⟨_,?_,rfl,hlt,⟨_,rfl⟩,hz,k2,fa,rfl,by exact zar16 ‹_›,?_⟩
    ·exact zar1 ‹_›
    ·unfold ze0
     rw [hts,Zs,Zj (by rw [hb];decide),Yd,Zr];exact hpa
   | true =>
    refine zb8 (by rw [hem,hb];rfl) ⟨_,rfl,(by show 1≤sizeLine;decide),fun q hq=>⟨_,?_,rfl,hlt,⟨_,rfl⟩,?_,k2.trans (Keep.new hq),fa++[q],?_,?_,?_⟩⟩
    ·exact zar1 ‹_›
    ·rw [zad (zaa hz hq)];exact hz
    ·rw [Qo];rfl
    ·rw [Qw];show _+1≤_;exact zar4 ‹_›
    ·unfold ze0
     rw [hts,Zs,Zi (by rw [hb]),Yd,Qo]
     exact za3 (zcx (D:=d) (g:=d) (xs:=[]) (Keep.new hq) hpa (fun _ _ _ _=>by simp)) (.cons ⟨[],zac⟩ .nil)
  ·have hie:i=es.length:=by exact zar3 ‹_› ‹_›
   subst hie
   rw [Qp (Qh _)] at hpa
   refine .inl ⟨⟨hz,by rw [Qa];exact Qh _⟩,fun D hD=>?_⟩
   have ndD:d≠D:=zaa hz hD
   refine ⟨d,o,_,(by rw [zad ndD];exact hz),nfz,?_⟩
   have k3:Keep [] H1 (upd (upd H2 D (.lst (fa.map V.ref))) d (.dK (es.map fun e=>((Sum.inr e.1:Key),V.ref e.2.2)))):=fun c u ec _=>by
    by_cases hcd:c=d
    ·subst hcd
     rw [zac,← T1.dc];exact ec
    ·have ec1:=k2 c u ec (by simpa using hcd)
     rw [zad hcd,zad (zaa ec1 hD)];exact ec1
   have hD3:(upd (upd H2 D (.lst (fa.map V.ref))) d (.dK (es.map fun e=>((Sum.inr e.1:Key),V.ref e.2.2)))) D=some (.lst (fa.map V.ref)):=by rw [zad (Zl ndD)];exact zac
   have hpa3:Paired (zc8 (upd (upd H2 D (.lst (fa.map V.ref))) d (.dK (es.map fun e=>((Sum.inr e.1:Key),V.ref e.2.2))))) fa (ze0 es):=Paired.imp' (fun a h ⟨t,e⟩=>⟨t,by
    rw [zad (za0 e hz (by intro z;cases z)),zad (zaa e hD)];exact e⟩) hpa
   generalize upd (upd H2 D (.lst (fa.map V.ref))) d (.dK (es.map fun e=>((Sum.inr e.1:Key),V.ref e.2.2)))=H3 at k3 hD3 hpa3
   have hb3:BAt H3 b bs (row (rsOf es)):=hb1.keep k3 (by simp) (fun _ _=>by simp)
   refine fun g hg=>?_
   have k4:Keep [] H3 (upd H3 g (.dT [])):=Keep.new hg
   have hg4:(upd H3 g (.dT [])) g=some (.dT []):=zac
   generalize upd H3 g (.dT [])=H4 at k4 hg4
   have hb4:BAt H4 b bs (row (rsOf es)):=hb3.keep k4 (by simp) (fun _ _=>by simp)
   refine ⟨_,rfl,b,_,bs.map (·.1),rfl,hb4.dc,(by rw [Zn,Zn];rfl),fun l as ws hl hperm pa=>?_⟩
   have k5:Keep [] H4 (upd H4 l (.lst (as.map V.ref))):=Keep.new hl
   have hl5:(upd H4 l (.lst (as.map V.ref))) l=some (.lst (as.map V.ref)):=zac
   have pa5:za7 (upd H4 l (.lst (as.map V.ref))) as ws:=za7.keep pa fun c x y ec=>k5 _ _ ec (by simp)
   have nDl:D≠l:=zaa (k4 _ _ hD3 (by simp)) hl
   generalize upd H4 l (.lst (as.map V.ref))=H5 at k5 hl5 pa5
   have k35:Keep [] H3 H5:=k4.trans k5
   have hD5:=k35 _ _ hD3 (by simp)
   have hg5:=k5 _ _ hg4 (by simp)
   have hb5:BAt H5 b bs (row (rsOf es)):=hb4.keep k5 (by simp) (fun _ _=>by simp)
   have hpa5:Paired (zc8 H5) fa (ze0 es):=zcx (D:=d) (g:=d) k35 hpa3 (fun _ _ _ _=>by simp)
   have kk5:Keep [] H H5:=(k1.trans k3).trans k35
   have nlg:l≠g:=za0 hl5 hg5 (by intro z;cases z)
   have nDg:D≠g:=za0 hD5 hg5 (by intro z;cases z)
   have nbg:b≠g:=zaa hb3.dc hg
   have nbD:b≠D:=za0 hb5.dc hD5 (by intro z;cases z)
   have hal:as.length=ws.length:=Ym pa5
   have hwl:ws.length≤10000:=by rw [hperm.length_eq,Qa];exact hbl
   have notDg:∀ {H':Hp} {fa':List Addr} {gs:List (Str×Str)},H' D=some (.lst (fa'.map V.ref))→H' g=some (.dT (gs.map fun s=>(kP s,V.bl true)))→∀ a (h:Str) (t:List Str),H' a=some (.lst ((h::t).map V.str))→a≠D∧a≠g:=fun {H' fa' gs} e1 e2 a h t e =>
    ⟨za0 e e1 (by
     intro z
     have z':(h::t).map V.str=fa'.map V.ref:=by injection z
     cases fa' with
     | nil=>cases z'
     | cons x u=>rw [Qk,Qk] at z';injection z' with z1 _;cases z1),za0 e e2 (by intro z;cases z)⟩
   refine ⟨l,rfl,⟨_,SqL.of hl5⟩,zbm (xs:=as.map V.ref) (fun i σ H'=>Aj3 (Ex3 fun x4 x5 x6=>σ=[some (.ref d),some (.ref b),some (.ref D),some (.ref g),x4,x5,x6]) (Keep [D,g] H5 H') (Ex5 fun (gs:List (Str×Str)) (dn rem:List (List (Str×Str))) (fa:List Addr) (hc:List Str)=>Aj9 (H' g=some (.dT (gs.map fun s=>(kP s,V.bl true)))) gs.Nodup (∀ s,s∈gs↔s∈dn.flatten) (cs.Perm (dn++rem)) (∀ s∈ws.take i,s∈gs) (H' D=some (.lst (fa.map V.ref))) (Paired (zc8 H') fa (ze0 es++hc)) (Paired (fun h c=>∃ s∈c,s.1=h) hc dn) (fa.length≤100+i)))
    ⟨⟨_,_,_,rfl⟩,Keep.refl,[],[],cs,fa,[],hg5,Zo,fun s=>Iff.rfl,List.Perm.refl _,fun s hs=>(by cases hs),hD5,by rw [Zr];exact hpa5,.nil,by exact Zf ‹_› ‹_›⟩
    (fun i σ H' _ hh=>SqL.of (hh.2 _ _ hl5 (by simp [Zl nDl,nlg]))) ?_ ?_⟩
   ·rintro i y σ H6 hx ⟨⟨x4,x5,x6,rfl⟩,k6,gs,dn,rem,fa6,hc6,hg6,hgn,hgd,hcp,hwg,hD6,hpa6,hcd,hfl6⟩
    have hi:i < as.length:=by
     have:=(Qz.mp hx).1
     rwa [Qa] at this
    have hxz:y=.ref as[i]:=by
     rw [Qn,Qc hi] at hx
     exact (Qm hx).symm
    subst hxz
    obtain ⟨hi2,hai5⟩:=zbg pa5 hi
    have nag:as[i]≠g:=za0 hai5 hg5 (by intro z;cases z)
    have naD:as[i]≠D:=za0 hai5 hD5 (by intro z;cases z)
    have hai6:=k6 _ _ hai5 (by simp [nag,naD])
    have hws:ws[i]∈ws:=Qr hi2
    have hsi:ws[i].1∈row (rsOf es) ws[i].2:=(hks _).mp (hperm.mem_iff.mp hws)
    have hwt:∀ {gs':List (Str×Str)},(∀ s∈gs,s∈gs')→ws[i]∈gs'→∀ s∈ws.take (i+1),s∈gs':=fun {gs'} h1 h2 s hs=>by
     rw [Qg hi2] at hs
     rcases Ql.mp hs with z | z
     ·exact h1 s (hwg s z)
     ·rw [Qd.mp z];exact h2
    refine ⟨(by show 0≤sizeLine;decide),fun fl hfl7=>?_⟩
    have k7:Keep [] H6 (upd H6 fl (.lst [])):=Keep.new hfl7
    have hfl7':(upd H6 fl (.lst [])) fl=some (.lst []):=zac
    have nfD:fl≠D:=Zl (zaa hD6 hfl7)
    have nfg:fl≠g:=Zl (zaa hg6 hfl7)
    have nafl:as[i]≠fl:=zaa hai6 hfl7
    generalize upd H6 fl (.lst [])=H7 at k7 hfl7'
    have hg7:=k7 _ _ hg6 (by simp)
    have hD7:=k7 _ _ hD6 (by simp)
    have hai7:=k7 _ _ hai6 (by simp)
    have kk7:Keep [D,g] H5 H7:=k6.trans (k7.sub (by simp))
    have hb7:BAt H7 b bs (row (rsOf es)):=hb5.keep kk7 (by simp [nbD,nbg]) fun e he=>by
     have h1:=hb5.tp e he
     simp [za0 h1 hD5 (by intro z;cases z),za0 h1 hg5 (by intro z;cases z)]
    have nbfl:b≠fl:=za0 hb7.dc hfl7' (by intro z;cases z)
    have hpa7:Paired (zc8 H7) fa6 (ze0 es++hc6):=zcx (D:=d) (g:=d) k7 hpa6 (fun _ _ _ _=>by simp)
    refine ⟨_,rfl,?_⟩
    by_cases hgone:ws[i]∈gs
    ·-- it is gone already
     refine ⟨fun m σ H'=>Aj2 (σ=[some (.ref d),some (.ref b),some (.ref D),some (.ref g),some (.ref as[i]),some (.ref fl),some (.ref as[i])]) (H'=H7),⟨0,rfl,rfl⟩,?_⟩
     rintro m σ H' ⟨rfl,rfl⟩
     have dg:=DGet.t (k:=kP ws[i]) hg7 hai7
     rw [valG_in hgone] at dg
     refine ⟨_,rfl,_,rfl,g,_,rfl,dg,_,rfl,zbh rfl ?_⟩
     refine ⟨_,rfl,_,.inl ⟨_,SqL.of hfl7',rfl⟩,zbh rfl ?_⟩
     exact ⟨⟨_,_,_,rfl⟩,kk7,gs,dn,rem,fa6,hc6,hg7,hgn,hgd,hcp,hwt (fun _ h=>h) hgone,hD7,hpa7,hcd,by exact zar16 ‹_›⟩
    ·-- a new cycle
     obtain ⟨c,hcc,hsc⟩:=Zt.mp ((C.cm ws[i]).mpr hsi)
     obtain ⟨A1,B1,hAB⟩:=Ys hsc
     have hlk:=zdh (hAB ▸ C.cy c hcc)
     generalize hL:ws[i]::(B1++A1)=L
     have hLp:L.Perm c:=by
      rw [← hL,hAB]
      refine Jw.mpr fun a=>?_
      simp only [Ki,Kw];lia
     have hflat:=(List.Perm.flatten hcp).nodup_iff.mp C.cf
     rw [Wl,Za] at hflat
     have hcrem:c∈rem:=by
      rcases Ql.mp (hcp.mem_iff.mp hcc) with z | z
      ·exact absurd ((hgd _).mpr (Zt.mpr ⟨c,z,hsc⟩)) hgone
      ·exact z
     have hLg:∀ s∈L,s∉gs:=fun s hs hg=>by
      exact absurd rfl (hflat.2.2 s ((hgd s).mp hg) s (Zt.mpr ⟨c,hcrem,hLp.mem_iff.mp hs⟩))
     have hLnd:L.Nodup:=by
      rw [hLp.nodup_iff]
      have:=(zb2 hcc).nodup_iff.mp C.cf
      rw [Za] at this
      exact this.1
     have hLst:∀ s∈L,s.1∈row (rsOf es) s.2:=fun s hs=>C.inc hcc (hLp.mem_iff.mp hs)
     have hLpos:0 < L.length:=by rw [← hL];simp
     have hall:gs++L |>.Nodup:=Za.mpr ⟨hgn,hLnd,fun a ha b' hb' e=>hLg b' hb' (e ▸ ha)⟩
     have hsz:(gs++L).length≤10000:=by
      refine Zf (zf6 hall (m:=bs.map (·.1)) fun s hs=>?_) (by rw [Qa];exact hbl)
      rcases Ql.mp hs with z | z
      ·obtain ⟨c',hc',hs'⟩:=Zt.mp ((hgd s).mp z)
       exact (hks s).mpr (C.inc (hcp.mem_iff.mpr (Qu _ hc')) hs')
      ·exact (hks s).mpr (hLst s z)
     rw [Qw] at hsz
     have hget:∀ k (hk:k < L.length),st (row (rsOf es)) L[k]=L.getD (k+1) ws[i]:=fun k hk=>by
      have:=lk_get hlk k (by rw [hL];exact hk)
      rw [hL,Yh,Qc hk] at this
      exact this
     refine ⟨fun m σ H'=>Ex2 fun (k:Nat) (t:Addr)=>Aj7 (m=L.length - k) (k≤L.length) (σ=[some (.ref d),some (.ref b),some (.ref D),some (.ref g),some (.ref as[i]),some (.ref fl),some (.ref t)]) (Keep [g,fl] H7 H') (H' g=some (.dT ((gs++L.take k).map fun s=>(kP s,V.bl true)))) (H' fl=some (.lst (((L.take k).map (·.1)).map V.str))) (H' t=some (.tup [.str (L.getD k ws[i]).1,.str (L.getD k ws[i]).2])),
      ⟨_,0,as[i],rfl,Zd _,rfl,Keep.refl,by rw [List.take_zero,Zr];exact hg7,hfl7',by rw [← hL];exact hai7⟩,?_⟩
     rintro m σ H8 ⟨k8,t,rfl,hk8,rfl,kp8,hg8,hfl8,ht8⟩
     have dg:=DGet.t (k:=kP (L.getD k8 ws[i])) hg8 ht8
     by_cases hlt8:k8 < L.length
     ·have hcur:L.getD k8 ws[i]=L[k8]:=by rw [Yh,Qc hlt8];rfl
      have hts:L.take (k8+1)=L.take k8++[L[k8]]:=Qg hlt8
      have hnew:L[k8]∉gs++L.take k8:=fun z=>by
       rcases Ql.mp z with q | q
       ·exact hLg _ (Qr hlt8) q
       ·have:=Yu (Ul (k8+1) L) hLnd
        rw [hts,Za] at this
        exact this.2.2 _ q _ (Qd.mpr rfl) rfl
      rw [hcur] at ht8 dg
      rw [valG_out hnew] at dg
      refine ⟨_,rfl,_,rfl,g,_,rfl,dg,_,rfl,zb8 rfl ?_⟩
      refine ⟨_,fun σ' H' z=>z,?_⟩
      have hlen8:((gs++L.take k8).map fun s=>(kP s,V.bl true)).length < sizeLine:=by
       rw [Qa,Qw,Zm];lia
      refine ⟨_,rfl,_,rfl,g,_,rfl,DPut.t (k:=kP L[k8]) hg8 ht8 hlen8,?_⟩
      have hput:putK ((gs++L.take k8).map fun s=>(kP s,V.bl true)) (kP L[k8]) (.bl true)=(gs++L.take (k8+1)).map fun s=>(kP s,V.bl true):=by
       rw [zea _ (valG_out hnew),hts,← Qy,Qo (l₂:=[L[k8]])];rfl
      rw [hput]
      have ntg:t≠g:=za0 ht8 hg8 (by intro z;cases z)
      have ntfl:t≠fl:=za0 ht8 hfl8 (by intro z;cases z)
      have k9:Keep [g,fl] H7 (upd H8 g (.dT ((gs++L.take (k8+1)).map fun s=>(kP s,V.bl true)))):=kp8.trans (Keep.wr (by simp))
      have hg9:(upd H8 g (.dT ((gs++L.take (k8+1)).map fun s=>(kP s,V.bl true)))) g=some (.dT ((gs++L.take (k8+1)).map fun s=>(kP s,V.bl true))):=zac
      have hfl9:(upd H8 g (.dT ((gs++L.take (k8+1)).map fun s=>(kP s,V.bl true)))) fl=some (.lst (((L.take k8).map (·.1)).map V.str)):=by rw [zad nfg];exact hfl8
      have ht9:(upd H8 g (.dT ((gs++L.take (k8+1)).map fun s=>(kP s,V.bl true)))) t=some (.tup [.str L[k8].1,.str L[k8].2]):=by rw [zad ntg];exact ht8
      generalize upd H8 g (.dT ((gs++L.take (k8+1)).map fun s=>(kP s,V.bl true)))=H9 at k9 hg9 hfl9 ht9
      refine ⟨_,rfl,.inl ⟨rfl,_,SqL.of hfl9⟩,_,rfl,t,_,_,_,rfl,rfl,SqT.of ht9,zbo (j:=0) rfl,fl,_,_,rfl,rfl,hfl9,(by rw [Qa,Qa,Zm];lia),?_⟩
      have hfe:((L.take k8).map (·.1)).map V.str++[V.str L[k8].1]=((L.take (k8+1)).map (·.1)).map V.str:=by rw [hts,Qo,Qo];rfl
      rw [hfe]
      have k10:Keep [g,fl] H7 (upd H9 fl (.lst (((L.take (k8+1)).map (·.1)).map V.str))):=k9.trans (Keep.wr (by simp))
      have hg10:(upd H9 fl (.lst (((L.take (k8+1)).map (·.1)).map V.str))) g=some (.dT ((gs++L.take (k8+1)).map fun s=>(kP s,V.bl true))):=by rw [zad (Zl nfg)];exact hg9
      have hfl10:(upd H9 fl (.lst (((L.take (k8+1)).map (·.1)).map V.str))) fl=some (.lst (((L.take (k8+1)).map (·.1)).map V.str)):=zac
      have ht10:(upd H9 fl (.lst (((L.take (k8+1)).map (·.1)).map V.str))) t=some (.tup [.str L[k8].1,.str L[k8].2]):=by rw [zad ntfl];exact ht9
      generalize upd H9 fl (.lst (((L.take (k8+1)).map (·.1)).map V.str))=H10 at k10 hg10 hfl10 ht10
      have hb10:BAt H10 b bs (row (rsOf es)):=hb7.keep k10 (by simp [nbg,nbfl]) fun e he=>by
       have h1:=hb7.tp e he
       simp [za0 h1 hg7 (by intro z;cases z),za0 h1 hfl7' (by intro z;cases z)]
      obtain ⟨e,he,hee⟩:=Qi.mp ((hks L[k8]).mpr (hLst _ (Qr hlt8)))
      have dg2:=DGet.t (k:=kP L[k8]) hb10.dc ht10
      rw [← hee,valT_in hb10.nd he] at dg2
      have htp:=hb10.tp e he
      rw [hee,hget k8 hlt8] at htp
      refine ⟨_,rfl,_,rfl,b,_,rfl,dg2,L.length - (k8+1),by exact zar1 ‹_›,k8+1,e.2,rfl,hlt8,rfl,k10,hg10,hfl10,htp⟩
     ·have hk:k8=L.length:=by exact zar3 ‹_› ‹_›
      subst hk
      have hcur:L.getD L.length ws[i]=ws[i]:=by rw [Yh,Kz (Qh _)];rfl
      rw [Qp (Qh _)] at hg8 hfl8 dg
      have hwL:ws[i]∈L:=by rw [← hL];exact Qb
      rw [hcur,valG_in (Qs _ hwL)] at dg
      refine ⟨_,rfl,_,rfl,g,_,rfl,dg,_,rfl,zbh rfl ?_⟩
      have hne:((L.map (·.1)).map V.str).isEmpty=false:=by rw [← hL];rfl
      refine ⟨_,rfl,_,.inl ⟨_,SqL.of hfl8,rfl⟩,zb8 (by rw [hne];rfl) ?_⟩
      have hD8:=kp8 _ _ hD7 (by simp [nDg,Zl nfD])
      refine ⟨_,rfl,.inl ⟨rfl,_,SqL.of hD8⟩,_,rfl,D,_,_,rfl,rfl,hD8,(by rw [Qa];lia),?_⟩
      have k9:Keep [D,g] H5 (upd H8 D (.lst (fa6.map V.ref++[.ref fl]))):=by
       refine Keep.trans (fun c' u' ec hc'=>?_) (Keep.wr (by simp))
       have h7:=kk7 c' u' ec hc'
       refine kp8 c' u' h7 ?_
       have ncg:c'≠g:=fun z=>hc' (by simp [z])
       have ncf:c'≠fl:=fun z=>by
        have:=k6 c' u' ec hc'
        rw [z,hfl7] at this;cases this
       simp [ncg,ncf]
      refine ⟨⟨_,_,_,rfl⟩,k9,gs++L,dn++[c],rem.erase c,fa6++[fl],hc6++[ws[i].1],by rw [zad (Zl nDg)];exact hg8,hall,fun s=>?_,?_,hwt (fun s hs=>Qu _ hs) (Qs _ hwL),by rw [zac,Qo];rfl,?_,za3 hcd (.cons ⟨ws[i],hsc,rfl⟩ .nil),by rw [Qw];show _+1≤_;exact zar4 ‹_›⟩
      ·rw [Ql,hgd,Wl,Ql,Yr,List.flatten_nil,Zr,hLp.mem_iff]
      ·refine hcp.trans ?_
       rw [Qy]
       exact Yc _ (Up hcrem)
      ·rw [← Qy]
       refine za3 (Paired.imp' (fun a h ⟨t,e⟩=>⟨t,?_⟩) hpa7) (.cons ⟨(B1++A1).map (·.1),?_⟩ .nil)
       ·have n1:=notDg hD7 hg7 a h t e
        have naf:a≠fl:=za0 e hfl7' (by intro z;injection z with z;cases z)
        rw [zad n1.1]
        exact kp8 _ _ e (by simp [n1.2,naf])
       ·rw [zad nfD,hfl8,← hL];rfl
   ·rintro σ H6 ⟨⟨x4,x5,x6,rfl⟩,k6,gs,dn,rem,fa6,hc6,hg6,hgn,hgd,hcp,hwg,hD6,hpa6,hcd,hfl6⟩
    rw [Qa,hal,Qp (Qh _)] at hwg
    have hrem:rem=[]:=by
     cases rem with
     | nil=>rfl
     | cons c rem' =>
      have hcin:c∈cs:=hcp.mem_iff.mpr (Qs _ Qb)
      obtain ⟨s0,t0,hc0,_⟩:=C.cy c hcin
      have hs0:s0∈c:=by rw [hc0];exact Qb
      have h1:s0∈ws:=hperm.mem_iff.mpr ((hks s0).mpr (C.inc hcin hs0))
      have h2:=(hgd s0).mp (hwg s0 h1)
      have h3:=(List.Perm.flatten hcp).nodup_iff.mp C.cf
      rw [Wl,Za] at h3
      exact absurd rfl (h3.2.2 s0 h2 s0 (Zt.mpr ⟨c,Qb,hs0⟩))
    rw [hrem,Zr] at hcp
    refine ⟨_,rfl,D,_,rfl,SqL.of hD6,fun v hv=>?_,fun l7 ws7 hl7 hperm7=>?_⟩
    ·obtain ⟨a,ha,rfl⟩:=Qi.mp hv
     obtain ⟨j,hj,rfl⟩:=Zq ha
     obtain ⟨_,t,e⟩:=zbg hpa6 hj
     exact ⟨_,_,rfl,e⟩
    ·obtain ⟨as7,rfl,hp7⟩:=refs_perm hperm7
     obtain ⟨hd7,hq1,hq2⟩:=zd2 hp7 hpa6
     refine k l7 as7 hd7 hc6 dn _ zac (by rw [hp7.length_eq];rw [Qa] at hfl6;lia) (Paired.imp' (fun a h ⟨t,e⟩=>⟨t,by rw [zad (zaa e hl7)];exact e⟩) hq2) hq1 hcp.symm hcd ?_
     refine (fun c u ec _=>?_)
     have nD:c≠D:=fun z=>by
      by_cases zd:c=d
      ·exact ndD (zd ▸ z)
      ·have h2:=k2 c u (k1 c u ec (by simp)) (by simpa using zd)
       rw [z,hD] at h2;cases h2
     have nG:c≠g:=fun z=>by
      have h1:=k3 c u (k1 c u ec (by simp)) (by simp)
      rw [z,hg] at h1;cases h1
     have:=k6 c u (kk5 c u ec (by simp)) (by simp [nD,nG])
     rw [zad (zaa this hl7)];exact this
end
abbrev zfu:Stmt:=top 17
abbrev zdx:Stmt:=top 18
def marks (ks:List Str):List (Key×V):=ks.map fun z=>((Sum.inr z:Key),V.bl true)
theorem zhf {ks:List Str} {x:Str} (h:x∉ks):valV (marks ks) (Sum.inr x)=none:=by
 unfold marks
 induction ks with
 | nil=>rfl
 | cons a t ih =>
  rw [Qe,not_or] at h
  rw [Qk,zbp]
  ·exact ih h.2
  ·intro q;exact h.1 (Wm q).symm
theorem valM_in {ks:List Str} {x:Str} (h:x∈ks):valV (marks ks) (Sum.inr x)=some (.bl true):=by
 unfold marks
 induction ks with
 | nil=>cases h
 | cons a t ih =>
  rw [Qk]
  by_cases e:a=x
  ·exact zcm (by rw [e])
  ·rw [zbp (fun q=>e (Wm q))]
   rcases Qe.mp h with z | z
   ·exact absurd z.symm e
   ·exact ih z
theorem putM_new {ks:List Str} {x:Str} (h:x∉ks):putK (marks ks) (Sum.inr x) (.bl true)=marks (ks++[x]):=by
 rw [zea _ (zhf h)];unfold marks;rw [List.map_append];rfl
theorem putM_old {ks:List Str} {x:Str} (h:x∈ks):putK (marks ks) (Sum.inr x) (.bl true)=marks ks:=by
 unfold putK marks
 rw [if_pos]
 ·rw [Zn]
  refine Yy fun z _=>?_
  show (if (Sum.inr z:Key)=Sum.inr x then ((Sum.inr z:Key),V.bl true) else (Sum.inr z,V.bl true))=_
  split <;> rfl
 ·exact Yj.mpr ⟨_,Qi.mpr ⟨x,h,rfl⟩,by simp⟩
theorem mkeys (ks:List Str):((marks ks).map fun p=>kV p.1)=ks.map V.str:=by unfold marks;rw [List.map_map];rfl
inductive IspPiece (vs:List V) (H:Hp) (Q:VK):Prop
 | mk (d:Addr) (es:List Ent) (cs:List (List (Str×Str))) (lab:Str→Str) (x:Str) (h0:vs=[.ref d,.str x]) (h1:TAt H d es) (h2:es.length≤100) (h3:Cert (es.map (·.1)) (row (rsOf es)) cs lab) (h4:x∈es.map (·.1)) (h5:∀ (l:Addr) (zs:List Str) (H':Hp),H' l=some (.lst (zs.map V.str))→zs.Nodup→(∀ y,y∈zs↔y∈es.map (·.1)∧lab y=lab x)→H l=none→Keep [] H H'→Q (.ref l) H'):IspPiece vs H Q
def spPiece:Sp:=fun vs H Q _=>IspPiece vs H Q
section
variable {P:Program} {w:World} {K:PySem.W.Frag} {mg:Str→Option Value} {base:Heap}
theorem zfr:zas ["rounds", "start", "reached", "waiting", "place", "other"] ["rounds", "start"] (zaf zfu):=⟨rfl,rfl,rfl,by decide +kernel,rfl,by decide +kernel,by decide +kernel⟩
theorem ok_piece {f:Addr} {fd:FuncData} (F:Fun K "piece_from" "piece_from" zfu f fd) (hsor:mg "sorted" = none):FnOk P w K mg base CX0 1 f fd ["rounds", "start"] spPiece:=by
 refine F.ok zfr (fun vs H Q E h=>?_) (fun cdv A outer s H vs Q E hr h=>?_)
 ·obtain ⟨d,es,cs,lab,x,rfl,_⟩:=h
  rfl
 ·obtain ⟨d,es,cs,lab,x,rfl,T,hes,C,hx,k⟩:=h
  have hu:=zce hr
  have hs0:sizeLine=16777216:=sizeLine_eq
  refine ⟨_,zae (zam (i:=2) zfr.nd rfl (Or.inl rfl) (pe_disp (pps_cons (pv 1) pe_bl pps_nil) rfl rfl (by decide) (by decide)))
   (zae (zam (i:=3) zfr.nd rfl (Or.inl rfl) (zbd (zab (pv 1) zag)))
   (zae (zec Zg (zeb (pv 3) (by intro _;rfl))
    (zae (zam (i:=4) zfr.nd rfl (Or.inl rfl) (pe_bm0 Zu PySem.F.slot_list_pop PySem.F.type_list_pop mt_pop (pv 3)))
    (zah (zbe Zg rfl (pi_tup (zau hu (pv 0) (pv 4) (fun _ _=>rfl))) (zaj (i:=5) zfr.nd rfl (Or.inl rfl))
     (zah (zcg (ze7 (zef hu (pv 5) (pv 2)))
      (zae (zbv hu (pv 2) (pv 5) pe_bl rfl)
      (zah (za8 (zee Zu Yw Yv zcc (pv 3) (zab (pv 5) zag))))) za4))))))
   (zah (zbk (zak (zbu rfl) (by rfl) hsor Yx (zab (pv 2) zag)))))),?_⟩
  have hrow:∀ e∈es,row (rsOf es) e.1=e.2.1:=fun e he=>zb3 T.nd he
  refine fun re hre=>⟨_,rfl,zac,[(Sum.inr x,.bl true)],rfl,(by show 1≤15;decide),?_⟩
  have hm0:(zg2 [] [((Sum.inr x:Key),V.bl true)])=marks [x]:=rfl
  rw [hm0]
  have kre:Keep [] H (upd (upd H re (.dK [])) re (.dK (marks [x]))):=by rw [upd_upd];exact Keep.new hre
  have hre1:(upd (upd H re (.dK [])) re (.dK (marks [x]))) re=some (.dK (marks [x])):=zac
  generalize upd (upd H re (.dK [])) re (.dK (marks [x]))=H1 at kre hre1
  refine ⟨_,rfl,(by show 1≤sizeLine;decide),fun wa hwa=>?_⟩
  have k2:Keep [] H (upd H1 wa (.lst [.str x])):=kre.trans (Keep.new hwa)
  have hwfr:H wa=none:=zbt (xs:=[]) kre hwa (by simp)
  have hwa2:(upd H1 wa (.lst [.str x])) wa=some (.lst ([x].map V.str)):=zac
  have nre:re≠wa:=zaa hre1 hwa
  have hre2:(upd H1 wa (.lst [.str x])) re=some (.dK (marks [x])):=by rw [zad nre];exact hre1
  generalize upd H1 wa (.lst [.str x])=H2 at k2 hwa2 hre2
  have T2:TAt H2 d es:=T.keep k2 (by simp) (fun _ _=>by simp)
  have ndr:d≠re:=zaa T.dc hre
  have ndw:d≠wa:=zaa T.dc hwfr
  have rowne:∀ e∈es,e.2.2≠re∧e.2.2≠wa:=fun e he=>⟨zaa (T.ro e he) hre,zaa (T.ro e he) hwfr⟩
  refine ⟨fun m σ H'=>Aj3 (Ex2 fun x4 x5=>σ=[some (.ref d),some (.str x),some (.ref re),some (.ref wa),x4,x5]) (Keep [re,wa] H2 H') (Ex2 fun (ks wl:List Str)=>Aj9 (H' re=some (.dK (marks ks))) (H' wa=some (.lst (wl.map V.str))) ks.Nodup wl.Nodup (∀ z∈wl,z∈ks) (∀ z∈ks,z∈es.map (·.1)∧lab z=lab x) (x∈ks) (∀ z∈ks,z∉wl→∀ y∈row (rsOf es) z,y∈ks) (m=es.length+wl.length - ks.length)),
   ⟨_,⟨none,none,rfl⟩,Keep.refl,[x],[x],hre2,hwa2,Qt.mpr ⟨by simp,Zo⟩,Qt.mpr ⟨by simp,Zo⟩,fun z h=>h,fun z h=>(by rw [Qd.mp h];exact ⟨hx,rfl⟩),Qb,fun z h h'=>absurd h h',rfl⟩,?_⟩
  rintro m σ H3 ⟨⟨x4,x5,rfl⟩,k3,ks,wl,hre3,hwa3,hkn,hwn,hwk,hkl,hxk,hcl,rfl⟩
  have hkle:ks.length≤es.length:=by
   have:=zcd hkn (m:=es.map (·.1)) fun z hz=>(hkl z hz).1
   rwa [Qa] at this
  have hwle:wl.length≤ks.length:=zcd hwn hwk
  refine ⟨_,rfl,_,.inl ⟨_,SqL.of hwa3,rfl⟩,?_⟩
  rcases List.eq_nil_or_concat wl with hwl | ⟨ini,z,hwl⟩
  ·-- all are reached
   subst hwl
   refine zbh rfl ?_
   refine ⟨_,rfl,re,_,ks,rfl,.inl hre3,mkeys ks,fun l zs hl hperm hsort=>?_⟩
   have kf:Keep [] H H3:=fun c u ec _=>k3 c u (k2 c u ec (by simp)) (by simp [zaa ec hre,zaa ec hwfr])
   refine k l zs _ zac (hperm.nodup_iff.mpr hkn) (fun y=>?_) (zbt kf hl (by simp)) (kf.trans (Keep.new hl))
   rw [hperm.mem_iff]
   constructor
   ·exact hkl y
   ·rintro ⟨h1,h2⟩
    have hc:Conn (row (rsOf es)) x y:=C.co x hx y h1 h2.symm
    clear h1 h2
    induction hc with
    | refl=>exact hxk
    | step _ hz ih=>exact hcl _ ih (by simp) _ hz
  ·rw [List.concat_eq_append] at hwl
   subst hwl
   refine zb8 (by rw [Qo];cases ini <;> rfl) ?_
   refine ⟨_,fun σ' H' zz=>zz,?_⟩
   have hzk:z∈ks:=hwk z (Qs _ Qb)
   obtain ⟨en,hen,hzn⟩:=Qi.mp (hkl z hzk).1
   have hzn':en.1=z:=hzn
   rw [Za] at hwn
   obtain ⟨hin,_,hdis⟩:=hwn
   have hzi:z∉ini:=fun q=>hdis z q z Qb rfl
   have hlast:((ini++[z]).map V.str)[((ini++[z]).map V.str).length - 1]?=some (.str z):=by
    rw [Qo,Qw,Ur (by simp)]
    simp
   have hdl:((ini++[z]).map V.str).dropLast=ini.map V.str:=by rw [Qo];exact List.dropLast_concat
   refine ⟨_,rfl,.inl ⟨rfl,_,SqL.of hwa3⟩,wa,_,_,rfl,rfl,hwa3,hlast,?_⟩
   rw [hdl]
   have k4:Keep [re,wa] H2 (upd H3 wa (.lst (ini.map V.str))):=k3.trans (Keep.wr (by simp))
   have hwa4:(upd H3 wa (.lst (ini.map V.str))) wa=some (.lst (ini.map V.str)):=zac
   have hre4:(upd H3 wa (.lst (ini.map V.str))) re=some (.dK (marks ks)):=by rw [zad nre];exact hre3
   generalize upd H3 wa (.lst (ini.map V.str))=H4 at k4 hwa4 hre4
   have T4:TAt H4 d es:=T2.keep k4 (by simp [ndr,ndw]) fun e he=>by simp [(rowne e he).1,(rowne e he).2]
   have dg:DGet H4 d (.str z) (some (.ref en.2.2)):=by
    have:=DGet.k (k:=Sum.inr en.1) T4.dc
    rw [zbx T4.nd hen,hzn'] at this
    exact this
   have hrz:row (rsOf es) z=en.2.1:=by rw [← hzn'];exact hrow en hen
   refine ⟨_,rfl,_,rfl,d,_,rfl,dg,en.2.2,rfl,⟨_,SqT.of (T4.ro en hen)⟩,for_tup (xs:=en.2.1.map V.str) (fun j σ H'=>Aj3 (Ex1 fun x5=>σ=[some (.ref d),some (.str x),some (.ref re),some (.ref wa),some (.str z),x5]) (Keep [re,wa] H2 H') (Ex1 fun (nw:List Str)=>Aj5 (H' re=some (.dK (marks (ks++nw)))) (H' wa=some (.lst ((ini++nw).map V.str))) ((ks++nw).Nodup) (∀ y∈nw,y∈es.map (·.1)∧lab y=lab x) (∀ y∈en.2.1.take j,y∈ks++nw)))
    ⟨⟨_,rfl⟩,k4,[],by rw [Zr];exact hre4,by rw [Zr];exact hwa4,by rw [Zr];exact hkn,fun y hy=>(by cases hy),fun y hy=>(by cases hy)⟩
    (fun j σ H' _ hh=>SqT.of (hh.2 _ _ (T2.ro en hen) (by simp [(rowne en hen).1,(rowne en hen).2]))) ?_ ?_⟩
   ·rintro j y σ H5 hy ⟨⟨y5,rfl⟩,k5,nw,hre5,hwa5,hnd5,hnw5,htk5⟩
    have hj:j < en.2.1.length:=by
     have:=(Qz.mp hy).1
     rwa [Qa] at this
    have hyz:y=.str en.2.1[j]:=by
     rw [Qn,Qc hj] at hy
     exact (Qm hy).symm
    subst hyz
    have hyr:en.2.1[j]∈row (rsOf es) z:=by rw [hrz];exact Qr hj
    have hts:en.2.1.take (j+1)=en.2.1.take j++[en.2.1[j]]:=Qg hj
    have hsz:(ks++nw).length≤es.length:=by
     have:=zcd hnd5 (m:=es.map (·.1)) fun q hq=>by
      rcases Ql.mp hq with h | h
      ·exact (hkl q h).1
      ·exact (hnw5 q h).1
     rwa [Qa] at this
    have dg5:=DGet.k (k:=Sum.inr en.2.1[j]) hre5
    by_cases hin:en.2.1[j]∈ks++nw
    ·rw [valM_in hin] at dg5
     refine ⟨_,rfl,_,rfl,re,_,rfl,dg5,_,rfl,zbh rfl ?_⟩
     refine ⟨⟨_,rfl⟩,k5,nw,hre5,hwa5,hnd5,hnw5,fun q hq=>?_⟩
     rw [hts] at hq
     rcases Ql.mp hq with h | h
     ·exact htk5 q h
     ·rw [Qd.mp h];exact hin
    ·rw [zhf hin] at dg5
     refine ⟨_,rfl,_,rfl,re,_,rfl,dg5,_,rfl,zb8 rfl ?_⟩
     refine ⟨_,rfl,_,rfl,re,_,rfl,DPut.k (k:=Sum.inr en.2.1[j]) hre5 (by unfold marks;rw [List.length_map];lia),?_⟩
     rw [putM_new hin]
     have hwa6:(upd H5 re (.dK (marks (ks++nw++[en.2.1[j]])))) wa=some (.lst ((ini++nw).map V.str)):=by rw [zad (Zl nre)];exact hwa5
     have hre6:(upd H5 re (.dK (marks (ks++nw++[en.2.1[j]])))) re=some (.dK (marks (ks++nw++[en.2.1[j]]))):=zac
     have k6:Keep [re,wa] H2 (upd H5 re (.dK (marks (ks++nw++[en.2.1[j]])))):=k5.trans (Keep.wr (by simp))
     generalize upd H5 re (.dK (marks (ks++nw++[en.2.1[j]])))=H6 at hwa6 hre6 k6
     rw [Qw] at hsz
     rw [Qw,Qq,Wx] at hwle
     refine ⟨_,rfl,.inl ⟨rfl,_,SqL.of hwa6⟩,_,rfl,wa,_,_,rfl,rfl,hwa6,(by rw [Qa,Qw];lia),?_⟩
     refine ⟨⟨_,rfl⟩,k6.trans (Keep.wr (by simp)),nw++[en.2.1[j]],by rw [zad nre,← Qy];exact hre6,by rw [zac,← Qy,Qo (l₂:=[en.2.1[j]])];rfl,?_,fun q hq=>?_,fun q hq=>?_⟩
     ·rw [← Qy,Za]
      refine ⟨hnd5,Qt.mpr ⟨by simp,Zo⟩,fun a ha b hb e=>?_⟩
      rw [Qd.mp hb] at e
      exact hin (e ▸ ha)
     ·rcases Ql.mp hq with h | h
      ·exact hnw5 q h
      ·rw [Qd.mp h]
       exact ⟨C.inn' hyr,(C.la z _ hyr).trans (hkl z hzk).2⟩
     ·rw [hts] at hq
      rw [← Qy]
      rcases Ql.mp hq with h | h
      ·exact Qu _ (htk5 q h)
      ·exact Qs _ h
   ·rintro σ H5 ⟨⟨y5,rfl⟩,k5,nw,hre5,hwa5,hnd5,hnw5,htk5⟩
    rw [Qa,Qp (Qh _)] at htk5
    have hsz:(ks++nw).length≤es.length:=by
     have:=zcd hnd5 (m:=es.map (·.1)) fun q hq=>by
      rcases Ql.mp hq with h | h
      ·exact (hkl q h).1
      ·exact (hnw5 q h).1
     rwa [Qa] at this
    have hnd5':=hnd5
    rw [Za] at hnd5'
    refine ⟨es.length+(ini++nw).length - (ks++nw).length,?_,⟨_,_,rfl⟩,k5,ks++nw,ini++nw,hre5,hwa5,hnd5,?_,?_,?_,Qu _ hxk,?_,rfl⟩
    ·rw [Qw] at hsz
     rw [Qw,Qw,Qw,Qq,Wx]
     rw [Qw,Qq,Wx] at hwle
     lia
    ·rw [Za]
     refine ⟨hin,hnd5'.2.1,fun a ha b hb e=>hnd5'.2.2 a (hwk a (Qu _ ha)) b hb e⟩
    ·intro q hq
     rcases Ql.mp hq with h | h
     ·exact Qu _ (hwk q (Qu _ h))
     ·exact Qs _ h
    ·intro q hq
     rcases Ql.mp hq with h | h
     ·exact hkl q h
     ·exact hnw5 q h
    ·intro q hq hqn y hy
     rw [Ql,not_or] at hqn
     rcases Ql.mp hq with h | h
     ·by_cases hqz:q=z
      ·rw [hqz,hrz] at hy;exact htk5 y hy
      ·exact Qu _ (hcl q h (by rw [Ql,not_or,Qd];exact ⟨hqn.1,hqz⟩) y hy)
     ·exact absurd h hqn.2
end
def IsPiece (ns:List Str) (lab:Str→Str) (zs:List Str):Prop:=zs.Nodup∧∃ s∈ns,∀ y,y∈zs↔y∈ns∧lab y=lab s
def zgm (H:Hp) (a:Addr) (zs:List Str):Prop:=H a=some (.lst (zs.map V.str))
inductive IspPieces (vs:List V) (H:Hp) (Q:VK):Prop
 | mk (d:Addr) (es:List Ent) (cs:List (List (Str×Str))) (lab:Str→Str) (h0:vs=[.ref d]) (h1:TAt H d es) (h2:es.length≤100) (h3:Cert (es.map (·.1)) (row (rsOf es)) cs lab) (h4:∀ (l:Addr) (as:List Addr) (zss:List (List Str)) (H':Hp),H' l=some (.lst (as.map V.ref))→Paired (zgm H') as zss→(∀ zs∈zss,IsPiece (es.map (·.1)) lab zs)→Keep [] H H'→Q (.ref l) H'):IspPieces vs H Q
def spPieces:Sp:=fun vs H Q _=>IspPieces vs H Q
section
variable {P:Program} {w:World} {K:PySem.W.Frag} {mg:Str→Option Value} {base:Heap}
theorem zdq:zas ["rounds", "found", "reached", "start", "piece", "place"] ["rounds"] (zaf zdx):=⟨rfl,rfl,rfl,by decide +kernel,rfl,by decide +kernel,by decide +kernel⟩
theorem ok_pieces {f fp:Addr} {fd fdp:FuncData} (F:Fun K "pieces_of" "pieces_of" zdx f fd) (FP:Fun K "piece_from" "piece_from" zfu fp fdp) (bP:Binds K fdp ["rounds", "start"] []) (mP:mg "piece_from" = some (.ref fp)) (GP:FnOk P w K mg base CX0 1 fp fdp ["rounds", "start"] spPiece)
  (hsor:mg "sorted" = none):FnOk P w K mg base CX0 2 f fd ["rounds"] spPieces:=by
 refine F.ok zdq (fun vs H Q E h=>?_) (fun cdv A outer s H vs Q E hr h=>?_)
 ·obtain ⟨d,es,cs,lab,rfl,_⟩:=h
  rfl
 ·obtain ⟨d,es,cs,lab,rfl,T,hes,C,k⟩:=h
  have hu:=zce hr
  have hs0:sizeLine=16777216:=sizeLine_eq
  refine ⟨_,zae (zam (i:=1) zdq.nd rfl (Or.inl rfl) (zbd zag))
   (zae (zam (i:=2) zdq.nd rfl (Or.inl rfl) zed)
   (zae (zbe Zg rfl (zaw (zak (zbu rfl) (by rfl) hsor Yx (zab (pv 0) zag))) (zaj (i:=3) zdq.nd rfl (Or.inl rfl))
    (zah (zcg (ze7 (zef hu (pv 3) (pv 2)))
     (zae (zam (i:=4) zdq.nd rfl (Or.inl rfl) (zal GP hr rfl mP FP.kp bP .nil zax (zab (pv 0) (zab (pv 3) zag))))
     (zae (za8 (zee Zu Yw Yv zcc (pv 1) (zab (pv 4) zag)))
     (zah (zbe Zg rfl (zaw (pv 4)) (zaj (i:=5) zdq.nd rfl (Or.inl rfl))
      (zah (zbv hu (pv 2) (pv 5) pe_bl rfl)))))) za4)))
   (zah (zbk (pv 1))))),?_⟩
  refine ⟨(by show 0≤sizeLine;decide),fun fo hfo re hre=>?_⟩
  have hrefr:H re=none:=zbt (xs:=[]) (Keep.new hfo) hre (by simp)
  have nfr:fo≠re:=zaa (o:=_) zac hre
  have k1:Keep [] H (upd (upd H fo (.lst [])) re (.dK [])):=(Keep.new hfo).trans (Keep.new hre)
  have hfo1:(upd (upd H fo (.lst [])) re (.dK [])) fo=some (.lst []):=by rw [zad nfr];exact zac
  have hre1:(upd (upd H fo (.lst [])) re (.dK [])) re=some (.dK []):=zac
  generalize upd (upd H fo (.lst [])) re (.dK [])=H1 at k1 hfo1 hre1
  have T1:TAt H1 d es:=T.keep k1 (by simp) (fun _ _=>by simp)
  refine ⟨_,rfl,d,_,es.map (·.1),rfl,.inl T1.dc,zej es,fun l ws hl hperm hsort=>?_⟩
  have k2:Keep [] H1 (upd H1 l (.lst (ws.map V.str))):=Keep.new hl
  have hl2:(upd H1 l (.lst (ws.map V.str))) l=some (.lst (ws.map V.str)):=zac
  have nlf:l≠fo:=Zl (zaa hfo1 hl)
  generalize upd H1 l (.lst (ws.map V.str))=H2 at k2 hl2
  have hfo2:=k2 _ _ hfo1 (by simp)
  have hre2:=k2 _ _ hre1 (by simp)
  have nlr:l≠re:=za0 hl2 hre2 (by intro z;cases z)
  have T2:TAt H2 d es:=T1.keep k2 (by simp) (fun _ _=>by simp)
  have kk2:Keep [] H H2:=k1.trans k2
  have ndf:d≠fo:=zaa T.dc hfo
  have ndr:d≠re:=zaa T.dc hrefr
  have hwl:ws.length=es.length:=by rw [hperm.length_eq,Qa]
  refine ⟨l,rfl,⟨_,SqL.of hl2⟩,zbm (xs:=ws.map V.str) (fun i σ H'=>Aj3 (Ex3 fun x3 x4 x5=>σ=[some (.ref d),some (.ref fo),some (.ref re),x3,x4,x5]) (Keep [fo,re] H2 H') (Ex3 fun (as:List Addr) (zss:List (List Str)) (ks:List Str)=>Aj8 (H' fo=some (.lst (as.map V.ref))) (H' re=some (.dK (marks ks))) (Paired (zgm H') as zss) (∀ zs∈zss,IsPiece (es.map (·.1)) lab zs) (as.length≤i) ks.Nodup (∀ z∈ks,z∈es.map (·.1)) (∀ a∈as,a≠fo)))
   ⟨⟨_,_,_,rfl⟩,Keep.refl,[],[],[],hfo2,hre2,.nil,fun zs h=>(by cases h),Zd _,Zo,fun z h=>(by cases h),fun z h=>(by cases h)⟩ (fun i σ H' _ hh=>SqL.of (hh.2 _ _ hl2 (by simp [nlf,nlr]))) ?_ ?_⟩
  ·rintro i y σ H3 hx ⟨⟨x3,x4,x5,rfl⟩,k3,as,zss,ks,hfo3,hre3,hpa3,hpc,hasl,hkn,hkk,hasf⟩
   have hi:i < ws.length:=by
    have:=(Qz.mp hx).1
    rwa [Qa] at this
   have hxz:y=.str ws[i]:=by
    rw [Qn,Qc hi] at hx
    exact (Qm hx).symm
   subst hxz
   have dg:=DGet.k (k:=Sum.inr ws[i]) hre3
   have T3:TAt H3 d es:=T2.keep k3 (by simp [ndf,ndr]) fun e he=>by
    have h1:=T.ro e he
    simp [zaa h1 hfo,zaa h1 hrefr]
   by_cases hin:ws[i]∈ks
   ·rw [valM_in hin] at dg
    refine ⟨_,rfl,_,rfl,re,_,rfl,dg,_,rfl,zbh rfl ?_⟩
    exact ⟨⟨_,_,_,rfl⟩,k3,as,zss,ks,hfo3,hre3,hpa3,hpc,by exact zar16 ‹_›,hkn,hkk,hasf⟩
   ·rw [zhf hin] at dg
    refine ⟨_,rfl,_,rfl,re,_,rfl,dg,_,rfl,zb8 rfl ?_⟩
    have hwin:=hperm.mem_iff.mp (Qr hi)
    refine ⟨_,rfl,_,rfl,d,es,cs,lab,ws[i],rfl,T3,hes,C,hwin,fun p zs H4 hp4 hzn hzm hpfr k4=>?_⟩
    have hfo4:=k4 _ _ hfo3 (by simp)
    have hre4:=k4 _ _ hre3 (by simp)
    have npf:p≠fo:=Zl (zaa hfo3 hpfr)
    have npr:p≠re:=za0 hp4 hre4 (by intro z;cases z)
    refine ⟨_,rfl,.inl ⟨rfl,_,SqL.of hfo4⟩,_,rfl,fo,_,_,rfl,rfl,hfo4,(by rw [Qa];lia),?_⟩
    have k5:Keep [fo,re] H2 (upd H4 fo (.lst (as.map V.ref++[.ref p]))):=(k3.trans (k4.sub (by simp))).trans (Keep.wr (by simp))
    have hfo5:(upd H4 fo (.lst (as.map V.ref++[.ref p]))) fo=some (.lst ((as++[p]).map V.ref)):=by rw [zac,Qo];rfl
    have hre5:(upd H4 fo (.lst (as.map V.ref++[.ref p]))) re=some (.dK (marks ks)):=by rw [zad (Zl nfr)];exact hre4
    have hp5:(upd H4 fo (.lst (as.map V.ref++[.ref p]))) p=some (.lst (zs.map V.str)):=by rw [zad npf];exact hp4
    have hpa5:Paired (zgm (upd H4 fo (.lst (as.map V.ref++[.ref p])))) (as++[p]) (zss++[zs]):=by
     refine za3 ?_ (.cons hp5 .nil)
     have:∀ {as:List Addr} {zss:List (List Str)},Paired (zgm H3) as zss→(∀ a∈as,a≠fo)→Paired (zgm (upd H4 fo (.lst (as.map V.ref++[.ref p])))) as zss:=fun {as zss} r ha=>by
      have h2:∀ (L:List V),Paired (zgm (upd H4 fo (.lst L))) as zss:=fun L=>by
       induction r with
       | nil=>exact .nil
       | cons h t ih=>exact .cons (by unfold zgm;rw [zad (ha _ List.mem_cons_self)];exact k4 _ _ h (by simp)) (ih fun a h=>ha a (List.mem_cons_of_mem _ h))
      exact h2 _
     exact this hpa3 hasf
    have hasf5:∀ a∈as++[p],a≠fo:=fun a ha=>by
     rcases Ql.mp ha with h | h
     ·exact hasf a h
     ·rw [Qd.mp h];exact npf
    generalize upd H4 fo (.lst (as.map V.ref++[.ref p]))=H5 at k5 hfo5 hre5 hp5 hpa5
    refine ⟨_,rfl,p,rfl,⟨_,SqL.of hp5⟩,zbm (xs:=zs.map V.str) (fun j σ H'=>Aj3 (Ex1 fun x5=>σ=[some (.ref d),some (.ref fo),some (.ref re),some (.str ws[i]),some (.ref p),x5]) (Keep [re] H5 H') (Ex1 fun (ks:List Str)=>Aj3 (H' re=some (.dK (marks ks))) ks.Nodup (∀ z∈ks,z∈es.map (·.1))))
     ⟨⟨_,rfl⟩,Keep.refl,ks,hre5,hkn,hkk⟩ (fun j σ H' _ hh=>SqL.of (hh.2 _ _ hp5 (by simpa using npr))) ?_ ?_⟩
    ·rintro j y σ H6 hy ⟨⟨y5,rfl⟩,k6,ks6,hre6,hkn6,hkk6⟩
     obtain ⟨z,hz,rfl⟩:=Qi.mp (Yn hy)
     have hsz:ks6.length≤es.length:=by
      have:=zcd hkn6 hkk6
      rwa [Qa] at this
     refine ⟨_,rfl,_,rfl,re,_,rfl,DPut.k (k:=Sum.inr z) hre6 (by unfold marks;rw [List.length_map];lia),⟨_,rfl⟩,k6.trans (Keep.wr (by simp)),?_⟩
     by_cases hzk:z∈ks6
     ·exact ⟨ks6,by rw [zac,putM_old hzk],hkn6,hkk6⟩
     ·refine ⟨ks6++[z],by rw [zac,putM_new hzk],?_,fun q hq=>?_⟩
      ·rw [Za]
       refine ⟨hkn6,Qt.mpr ⟨by simp,Zo⟩,fun a ha b hb e=>?_⟩
       rw [Qd.mp hb] at e
       exact hzk (e ▸ ha)
      ·rcases Ql.mp hq with h | h
       ·exact hkk6 q h
       ·rw [Qd.mp h];exact ((hzm z).mp hz).1
    ·rintro σ H6 ⟨⟨y5,rfl⟩,k6,ks6,hre6,hkn6,hkk6⟩
     refine ⟨⟨_,_,_,rfl⟩,k5.trans (k6.sub (by simp)),as++[p],zss++[zs],ks6,k6 _ _ hfo5 (by simpa using nfr),hre6,Paired.imp' (fun a zs h=>k6 _ _ h (by simpa using za0 h hre5 (by intro z;cases z))) hpa5,fun q hq=>?_,by rw [Qw];show _+1≤_;exact zar4 ‹_›,hkn6,hkk6,hasf5⟩
     rcases Ql.mp hq with h | h
     ·exact hpc q h
     ·rw [Qd.mp h];exact ⟨hzn,ws[i],hwin,hzm⟩
  ·rintro σ H3 ⟨⟨x3,x4,x5,rfl⟩,k3,as,zss,ks,hfo3,hre3,hpa3,hpc,hasl,hkn,hkk,hasf⟩
   refine ⟨_,rfl,k fo as zss H3 hfo3 hpa3 hpc fun c u ec _=>k3 c u (kk2 c u ec (by simp)) (by simp [zaa ec hfo,zaa ec hrefr])⟩
end
end K21
end
section
namespace L2
open PySem
theorem lc_filt {K:PySem.W.Frag} {g:TG} {tc:TT} {te:TE} {Q:VK} {a:Addr} {τ:St} {H:Hp} {xs:List V} (T:St→Prop) (q:V→Bool) (ha:SqL K H a xs) (hn:xs.length≤sizeLine) (h0:T τ)
  (hs:∀ x∈xs,∀ τ,T τ→∀ (k1:V→St→Hp→Prop) (k0:St→Hp→Prop),(q x=true→∀ τ2,T τ2→k1 x τ2 H)→(q x=false→∀ τ2,T τ2→k0 τ2 H)→g x τ H fun τ2 H2=>tc τ2 H2 fun b H3=>if b=true then te τ2 H3 fun y H4=>k1 y τ2 H4 else k0 τ2 H3)
  (hq:∀ D,H D=none→Q (.ref D) (upd H D (.lst (xs.filter q)))):rLC g tc te Q (Itl K a) τ H:=by
 refine ⟨fun i m ys τ H1=>Aj5 (H1=H) (T τ) (m=xs.length - i) (i≤xs.length) (ys=(xs.take i).filter q),⟨_,rfl,h0,rfl,Zd _,rfl⟩,?_⟩
 rintro i m ys τ H1 ⟨rfl,ht,rfl,hi,rfl⟩
 by_cases hlt:i < xs.length
 ·have hfl:((xs.take i).filter q).length≤i:=Zf (Yl _ _) (by rw [Zm];lia)
  refine .inr ⟨⟨xs,xs[i],ha,Qc hlt⟩,by lia,?_⟩
  rintro x H' ⟨rfl,hx⟩
  have hx':=hx xs ha
  rw [Qc hlt] at hx'
  have hxe:xs[i]=x:=Qm hx'
  have hts:xs.take (i+1)=xs.take i++[x]:=by rw [Qg hlt,hxe]
  refine hs x (hxe ▸ Qr hlt) τ ht (fun y τ2 H4=>∃ m',m' < xs.length - i∧Aj5 (H4=H') (T τ2) (m'=xs.length - (i+1)) (i+1≤xs.length) ((xs.take i).filter q++[y]=(xs.take (i+1)).filter q))
   (fun τ2 H4=>∃ m',m' < xs.length - i∧Aj5 (H4=H') (T τ2) (m'=xs.length - (i+1)) (i+1≤xs.length) ((xs.take i).filter q=(xs.take (i+1)).filter q)) (fun hqx τ2 h2=>?_) fun hqx τ2 h2=>?_
  ·exact ⟨_,by exact zar1 ‹_›,rfl,h2,rfl,hlt,by rw [hts,Zs,Zi hqx,Yd]⟩
  ·exact ⟨_,by exact zar1 ‹_›,rfl,h2,rfl,hlt,by rw [hts,Zs,Zj (by rw [hqx];decide),Yd,Zr]⟩
 ·have e:i=xs.length:=by exact zar3 ‹_› ‹_›
  subst e
  refine .inl ⟨⟨xs,ha,Qh _⟩,fun D hD=>?_⟩
  rw [Qp (Qh _)]
  exact hq D hD
end L2
namespace K21
open PySem L2 Wb
theorem sum_filter {α:Type} {p:α→Bool} {f:α→Int}:∀ l:List α,(l.map fun x=>if p x=true then f x else 0).sum=((l.filter p).map f).sum:=by
 intro l
 induction l with
 | nil=>rfl
 | cons a t ih =>
  rw [Qk,Ze,ih]
  by_cases h:p a=true
  ·rw [if_pos h,Zi h,Qk,Ze]
  ·rw [if_neg h,Zj h];lia
theorem sum_parts {α:Type} {f:α→List Str}:∀ l:List α,(l.map fun x=>(2:Int)+(if f x=[] then 2 else 0) - ((f x).length:Int)).sum=2*(l.length:Int)+2*((l.filter fun x=>(f x).isEmpty).length:Int) - (((l.map fun x=>(f x).length).sum:Nat):Int):=by
 intro l
 induction l with
 | nil=>rfl
 | cons a t ih =>
  rw [Qk,Ze,ih,Qk,Ze,Qq]
  by_cases h:f a=[]
  ·rw [Zi (by rw [h];rfl),Qq,if_pos h];lia
  ·rw [Zj (by rw [List.isEmpty_iff];exact h),if_neg h];lia
theorem sum_twos {α:Type} {p:α→Bool}:∀ l:List α,(l.map fun x=>if p x=true then (2:Int) else 0).sum=2*((l.filter p).length:Int):=by
 intro l
 induction l with
 | nil=>rfl
 | cons a t ih =>
  rw [Qk,Ze,ih]
  by_cases h:p a=true
  ·rw [if_pos h,Zi h,Qq];lia
  ·rw [if_neg h,Zj h];lia
theorem iso_eq {es:List Ent} (nd:(es.map (·.1)).Nodup):ze0 es=(es.map (·.1)).filter fun x=>(row (rsOf es) x).isEmpty:=by
 unfold ze0
 rw [List.filter_map]
 congr 1
 exact We fun e he=>by
  show e.2.1.isEmpty=(row (rsOf es) e.1).isEmpty
  rw [zb3 nd he]
theorem piece_count {es:List Ent} {cs cs':List (List (Str×Str))} {lab:Str→Str} (C:Cert (es.map (·.1)) (row (rsOf es)) cs lab) {zs hd hc:List Str} (hz:IsPiece (es.map (·.1)) lab zs) (hh:hd.Perm (ze0 es++hc)) (hcs:cs'.Perm cs) (hp:Paired (fun h c=>∃ s∈c,s.1=h) hc cs') :
  2*zs.length+2*(hd.filter fun h=>decide (h∈zs)).length=(zs.map fun x=>(row (rsOf es) x).length).sum+4:=by
 obtain ⟨hzn,s,hs,hzm⟩:=hz
 have heu:=C.eu s hs
 have p1:((es.map (·.1)).filter fun x=>decide (lab x=lab s)).Perm zs:=(Uo (Yu Uy C.nd) hzn).mpr fun y=>by
  rw [Zk,decide_eq_true_iff,hzm]
 have e1:wt (es.map (·.1)) (row (rsOf es)) lab (lab s)=2*(zs.length:Int)+2*((zs.filter fun x=>(row (rsOf es) x).isEmpty).length:Int) - (((zs.map fun x=>(row (rsOf es) x).length).sum:Nat):Int):=by
  unfold wt
  have:=sum_filter (p:=fun x=>decide (lab x=lab s)) (f:=fun x=>(2:Int)+(if row (rsOf es) x=[] then 2 else 0) - ((row (rsOf es) x).length:Int)) (es.map (·.1))
  simp only [decide_eq_true_eq] at this
  rw [this,zfi (p1.map _),sum_parts]
 have e2:ct cs lab (lab s)=2*((cs.filter fun c=>c.any fun u=>decide (lab u.1=lab s)).length:Int):=sum_twos _
 have e3:(hd.filter fun h=>decide (h∈zs)).length=((ze0 es).filter fun h=>decide (h∈zs)).length+(hc.filter fun h=>decide (h∈zs)).length:=by
  rw [(hh.filter _).length_eq,Zs,Qw]
 have e4:((ze0 es).filter fun h=>decide (h∈zs)).length=(zs.filter fun x=>(row (rsOf es) x).isEmpty).length:=by
  refine List.Perm.length_eq ((Uo ?_ (Yu Uy hzn)).mpr fun y=>?_)
  ·rw [iso_eq C.nd]
   exact Yu Uy (Yu Uy C.nd)
  ·rw [iso_eq C.nd,Zk,Zk,Zk,decide_eq_true_iff]
   exact ⟨fun ⟨⟨_,a⟩,b⟩=>⟨b,a⟩,fun ⟨a,b⟩=>⟨⟨((hzm y).mp a).1,b⟩,a⟩⟩
 have e5:(hc.filter fun h=>decide (h∈zs)).length=(cs'.filter fun c=>c.any fun u=>decide (lab u.1=lab s)).length:=by
  have hin:∀ c∈cs',c∈cs:=fun c h=>hcs.mem_iff.mp h
  clear hcs e3 e4 hh
  induction hp with
  | nil=>rfl
  | cons h t ih =>
   rename_i h0 c0 _ _
   have iht:=ih fun c hc=>hin c (Qf _ hc)
   obtain ⟨u,hu,rfl⟩:=h
   have hc0:=hin c0 Qb
   have hun:u.1∈es.map (·.1):=C.inn' (C.inc hc0 hu)
   by_cases hz:u.1∈zs
   ·have hl:=((hzm _).mp hz).2
    have hany:(c0.any fun u=>decide (lab u.1=lab s))=true:=Yj.mpr ⟨u,hu,decide_eq_true hl⟩
    rw [Zi (by simpa using hz),Zi (p:=fun c:List (Str×Str)=>c.any fun u=>decide (lab u.1=lab s)) hany,Qq,Qq,iht]
   ·rw [Zj (by simpa using hz),Zj,iht]
    intro q
    obtain ⟨v,hv,e⟩:=Yj.mp q
    exact hz ((hzm _).mpr ⟨hun,(C.one_lab hc0 hv hu).trans (of_decide_eq_true e)⟩)
 have e6:=(hcs.filter fun c=>c.any fun u=>decide (lab u.1=lab s)).length_eq
 lia
theorem zht {X:Cx} {K:PySem.W.Frag} (hK:X.K=K):IxR X (rIxL K):=hK ▸ zat
theorem zg1 {X:Cx} {K:PySem.W.Frag} (hK:X.K=K):OpR X (compareOp .In) (rIn K false):=hK ▸ op_in_seq
theorem zc4 {X:Cx} {K:PySem.W.Frag} (hK:X.K=K):zca X (.builtin "len") (fun xs H Q=>Ex2 fun p ys=>Aj3 (xs=[.ref p]) (SqL K H p ys∨SqT K H p ys) (Q (.int ys.length) H)):=hK ▸ zaq
abbrev zex:Stmt:=top 25
inductive IspFlat (vs:List V) (H:Hp) (Q:VK):Prop
 | mk (d:Addr) (es:List Ent) (cs:List (List (Str×Str))) (lab:Str→Str) (h0:vs=[.ref d]) (h1:TAt H d es) (h2:es.length≤100) (h3:(∀ e∈es,e.2.1.length≤100)) (h4:Cert (es.map (·.1)) (row (rsOf es)) cs lab) (h5:∀ H',Keep [] H H'→Q .non H'):IspFlat vs H Q
def spFlat:Sp:=fun vs H Q _=>IspFlat vs H Q
abbrev csFlA:Scope:=scOf (aOf 0 (aOf 0 (eOf (bAt (sAt zex 1) 1))))
abbrev csFlB:Scope:=scOf (aOf 0 (eOf (bAt (sAt zex 1) 2)))
theorem csFlA_k:csFlA.kind=.function:=by rfl
theorem csFlA_c:∀ y∈csFlA.names,y.2≠.cell:=by decide +kernel
theorem csFlA_n:∀ y∈csFlA.names,y.2=.local→csFlA.names.lookup y.1=some .local:=by decide +kernel
theorem csFlA_f:∀ y∈csFlA.names,y.2=.free→(zaf zex).names.lookup y.1=some .cell∨(zaf zex).names.lookup y.1=some .free:=by decide +kernel
theorem csFlA_l:csFlA.names.lookup ("rounds" : Str)=some NameKind.free:=by decide +kernel
theorem csFlB_k:csFlB.kind=.function:=by rfl
theorem csFlB_c:∀ y∈csFlB.names,y.2≠.cell:=by decide +kernel
theorem csFlB_n:∀ y∈csFlB.names,y.2=.local→csFlB.names.lookup y.1=some .local:=by decide +kernel
theorem csFlB_f:∀ y∈csFlB.names,y.2=.free→(zaf zex).names.lookup y.1=some .cell∨(zaf zex).names.lookup y.1=some .free:=by decide +kernel
theorem csFlB_l:csFlB.names.lookup ("piece" : Str)=some NameKind.free:=by decide +kernel
theorem ndFB:(["face", "piece"]:List Str).Nodup:=by decide +kernel
def inPc (H:Hp) (zs:List Str):V→Bool
 | .ref a=>match H a with
  | some (.lst (.str h::_))=>decide (h∈zs)
  | _=>false
 | _=>false
theorem inPc_ref {H:Hp} {zs:List Str} {a:Addr} {h:Str} (e:zc8 H a h):inPc H zs (.ref a)=decide (h∈zs):=by
 obtain ⟨t,e⟩:=e
 show (match H a with | some (.lst (.str h::_))=>decide (h∈zs) | _=>false)=_
 rw [e];rfl
theorem filt_len {H:Hp} {zs:List Str} {as:List Addr} {hd:List Str} (r:Paired (zc8 H) as hd):((as.map V.ref).filter (inPc H zs)).length=(hd.filter fun h=>decide (h∈zs)).length:=by
 induction r with
 | nil=>rfl
 | cons h t ih =>
  rename_i a b _ _
  rw [Qk]
  have e:=inPc_ref (zs:=zs) h
  by_cases hz:b∈zs
  ·rw [Zi (by rw [e];simpa using hz),Zi (by simpa using hz),Qq,Qq,ih]
  ·rw [Zj (by rw [e];simpa using hz),Zj (by simpa using hz),ih]
theorem sum_cast (ns:List Nat):(ns.map fun n:Nat=>(n:Int)).sum=((ns.sum:Nat):Int):=by
 induction ns with
 | nil=>rfl
 | cons a t ih=>rw [Qk,Ze,Ze,ih];lia
section
variable {P:Program} {w:World} {K:PySem.W.Frag} {mg:Str→Option Value} {base:Heap}
theorem zgy:zas ["rounds", "found", "piece", "many_places", "many_ties", "many_faces"] ["rounds"] (zaf zex):=⟨rfl,rfl,rfl,by decide +kernel,rfl,by decide +kernel,by decide +kernel⟩
theorem ok_flat {f ff fp:Addr} {fd fdf fdp:FuncData} (F:Fun K "refuse_not_flat" "refuse_not_flat" zex f fd)
  (FF:Fun K "faces_of" "faces_of" zdd ff fdf) (bF:Binds K fdf ["rounds"] []) (mF:mg "faces_of" = some (.ref ff)) (GF:FnOk P w K mg base CX0 2 ff fdf ["rounds"] spFaces)
  (FP:Fun K "pieces_of" "pieces_of" zdx fp fdp) (bP:Binds K fdp ["rounds"] []) (mP:mg "pieces_of" = some (.ref fp)) (GP:FnOk P w K mg base CX0 2 fp fdp ["rounds"] spPieces)
  (hlen:mg "len" = none) (hsum:mg "sum" = none):FnOk P w K mg base CX0 3 f fd ["rounds"] spFlat:=by
 refine F.ok zgy (fun vs H Q E h=>?_) (fun cdv A outer s H vs Q E hr h=>?_)
 ·obtain ⟨d,es,cs,lab,rfl,_⟩:=h
  rfl
 ·obtain ⟨d,es,cs,lab,rfl,T,hes,hrl,C,k⟩:=h
  have hu:=zce hr
  have hs0:sizeLine=16777216:=sizeLine_eq
  refine ⟨_,zae (zam (i:=1) zgy.nd rfl (Or.inl rfl) (zal GF hr rfl mF FF.kp bF .nil zax (zab (pv 0) zag)))
   (zah (zbe Zg rfl (zaw (zal GP hr rfl mP FP.kp bP .nil zax (zab (pv 0) zag))) (zaj (i:=2) zgy.nd rfl (Or.inr rfl))
    (zae (zam (i:=3) zgy.nd rfl (Or.inl rfl) (zak zaq (by rfl) hlen Yb (zab (pv 2) zag)))
    (zae (zam (i:=4) zgy.nd rfl (Or.inl rfl) (zaz op_fdiv (zak (call_sum rfl) (by rfl) hsum PyProof.Rows.boot_sum (zab (zd1 (M:=["place", "rounds"]) (ix:=[none,some 0]) ⟨csFlA_k,csFlA_c,csFlA_n,csFlA_f,rfl,by decide +kernel,fun j i x h1 h2=>by
       match j,h1,h2 with
       | 0,_,h2=>cases h2
       | 1,h1,h2=>cases h1;cases h2;exact ⟨rfl,csFlA_l⟩
       | n+2,h1,_=>cases h1⟩ rfl (zaw (pv 2)) (fun C pins ex s H=>zaj (i:=0) ndF rfl (Or.inl rfl) (Or.inr rfl)) (fun C pins ex s H=>zb9)
       (fun C pins ex s H=>zak (zc4 (K:=K) rfl) (by rfl) (by exact hlen) Yb (zab (zau (by exact hu) (pv 1) (pv 0) (fun _ _=>rfl)) zag))) zag)) zai))
    (zae (zam (i:=5) zgy.nd rfl (Or.inl rfl) (zak zaq (by rfl) hlen Yb (zab (zd1 (M:=["face", "piece"]) (ix:=[none,some 2]) ⟨csFlB_k,csFlB_c,csFlB_n,csFlB_f,rfl,by decide +kernel,fun j i x h1 h2=>by
       match j,h1,h2 with
       | 0,_,h2=>cases h2
       | 1,h1,h2=>cases h1;cases h2;exact ⟨rfl,csFlB_l⟩
       | n+2,h1,_=>cases h1⟩ rfl (zaw (pv 1)) (fun C pins ex s H=>zaj (i:=0) ndFB rfl (Or.inl rfl) (Or.inr rfl))
       (fun C pins ex s H=>zc0 (zay (zg1 (K:=K) rfl) (zbb (zht (K:=K) rfl) (pv 0) zai (fun _ _=>rfl)) (pv 1) rfl)) (fun C pins ex s H=>pv 0)) zag)))
    (zah (zcg (zay op_ne (zaz zbl (pv 3) (pv 5)) (zaz zbl (pv 4) zai) (zb0 _)) (zah zgr) za4)))))))  ,?_⟩
  refine ⟨_,rfl,d,es,cs,lab,rfl,T,hes,hrl,C,fun fo fas hd hc cs' H1 hfo1 hfal hhd hhp hcs hcp k1=>?_⟩
  have T1:TAt H1 d es:=T.keep k1 (by simp) (fun _ _=>by simp)
  refine ⟨_,rfl,d,es,cs,lab,rfl,T1,hes,C,fun l as zss H2 hl2 hpa hpc k2=>?_⟩
  have T2:TAt H2 d es:=T1.keep k2 (by simp) (fun _ _=>by simp)
  have hfo2:=k2 _ _ hfo1 (by simp)
  have hhd2:Paired (zc8 H2) fas hd:=zcx (D:=d) (g:=d) k2 hhd (fun _ _ _ _=>by simp)
  refine ⟨l,rfl,⟨_,SqL.of hl2⟩,zbm (xs:=as.map V.ref) (fun i σ H'=>Aj2 (Keep [] H2 H') (Ex4 fun x2 x3 x4 x5=>σ=[some (.ref d),some (.ref fo),x2,x3,x4,x5])) ⟨Keep.refl,_,_,_,_,rfl⟩ (fun i σ H' _ hh=>SqL.of (hh.1 _ _ hl2 (by simp))) ?_ ?_⟩
  ·rintro i y σ H3 hx ⟨k3,x2,x3,x4,x5,rfl⟩
   have hi:i < as.length:=by
    have:=(Qz.mp hx).1
    rwa [Qa] at this
   have hxz:y=.ref as[i]:=by
    rw [Qn,Qc hi] at hx
    exact (Qm hx).symm
   subst hxz
   obtain ⟨hi2,hai⟩:=zbg hpa hi
   have hpz:=hpc _ (Qr hi2)
   have hcount:=piece_count C hpz hhp hcs hcp
   generalize zss[i]=zs at hai hpz hcount
   have hai3:H3 as[i]=some (.lst (zs.map V.str)):=k3 _ _ hai (by simp)
   have hzin:∀ z∈zs,∃ e∈es,e.1=z:=fun z hz=>by
    obtain ⟨_,s,_,hm⟩:=hpz
    exact Qi.mp ((hm z).mp hz).1
   have hzl:zs.length≤100:=by
    have:=zcd hpz.1 (m:=es.map (·.1)) fun z hz=>by
     obtain ⟨e,he,rfl⟩:=hzin z hz
     exact Qi.mpr ⟨e,he,rfl⟩
    rw [Qa] at this
    exact Zf ‹_› ‹_›
   refine ⟨_,rfl,as[i],_,rfl,.inl (SqL.of hai3),?_⟩
   have T3:TAt H3 d es:=T2.keep k3 (by simp) (fun _ _=>by simp)
   refine ⟨_,rfl,as[i],rfl,⟨_,SqL.of hai3⟩,lc_at (xs:=zs.map V.str) (fun τ=>∃ x0,τ=[x0,some (.ref d)]) ((zs.map fun x=>((row (rsOf es) x).length:Int)).map V.int) (by rw [Qa,Qa,Qa]) (SqL.of hai3) (by rw [Qa];lia) ⟨none,rfl⟩ ?_ (fun D hD=>?_)⟩
   ·rintro j hj hj' τ ⟨x0,rfl⟩ kk hk
    rw [Qa] at hj
    rw [Yi]
    obtain ⟨en,hen,hname⟩:=hzin _ (Qr hj)
    have dg:DGet H3 d (.str zs[j]) (some (.ref en.2.2)):=by
     have:=DGet.k (k:=Sum.inr en.1) T3.dc
     rw [zbx T3.nd hen,hname] at this
     exact this
    refine ⟨_,rfl,_,rfl,d,_,rfl,dg,en.2.2,_,rfl,.inr (SqT.of (T3.ro en hen)),?_⟩
    have e:((zs.map fun x=>((row (rsOf es) x).length:Int)).map V.int)[j]=V.int ((en.2.1.map V.str).length:Int):=by
     rw [Yi,Yi,← hname,zb3 T3.nd hen,Qa]
    rw [e] at hk
    exact hk _ ⟨_,rfl⟩
   ·have k4:Keep [] H3 (upd H3 D (.lst ((zs.map fun x=>((row (rsOf es) x).length:Int)).map V.int))):=Keep.new hD
    have hD4:(upd H3 D (.lst ((zs.map fun x=>((row (rsOf es) x).length:Int)).map V.int))) D=some (.lst ((zs.map fun x=>((row (rsOf es) x).length:Int)).map V.int)):=zac
    generalize upd H3 D (.lst ((zs.map fun x=>((row (rsOf es) x).length:Int)).map V.int))=H4 at k4 hD4
    refine ⟨D,_,rfl,SqL.of hD4,by rw [Qa];lia,fun n hn=>?_,?_⟩
    ·obtain ⟨z,hz,rfl⟩:=Qi.mp hn
     obtain ⟨en,hen,hname⟩:=hzin z hz
     have h1:=hrl en hen
     rw [← hname,zb3 T3.nd hen]
     lia
    ·have hsumE:(zs.map fun x=>((row (rsOf es) x).length:Int)).sum=(((zs.map fun x=>(row (rsOf es) x).length).sum:Nat):Int):=by
      rw [← sum_cast,Zn];rfl
     rw [hsumE]
     refine ⟨_,_,rfl,rfl,⟨by decide,by decide⟩,?_⟩
     have hfo4:=k4 _ _ (k3 _ _ hfo2 (by simp)) (by simp)
     have hai4:=k4 _ _ hai3 (by simp)
     have hhd4:Paired (zc8 H4) fas hd:=zcx (D:=d) (g:=d) (k3.trans k4) hhd2 (fun _ _ _ _=>by simp)
     refine ⟨_,rfl,fo,rfl,⟨_,SqL.of hfo4⟩,lc_filt (xs:=fas.map V.ref) (fun τ=>∃ x0,τ=[x0,some (.ref as[i])]) (inPc H4 zs) (SqL.of hfo4) (by rw [Qa];lia) ⟨none,rfl⟩ ?_ (fun D2 hD2=>?_)⟩
     ·rintro x hx τ ⟨x0,rfl⟩ kk1 kk0 hk1 hk0
      obtain ⟨a,ha,rfl⟩:=Qi.mp hx
      obtain ⟨j,hj,rfl⟩:=Zq ha
      obtain ⟨hj2,hat⟩:=zbg hhd4 hj
      have hin:=inPc_ref (zs:=zs) hat
      obtain ⟨t,et⟩:=hat
      refine ⟨_,rfl,fas[j],_,_,_,rfl,rfl,SqL.of et,zbo (j:=0) rfl,_,rfl,as[i],_,rfl,.inl (SqL.of hai4),rfl,zcl zs,_,rfl,?_⟩
      cases hb:decide (hd[j]∈zs) with
      | true=>exact zb8 (show inV _ _=true by rw [ze1];exact hb) ⟨_,rfl,hk1 (hin.trans hb) _ ⟨_,rfl⟩⟩
      | false=>exact zbh (show inV _ _=false by rw [ze1];exact hb) (hk0 (hin.trans hb) _ ⟨_,rfl⟩)
     ·have k5:Keep [] H4 (upd H4 D2 (.lst ((fas.map V.ref).filter (inPc H4 zs)))):=Keep.new hD2
      refine ⟨D2,_,rfl,.inl (SqL.of zac),?_⟩
      rw [filt_len hhd4]
      refine ⟨_,rfl,_,rfl,_,_,rfl,rfl,_,rfl,_,_,rfl,rfl,rfl,_,rfl,zbh ?_ ?_⟩
      ·rw [Bool.not_eq_false',decide_eq_true_iff]
       refine congrArg V.int ?_
       rw [Qa]
       lia
      ·exact ⟨(k3.trans k4).trans k5,_,_,_,_,rfl⟩
  ·rintro σ H3 ⟨k3,x2,x3,x4,x5,rfl⟩
   exact k H3 ((k1.trans k2).trans k3)
end
end K21
end
section
namespace K21
open PySem L2 Wb
abbrev zhi:Stmt:=inClass sWeb 0
abbrev zhb:List Ent→List Ent→Prop:=Paired fun t e=>t.1=e.1∧∃ k,t.2.1=e.2.1.drop k++e.2.1.take k
inductive IspInit (C:Addr) (vs:List V) (H:Hp) (Q:VK):Prop
 | mk (x dx l:Addr) (as:List Addr) (es:List Ent) (cs:List (List (Str×Str))) (lab:Str→Str) (h0:vs=[.ref x,.ref l]) (h1:H x=some (.ins C dx [])) (h2:RwAt H l as es) (h3:es.length≤30) (h4:(∀ e∈es,zdl e.1)) (h5:Cert (es.map (·.1)) (row (rsOf es)) cs lab) (h6:∀ (d:Addr) (ts es2:List Ent) (H':Hp),WAt H' C x dx d ts→es2.Perm es→zhb ts es2→Keep [x] H H'→Q .non H'):IspInit C vs H Q
def spInit (C:Addr):Sp:=fun vs H Q _=>IspInit C vs H Q
theorem zby {ts es:List Ent} (h:zhb ts es):ts.map (·.1)=es.map (·.1):=by
 induction h with
 | nil=>rfl
 | cons h t ih=>rw [Qk,Qk,h.1,ih]
theorem zep {ts es:List Ent} (h:zhb ts es) {t:Ent} (ht:t∈ts):∃ e∈es,t.1=e.1∧∃ k,t.2.1=e.2.1.drop k++e.2.1.take k:=by
 induction h with
 | nil=>cases ht
 | cons h _ ih =>
  rcases Qe.mp ht with z | z
  ·subst z;exact ⟨_,Qb,h⟩
  ·obtain ⟨e,he,r⟩:=ih z
   exact ⟨e,Qf _ he,r⟩
theorem zdn {ts es2 es:List Ent} (h:zhb ts es2) (hp:es2.Perm es) (nd:(es.map (·.1)).Nodup):∀ x,∃ k,row (rsOf ts) x=(row (rsOf es) x).drop k++(row (rsOf es) x).take k:=fun x=>by
 have nd2:(ts.map (·.1)).Nodup:=by rw [zby h];exact (hp.map _).nodup_iff.mpr nd
 by_cases hx:x∈ts.map (·.1)
 ·obtain ⟨t,ht,rfl⟩:=Qi.mp hx
  obtain ⟨e,he,e1,k,e2⟩:=zep h ht
  refine ⟨k,?_⟩
  rw [zb3 nd2 ht,e1,zb3 nd (hp.mem_iff.mp he),e2]
 ·refine ⟨0,?_⟩
  have hx2:x∉es.map (·.1):=fun z=>hx (by rw [zby h];exact (hp.map _).mem_iff.mpr z)
  have n1:x∉(rsOf ts).map (·.1):=by unfold rsOf;rw [List.map_map];exact hx
  have n2:x∉(rsOf es).map (·.1):=by unfold rsOf;rw [List.map_map];exact hx2
  rw [zhj n1,zhj n2];rfl
abbrev csInit:Scope:=scOf (eOf (sAt zhi 3))
theorem csInit_k:csInit.kind=.function:=by rfl
theorem csInit_c:∀ y∈csInit.names,y.2≠.cell:=by decide +kernel
theorem csInit_n:∀ y∈csInit.names,y.2=.local→csInit.names.lookup y.1=some .local:=by decide +kernel
theorem csInit_f:∀ y∈csInit.names,y.2=.free→(zaf zhi).names.lookup y.1=some .cell∨(zaf zhi).names.lookup y.1=some .free:=by decide +kernel
section
variable {P:Program} {w:World} {K:PySem.W.Frag} {mg:Str→Option Value} {base:Heap}
theorem scInit:zas ["self", "rows", "rounds"] ["self", "rows"] (zaf zhi):=⟨rfl,rfl,rfl,by decide +kernel,rfl,by decide +kernel,by decide +kernel⟩
theorem ok_init {C f fn ft fo fl ff:Addr} {fd fdn fdt fdo fdl fdf:FuncData} (F:Fun K "__init__" "Web.__init__" zhi f fd) (cW:Cls K C) (nW:zen K C "rounds")
  (FN:Fun K "refuse_no_names" "refuse_no_names" zcz fn fdn) (bN:Binds K fdn ["rows"] []) (mN:mg "refuse_no_names" = some (.ref fn)) (GN:FnOk P w K mg base CX0 2 fn fdn ["rows"] spNoNames)
  (FT:Fun K "refuse_twice" "refuse_twice" zcv ft fdt) (bT:Binds K fdt ["rows"] []) (mT:mg "refuse_twice" = some (.ref ft)) (GT:FnOk P w K mg base CX0 1 ft fdt ["rows"] spTwice)
  (FO:Fun K "refuse_one_way" "refuse_one_way" zdy fo fdo) (bO:Binds K fdo ["rows"] []) (mO:mg "refuse_one_way" = some (.ref fo)) (GO:FnOk P w K mg base CX0 1 fo fdo ["rows"] spOneWay)
  (FL:Fun K "from_least" "from_least" zfv fl fdl) (bL:Binds K fdl ["around"] []) (mL:mg "from_least" = some (.ref fl)) (GL:FnOk P w K mg base CX0 1 fl fdl ["around"] spLeast)
  (FF:Fun K "refuse_not_flat" "refuse_not_flat" zex ff fdf) (bF:Binds K fdf ["rounds"] []) (mF:mg "refuse_not_flat" = some (.ref ff)) (GF:FnOk P w K mg base CX0 3 ff fdf ["rounds"] spFlat)
  (hsor:mg "sorted" = none):FnOk P w K mg base CX0 4 f fd ["self", "rows"] (spInit C):=by
 refine F.ok scInit (fun vs H Q E h=>?_) (fun cdv A outer s H vs Q E hr h=>?_)
 ·obtain ⟨x,dx,l,as,es,cs,lab,rfl,_⟩:=h
  rfl
 ·obtain ⟨x,dx,l,as,es,cs,lab,rfl,hx,R,hes,hok,Ct,k⟩:=h
  have hu:=zce hr
  have hr1:Room 1 _:=hr.mono (by decide)
  have hr2:Room 2 _:=hr.mono (by decide)
  have hs0:sizeLine=16777216:=sizeLine_eq
  refine ⟨_,zae (za8 (zal GN hr2 rfl mN FN.kp bN .nil zax (zab (pv 1) zag)))
   (zae (za8 (zal GT hr1 rfl mT FT.kp bT .nil zax (zab (pv 1) zag)))
   (zae (za8 (zal GO hr1 rfl mO FO.kp bO .nil zax (zab (pv 1) zag)))
   (zae (ps_dc (i:=2) (M:=["place", "around"]) (ix:=[none,none]) scInit.nd rfl rfl (noB (n:=2) csInit_k csInit_c csInit_n csInit_f rfl ndPA) rfl
     (zaw (zak zfc (by rfl) hsor Yx (zab (pv 1) zag)))
     (fun C pins ex s H=>pg_tupK (K:=K) (n:=2) rfl rfl (zbc (zaj (i:=0) ndPA rfl (Or.inl rfl) (Or.inr rfl)) (zbc (zaj (i:=1) ndPA rfl (Or.inl rfl) (Or.inr rfl)) zdf)))
     (fun C pins ex s H=>zb9) (fun C pins ex s H=>pv 0) (fun C pins ex s H=>zal GL (by exact hr1) rfl (by exact mL) FL.kp bL .nil zax (zab (pv 1) zag)) rfl)
   (zae (za8 (zal GF hr rfl mF FF.kp bF .nil zax (zab (pv 2) zag)))
   (zah (ps_fld (pv 0) (pv 2) rfl)))))),?_⟩
  have hnd:(es.map (·.1)).Nodup:=Ct.nd
  have hrow:∀ e∈es,row (rsOf es) e.1=e.2.1:=fun e he=>zb3 hnd he
  have hrn:∀ e∈es,e.2.1.Nodup:=fun e he=>hrow e he ▸ Ct.rn e.1
  have hsubn:∀ e∈es,∀ y∈e.2.1,y∈es.map (·.1):=fun e he y hy=>Ct.inn' (x:=e.1) (by rw [hrow e he];exact hy)
  have hrl:∀ e∈es,e.2.1.length≤30:=fun e he=>by
   have:=zcd (hrn e he) (hsubn e he)
   rw [Qa] at this
   exact Zf ‹_› ‹_›
  refine ⟨_,rfl,l,as,es,rfl,R,fun e he=>⟨Zf (hrl e he) (by decide),hok e he,fun y hy=>?_⟩,fun H1 k1=>?_⟩
  ·obtain ⟨e',he',rfl⟩:=Qi.mp (hsubn e he y hy)
   exact hok e' he'
  have R1:=R.keep k1
  refine ⟨_,rfl,l,as,es,rfl,R1,by lia,hnd,fun e he=>⟨Zf (hrl e he) (by decide),hrn e he⟩,fun H2 k2=>?_⟩
  have R2:=R1.keep k2
  refine ⟨_,rfl,l,as,es,rfl,R2,hnd,fun e he=>⟨?_,fun y hy=>?_⟩,fun H3 k3=>?_⟩
  ·rw [← hrow e he];exact Ct.ir e.1
  ·obtain ⟨e',he',hy'⟩:=Qi.mp (hsubn e he y hy)
   have hy'':e'.1=y:=hy'
   refine ⟨e',he',hy'',?_⟩
   rw [← hrow e' he',hy'']
   exact Ct.sy e.1 y (by rw [hrow e he];exact hy)
  have R3:=R2.keep k3
  have k03:Keep [] H H3:=(k1.trans k2).trans k3
  have hal:as.length=es.length:=Ym R3.ts
  refine ⟨_,rfl,l,_,rfl,SqL.of R3.ls,fun v hv=>?_,fun v hv u hu e=>?_,fun l2 wsV hl2 hperm=>?_⟩
  ·obtain ⟨a,ha,rfl⟩:=Qi.mp hv
   obtain ⟨i,hi,rfl⟩:=Zq ha
   obtain ⟨hi2,h⟩:=zbg R3.ts hi
   exact ⟨_,_,_,rfl,h⟩
  ·obtain ⟨a,ha,rfl⟩:=Qi.mp hv
   obtain ⟨b,hb,rfl⟩:=Qi.mp hu
   obtain ⟨i,hi,rfl⟩:=Zq ha
   obtain ⟨j,hj,rfl⟩:=Zq hb
   obtain ⟨hi2,h1⟩:=zbg R3.ts hi
   obtain ⟨hj2,h2⟩:=zbg R3.ts hj
   rw [zfg h1,zfg h2] at e
   have e':es[i].1=es[j].1:=by
    have q:es[i].1.cps.toList=es[j].1.cps.toList:=e
    generalize es[i].1=a1 at q ⊢
    generalize es[j].1=a2 at q ⊢
    cases a1;cases a2
    congr 1
    exact Array.toList_inj.mp q
   have e2:(es.map (·.1))[i]'(by rw [Qa];exact hi2)=(es.map (·.1))[j]'(by rw [Qa];exact hj2):=by rw [Yi,Yi];exact e'
   have:=(Uf hnd).mp e2
   subst this
   rfl
  ·obtain ⟨as2,rfl,hp2⟩:=refs_perm hperm
   obtain ⟨es2,hpe,hts2⟩:=zd2 hp2 R3.ts
   have k4:Keep [] H3 (upd H3 l2 (.lst (as2.map V.ref))):=Keep.new hl2
   have hl4:(upd H3 l2 (.lst (as2.map V.ref))) l2=some (.lst (as2.map V.ref)):=zac
   generalize upd H3 l2 (.lst (as2.map V.ref))=H4 at k4 hl4
   have hts4:Paired (fun a (e:Ent)=>H4 a=some (.tup [.str e.1,.ref e.2.2])) as2 es2:=Paired.imp' (fun _ _ h=>k4 _ _ h (by simp)) hts2
   have hro4:∀ e∈es2,H4 e.2.2=some (.lst (e.2.1.map V.str)):=fun e he=>k4 _ _ (R3.ro e (hpe.mem_iff.mp he)) (by simp)
   have hnd2:(es2.map (·.1)).Nodup:=(hpe.map _).nodup_iff.mpr hnd
   have hal2:as2.length=es2.length:=Ym hts4
   have hel2:es2.length=es.length:=hpe.length_eq
   refine ⟨l2,rfl,⟨_,SqL.of hl4⟩,fun i m ys τ H'=>Aj5 (m=es2.length - i) (i≤es2.length) (Ex2 fun x0 x1=>τ=[x0,x1]) (Keep [] H4 H') (Ex1 fun (ts:List Ent)=>Aj3 (ys=(ts.map fun e=>((Sum.inr e.1:Key),V.ref e.2.2))) (∀ e∈ts,H' e.2.2=some (.tup (e.2.1.map V.str))) (zhb ts (es2.take i))),
    ⟨es2.length,rfl,Zd _,⟨none,none,rfl⟩,Keep.refl,[],rfl,fun e he=>(by cases he),.nil⟩,?_⟩
   rintro i m ys τ H5 ⟨rfl,hi,⟨x0,x1,rfl⟩,k5,ts,rfl,htp,htn⟩
   by_cases hlt:i < es2.length
   ·have hti:=zby htn
    have htl:ts.length≤i:=by
     have:=congrArg List.length hti
     rw [Qa,Qa,Zm] at this
     lia
    refine .inr ⟨⟨_,.ref as2[i],SqL.of (k5 _ _ hl4 (by simp)),by rw [Qn,Qc (by exact zar6 ‹_› ‹_›)];rfl⟩,by rw [Qa];lia,?_⟩
    rintro v H6 ⟨rfl,hv⟩
    have hv':=hv _ (SqL.of (k5 _ _ hl4 (by simp)))
    rw [Qn,Qc (by exact zar6 ‹_› ‹_›)] at hv'
    obtain rfl:V.ref as2[i]=v:=Qm hv'
    obtain ⟨hi2,hai⟩:=zbg hts4 (by exact zar6 ‹_› ‹_›:i < as2.length)
    have hei:es2[i]∈es2:=Qr hlt
    have hro:=k5 _ _ (hro4 _ hei) (by simp)
    have hnewn:es2[i].1∉ts.map (·.1):=by
     rw [hti]
     have h1:(es2.map (·.1)).take (i+1)=(es2.map (·.1)).take i++[es2[i].1]:=by
      rw [Qg (by rw [Qa];exact hlt),Yi]
     have h2:((es2.map (·.1)).take (i+1)).Nodup:=Yu (Ul _ _) hnd2
     rw [h1,Za,← Ui] at h2
     exact fun z=>h2.2.2 _ z _ (Qd.mpr rfl) rfl
    refine ⟨as2[i],_,rfl,SqT.of (k5 _ _ hai (by simp)),rfl,_,_,rfl,_,_,rfl,rfl,_,rfl,_,rfl,es2[i].2.2,es2[i].2.1,rfl,hro,Zf (hrl _ (hpe.mem_iff.mp hei)) (by decide),fun t j H7 hj ht7 htfr k7=>?_⟩
    refine ⟨Sum.inr es2[i].1,rfl,es2.length - (i+1),by exact zar1 ‹_›,rfl,hlt,⟨_,_,rfl⟩,k5.trans k7,ts++[(es2[i].1,es2[i].2.1.drop j++es2[i].2.1.take j,t)],put_new (r:=es2[i].2.1.drop j++es2[i].2.1.take j) hnewn,fun e he=>?_,?_⟩
    ·rcases Ql.mp he with z | z
     ·exact k7 _ _ (htp e z) (by simp)
     ·rw [Qd.mp z];exact ht7
    ·rw [Qg hlt]
     exact za3 htn (.cons ⟨rfl,j,rfl⟩ .nil)
   ·have hie:i=es2.length:=by exact zar3 ‹_› ‹_›
    subst hie
    rw [Qp (Qh _)] at htn
    refine .inl ⟨⟨_,SqL.of (k5 _ _ hl4 (by simp)),by rw [Qa,hal2];exact Qh _⟩,fun d hd=>?_⟩
    have k6:Keep [] H5 (upd H5 d (.dK (ts.map fun e=>((Sum.inr e.1:Key),V.ref e.2.2)))):=Keep.new hd
    have hd6:(upd H5 d (.dK (ts.map fun e=>((Sum.inr e.1:Key),V.ref e.2.2)))) d=some (.dK (ts.map fun e=>((Sum.inr e.1:Key),V.ref e.2.2))):=zac
    generalize upd H5 d (.dK (ts.map fun e=>((Sum.inr e.1:Key),V.ref e.2.2)))=H6 at k6 hd6
    have hti:=zby htn
    have T6:TAt H6 d ts:=⟨hd6,fun e he=>k6 _ _ (htp e he) (by simp),by rw [hti];exact hnd2⟩
    have htl:ts.length=es.length:=by
     have:=congrArg List.length hti
     rw [Qa,Qa,hpe.length_eq] at this
     exact this
    have C6:Cert (ts.map (·.1)) (row (rsOf ts)) cs lab:=cert_turn Ct (by rw [hti];exact hpe.map _) (zdn htn hpe hnd)
    refine ⟨_,rfl,d,ts,cs,lab,rfl,T6,by lia,fun e he=>?_,C6,fun H7 k7=>?_⟩
    ·obtain ⟨e',he',_,kk,e2⟩:=zep htn he
     rw [e2,(zfh _ kk).length_eq]
     exact Zf (hrl e' (hpe.mem_iff.mp he')) (by decide)
    ·have k07:Keep [] H H7:=(((k03.trans k4).trans k5).trans k6).trans k7
     have hx7:=k07 _ _ hx (by simp)
     have T7:TAt H7 d ts:=T6.keep k7 (by simp) (fun _ _=>by simp)
     have nxd:d≠x:=za0 T7.dc hx7 (by intro z;cases z)
     refine ⟨_,rfl,_,rfl,x,C,dx,[],rfl,hx7,cW,nW,(by decide),?_⟩
     refine k d ts es2 _ ⟨zac,T7.keep (xs:=[x]) (Keep.wr (by simp)) (by simpa using nxd) fun e he=>by simpa using za0 (T7.ro e he) hx7 (by intro z;cases z)⟩ hpe htn ((k07.sub (by simp)).trans (Keep.wr (by simp)))
end
abbrev sLWeb:Stmt:=top 38
inductive IspLWeb (C:Addr) (vs:List V) (H:Hp) (Q:VK):Prop
 | mk (p d:Addr) (b m:Int) (es:List Ent) (cs:List (List (Str×Str))) (lab:Str→Str) (h0:vs=[.ref p,.ref d]) (h1:Pot H p b m) (h2:RAt H d es) (h3:es.length≤30) (h4:(∀ e∈es,zdl e.1)) (h5:Cert (es.map (·.1)) (row (rsOf es)) cs lab) (h6:∀ (x dx d2:Addr) (ts:List Ent) (b' m':Int) (H':Hp),WAt H' C x dx d2 ts→(ts.map (·.1)).Perm (es.map (·.1))→(∀ y,(row (rsOf ts) y).Perm (row (rsOf es) y))→Pot H' p b' m'→Keep [p] H H'→Q (.ref x) H'):IspLWeb C vs H Q
def spLWeb (C:Addr):Sp:=fun vs H Q _=>IspLWeb C vs H Q
theorem zfy {α β:Type} {R:α→β→Prop}:∀ {as:List α} {bs:List β} (n:Nat),Paired R as bs→Paired R (as.take n) (bs.take n):=by
 intro as bs n r
 induction r generalizing n with
 | nil=>rw [List.take_nil,List.take_nil];exact .nil
 | cons h t ih =>
  cases n with
  | zero=>exact .nil
  | succ k=>exact .cons h (ih k)
theorem zfz {α β:Type} {R:α→β→Prop}:∀ {as:List α} {bs:List β} (n:Nat),Paired R as bs→Paired R (as.drop n) (bs.drop n):=by
 intro as bs n r
 induction r generalizing n with
 | nil=>rw [List.drop_nil,List.drop_nil];exact .nil
 | cons h t ih =>
  cases n with
  | zero=>exact .cons h t
  | succ k=>exact ih k
section
variable {P:Program} {w:World} {K:PySem.W.Frag} {mg:Str→Option Value} {base:Heap}
theorem scLWeb:zas ["_law_pot_here", "_law_rounds_here", "_law_rows", "_law_name", "_law_row", "_law_at"] ["_law_pot_here", "_law_rounds_here"] (zaf sLWeb):=⟨rfl,rfl,rfl,by decide +kernel,rfl,by decide +kernel,by decide +kernel⟩
theorem ok_lweb {C f ft fi:Addr} {fd fdt fdi:FuncData} (F:Fun K "_law_web" "_law_web" sLWeb f fd)
  (FT:Fun K "_law_take" "_law_take" zeu ft fdt) (bT:Binds K fdt ["_law_pot_here", "_law_many"] []) (mT:mg "_law_take" = some (.ref ft)) (GT:FnOk P w K mg base CX0 1 ft fdt ["_law_pot_here", "_law_many"] ze6)
  (MW:Mk K C fi) (mW:mg "Web" = some (.ref C)) (bI:Binds K fdi ["self", "rows"] []) (GI:FnOk P w K mg base CX0 4 fi fdi ["self", "rows"] (spInit C))
  (hlen:mg "len" = none):FnOk P w K mg base CX0 6 f fd ["_law_pot_here", "_law_rounds_here"] (spLWeb C):=by
 refine F.ok scLWeb (fun vs H Q E h=>?_) (fun cdv A outer s H vs Q E hr h=>?_)
 ·obtain ⟨p,d,b,m,es,cs,lab,rfl,_⟩:=h
  rfl
 ·obtain ⟨p,d,b,m,es,cs,lab,rfl,hp,R,hes,hok,Ct,k⟩:=h
  have hu:=zce hr
  have hr1:Room 1 _:=hr.mono (by decide)
  have hs0:sizeLine=16777216:=sizeLine_eq
  refine ⟨_,zae (zam (i:=2) scLWeb.nd rfl (Or.inl rfl) (zbd zag))
   (zae (zhk (zbe Zg rfl (zd0 (pv 1)) (zaj (i:=3) scLWeb.nd rfl (Or.inl rfl))
    (zae (zam (i:=4) scLWeb.nd rfl (Or.inl rfl) (zau hu (pv 1) (pv 3) (fun _ _=>rfl)))
    (zae (zam (i:=5) scLWeb.nd rfl (Or.inl rfl) (zal GT hr1 rfl mT FT.kp bT .nil zax (zab (pv 0) (zab (zaz zbl (zak zaq (by rfl) hlen Yb (zab (pv 4) zag)) zai) zag))))
    (zah (za8 (zee Zu PySem.F.slot_list_insert PySem.F.type_list_insert mt_insert (pv 2) (zab (zal GT hr1 rfl mT FT.kp bT .nil zax (zab (pv 0) (zab (zaz zbl (zak zaq (by rfl) hlen Yb (zab (pv 2) zag)) zai) zag)))
     (zab (zfx (zab (pv 3) (zab (zaz zf0 (zcp zda (pv 4) (zc1 (pv 5)) zct) (zcp zda (pv 4) zct (zc1 (pv 5)))) zag))) zag)))))))))
   (zah (zbk (pe_make MW GI hr rfl mW bI .nil zax (zab (pv 2) zag))))),?_⟩
  have hnd:(es.map (·.1)).Nodup:=R.nd
  have hrow:∀ e∈es,row (rsOf es) e.1=e.2.1:=fun e he=>zb3 hnd he
  have hrn:∀ e∈es,e.2.1.Nodup:=fun e he=>hrow e he ▸ Ct.rn e.1
  have hsubn:∀ e∈es,∀ y∈e.2.1,y∈es.map (·.1):=fun e he y hy=>Ct.inn' (x:=e.1) (by rw [hrow e he];exact hy)
  have hrl:∀ e∈es,e.2.1.length≤30:=fun e he=>by
   have:=zcd (hrn e he) (hsubn e he)
   rw [Qa] at this
   exact Zf ‹_› ‹_›
  refine ⟨(by show 0≤sizeLine;decide),fun ro hro=>?_⟩
  have nfz:∀ o' u',H d≠some (.frz o' u'):=fun o' u' z=>by rw [R.dc] at z;cases z
  have npd:p≠d:=Zl (pot_nd hp R.dc)
  have npr:p≠ro:=zaa hp.1 hro
  have ndr:d≠ro:=zaa R.dc hro
  have k1:Keep [] H (upd H ro (.lst [])):=Keep.new hro
  have hro1:(upd H ro (.lst [])) ro=some (.lst []):=zac
  generalize upd H ro (.lst [])=H1 at k1 hro1
  have R1:RAt H1 d es:=R.keep k1 (by simp) (fun _ _=>by simp)
  have hp1:Pot H1 p b m:=hp.keep k1 (by simp)
  have rowne:∀ e∈es,e.2.2∉[p,d,ro]:=fun e he=>by
   have h1:=R.ro e he
   simp only [Qe,Kp,or_false,not_or]
   exact ⟨zc6 hp h1,za0 h1 R.dc (by intro z;cases z),zaa h1 hro⟩
  refine ⟨_,rfl,d,_,rfl,R1.dc,fun o=>zhx (fun i σ H'=>Aj4 (Ex3 fun x3 x4 x5=>σ=[some (.ref p),some (.ref d),some (.ref ro),x3,x4,x5]) (H' d=some (.frz o (.dK (es.map fun e=>((Sum.inr e.1:Key),V.ref e.2.2))))) (Keep [p,d,ro] H1 H') (Ex5 fun (b' m':Int) (as:List Addr) (es1 es':List Ent)=>Aj7 (Pot H' p b' m') (H' ro=some (.lst (as.map V.ref))) (Paired (fun a (e:Ent)=>H' a=some (.tup [.str e.1,.ref e.2.2])) as es1) (∀ e∈es1,H' e.2.2=some (.lst (e.2.1.map V.str))) (es'.Perm (es.take i)) (zhb es1 es') (∀ e∈es1,e.2.2≠ro)))
   ⟨⟨_,_,_,rfl⟩,zac,Keep.wr (by simp),b,m,[],[],[],hp1.keep (xs:=[d]) (Keep.wr (by simp)) (by simpa using npd),by rw [zad (Zl ndr)];exact hro1,.nil,fun e he=>(by cases he),List.Perm.refl _,.nil,fun e he=>(by cases he)⟩ (fun i σ H' _ hh=>hh.2) ?_ ?_⟩
  ·rintro i pr σ H2 hpr ⟨⟨x3,x4,x5,rfl⟩,hz,k2,b2,m2,as,es1,es',hp2,hro2,hts2,hrw2,hpe,htn,rowro⟩
   have hi:i < es.length:=by
    have:=(Qz.mp hpr).1
    rwa [Qa] at this
   have g1:pr=((Sum.inr es[i].1:Key),V.ref es[i].2.2):=by
    rw [Qn,Qc hi] at hpr
    exact (Qm hpr).symm
   subst g1
   have hei:es[i]∈es:=Qr hi
   have hrl1:=hrl _ hei
   have hri1:=R1.ro _ hei
   have hri2:=k2 _ _ hri1 (rowne _ hei)
   have hal:as.length=i:=by
    rw [Ym hts2,Ym htn,hpe.length_eq,Zm];lia
   refine ⟨_,rfl,_,rfl,d,.ref es[i].2.2,rfl,.inl ⟨_,Sum.inr es[i].1,.inr ⟨o,hz⟩,rfl,(zbx hnd hei).symm⟩,?_⟩
   refine ⟨_,rfl,_,rfl,es[i].2.2,_,rfl,.inl (SqL.of hri2),_,_,rfl,rfl,p,b2,m2,_,rfl,hp2,(by rw [Qa];lia),(by rw [Qa];lia),fun j3 b3 m3 H3 hj3 hj3' hp3 kp3=>?_⟩
   have k3:=zbj kp3
   obtain ⟨j,rfl⟩:=Ya hj3
   rw [Qa] at hj3'
   have hj:j≤es[i].2.1.length:=by lia
   have nrop:ro≠p:=Zl npr
   have hro3:=k3 _ _ hro2 (by simpa using nrop)
   have hri3:=k3 _ _ hri2 (by simpa using zc6 hp2 hri2)
   have hz3:=k3 _ _ hz (by simpa using Zl npd)
   have hts3:Paired (fun a (e:Ent)=>H3 a=some (.tup [.str e.1,.ref e.2.2])) as es1:=Paired.imp' (fun a e h=>k3 _ _ h (by simpa using za0 h hp2.1 (by intro z;cases z))) hts2
   have hrw3:∀ e∈es1,H3 e.2.2=some (.lst (e.2.1.map V.str)):=fun e he=>k3 _ _ (hrw2 e he) (by simpa using zc6 hp2 (hrw2 e he))
   refine ⟨_,rfl,.inl ⟨rfl,_,SqL.of hro3⟩,_,rfl,_,rfl,ro,_,rfl,.inl (SqL.of hro3),_,_,rfl,rfl,p,b3,m3,_,rfl,hp3,(by rw [Qa];lia),(by rw [Qa];lia),fun j4 b4 m4 H4 hj4 hj4' hp4 kp4=>?_⟩
   have k4:=zbj kp4
   obtain ⟨n,rfl⟩:=Ya hj4
   rw [Qa] at hj4'
   have hn:n≤as.length:=by lia
   have hro4:=k4 _ _ hro3 (by simpa using nrop)
   have hri4:=k4 _ _ hri3 (by simpa using zc6 hp3 hri3)
   have hz4:=k4 _ _ hz3 (by simpa using Zl npd)
   have hts4:Paired (fun a (e:Ent)=>H4 a=some (.tup [.str e.1,.ref e.2.2])) as es1:=Paired.imp' (fun a e h=>k4 _ _ h (by simpa using za0 h hp3.1 (by intro z;cases z))) hts3
   have hrw4:∀ e∈es1,H4 e.2.2=some (.lst (e.2.1.map V.str)):=fun e he=>k4 _ _ (hrw3 e he) (by simpa using zc6 hp3 (hrw3 e he))
   refine ⟨.str es[i].1,rfl,_,rfl,_,rfl,_,rfl,es[i].2.2,_,rfl,SqL.of hri4,fun q1 h1=>?_⟩
   have n1:es[i].2.2≠q1:=zaa hri4 h1
   refine ⟨_,rfl,_,rfl,_,rfl,es[i].2.2,_,rfl,SqL.of (by rw [zad n1];exact hri4),fun q2 h2=>?_⟩
   have n12:q1≠q2:=zaa (o:=_) zac h2
   have hlm:(es[i].2.1.map V.str).length=es[i].2.1.length:=Qa ..
   refine ⟨q1,q2,_,_,rfl,rfl,(by rw [zad n12];exact zac),zac,?_,fun q3 h3=>?_⟩
   ·have c1:=za1 (es[i].2.1.map V.str) (some (j:Int)) none
    have c2:=za1 (es[i].2.1.map V.str) none (some (j:Int))
    rw [hlm] at c1 c2
    lia
   have ecut:cutV (es[i].2.1.map V.str) (some (j:Int)) none++cutV (es[i].2.1.map V.str) none (some (j:Int))=(es[i].2.1.drop j++es[i].2.1.take j).map V.str:=by
    rw [zel (by rw [hlm];exact hj),cut_to (by rw [hlm];exact hj),Qo,Jn,Ui]
   rw [ecut]
   have k5:Keep [] H4 (upd (upd (upd H4 q1 (.lst (cutV (es[i].2.1.map V.str) (some (j:Int)) none))) q2 (.lst (cutV (es[i].2.1.map V.str) none (some (j:Int))))) q3 (.lst ((es[i].2.1.drop j++es[i].2.1.take j).map V.str))):=((Keep.new h1).trans (Keep.new h2)).trans (Keep.new h3)
   have hq5:(upd (upd (upd H4 q1 (.lst (cutV (es[i].2.1.map V.str) (some (j:Int)) none))) q2 (.lst (cutV (es[i].2.1.map V.str) none (some (j:Int))))) q3 (.lst ((es[i].2.1.drop j++es[i].2.1.take j).map V.str))) q3=some (.lst ((es[i].2.1.drop j++es[i].2.1.take j).map V.str)):=zac
   generalize upd (upd (upd H4 q1 (.lst (cutV (es[i].2.1.map V.str) (some (j:Int)) none))) q2 (.lst (cutV (es[i].2.1.map V.str) none (some (j:Int))))) q3 (.lst ((es[i].2.1.drop j++es[i].2.1.take j).map V.str))=H5 at k5 hq5
   refine ⟨(by show 2≤sizeLine;decide),fun t ht=>?_⟩
   have k6:Keep [] H4 (upd H5 t (.tup [.str es[i].1,.ref q3])):=k5.trans (Keep.new ht)
   have ht6:(upd H5 t (.tup [.str es[i].1,.ref q3])) t=some (.tup [.str es[i].1,.ref q3]):=zac
   have hq6:(upd H5 t (.tup [.str es[i].1,.ref q3])) q3=some (.lst ((es[i].2.1.drop j++es[i].2.1.take j).map V.str)):=by rw [zad (zaa hq5 ht)];exact hq5
   generalize upd H5 t (.tup [.str es[i].1,.ref q3])=H6 at k6 ht6 hq6
   have hro6:=k6 _ _ hro4 (by simp)
   refine ⟨ro,_,_,n,rfl,rfl,hro6,by rw [Qa];lia,by rw [Qa];exact hn,?_⟩
   have einsert:(as.map V.ref).take n++V.ref t::(as.map V.ref).drop n=(as.take n++t::as.drop n).map V.ref:=by
    rw [Qo,Qk,Ui,Jn]
   have nq3ro:q3≠ro:=fun z=>by
    have h6:=k5 _ _ hro4 (by simp)
    have hz':=(zaa (H:=upd (upd H4 q1 (.lst (cutV (es[i].2.1.map V.str) (some (j:Int)) none))) q2 (.lst (cutV (es[i].2.1.map V.str) none (some (j:Int))))) (a:=ro) (b:=q3) (((Keep.new (xs:=[]) h1).trans (Keep.new h2)) _ _ hro4 (by simp)) h3)
    exact hz' z.symm
   have keepro:∀ {a:Addr} {u:HO},H6 a=some u→a≠ro→(upd H6 ro (.lst ((as.map V.ref).take n++V.ref t::(as.map V.ref).drop n))) a=some u:=fun {a u} e ne=>by rw [zad ne];exact e
   have tupro:∀ {a:Addr} {xs:List V},H6 a=some (.tup xs)→a≠ro:=fun {a xs} e=>za0 e hro6 (by intro z;cases z)
   refine ⟨⟨_,_,_,rfl⟩,by rw [zad ndr];exact k6 _ _ hz4 (by simp),(((k2.trans (k3.sub (by simp))).trans (k4.sub (by simp))).trans (k6.sub (by simp))).trans (Keep.wr (by simp)),b4,m4,as.take n++t::as.drop n,es1.take n++(es[i].1,es[i].2.1.drop j++es[i].2.1.take j,q3)::es1.drop n,es'.take n++es[i]::es'.drop n,(hp4.keep k6 (by simp)).keep (xs:=[ro]) (Keep.wr (by simp)) (by simpa using npr),by rw [zac,einsert],?_,fun e he=>?_,?_,?_,fun e he=>?_⟩
   ·have h6:Paired (fun a (e:Ent)=>(upd H6 ro (.lst ((as.map V.ref).take n++V.ref t::(as.map V.ref).drop n))) a=some (.tup [.str e.1,.ref e.2.2])) as es1:=Paired.imp' (fun a e h=>keepro (k6 _ _ h (by simp)) (tupro (k6 _ _ h (by simp)))) hts4
    exact za3 (zfy n h6) (.cons (keepro ht6 (tupro ht6)) (zfz n h6))
   ·have he':e∈es1∨e=(es[i].1,es[i].2.1.drop j++es[i].2.1.take j,q3):=by
     rcases Ql.mp he with z | z
     ·exact .inl (Uq z)
     ·rcases Qe.mp z with y | y
      ·exact .inr y
      ·exact .inl (Ub y)
    rcases he' with z | z
    ·exact keepro (k6 _ _ (hrw4 e z) (by simp)) (rowro e z)
    ·rw [z];exact keepro hq6 nq3ro
   ·rw [Qg hi]
    have:(es'.take n++es[i]::es'.drop n).Perm (es[i]::es'):=by
     refine Jm.trans ?_
     rw [Yq]
    exact this.trans ((List.Perm.cons _ hpe).trans (List.perm_append_singleton _ _).symm)
   ·exact za3 (zfy n htn) (.cons ⟨rfl,j,rfl⟩ (zfz n htn))
   ·rcases Ql.mp he with z | z
    ·exact rowro e (Uq z)
    ·rcases Qe.mp z with y | y
     ·rw [y];exact nq3ro
     ·exact rowro e (Ub y)
  ·rintro σ H2 ⟨⟨x3,x4,x5,rfl⟩,hz,k2,b2,m2,as,es1,es',hp2,hro2,hts2,hrw2,hpe,htn,rowro⟩
   rw [Qa,Qp (Qh _)] at hpe
   refine ⟨d,o,_,hz,nfz,?_⟩
   have kf:Keep [p,ro] H1 (upd H2 d (.dK (es.map fun e=>((Sum.inr e.1:Key),V.ref e.2.2)))):=fun c u ec hc=>by
    by_cases hcd:c=d
    ·subst hcd
     rw [zac,← R1.dc];exact ec
    ·rw [zad hcd]
     refine k2 c u ec ?_
     simp only [Qe,Kp,or_false,not_or] at hc ⊢
     exact ⟨hc.1,hcd,hc.2⟩
   have hp3:Pot (upd H2 d (.dK (es.map fun e=>((Sum.inr e.1:Key),V.ref e.2.2)))) p b2 m2:=hp2.keep (xs:=[d]) (Keep.wr (by simp)) (by simpa using npd)
   have hR3:RwAt (upd H2 d (.dK (es.map fun e=>((Sum.inr e.1:Key),V.ref e.2.2)))) ro as es1:=⟨by rw [zad (Zl ndr)];exact hro2,Paired.imp' (fun a e h=>by rw [zad (za0 h hz (by intro z;cases z))];exact h) hts2,fun e he=>by rw [zad (za0 (hrw2 e he) hz (by intro z;cases z))];exact hrw2 e he⟩
   generalize upd H2 d (.dK (es.map fun e=>((Sum.inr e.1:Key),V.ref e.2.2)))=H3 at kf hp3 hR3
   refine ⟨_,rfl,fun x dx hx hdx hne=>?_⟩
   have k4:Keep [] H3 (upd (upd H3 dx (.own x)) x (.ins C dx [])):=fun c u ec _=>by
    rw [zad (zaa ec hx),zad (zaa ec hdx)];exact ec
   have hx4:(upd (upd H3 dx (.own x)) x (.ins C dx [])) x=some (.ins C dx []):=zac
   generalize upd (upd H3 dx (.own x)) x (.ins C dx [])=H4 at k4 hx4
   have hti:=zby htn
   have hel:es1.length=es.length:=by rw [Ym htn,hpe.length_eq]
   have C1:Cert (es1.map (·.1)) (row (rsOf es1)) cs lab:=cert_turn Ct (by rw [hti];exact hpe.map _) (zdn htn hpe hnd)
   refine ⟨x,dx,ro,as,es1,cs,lab,rfl,hx4,hR3.keep k4,by lia,fun e he=>?_,C1,fun d2 ts es2 H5 wt hp5 ht5 k5=>⟨rfl,?_⟩⟩
   ·obtain ⟨e',he',e1,_⟩:=zep htn he
    rw [e1];exact hok e' (hpe.mem_iff.mp he')
   ·have hns:(ts.map (·.1)).Perm (es.map (·.1)):=by
     rw [zby ht5]
     refine (hp5.map _).trans ?_
     rw [hti];exact hpe.map _
    have npx:p≠x:=zaa hp3.1 hx
    refine k x dx d2 ts b2 m2 H5 wt hns (fun y=>?_) ((hp3.keep k4 (by simp)).keep k5 (by simpa using npx)) ?_
    ·obtain ⟨k1,e1⟩:=zdn ht5 hp5 (by rw [hti];exact (hpe.map _).nodup_iff.mpr hnd) y
     obtain ⟨k2,e2⟩:=zdn htn hpe hnd y
     rw [e1,e2]
     exact (zfh _ k1).trans (zfh _ k2)
    ·refine fun c u ec hc=>?_
     have ncp:c≠p:=fun z=>hc (by simp [z])
     have h3:=kf c u (k1 c u ec (by simp)) (by simp [ncp,zaa ec hro])
     exact k5 c u (k4 c u h3 (by simp)) (by simpa using zaa h3 hx)
end
end K21
end
section
namespace Wb
open PySem L2
def dg (r:Str→List Str) (D:List Str) (y:Str):Nat:=((r y).filter fun z=>decide (z∉D)).length
structure Pre (ns:List Str) (r:Str→List Str) (D:List Str):Prop where
 sub:∀ x∈D,x∈ns
 nd:D.Nodup
 le:∀ (i:Nat) (h:i < D.length),∀ z∈ns,z∉D.take i→leK (dg r (D.take i) D[i],D[i]) (dg r (D.take i) z,z)
structure zbw (ns:List Str) (r:Str→List Str) (T:List Str):Prop extends Pre ns r T where
 pm:T.Perm ns
variable {ns ns' T T' D:List Str} {r r':Str→List Str}
theorem zbn {l:List Str} (nd:l.Nodup) {i:Nat} (h:i < l.length):l[i]∉l.take i:=fun z=>by
 have h2:(l.take (i+1)).Nodup:=Yu (Ul _ _) nd
 rw [Qg h,Za] at h2
 exact h2.2.2 _ z _ (Qd.mpr rfl) rfl
theorem dg_turn (hr:∀ y,(r' y).Perm (r y)) (D:List Str) (y:Str):dg r' D y=dg r D y:=(List.Perm.filter _ (hr y)).length_eq
theorem Pre.nil:Pre ns r []:=⟨fun x hx=>(by cases hx),Zo,fun i h=>absurd h (Kt _)⟩
theorem Pre.snoc (P:Pre ns r D) {y:Str} (hy:y∈ns) (hyD:y∉D) (hl:∀ z∈ns,z∉D→leK (dg r D y,y) (dg r D z,z)):Pre ns r (D++[y]):=by
 refine ⟨fun x hx=>?_,?_,fun i h=>?_⟩
 ·rcases Ql.mp hx with z | z
  ·exact P.sub x z
  ·rw [Qd.mp z];exact hy
 ·rw [Za]
  exact ⟨P.nd,Ko _ _,fun a ha b hb e=>hyD (by rw [← Qd.mp hb,← e];exact ha)⟩
 ·rw [Qw,Wp] at h
  by_cases hi:i < D.length
  ·rw [List.take_append_of_le_length (Wt hi),List.getElem_append_left hi]
   exact P.le i hi
  ·have hi:i=D.length:=by omega
   subst hi
   rw [List.take_append_of_le_length (Qh _),Qp (Qh _),List.getElem_append_right (Qh _)]
   simp only [Nat.sub_self,List.getElem_singleton]
   exact hl
theorem Pre.order (P:Pre ns r D) (nd:ns.Nodup) (all:∀ x∈ns,x∈D):zbw ns r D:=⟨P,(Uo P.nd nd).mpr fun x=>⟨P.sub x,all x⟩⟩
theorem zbw.turn (hp:ns'.Perm ns) (hr:∀ y,(r' y).Perm (r y)) (a:zbw ns' r' T):zbw ns r T :=
 ⟨⟨fun x hx=>hp.mem_iff.mp (a.sub x hx),a.nd,fun i h z hz hn=>by
  have:=a.le i h z (hp.mem_iff.mpr hz) hn
  rw [dg_turn hr,dg_turn hr] at this
  exact this⟩,a.pm.trans hp⟩
theorem zbw.one (a:zbw ns r T) (b:zbw ns r T'):T=T':=by
 have hl:T.length=T'.length:=a.pm.length_eq.trans b.pm.length_eq.symm
 have key:∀ i,i≤T.length→T.take i=T'.take i:=by
  intro i
  induction i with
  | zero=>intro _;rfl
  | succ i ih =>
   intro h
   have e:=ih (Nat.le_of_succ_le h)
   have hi:i < T.length:=h
   have hi':i < T'.length:=hl ▸ h
   have h1:=a.le i hi T'[i] (b.sub _ (Qr hi')) (by rw [e];exact zbn b.nd hi')
   have h2:=b.le i hi' T[i] (a.sub _ (Qr hi)) (by rw [← e];exact zbn a.nd hi)
   rw [← e] at h2
   have e3:T[i]=T'[i]:=congrArg Prod.snd (leK_antisymm h1 h2)
   rw [Qg hi,Qg hi',e,e3]
 have:=key T.length (Qh _)
 rwa [Qp (Qh _),Qp (Jz hl.symm)] at this
theorem zbw.five {cs:List (List (Str×Str))} (F:Flat ns r cs) (a:zbw ns r T) {i:Nat} (hi:i < T.length):dg r (T.take i) T[i]≤5:=by
 obtain ⟨y,hy,hyD,h5⟩:=deg_left F (T.take i) (x:=T[i]) (a.sub _ (Qr hi)) (zbn a.nd hi)
 have h5':dg r (T.take i) y≤5:=h5
 rcases a.le i hi y hy hyD with h | ⟨h,_⟩
 ·have h':dg r (T.take i) T[i] < dg r (T.take i) y:=h
  omega
 ·have h':dg r (T.take i) T[i]=dg r (T.take i) y:=h
  omega
theorem dg_snoc (rn:∀ x,(r x).Nodup) (sy:∀ x y,y∈r x→x∈r y) {x:Str} (hx:x∉D) (y:Str):(dg r D y:Int) - (if y∈r x then 1 else 0)=(dg r (D++[x]) y:Int):=by
 have e:(r y).filter (fun z=>decide (z∉D++[x]))=((r y).filter fun z=>decide (z∉D)).erase x:=by
  rw [Kd ((rn y).filter _),List.filter_filter]
  apply We
  intro z _
  rw [Zv]
  simp only [decide_eq_true_eq,Ql,Qd,not_or,Ks,bne_iff_ne]
  exact ⟨fun h=>⟨h.2,h.1⟩,fun h=>⟨h.2,h.1⟩⟩
 unfold dg
 rw [e]
 by_cases h:y∈r x
 ·have hm:x∈(r y).filter fun z=>decide (z∉D):=Zk.mpr ⟨sy _ _ h,by simpa using hx⟩
  have hp:=Yf hm
  rw [if_pos h,Zy hm]
  omega
 ·have hm:x∉(r y).filter fun z=>decide (z∉D):=fun z=>h (sy _ _ (Zk.mp z).1)
  rw [if_neg h,Xa hm]
  omega
theorem dg_nil (r:Str→List Str) (y:Str):dg r [] y=(r y).length:=by
 unfold dg
 rw [Jx.mpr fun z _=>by simp]
end Wb
end
section
namespace K21
open PySem L2 Wb
abbrev zcn:Stmt:=top 5
abbrev zdr:Stmt:=inClass sWeb 2
def cnt (ks:List Str) (F:Str→Int):List (Key×V):=ks.map fun y=>((Sum.inr y:Key),V.int (F y))
theorem zh2 {ks:List Str} {F:Str→Int} {x:Str} (h:x∉ks):valV (cnt ks F) (Sum.inr x)=none:=by
 unfold cnt
 induction ks with
 | nil=>rfl
 | cons a t ih =>
  rw [Qe,not_or] at h
  rw [Qk,zbp]
  ·exact ih h.2
  ·intro q;exact h.1 (Wm q).symm
theorem ze9 {ks:List Str} {F:Str→Int} {x:Str} (h:x∈ks):valV (cnt ks F) (Sum.inr x)=some (.int (F x)):=by
 unfold cnt
 induction ks with
 | nil=>cases h
 | cons a t ih =>
  rw [Qk]
  by_cases e:a=x
  ·rw [zcm (by rw [e]),e]
  ·rw [zbp (fun q=>e (Wm q))]
   rcases Qe.mp h with z | z
   ·exact absurd z.symm e
   ·exact ih z
theorem cnt_new {ks:List Str} {F:Str→Int} {x:Str} (h:x∉ks):putK (cnt ks F) (Sum.inr x) (.int (F x))=cnt (ks++[x]) F:=by
 rw [zea _ (zh2 h)];unfold cnt;rw [List.map_append];rfl
theorem cnt_put {ks:List Str} {F:Str→Int} {x:Str} (h:x∈ks) (v:Int):putK (cnt ks F) (Sum.inr x) (.int v)=cnt ks fun y=>if y=x then v else F y:=by
 unfold putK cnt
 rw [if_pos]
 ·rw [Zn]
  refine Yy fun z _=>?_
  show (if (Sum.inr z:Key)=Sum.inr x then ((Sum.inr z:Key),V.int v) else (Sum.inr z,V.int (F z)))=(Sum.inr z,V.int (if z=x then v else F z))
  by_cases e:z=x
  ·rw [if_pos (by rw [e]),if_pos e]
  ·rw [if_neg (fun q=>e (Wm q)),if_neg e]
 ·exact Yj.mpr ⟨_,Qi.mpr ⟨x,h,rfl⟩,by simp⟩
theorem cnt_drop (ks:List Str) (F:Str→Int) (x:Str):dropK (cnt ks F) (Sum.inr x)=cnt (ks.filter fun y=>decide (y≠x)) F:=by
 unfold dropK cnt
 rw [List.filter_map]
 congr 1
 apply We
 intro y _
 show decide ((Sum.inr y:Key)≠Sum.inr x)=decide (y≠x)
 rw [Zv,decide_eq_true_eq,decide_eq_true_eq]
 exact ⟨fun h e=>h (by rw [e]),fun h e=>h (Wm e)⟩
theorem zdj {ks:List Str} {F G:Str→Int} (h:∀ y∈ks,F y=G y):cnt ks F=cnt ks G:=Yy fun y hy=>by rw [h y hy]
theorem Keep.fr {H H':Hp} {a:Addr} {o:HO} (k:Keep [] H H') (h:H a=none):Keep [] H (upd H' a o):=fun c u ec hc=>by rw [zad (zaa ec h)];exact k c u ec hc
inductive zhc (C:Addr) (vs:List V) (H:Hp) (Q:VK):Prop
 | mk (x dx d:Addr) (es:List Ent) (e:Ent) (h0:vs=[.ref x,.str e.1]) (h1:WAt H C x dx d es) (h2:e∈es) (h3:∀ l,H l=none→Q (.ref l) (upd H l (.lst (e.2.1.map V.str)))):zhc C vs H Q
def zfq (C:Addr):Sp:=fun vs H Q _=>zhc C vs H Q
section
variable {P:Program} {w:World} {K:PySem.W.Frag} {mg:Str→Option Value} {base:Heap}
theorem scRoundOf:zas ["self", "place"] ["self", "place"] (zaf zdr):=⟨rfl,rfl,rfl,by decide +kernel,rfl,by decide +kernel,by decide +kernel⟩
theorem ok_roundof {f C:Addr} {fd:FuncData} (F:Fun K "round_of" "Web.round_of" zdr f fd) (cW:Cls K C) (nW:zen K C "rounds") (hlist:mg "list" = none):FnOk P w K mg base CX0 1 f fd ["self", "place"] (zfq C):=by
 refine F.ok scRoundOf (fun vs H Q E h=>?_) (fun cdv A outer s H vs Q E hr h=>?_)
 ·obtain ⟨x,dx,d,es,e,rfl,_⟩:=h
  rfl
 ·obtain ⟨x,dx,d,es,e,rfl,wt,he,k⟩:=h
  have hu:=zce hr
  refine ⟨_,zae (zcg (ze7 (zef hu (pv 1) (pe_fld (pv 0) rfl))) (zah zgr) za4)
   (zah (zbk (zdg call_list_of (by rfl) hlist PyProof.Rows.boot_list (zab (zau hu (pe_fld (pv 0) rfl) (pv 1) (fun _ _=>rfl)) zag)))),?_⟩
  have g:=DGet.k (k:=Sum.inr e.1) wt.ta.dc
  rw [zbx wt.ta.nd he] at g
  refine ⟨_,rfl,_,rfl,x,C,dx,_,_,rfl,wt.ob,cW,nW,rfl,d,_,rfl,g,_,rfl,zbh rfl ?_⟩
  exact ⟨_,rfl,x,C,dx,_,_,rfl,wt.ob,cW,nW,rfl,_,rfl,d,_,rfl,g,e.2.2,_,rfl,.inr (SqT.of (wt.ta.ro e he)),k⟩
end
def wOf:Stmt→List Stmt
 | .While _ b _ _=>b
 | _=>[]
def subOf:Expr→Expr
 | .Subscript a _ _=>a
 | e=>e
abbrev wAt (s:Stmt) (i:Nat):Stmt:=(wOf s).getD i (.Pass ⟨0,0,0,0⟩)
abbrev csOrA:Scope:=scOf (eOf (sAt zcn 0))
abbrev csOrB:Scope:=scOf (aOf 0 (subOf (eOf (wAt (sAt zcn 2) 0))))
theorem csOrA_k:csOrA.kind=.function:=by rfl
theorem csOrA_c:∀ y∈csOrA.names,y.2≠.cell:=by decide +kernel
theorem csOrA_n:∀ y∈csOrA.names,y.2=.local→csOrA.names.lookup y.1=some .local:=by decide +kernel
theorem csOrA_f:∀ y∈csOrA.names,y.2=.free→(zaf zcn).names.lookup y.1=some .cell∨(zaf zcn).names.lookup y.1=some .free:=by decide +kernel
theorem csOrA_l:csOrA.names.lookup ("web" : Str)=some NameKind.free:=by decide +kernel
theorem ndOA:(["place", "web"]:List Str).Nodup:=by decide +kernel
theorem csOrB_k:csOrB.kind=.function:=by rfl
theorem csOrB_c:∀ y∈csOrB.names,y.2≠.cell:=by decide +kernel
theorem csOrB_n:∀ y∈csOrB.names,y.2=.local→csOrB.names.lookup y.1=some .local:=by decide +kernel
theorem csOrB_f:∀ y∈csOrB.names,y.2=.free→(zaf zcn).names.lookup y.1=some .cell∨(zaf zcn).names.lookup y.1=some .free:=by decide +kernel
theorem csOrB_l:csOrB.names.lookup ("many" : Str)=some NameKind.free:=by decide +kernel
theorem ndOB:(["place", "many"]:List Str).Nodup:=by decide +kernel
inductive IspOrder (C:Addr) (vs:List V) (H:Hp) (Q:VK):Prop
 | mk (x dx d:Addr) (es:List Ent) (h0:vs=[.ref x]) (h1:WAt H C x dx d es) (h2:es.length≤100) (h3:∀ y,(row (rsOf es) y).Nodup) (h4:∀ a b,b∈row (rsOf es) a→a∈row (rsOf es) b) (h5:∀ (l:Addr) (T:List Str) (H':Hp),H' l=some (.lst (T.map V.str))→zbw (es.map (·.1)) (row (rsOf es)) T→H l=none→Keep [] H H'→Q (.ref l) H'):IspOrder C vs H Q
def spOrder (C:Addr):Sp:=fun vs H Q _=>IspOrder C vs H Q
section
variable {P:Program} {w:World} {K:PySem.W.Frag} {mg:Str→Option Value} {base:Heap}
theorem zfs:zas ["web", "many", "taken", "least", "other"] ["web"] (zaf zcn):=⟨rfl,rfl,rfl,by decide +kernel,rfl,by decide +kernel,by decide +kernel⟩
theorem ok_order {f C fp fr:Addr} {fd fdp fdr:FuncData} (F:Fun K "order" "order" zcn f fd) (cW:Cls K C)
  (mP:Meth K C "places" fp) (bP:Binds K fdp ["self"] []) (GP:FnOk P w K mg base CX0 1 fp fdp ["self"] (spPlaces C))
  (mR:Meth K C "round_of" fr) (bR:Binds K fdr ["self", "place"] []) (GR:FnOk P w K mg base CX0 1 fr fdr ["self", "place"] (zfq C))
  (hlen:mg "len" = none) (hmin:mg "min" = none):FnOk P w K mg base CX0 2 f fd ["web"] (spOrder C):=by
 refine F.ok zfs (fun vs H Q E h=>?_) (fun cdv A outer s H vs Q E hr h=>?_)
 ·obtain ⟨x,dx,d,es,rfl,_⟩:=h
  rfl
 ·obtain ⟨x,dx,d,es,rfl,wt,hes,rn,sy,k⟩:=h
  have hu:=zce hr
  have hs0:sizeLine=16777216:=sizeLine_eq
  refine ⟨_,zae (zam (i:=1) zfs.nd rfl (Or.inr rfl) (pe_dc (M:=["place", "web"]) (ix:=[none,some 0]) ⟨csOrA_k,csOrA_c,csOrA_n,csOrA_f,rfl,by decide +kernel,fun j i x h1 h2=>by
      match j,h1,h2 with
      | 0,_,h2=>cases h2
      | 1,h1,h2=>cases h1;cases h2;exact ⟨rfl,csOrA_l⟩
      | n+2,h1,_=>cases h1⟩ rfl (zaw (pe_meth0 (pl:=_) (pv 0) cW mP GP hr bP .nil zax)) (fun C pins ex s H=>zaj (i:=0) ndOA rfl (Or.inl rfl) (Or.inr rfl))
     (fun C pins ex s H=>zb9) (fun C pins ex s H=>pv 0)
     (fun C' pins ex s H=>zak (zc4 (K:=K) rfl) (by rfl) (by exact hlen) Yb (zab (pe_meth (pl:=_) (pv 1) (by exact cW) (by exact mR) GR (by exact hr) bR .nil zax (zab (pv 0) zag)) zag))))
   (zae (zam (i:=2) zfs.nd rfl (Or.inl rfl) (zbd zag))
   (zae (zec Zg (zeb (pv 1) (fun _=>rfl))
    (zae (zam (i:=3) zfs.nd rfl (Or.inl rfl) (zbb zgc (zak (zgk rfl hu) (by rfl) hmin Uj (zab (pe_thaw (zd1 (M:=["place", "many"]) (ix:=[none,some 1]) ⟨csOrB_k,csOrB_c,csOrB_n,csOrB_f,rfl,by decide +kernel,fun j i x h1 h2=>by
      match j,h1,h2 with
      | 0,_,h2=>cases h2
      | 1,h1,h2=>cases h1;cases h2;exact ⟨rfl,csOrB_l⟩
      | n+2,h1,_=>cases h1⟩ rfl (zd0 (pv 1)) (fun C pins ex s H=>zaj (i:=0) ndOB rfl (Or.inl rfl) (Or.inr rfl))
     (fun C pins ex s H=>zb9) (fun C pins ex s H=>zfx (zab (zau (by exact hu) (pv 1) (pv 0) (fun _ _=>rfl)) (zab (pv 0) zag))))) zag)) zai (fun _ _=>rfl)))
    (zae (za8 (zee Zu Yw Yv zcc (pv 2) (zab (pv 3) zag)))
    (zae (ps_ddel (pv 1) (pv 3))
    (zah (zbe Zg rfl (zaw (pe_meth (pl:=_) (pv 0) cW mR GR hr bR .nil zax (zab (pv 3) zag))) (zaj (i:=4) zfs.nd rfl (Or.inl rfl))
     (zah (zcg (ze7 (pc_din hu (pv 4) (pv 1))) (zah (ps_daug hu (pv 1) (pv 4) zai in_sub (fun _ _ _=>rfl))) za4))))))))
   (zah (zbk (pv 2))))),?_⟩
  have hnd:(es.map (·.1)).Nodup:=wt.ta.nd
  have hrow:∀ e∈es,row (rsOf es) e.1=e.2.1:=fun e he=>zb3 hnd he
  generalize hnsd:es.map (·.1)=ns at hnd k
  have hnl:ns.length=es.length:=by rw [← hnsd,Qa]
  refine ⟨_,rfl,x,dx,_,rfl,wt.ob,rfl,x,dx,d,es,rfl,wt,fun l hl=>?_⟩
  rw [hnsd]
  have k1:Keep [] H (upd H l (.lst (ns.map V.str))):=Keep.new hl
  have hl1:(upd H l (.lst (ns.map V.str))) l=some (.lst (ns.map V.str)):=zac
  generalize upd H l (.lst (ns.map V.str))=H1 at k1 hl1
  refine ⟨l,rfl,⟨_,SqL.of hl1⟩,fun i m ys τ H'=>Aj5 (m=es.length - i) (i≤es.length) (Ex1 fun x0=>τ=[x0,some (.ref x)]) (Keep [] H1 H') (ys=cnt (ns.take i) fun y=>((dg (row (rsOf es)) [] y:Nat):Int)),
   ⟨es.length,rfl,Zd _,⟨none,rfl⟩,Keep.refl,rfl⟩,?_⟩
  rintro i m ys τ H2 ⟨rfl,hi,⟨x0,rfl⟩,k2,rfl⟩
  have hl2:=k2 _ _ hl1 (by simp)
  by_cases hlt:i < es.length
  ·have hi2:i < ns.length:=hnl ▸ hlt
   have hei:es[i]∈es:=Qr hlt
   have hni:ns[i]=es[i].1:=by simp [← hnsd]
   refine .inr ⟨⟨_,.str ns[i],SqL.of hl2,by rw [Qn,Qc hi2];rfl⟩,by unfold cnt;rw [List.length_map,List.length_take];lia,?_⟩
   rintro v H3 ⟨rfl,hv⟩
   have hv':=hv _ (SqL.of hl2)
   rw [Qn,Qc hi2] at hv'
   obtain rfl:V.str ns[i]=v:=Qm hv'
   have wt3:WAt H3 C x dx d es:=wt.keep (k1.trans k2) (by simp) (by simp) (fun _ _=>by simp)
   refine ⟨_,rfl,_,rfl,x,dx,_,rfl,wt3.ob,rfl,_,rfl,x,dx,d,es,es[i],by rw [hni];rfl,wt3,hei,fun q hq=>?_⟩
   refine ⟨q,_,rfl,.inl (SqL.of zac),Sum.inr ns[i],rfl,es.length - (i+1),by exact zar1 ‹_›,rfl,hlt,⟨_,rfl⟩,k2.trans (Keep.new hq),?_⟩
   have hF:(((es[i].2.1.map V.str).length:Nat):Int)=((dg (row (rsOf es)) [] ns[i]:Nat):Int):=by rw [dg_nil,hni,hrow _ hei,Qa]
   rw [hF,Qg hi2]
   exact cnt_new (F:=fun y=>((dg (row (rsOf es)) [] y:Nat):Int)) (zbn hnd hi2)
  ·have hie:i=es.length:=by exact zar3 ‹_› ‹_›
   subst hie
   refine .inl ⟨⟨_,SqL.of hl2,by rw [Qa,hnl];exact Qh _⟩,fun mm hmm=>?_⟩
   rw [Qp (Jz hnl)]
   generalize row (rsOf es)=r at rn sy k hrow
   have kH2:Keep [] H H2:=k1.trans k2
   have fmm:H mm=none:=zbt kH2 hmm (by simp)
   have k3:Keep [] H (upd H2 mm (.dK (cnt ns fun y=>((dg r [] y:Nat):Int)))):=kH2.fr fmm
   have hm3:(upd H2 mm (.dK (cnt ns fun y=>((dg r [] y:Nat):Int)))) mm=some (.dK (cnt ns fun y=>((dg r [] y:Nat):Int))):=zac
   generalize upd H2 mm (.dK (cnt ns fun y=>((dg r [] y:Nat):Int)))=H3 at k3 hm3
   refine ⟨(by show 0≤sizeLine;decide),fun tk htk=>?_⟩
   have ftk:H tk=none:=zbt k3 htk (by simp)
   have nmt:mm≠tk:=zaa hm3 htk
   refine ⟨fun m σ H'=>Ex2 fun (D ks:List Str)=>Aj8 (m=ks.length) (Ex2 fun x3 x4=>σ=[some (.ref x),some (.ref mm),some (.ref tk),x3,x4]) (H' mm=some (.dK (cnt ks fun y=>((dg r D y:Nat):Int)))) (H' tk=some (.lst (D.map V.str))) (Pre ns r D) ks.Nodup (∀ y,y∈ks↔y∈ns∧y∉D) (Keep [] H H'),
    ⟨ns.length,[],ns,rfl,⟨none,none,rfl⟩,by rw [zad nmt];exact hm3,zac,Pre.nil,hnd,fun y=>⟨fun h=>⟨h,by simp⟩,fun h=>h.1⟩,k3.fr ftk⟩,?_⟩
   rintro m σ H4 ⟨D,ks,rfl,⟨x3,x4,rfl⟩,hm4,ht4,PD,hkn,hks,k4⟩
   refine ⟨_,rfl,_,.inr (.inr ⟨_,hm4,rfl⟩),?_⟩
   by_cases hke:ks=[]
   ·subst hke
    refine zbh rfl ⟨_,rfl,k tk D H4 ht4 (PD.order hnd fun y hy=>?_) ftk k4⟩
    by_cases h:y∈D
    ·exact h
    ·exact absurd ((hks y).mpr ⟨hy,h⟩) (by simp)
   ·refine zb8 (by cases ks with
     | nil=>exact absurd rfl hke
     | cons _ _=>rfl) ?_
    refine ⟨_,fun σ' H' zz=>zz,?_⟩
    have hkl:ks.length≤ns.length:=zcd hkn fun y hy=>((hks y).mp hy).1
    have hcl:(cnt ks fun y=>((dg r D y:Nat):Int)).length=ks.length:=Qa ..
    refine ⟨_,rfl,mm,_,rfl,hm4,fun o=>⟨fun i m ys τ H'=>Aj6 (m=ks.length - i) (i≤ks.length) (Ex1 fun x0=>τ=[x0,some (.ref mm)]) (H' mm=some (.frz o (.dK (cnt ks fun y=>((dg r D y:Nat):Int))))) (Keep [mm] H4 H') (Ex1 fun (as:List Addr)=>Aj3 (ys=as.map V.ref) (as.length=i) (KAt H' as ((ks.take i).map fun y=>(dg r D y,y)))),
     ⟨ks.length,rfl,Zd _,⟨none,rfl⟩,zac,Keep.wr Qb,[],rfl,rfl,.nil⟩,?_⟩⟩
    rintro i m ys τ H5 ⟨rfl,hi,⟨x0,rfl⟩,hz,k5,as,rfl,hal,ka⟩
    by_cases hlt:i < ks.length
    ·refine .inr ⟨⟨hz,by rw [hcl];exact hlt⟩,by rw [Qa];lia,?_⟩
     rintro v H6 ⟨rfl,pr,e1,rfl⟩
     have g1:pr=((Sum.inr ks[i]:Key),V.int ((dg r D ks[i]:Nat):Int)):=by
      unfold cnt at e1
      rw [Qn,Qc hlt] at e1
      exact (Qm e1).symm
     subst g1
     refine ⟨_,rfl,_,rfl,mm,_,rfl,.inl ⟨_,Sum.inr ks[i],.inr ⟨o,hz⟩,rfl,(ze9 (Qr hlt)).symm⟩,_,rfl,(by show 2≤sizeLine;decide),fun t ht=>⟨ks.length - (i+1),by exact zar1 ‹_›,rfl,hlt,⟨_,rfl⟩,?_,k5.trans (Keep.new ht),as++[t],?_,?_,?_⟩⟩
     ·rw [zad (zaa hz ht)];exact hz
     ·rw [Qo];rfl
     ·rw [Qw,hal];rfl
     ·rw [Qg hlt,Qo]
      refine za3 (Paired.imp' (fun a k h=>?_) ka) (.cons zac .nil)
      rw [zad (zaa h ht)];exact h
    ·have hie:i=ks.length:=by exact zar3 ‹_› ‹_›
     subst hie
     rw [Qp (Qh _)] at ka
     refine .inl ⟨⟨hz,by rw [hcl];exact Qh _⟩,fun L hL=>?_⟩
     have nmL:mm≠L:=zaa hz hL
     have nfz:∀ o' u',H mm≠some (.frz o' u'):=fun o' u' z=>by rw [fmm] at z;cases z
     refine ⟨mm,o,_,by rw [zad nmL];exact hz,nfz,?_⟩
     have k6:Keep [mm] H4 (upd (upd H5 L (.lst (as.map V.ref))) mm (.dK (cnt ks fun y=>((dg r D y:Nat):Int)))):=(k5.trans (Keep.new hL)).trans (Keep.wr Qb)
     have hm6:(upd (upd H5 L (.lst (as.map V.ref))) mm (.dK (cnt ks fun y=>((dg r D y:Nat):Int)))) mm=some (.dK (cnt ks fun y=>((dg r D y:Nat):Int))):=zac
     have hL6:(upd (upd H5 L (.lst (as.map V.ref))) mm (.dK (cnt ks fun y=>((dg r D y:Nat):Int)))) L=some (.lst (as.map V.ref)):=by rw [zad (Zl nmL)];exact zac
     have ka6:KAt (upd (upd H5 L (.lst (as.map V.ref))) mm (.dK (cnt ks fun y=>((dg r D y:Nat):Int)))) as (ks.map fun y=>(dg r D y,y)):=Paired.imp' (fun a k h=>by
      rw [zad (za0 h hz (by intro z;cases z)),zad (zaa h hL)];exact h) ka
     generalize upd (upd H5 L (.lst (as.map V.ref))) mm (.dK (cnt ks fun y=>((dg r D y:Nat):Int)))=H6 at k6 hm6 hL6 ka6
     have kH6:Keep [] H H6:=fun c u ec _=>k6 c u (k4 c u ec (by simp)) (by simpa using zaa ec fmm)
     have ht6:=k6 _ _ ht4 (by simpa using Zl nmt)
     refine ⟨L,as,_,rfl,SqL.of hL6,ka6,by simpa using hke,fun a kk hkk ha hle=>?_⟩
     obtain ⟨y,hy,rfl⟩:=Qi.mp hkk
     obtain ⟨hyn,hyD⟩:=(hks y).mp hy
     have hle':∀ z∈ns,z∉D→leK (dg r D y,y) (dg r D z,z):=fun z h1 h2=>hle _ (Qi.mpr ⟨z,(hks z).mpr ⟨h1,h2⟩,rfl⟩)
     have PD':=PD.snoc hyn hyD hle'
     have hDl:D.length≤ns.length:=zcd PD.nd PD.sub
     refine ⟨a,_,1,_,rfl,rfl,SqT.of ha,rfl,?_⟩
     refine ⟨_,rfl,.inl ⟨rfl,_,SqL.of ht6⟩,_,rfl,tk,_,_,rfl,rfl,ht6,by rw [Qa];lia,?_⟩
     have k7:Keep [] H (upd H6 tk (.lst (D.map V.str++[V.str y]))):=kH6.fr ftk
     have ht7:(upd H6 tk (.lst (D.map V.str++[V.str y]))) tk=some (.lst ((D++[y]).map V.str)):=by rw [zac,Qo];rfl
     have hm7:(upd H6 tk (.lst (D.map V.str++[V.str y]))) mm=some (.dK (cnt ks fun y=>((dg r D y:Nat):Int))):=by rw [zad nmt];exact hm6
     generalize upd H6 tk (.lst (D.map V.str++[V.str y]))=H7 at k7 ht7 hm7
     refine ⟨_,rfl,_,rfl,mm,_,Sum.inr y,rfl,hm7,rfl,by rw [ze9 hy];rfl,?_⟩
     rw [cnt_drop]
     have hkf:∀ z,z∈ks.filter (fun z=>decide (z≠y))↔z∈ns∧z∉D++[y]:=fun z=>by
      rw [Zk,hks z,decide_eq_true_eq,Ql,Qd,not_or]
      exact ⟨fun h=>⟨h.1.1,h.1.2,h.2⟩,fun h=>⟨⟨h.1,h.2.1⟩,h.2.2⟩⟩
     have hkfn:(ks.filter fun z=>decide (z≠y)).Nodup:=hkn.filter _
     have hkfl:(ks.filter fun z=>decide (z≠y)).length < ks.length:=List.length_filter_lt_length_iff_exists.mpr ⟨y,hy,by simp⟩
     generalize ks.filter (fun z=>decide (z≠y))=kf at hkf hkfn hkfl
     have k8:Keep [] H (upd H7 mm (.dK (cnt kf fun y=>((dg r D y:Nat):Int)))):=k7.fr fmm
     have hm8:(upd H7 mm (.dK (cnt kf fun y=>((dg r D y:Nat):Int)))) mm=some (.dK (cnt kf fun y=>((dg r D y:Nat):Int))):=zac
     have ht8:(upd H7 mm (.dK (cnt kf fun y=>((dg r D y:Nat):Int)))) tk=some (.lst ((D++[y]).map V.str)):=by rw [zad (Zl nmt)];exact ht7
     generalize upd H7 mm (.dK (cnt kf fun y=>((dg r D y:Nat):Int)))=H8 at k8 hm8 ht8
     obtain ⟨en,hen,heny⟩:=Qi.mp (by rw [hnsd];exact hyn:y∈es.map (·.1))
     have heny':en.1=y:=heny
     have hry:r y=en.2.1:=by rw [← heny'];exact hrow en hen
     have wt8:WAt H8 C x dx d es:=wt.keep k8 (by simp) (by simp) (fun _ _=>by simp)
     refine ⟨_,rfl,x,dx,_,rfl,wt8.ob,rfl,_,rfl,x,dx,d,es,en,by rw [heny'];rfl,wt8,hen,fun q hq=>?_⟩
     have nqm:mm≠q:=zaa hm8 hq
     have nqt:tk≠q:=zaa ht8 hq
     have fq:H q=none:=zbt k8 hq (by simp)
     refine ⟨q,rfl,⟨_,SqL.of zac⟩,zbm (xs:=en.2.1.map V.str) (fun j σ H'=>Aj5 (Ex1 fun x4=>σ=[some (.ref x),some (.ref mm),some (.ref tk),some (.str y),x4]) (H' q=some (.lst (en.2.1.map V.str))) (H' tk=some (.lst ((D++[y]).map V.str))) (H' mm=some (.dK (cnt kf fun z=>((dg r D z:Nat):Int) - if z∈en.2.1.take j then 1 else 0))) (Keep [] H H'))
      ⟨⟨_,rfl⟩,zac,by rw [zad nqt];exact ht8,?_,k8.fr fq⟩ (fun j σ H' _ hh=>SqL.of hh.2) ?_ ?_⟩
     ·rw [zad nqm,hm8]
      congr 2
     ·rintro j v σ H9 hx9 ⟨⟨x4,rfl⟩,hq9,ht9,hm9,k9⟩
      have hj:j < en.2.1.length:=by
       have:=(Qz.mp hx9).1
       rwa [Qa] at this
      have hxz:v=.str en.2.1[j]:=by
       rw [Qn,Qc hj] at hx9
       exact (Qm hx9).symm
      subst hxz
      have hrn:en.2.1.Nodup:=hry ▸ rn y
      have hnt:=zbn hrn hj
      have g9:=DGet.k (k:=Sum.inr en.2.1[j]) hm9
      by_cases hzk:en.2.1[j]∈kf
      ·rw [ze9 hzk,if_neg hnt] at g9
       refine ⟨_,rfl,_,rfl,mm,_,rfl,g9,_,rfl,zb8 rfl ?_⟩
       refine ⟨_,rfl,_,rfl,mm,_,rfl,g9,_,_,rfl,rfl,_,DPut.k (k:=Sum.inr en.2.1[j]) hm9 (by unfold cnt;rw [List.length_map];lia),⟨_,rfl⟩,?_,?_,?_,k9.fr fmm⟩
       ·rw [zad (Zl nqm)];exact hq9
       ·rw [zad (Zl nmt)];exact ht9
       ·rw [zac,cnt_put hzk]
        congr 2
        refine zdj fun z _=>?_
        rw [Qg hj]
        by_cases hz:z=en.2.1[j]
        ·rw [if_pos hz,hz,if_pos (Qs _ Qb)]
         lia
        ·rw [if_neg hz]
         by_cases hz2:z∈en.2.1.take j
         ·rw [if_pos hz2,if_pos (Qu _ hz2)]
         ·rw [if_neg hz2,if_neg (fun h=>(Ql.mp h).elim hz2 fun h=>hz (Qd.mp h))]
      ·rw [zh2 hzk] at g9
       refine ⟨_,rfl,_,rfl,mm,_,rfl,g9,_,rfl,zbh rfl ⟨⟨_,rfl⟩,hq9,ht9,?_,k9⟩⟩
       rw [hm9]
       congr 2
       refine zdj fun z hz=>?_
       rw [Qg hj]
       have hne:z≠en.2.1[j]:=fun e=>hzk (e ▸ hz)
       by_cases hz2:z∈en.2.1.take j
       ·rw [if_pos hz2,if_pos (Qu _ hz2)]
       ·rw [if_neg hz2,if_neg (fun h=>(Ql.mp h).elim hz2 fun h=>hne (Qd.mp h))]
     ·rintro σ H9 ⟨⟨x4,rfl⟩,hq9,ht9,hm9,k9⟩
      refine ⟨_,hkfl,D++[y],kf,rfl,⟨_,_,rfl⟩,?_,ht9,PD',hkfn,hkf,k9⟩
      rw [hm9]
      congr 2
      refine zdj fun z _=>?_
      rw [Qa,Qp (Qh _),← hry]
      exact dg_snoc rn sy hyD z
end
end K21
end
section
namespace Wb
open PySem L2
def IsMex (us:List Int) (n:Nat):Prop:=(n:Int)∉us∧∀ m:Nat,m < n→(m:Int)∈us
theorem IsMex.one {us us':List Int} {n m:Nat} (h:∀ z,z∈us↔z∈us') (a:IsMex us n) (b:IsMex us' m):n=m:=by
 rcases Nat.lt_trichotomy n m with z | z | z
 ·exact absurd ((h _).mpr (b.2 n z)) a.1
 ·exact z
 ·exact absurd ((h _).mp (a.2 m z)) b.1
theorem mex_ex (us:List Int):∃ n,n≤us.length∧IsMex us n:=by
 have h1:∃ n,n≤us.length∧(n:Int)∉us:=by
  refine Uw fun h=>?_
  have all:∀ n,n≤us.length→(n:Int)∈us:=fun n hn=>Uw fun z=>h ⟨n,hn,z⟩
  have nd:((List.range (us.length+1)).map fun n:Nat=>(n:Int)).Nodup:=Ww.mpr (List.nodup_range.imp fun h e=>h (Int.ofNat.inj e))
  have:=nd.length_le_of_subset (l₂:=us) fun z hz=>by
   obtain ⟨n,hn,rfl⟩:=Qi.mp hz
   exact all n (Nat.le_of_lt_succ (Wu.mp hn))
  rw [Qa,Uc] at this
  exact absurd this (Nat.not_succ_le_self _)
 obtain ⟨n,hn⟩:=h1
 induction n using Nat.strongRecOn with
 | ind n ih =>
  by_cases h:∃ m,m < n∧(m:Int)∉us
  ·obtain ⟨m,hm,hmu⟩:=h
   exact ih m hm ⟨Zf (Wt hm) hn.1,hmu⟩
  ·exact ⟨n,hn.1,hn.2,fun m hm=>Uw fun z=>h ⟨m,hm,z⟩⟩
noncomputable def mex (us:List Int):Nat:=Classical.choose (mex_ex us)
theorem mex_le (us:List Int):mex us≤us.length:=(Classical.choose_spec (mex_ex us)).1
theorem mex_is (us:List Int):IsMex us (mex us):=(Classical.choose_spec (mex_ex us)).2
theorem mex_eq {us us':List Int} (h:∀ z,z∈us↔z∈us'):mex us=mex us':=(mex_is us).one h (mex_is us')
noncomputable def col (r:Str→List Str):List Str→Str→Nat
 | [],_=>0
 | y::D,x=>if x=y then mex (((r y).filter fun z=>decide (z∈D)).map fun z=>(col r D z:Int)) else col r D x
noncomputable def usd (r:Str→List Str) (D:List Str) (y:Str):List Int:=((r y).filter fun z=>decide (z∈D)).map fun z=>(col r D z:Int)
theorem zgj (r:Str→List Str) (D:List Str) (y:Str):col r (y::D) y=mex (usd r D y):=if_pos rfl
theorem zgi {r:Str→List Str} {D:List Str} {x y:Str} (h:x≠y):col r (y::D) x=col r D x:=if_neg h
variable {ns T D:List Str} {r r':Str→List Str}
theorem col_turn (hr:∀ y,(r' y).Perm (r y)):∀ D x,col r' D x=col r D x
 | [],_=>rfl
 | y::D,x=>by
  have ih:=col_turn hr D
  by_cases h:x=y
  ·subst h
   rw [zgj,zgj]
   refine mex_eq fun z=>?_
   unfold usd
   rw [Qi,Qi]
   constructor
   ·rintro ⟨w,hw,rfl⟩
    obtain ⟨h1,h2⟩:=Zk.mp hw
    exact ⟨w,Zk.mpr ⟨(hr x).mem_iff.mp h1,h2⟩,by rw [ih]⟩
   ·rintro ⟨w,hw,rfl⟩
    obtain ⟨h1,h2⟩:=Zk.mp hw
    exact ⟨w,Zk.mpr ⟨(hr x).mem_iff.mpr h1,h2⟩,by rw [ih]⟩
  ·rw [zgi h,zgi h,ih]
theorem usd_five {cs:List (List (Str×Str))} (F:Flat ns r cs) (O:zbw ns r T) {i:Nat} (hi:i < T.reverse.length):(usd r (T.reverse.take i).reverse T.reverse[i]).length≤5:=by
 have hi':i < T.length:=by rw [Ux] at hi;exact hi
 have hj:T.length - 1 - i < T.length:=by omega
 have e1:T.reverse[i]=T[T.length - 1 - i]:=by rw [List.getElem_reverse]
 have e2:(T.reverse.take i).reverse=T.drop (T.length - i):=by rw [List.take_reverse,Um]
 have h5:=O.five F hj
 unfold usd
 rw [Qa,e1,e2]
 refine Zf (Jz ?_) h5
 unfold dg
 congr 1
 apply We
 intro z hz
 have hzn:z∈T:=O.pm.mem_iff.mpr (F.toWeb.inn (F.sy _ _ hz))
 have hd:T.drop (T.length - 1 - i)=T[T.length - 1 - i]::T.drop (T.length - i):=by
  rw [Uv hj]
  congr 2
  omega
 have hzy:z≠T[T.length - 1 - i]:=fun e=>F.ir _ (e ▸ hz)
 have hsp:z∈T.take (T.length - 1 - i)∨z∈T.drop (T.length - 1 - i):=by
  rw [← Ql,Yq];exact hzn
 have hdis:z∈T.take (T.length - 1 - i)→z∈T.drop (T.length - 1 - i)→False:=fun a b=>by
  have:=O.nd
  rw [← Yq (T.length - 1 - i) T,Za] at this
  exact this.2.2 z a z b rfl
 rw [Zv,decide_eq_true_eq,decide_eq_true_eq]
 rw [hd] at hsp hdis
 constructor
 ·exact fun h a=>hdis a (Qf _ h)
 ·intro h
  rcases hsp with z1 | z1
  ·exact absurd z1 h
  ·rcases Qe.mp z1 with q | q
   ·exact absurd q hzy
   ·exact q
theorem usd_len (hr:∀ y,(r' y).Perm (r y)) (D:List Str) (y:Str):(usd r' D y).length=(usd r D y).length:=by
 unfold usd
 rw [Qa,Qa]
 exact (List.Perm.filter _ (hr y)).length_eq
theorem zh1 {S:List Str} (nd:S.Nodup) {x:Str} {i:Nat} (hx:x∈S.take i):∀ k,col r (S.take (i+k)).reverse x=col r (S.take i).reverse x
 | 0=>rfl
 | k+1=>by
  rw [← zh1 nd hx k]
  by_cases h:i+k < S.length
  ·rw [← Nat.add_assoc,Qg h,Jv,Ji,Wn]
   refine zgi fun e=>zbn nd h ?_
   rw [← e]
   exact (List.take_sublist_take_left (by omega)).subset hx
  ·rw [Qp (by omega),Qp (by omega)]
theorem col_at {S:List Str} (nd:S.Nodup) {i:Nat} (hi:i < S.length):col r S.reverse S[i]=mex (usd r (S.take i).reverse S[i]):=by
 have h:=zh1 (r:=r) nd (x:=S[i]) (i:=i+1) (by rw [Qg hi];exact Qs _ Qb) S.length
 rw [Qp (by omega),Qg hi,Jv,Ji,Wn,zgj] at h
 exact h
theorem col_right {cs:List (List (Str×Str))} (F:Flat ns r cs) (O:zbw ns r T):(∀ y∈T,col r T y≤5)∧∀ y z,z∈r y→col r T z≠col r T y:=by
 have nd:T.reverse.Nodup:=(Wv T).nodup_iff.mpr O.nd
 have at':∀ {i:Nat} (hi:i < T.reverse.length),col r T T.reverse[i]=mex (usd r (T.reverse.take i).reverse T.reverse[i]):=fun {i} hi=>by
  have:=col_at (r:=r) nd hi
  rwa [Um] at this
 refine ⟨fun y hy=>?_,fun y z hz=>?_⟩
 ·obtain ⟨i,hi,rfl⟩:=Zq (Wg.mpr hy)
  rw [at' hi]
  exact Zf (mex_le _) (usd_five F O hi)
 ·have key:∀ {i j:Nat} (hi:i < T.reverse.length) (hj:j < T.reverse.length),j < i→T.reverse[j]∈r T.reverse[i]→col r T T.reverse[j]≠col r T T.reverse[i]:=fun {i j} hi hj hlt hm e=>by
   have hjt:T.reverse[j]∈T.reverse.take i:=by
    rw [← List.getElem_take (j:=i) (h:=by rw [Zm];omega)]
    exact Qr _
   have h1:=mex_is (usd r (T.reverse.take i).reverse T.reverse[i])
   rw [← at' hi,← e] at h1
   refine h1.1 (Qi.mpr ⟨T.reverse[j],Zk.mpr ⟨hm,decide_eq_true (Wg.mpr hjt)⟩,?_⟩)
   have:=zh1 (r:=r) nd hjt T.reverse.length
   rw [Qp (by omega),Um] at this
   rw [this]
  obtain ⟨i,hi,rfl⟩:=Zq (Wg.mpr (O.pm.mem_iff.mpr (F.toWeb.inn hz)))
  obtain ⟨j,hj,rfl⟩:=Zq (Wg.mpr (O.pm.mem_iff.mpr (F.toWeb.inn (F.sy _ _ hz))))
  rcases Nat.lt_trichotomy j i with q | q | q
  ·exact key hi hj q hz
  ·subst q;exact absurd hz (F.ir _)
  ·exact (key hj hi q (F.sy _ _ hz)).symm
end Wb
end
section
namespace K21
open PySem L2 Wb
abbrev zgq:Stmt:=top 2
abbrev sSix:Stmt:=top 6
abbrev zg8:Scope:=scOf (eOf (sAt zgq 0))
theorem csFree_k:zg8.kind=.function:=by rfl
theorem csFree_c:∀ y∈zg8.names,y.2≠.cell:=by decide +kernel
theorem csFree_n:∀ y∈zg8.names,y.2=.local→zg8.names.lookup y.1=some .local:=by decide +kernel
theorem csFree_f:∀ y∈zg8.names,y.2=.free→(zaf zgq).names.lookup y.1=some .cell∨(zaf zgq).names.lookup y.1=some .free:=by decide +kernel
theorem csFree_l:zg8.names.lookup ("hues" : Str)=some NameKind.free:=by decide +kernel
theorem ndFr:(["other", "hues"]:List Str).Nodup:=by decide +kernel
theorem zhw {x:Int} {zs:List Int}:inV (.int x) (zs.map V.int)=decide (x∈zs):=by
 unfold inV
 rw [Zv,Yj,decide_eq_true_iff]
 constructor
 ·rintro ⟨v,hv,e⟩
  obtain ⟨y,hy,rfl⟩:=Qi.mp hv
  have e':y=x:=eq_of_beq e
  rw [← e'];exact hy
 ·exact fun h=>⟨_,Qi.mpr ⟨x,h,rfl⟩,beq_self_eq_true x⟩
theorem flat_ints (zs:List Int):(zs.map V.int).all zdu=true:=Ut.mpr fun v hv=>by
 obtain ⟨y,_,rfl⟩:=Qi.mp hv
 rfl
inductive IspFree (C:Addr) (vs:List V) (H:Hp) (Q:VK):Prop
 | mk (x dx d u:Addr) (es:List Ent) (e:Ent) (D:List Str) (F:Str→Int) (many:Nat) (h0:vs=[.ref x,.ref u,.str e.1,.int many]) (h1:WAt H C x dx d es) (h2:H u=some (.dK (cnt D F))) (h3:e∈es) (h4:e.2.1.length≤100) (h5:many≤100) (h6:mex ((e.2.1.filter fun z=>decide (z∈D)).map F) < many)
  (h7:∀ H',Keep [] H H'→Q (.int (mex ((e.2.1.filter fun z=>decide (z∈D)).map F):Nat)) H'):IspFree C vs H Q
def spFree (C:Addr):Sp:=fun vs H Q _=>IspFree C vs H Q
inductive IspSix (C:Addr) (vs:List V) (H:Hp) (Q:VK):Prop
 | mk (x dx d:Addr) (es:List Ent) (ns:List Str) (r:Str→List Str) (cs:List (List (Str×Str))) (h0:vs=[.ref x]) (h1:WAt H C x dx d es) (h2:es.length≤100) (h3:Flat ns r cs) (h4:(es.map (·.1)).Perm ns) (h4':∀ y,(row (rsOf es) y).Perm (r y))
  (h5:∀ (l:Addr) (T:List Str) (H':Hp),H' l=some (.dK (cnt T.reverse fun y=>(col (row (rsOf es)) T y:Int)))→zbw (es.map (·.1)) (row (rsOf es)) T→H l=none→Keep [] H H'→Q (.ref l) H'):IspSix C vs H Q
def spSix (C:Addr):Sp:=fun vs H Q _=>IspSix C vs H Q
section
variable {P:Program} {w:World} {K:PySem.W.Frag} {mg:Str→Option Value} {base:Heap}
theorem scFree:zas ["web", "hues", "place", "many", "around", "hue"] ["web", "hues", "place", "many"] (zaf zgq):=⟨rfl,rfl,rfl,by decide +kernel,rfl,by decide +kernel,by decide +kernel⟩
theorem ok_free {f C fr:Addr} {fd fdr:FuncData} (F:Fun K "free_hue" "free_hue" zgq f fd) (cW:Cls K C)
  (mR:Meth K C "round_of" fr) (bR:Binds K fdr ["self", "place"] []) (GR:FnOk P w K mg base CX0 1 fr fdr ["self", "place"] (zfq C))
  (hran:mg "range" = none):FnOk P w K mg base CX0 2 f fd ["web", "hues", "place", "many"] (spFree C):=by
 refine F.ok scFree (fun vs H Q E h=>?_) (fun cdv A outer s H vs Q E hr h=>?_)
 ·obtain ⟨x,dx,d,u,es,e,D,G,many,rfl,_⟩:=h
  rfl
 ·obtain ⟨x,dx,d,u,es,e,D,G,many,rfl,wt,hd,he,hel,hmy,hmex,k⟩:=h
  have hu:=zce hr
  have hs0:sizeLine=16777216:=sizeLine_eq
  refine ⟨_,zae (ps_lc (i:=4) (M:=["other", "hues"]) (ix:=[none,some 1]) scFree.nd rfl rfl ⟨csFree_k,csFree_c,csFree_n,csFree_f,rfl,by decide +kernel,fun j i x h1 h2=>by
      match j,h1,h2 with
      | 0,_,h2=>cases h2
      | 1,h1,h2=>cases h1;cases h2;exact ⟨rfl,csFree_l⟩
      | n+2,h1,_=>cases h1⟩ rfl (zaw (pe_meth (pl:=_) (pv 0) cW mR GR hr bR .nil zax (zab (pv 2) zag))) (fun C pins ex s H=>zaj (i:=0) ndFr rfl (Or.inl rfl) (Or.inr rfl))
     (fun C pins ex s H=>zc0 (ze7 (pc_din (by exact hu) (pv 0) (pv 1)))) (fun C pins ex s H=>zau (by exact hu) (pv 1) (pv 0) (fun _ _=>rfl)) rfl)
   (zae (zbe Zg rfl (zbs rfl hran (zab (pv 3) zag)) (zaj (i:=5) scFree.nd rfl (Or.inl rfl))
    (zah (zcg (zay zcq (pv 5) (pv 4) rfl) (zah (zbk (pv 5))) za4)))
   (zah (zbk pe_non))),?_⟩
  refine ⟨_,rfl,x,dx,_,rfl,wt.ob,rfl,_,rfl,x,dx,d,es,e,rfl,wt,he,fun q hq=>?_⟩
  have k1:Keep [] H (upd H q (.lst (e.2.1.map V.str))):=Keep.new hq
  have hq1:(upd H q (.lst (e.2.1.map V.str))) q=some (.lst (e.2.1.map V.str)):=zac
  generalize upd H q (.lst (e.2.1.map V.str))=H1 at k1 hq1
  have hd1:=k1 _ _ hd (by simp)
  refine ⟨q,rfl,⟨_,SqL.of hq1⟩,fun i m ys τ H'=>Aj5 (m=e.2.1.length - i) (i≤e.2.1.length) (Ex1 fun x0=>τ=[x0,some (.ref u)]) (H'=H1) (ys=(((e.2.1.take i).filter fun z=>decide (z∈D)).map G).map V.int),
   ⟨e.2.1.length,rfl,Zd _,⟨none,rfl⟩,rfl,rfl⟩,?_⟩
  rintro i m ys τ H' ⟨rfl,hi,⟨x0,rfl⟩,rfl,rfl⟩
  by_cases hlt:i < e.2.1.length
  ·have hfl:=Yl (fun z=>decide (z∈D)) (e.2.1.take i)
   rw [Zm] at hfl
   refine .inr ⟨⟨_,.str e.2.1[i],SqL.of hq1,by rw [Qn,Qc hlt];rfl⟩,by rw [Qa,Qa];lia,?_⟩
   rintro v H3 ⟨rfl,hv⟩
   have hv':=hv _ (SqL.of hq1)
   rw [Qn,Qc hlt] at hv'
   obtain rfl:V.str e.2.1[i]=v:=Qm hv'
   have g:=DGet.k (k:=Sum.inr e.2.1[i]) hd1
   by_cases hz:e.2.1[i]∈D
   ·rw [ze9 hz] at g
    refine ⟨_,rfl,_,rfl,u,_,rfl,g,_,rfl,zb8 rfl ⟨_,rfl,_,rfl,u,_,rfl,g,e.2.1.length - (i+1),by exact zar1 ‹_›,rfl,hlt,⟨_,rfl⟩,rfl,?_⟩⟩
    rw [Qg hlt,Zs,Zi (by simpa using hz),Yd,Qo,Qo];rfl
   ·rw [zh2 hz] at g
    refine ⟨_,rfl,_,rfl,u,_,rfl,g,_,rfl,zbh rfl ⟨e.2.1.length - (i+1),by exact zar1 ‹_›,rfl,hlt,⟨_,rfl⟩,rfl,?_⟩⟩
    rw [Qg hlt,Zs,Zj (by simpa using hz),Yd,Zr]
  ·have hie:i=e.2.1.length:=by exact zar3 ‹_› ‹_›
   subst hie
   refine .inl ⟨⟨_,SqL.of hq1,by rw [Qa];exact Qh _⟩,fun L hL=>?_⟩
   rw [Qp (Qh _)]
   generalize hus:(e.2.1.filter fun z=>decide (z∈D)).map G=us at hmex k
   have k2:Keep [] H (upd H' L (.lst (us.map V.int))):=k1.trans (Keep.new hL)
   have hL2:(upd H' L (.lst (us.map V.int))) L=some (.lst (us.map V.int)):=zac
   generalize upd H' L (.lst (us.map V.int))=H2 at k2 hL2
   have hmx:=mex_is us
   refine ⟨_,rfl,many,rfl,by lia,by lia,zck (fun i σ H'=>Aj3 (H'=H2) (Ex1 fun x5=>σ=[some (.ref x),some (.ref u),some (.str e.1),some (.int many),some (.ref L),x5]) (∀ m:Nat,m < i→(m:Int)∈us)) ⟨rfl,⟨_,rfl⟩,fun m hm=>absurd hm (Kt _)⟩ ?_ ?_⟩
   ·rintro i σ H3 hi ⟨rfl,⟨x5,rfl⟩,hall⟩
    have ei:(0:Int)+(i:Int)=(i:Int):=by lia
    rw [ei]
    refine ⟨_,rfl,_,rfl,L,_,rfl,.inl (SqL.of hL2),rfl,flat_ints us,_,rfl,?_⟩
    by_cases hin:(i:Int)∈us
    ·refine zbh (by rw [if_pos rfl,zhw,decide_eq_true hin];rfl) ⟨rfl,⟨_,rfl⟩,fun m hm=>?_⟩
     rcases Nat.lt_succ_iff_lt_or_eq.mp hm with z | z
     ·exact hall m z
     ·rw [z];exact hin
    ·refine zb8 (by rw [if_pos rfl,zhw,decide_eq_false hin];rfl) ⟨_,rfl,?_⟩
     have:mex us=i:=hmx.one (fun _=>Iff.rfl) ⟨hin,hall⟩
     rw [this] at k
     exact k _ k2
   ·rintro σ H3 ⟨rfl,⟨x5,rfl⟩,hall⟩
    exact absurd (hall _ (by lia)) hmx.1
theorem scSix:zas ["web", "hues", "place"] ["web"] (zaf sSix):=⟨rfl,rfl,rfl,by decide +kernel,rfl,by decide +kernel,by decide +kernel⟩
theorem ok_six {f C fo ff:Addr} {fd fdo fdf:FuncData} {tk:Tok} (F:Fun K "six_hues" "six_hues" sSix f fd)
  (FO:Fun K "order" "order" zcn fo fdo) (bO:Binds K fdo ["web"] []) (mO:mg "order" = some (.ref fo)) (GO:FnOk P w K mg base CX0 2 fo fdo ["web"] (spOrder C))
  (FF:Fun K "free_hue" "free_hue" zgq ff fdf) (bF:Binds K fdf ["web", "hues", "place", "many"] []) (mF:mg "free_hue" = some (.ref ff)) (GF:FnOk P w K mg base CX0 2 ff fdf ["web", "hues", "place", "many"] (spFree C))
  (hSX:mg "SIX" = some (.int 6 tk)):FnOk P w K mg base CX0 3 f fd ["web"] (spSix C):=by
 refine F.ok scSix (fun vs H Q E h=>?_) (fun cdv A outer s H vs Q E hr h=>?_)
 ·obtain ⟨x,dx,d,es,ns,r,cs,rfl,_⟩:=h
  rfl
 ·obtain ⟨x,dx,d,es,ns,r,cs,rfl,wt,hes,hF,hnp,hrp,k⟩:=h
  have hu:=zce hr
  have hs0:sizeLine=16777216:=sizeLine_eq
  refine ⟨_,zae (zam (i:=1) scSix.nd rfl (Or.inl rfl) zed)
   (zae (zbe Zg rfl (zaw (pe_rev (zal GO hr rfl mO FO.kp bO .nil zax (zab (pv 0) zag)))) (zaj (i:=2) scSix.nd rfl (Or.inl rfl))
    (zah (zbv hu (pv 1) (pv 2) (zal GF hr rfl mF FF.kp bF .nil zax (zab (pv 0) (zab (pv 1) (zab (pv 2) (zab (pe_glob (v:=.int 6) rfl hSX ⟨tk,rfl⟩) zag))))) rfl)))
   (zah (zbk (pv 1)))),?_⟩
  have rnT:∀ y,(row (rsOf es) y).Nodup:=fun y=>(hrp y).nodup_iff.mpr (hF.rn y)
  have syT:∀ a b,b∈row (rsOf es) a→a∈row (rsOf es) b:=fun a b h=>(hrp b).mem_iff.mpr (hF.sy a b ((hrp a).mem_iff.mp h))
  have hrow:∀ e∈es,row (rsOf es) e.1=e.2.1:=fun e he=>zb3 wt.ta.nd he
  have hrl:∀ e∈es,e.2.1.length≤100:=fun e he=>by
   have:=zcd (m:=es.map (·.1)) (hrow e he ▸ rnT e.1) fun y hy=>hnp.mem_iff.mpr (hF.toWeb.inn (hF.sy _ _ ((hrp e.1).mem_iff.mp (by rw [hrow e he];exact hy))))
   rw [Qa] at this
   lia
  refine fun hd hfr=>?_
  have k1:Keep [] H (upd H hd (.dK [])):=Keep.new hfr
  have hh1:(upd H hd (.dK [])) hd=some (.dK []):=zac
  generalize upd H hd (.dK [])=H1 at k1 hh1
  have wt1:WAt H1 C x dx d es:=wt.keep k1 (by simp) (by simp) (fun _ _=>by simp)
  refine ⟨_,rfl,x,dx,d,es,rfl,wt1,hes,rnT,syT,fun lT T H2 hT2 hO hTfr k2=>?_⟩
  refine ⟨lT,_,rfl,SqL.of hT2,fun lr hlr=>?_⟩
  rw [← List.map_reverse]
  have hh2:=k2 _ _ hh1 (by simp)
  have nhr:hd≠lr:=zaa hh2 hlr
  have k3:Keep [] H (upd H2 lr (.lst (T.reverse.map V.str))):=(k1.trans k2).trans (Keep.new hlr)
  have hlr3:(upd H2 lr (.lst (T.reverse.map V.str))) lr=some (.lst (T.reverse.map V.str)):=zac
  have hh3:(upd H2 lr (.lst (T.reverse.map V.str))) hd=some (.dK []):=by rw [zad nhr];exact hh2
  generalize upd H2 lr (.lst (T.reverse.map V.str))=H3 at k3 hlr3 hh3
  have hrn:T.reverse.Nodup:=(Wv T).nodup_iff.mpr hO.nd
  have hrlen:T.reverse.length≤100:=by
   rw [Ux,hO.pm.length_eq,Qa];exact hes
  refine ⟨lr,rfl,⟨_,SqL.of hlr3⟩,zbm (xs:=T.reverse.map V.str) (fun i σ H'=>Aj4 (Ex1 fun x2=>σ=[some (.ref x),some (.ref hd),x2]) (H' lr=some (.lst (T.reverse.map V.str))) (H' hd=some (.dK (cnt (T.reverse.take i) fun y=>(col (row (rsOf es)) (T.reverse.take i).reverse y:Int)))) (Keep [] H H'))
   ⟨⟨_,rfl⟩,hlr3,hh3,k3⟩ (fun j σ H' _ hh=>SqL.of hh.2) ?_ ?_⟩
  ·rintro i v σ H4 hx4 ⟨⟨x2,rfl⟩,hlr4,hh4,k4⟩
   have hi:i < T.reverse.length:=by
    have:=(Qz.mp hx4).1
    rwa [Qa] at this
   have hxz:v=.str T.reverse[i]:=by
    rw [Qn,Qc hi] at hx4
    exact (Qm hx4).symm
   subst hxz
   have wt4:WAt H4 C x dx d es:=wt.keep k4 (by simp) (by simp) (fun _ _=>by simp)
   have hyn:T.reverse[i]∈es.map (·.1):=hO.sub _ (Wg.mp (Qr hi))
   obtain ⟨en,hen,heny⟩:=Qi.mp hyn
   have heny':en.1=T.reverse[i]:=heny
   have h5:=usd_five hF (hO.turn hnp hrp) hi
   rw [← usd_len hrp] at h5
   have hu5:(en.2.1.filter fun z=>decide (z∈T.reverse.take i)).map (fun z=>(col (row (rsOf es)) (T.reverse.take i).reverse z:Int))=usd (row (rsOf es)) (T.reverse.take i).reverse T.reverse[i]:=by
    unfold usd
    rw [← heny',hrow en hen]
    congr 1
    apply We
    intro z _
    rw [Zv,decide_eq_true_eq,decide_eq_true_eq,Wg]
   refine ⟨_,rfl,_,rfl,_,rfl,x,dx,d,hd,es,en,_,_,6,by rw [heny'];rfl,wt4,hh4,hen,hrl en hen,by decide,?_,fun H5 k5=>?_⟩
   ·rw [hu5]
    exact Nat.lt_succ_of_le (Zf (mex_le _) h5)
   ·rw [hu5]
    have hh5:=k5 _ _ hh4 (by simp)
    have nlh:lr≠hd:=za0 hlr4 hh4 (by intro z;cases z)
    have nt:=zbn hrn hi
    refine ⟨_,rfl,_,rfl,hd,_,rfl,DPut.k (k:=Sum.inr T.reverse[i]) hh5 (by unfold cnt;rw [List.length_map,List.length_take];lia),⟨_,rfl⟩,?_,?_,(k4.trans k5).fr hfr⟩
    ·rw [zad nlh];exact k5 _ _ hlr4 (by simp)
    ·rw [zac,Qg hi,Jv,Ji,Wn]
     have e1:cnt (T.reverse.take i) (fun y=>(col (row (rsOf es)) (T.reverse.take i).reverse y:Int))=cnt (T.reverse.take i) (fun y=>(col (row (rsOf es)) (T.reverse[i]::(T.reverse.take i).reverse) y:Int)):=zdj fun y hy=>by
      rw [zgi (fun e=>nt (by rw [← e];exact hy))]
     rw [e1,← cnt_new (F:=fun y=>(col (row (rsOf es)) (T.reverse[i]::(T.reverse.take i).reverse) y:Int)) nt,zgj]
  ·rintro σ H4 ⟨⟨x2,rfl⟩,hlr4,hh4,k4⟩
   rw [Qa,Qp (Qh _),Um] at hh4
   exact ⟨_,rfl,k hd T H4 hh4 hO hfr k4⟩
end
abbrev sOff:Stmt:=top 40
def eltOf:Expr→Expr
 | .ListComp e _ _ _=>e
 | e=>e
def itOf (i:Nat):Expr→Expr
 | .Tuple es _ _=>es.getD i (.Name "" ⟨0,0,0,0⟩)
 | e=>e
abbrev csOff:Scope:=scOf (eOf (wAt (sAt sOff 2) 0))
abbrev csOfi:Scope:=scOf (aOf 0 (itOf 0 (eltOf (eOf (wAt (sAt sOff 2) 0)))))
theorem csOff_k:csOff.kind=.function:=by rfl
theorem csOff_c:∀ y∈csOff.names,y.2≠.cell:=by decide +kernel
theorem csOff_n:∀ y∈csOff.names,y.2=.local→csOff.names.lookup y.1=some .local:=by decide +kernel
theorem csOff_f:∀ y∈csOff.names,y.2=.free→(zaf sOff).names.lookup y.1=some .cell∨(zaf sOff).names.lookup y.1=some .free:=by decide +kernel
theorem csOff_l:csOff.names.lookup ("_law_rounds_here" : Str)=some NameKind.free:=by decide +kernel
theorem csOff_m:csOff.names.lookup ("_law_left" : Str)=some NameKind.free:=by decide +kernel
theorem ndOf:(["_law_name", "_law_rounds_here", "_law_left"]:List Str).Nodup:=by decide +kernel
theorem csOfi_k:csOfi.kind=.function:=by rfl
theorem csOfi_c:∀ y∈csOfi.names,y.2≠.cell:=by decide +kernel
theorem csOfi_n:∀ y∈csOfi.names,y.2=.local→csOfi.names.lookup y.1=some .local:=by decide +kernel
theorem csOfi_o:∀ y∈csOfi.names,y.2=.free→y.1=("_law_left" : Str):=by decide +kernel
theorem csOfi_l:csOfi.names.lookup ("_law_left" : Str)=some NameKind.free:=by decide +kernel
theorem ndOi:(["_law_other", "_law_left"]:List Str).Nodup:=by decide +kernel
theorem pi_listK {X:Cx} {K:PySem.W.Frag} {tg l:Expr} {tl:TE} (hK:X.K=K) (hl:PE X l tl):PI X tg l (iList K tl):=hK ▸ zaw hl
theorem atI_last (D:List Str) (y:Str):atI ((D++[y]).map V.str) (-1)=some (.str y):=by
 unfold atI ixN
 rw [if_neg (by decide),Qa,Qw,Wp,if_pos (by omega)]
 show ((D++[y]).map V.str)[((-1:Int)+((D.length+1:Nat):Int)).toNat]?=_
 have e:((-1:Int)+((D.length+1:Nat):Int)).toNat=D.length:=by omega
 rw [e,Qo,Ur (by simp)]
 simp
inductive IspOff (vs:List V) (H:Hp) (Q:VK):Prop
 | mk (d:Addr) (es:List Ent) (h0:vs=[.ref d]) (h1:RAt H d es) (h2:es.length≤60) (h3:∀ e∈es,e.2.1.length≤100) (h4:∀ e∈es,∀ y∈e.2.1,y∈es.map (·.1)) (h5:∀ (l:Addr) (T:List Str) (H':Hp),H' l=some (.lst (T.map V.str))→zbw (es.map (·.1)) (row (rsOf es)) T→H l=none→Keep [] H H'→Q (.ref l) H'):IspOff vs H Q
def spOff:Sp:=fun vs H Q _=>IspOff vs H Q
section
variable {P:Program} {w:World} {K:PySem.W.Frag} {mg:Str→Option Value} {base:Heap}
theorem scOff:zas ["_law_rounds_here", "_law_left", "_law_found", "_law_ranks"] ["_law_rounds_here"] (zaf sOff):=⟨rfl,rfl,rfl,by decide +kernel,rfl,by decide +kernel,by decide +kernel⟩
theorem ok_off {f:Addr} {fd:FuncData} (F:Fun K "_law_taken_off" "_law_taken_off" sOff f fd) (hlen:mg "len" = none) (hmin:mg "min" = none) (hsor:mg "sorted" = none):FnOk P w K mg base CX0 1 f fd ["_law_rounds_here"] spOff:=by
 refine F.ok scOff (fun vs H Q E h=>?_) (fun cdv A outer s H vs Q E hr h=>?_)
 ·obtain ⟨d,es,rfl,_⟩:=h
  rfl
 ·obtain ⟨d,es,rfl,R,hes,hrl,hinn,k⟩:=h
  have hu:=zce hr
  have hu1:=Jh hu
  have hs0:sizeLine=16777216:=sizeLine_eq
  refine ⟨_,zae (zam (i:=1) scOff.nd rfl (Or.inr rfl) (zak (zbu rfl) (by rfl) hsor Yx (zab (pv 0) zag)))
   (zae (zam (i:=2) scOff.nd rfl (Or.inl rfl) (zbd zag))
   (zae (zec Zg (zay (zeg hu1) (pv 1) (zbd zag) (zb0 _))
    (zae (ps_lc (i:=3) (M:=["_law_name", "_law_rounds_here", "_law_left"]) (ix:=[none,some 0,some 1]) scOff.nd rfl rfl ⟨csOff_k,csOff_c,csOff_n,csOff_f,rfl,by decide +kernel,fun j i x h1 h2=>by
       match j,h1,h2 with
       | 0,_,h2=>cases h2
       | 1,h1,h2=>cases h1;cases h2;exact ⟨rfl,csOff_l⟩
       | 2,h1,h2=>cases h1;cases h2;exact ⟨rfl,csOff_m⟩
       | n+3,h1,_=>cases h1⟩ rfl (zaw (pv 1)) (fun C pins ex s H=>zaj (i:=0) ndOf rfl (Or.inl rfl) (Or.inr rfl)) (fun C pins ex s H=>zb9)
       (fun C pins ex s H=>zfx (zab (zak (zc4 (K:=K) rfl) (by rfl) (by exact hlen) Yb (zab
        (zd1 (M:=["_law_other", "_law_left"]) (ix:=[none,some 2]) ⟨csOfi_k,csOfi_c,csOfi_n,fun y hy hf=>by rw [csOfi_o y hy hf];exact Or.inl rfl,rfl,by decide +kernel,fun j i x h1 h2=>by
         match j,h1,h2 with
         | 0,_,h2=>cases h2
         | 1,h1,h2=>cases h1;cases h2;exact ⟨rfl,csOfi_l⟩
         | n+2,h1,_=>cases h1⟩ rfl (pi_listK (K:=K) rfl (zau (by exact hu) (pv 1) (pv 0) (fun _ _=>rfl))) (fun C pins ex s H=>zaj (i:=0) ndOi rfl (Or.inl rfl) (Or.inr rfl))
         (fun C pins ex s H=>zc0 (zay (zg1 (K:=K) rfl) (pv 0) (pv 1) rfl)) (fun C pins ex s H=>pv 0)) zag)) (zab (pv 0) zag))) rfl)
    (zae (za8 (zee Zu Yw Yv zcc (pv 2) (zab (zbb zgc (zak (zgk rfl hu) (by rfl) hmin Uj (zab (pv 3) zag)) zai (fun _ _=>rfl)) zag)))
    (zah (za8 (zee Zu PySem.F.slot_list_remove PySem.F.type_list_remove mt_remove (pv 1) (zab (zbb zat (pv 2) (pe_un un_neg zai) (fun _ _=>rfl)) zag)))))))
   (zah (zbk (pv 2))))),?_⟩
  have hnd:=R.nd
  have hrow:∀ e∈es,row (rsOf es) e.1=e.2.1:=fun e he=>zb3 hnd he
  generalize hnsd:es.map (·.1)=nm at hnd hinn k
  have hnl:nm.length=es.length:=by rw [← hnsd,Qa]
  generalize row (rsOf es)=r at k hrow
  refine ⟨_,rfl,d,_,nm,rfl,.inl R.dc,by rw [← hnsd];exact zej es,fun lf ws hlf hwp hws=>?_⟩
  have k1:Keep [] H (upd H lf (.lst (ws.map V.str))):=Keep.new hlf
  have hl1:(upd H lf (.lst (ws.map V.str))) lf=some (.lst (ws.map V.str)):=zac
  generalize upd H lf (.lst (ws.map V.str))=H1 at k1 hl1
  refine ⟨(by show 0≤sizeLine;decide),fun fo hfo=>?_⟩
  have ffo:H fo=none:=zbt k1 hfo (by simp)
  have nlf:lf≠fo:=zaa hl1 hfo
  refine ⟨fun m σ H'=>Ex2 fun (D zs:List Str)=>Aj8 (m=zs.length) (Ex1 fun x3=>σ=[some (.ref d),some (.ref lf),some (.ref fo),x3]) (H' lf=some (.lst (zs.map V.str))) (H' fo=some (.lst (D.map V.str))) (Pre nm r D) zs.Nodup (∀ y,y∈zs↔y∈nm∧y∉D) (Keep [] H H'),
   ⟨ws.length,[],ws,rfl,⟨none,rfl⟩,by rw [zad nlf];exact hl1,zac,Pre.nil,hwp.nodup_iff.mpr hnd,fun y=>by rw [hwp.mem_iff];exact ⟨fun h=>⟨h,by simp⟩,fun h=>h.1⟩,k1.fr ffo⟩,?_⟩
  rintro m σ H4 ⟨D,zs,rfl,⟨x3,rfl⟩,hl4,hf4,PD,hzn,hzs,k4⟩
  refine ⟨_,rfl,(by show 0≤sizeLine;decide),fun q hq=>?_⟩
  have k5:Keep [] H (upd H4 q (.lst [])):=k4.trans (Keep.new hq)
  have hl5:(upd H4 q (.lst [])) lf=some (.lst (zs.map V.str)):=by rw [zad (zaa hl4 hq)];exact hl4
  have hf5:(upd H4 q (.lst [])) fo=some (.lst (D.map V.str)):=by rw [zad (zaa hf4 hq)];exact hf4
  refine ⟨lf,q,_,rfl,rfl,SqL.of hl5,SqL.of zac,_,rfl,?_⟩
  generalize upd H4 q (.lst [])=H5 at k5 hl5 hf5
  by_cases hze:zs=[]
  ·subst hze
   refine zbh rfl ⟨_,rfl,k fo D H5 hf5 (PD.order hnd fun y hy=>?_) ffo k5⟩
   by_cases h:y∈D
   ·exact h
   ·exact absurd ((hzs y).mpr ⟨hy,h⟩) (by simp)
  ·refine zb8 (by cases zs with
    | nil=>exact absurd rfl hze
    | cons _ _=>rfl) ?_
   refine ⟨_,fun σ' H' zz=>zz,?_⟩
   have hzl:zs.length≤60:=by
    have:=zcd hzn fun z hz=>((hzs z).mp hz).1
    lia
   have hdg:∀ e∈es,(e.2.1.filter fun z=>decide (z∈zs)).length=dg r D e.1:=fun e he=>by
    unfold dg
    rw [hrow e he]
    congr 1
    apply We
    intro z hz
    rw [Zv,decide_eq_true_eq,decide_eq_true_eq,hzs z]
    exact ⟨fun h=>h.2,fun h=>⟨hinn e he z hz,h⟩⟩
   refine ⟨_,rfl,lf,rfl,⟨_,SqL.of hl5⟩,fun n m ys τ H'=>Aj5 (m=zs.length - n) (n≤zs.length) (Ex1 fun x0=>τ=[x0,some (.ref d),some (.ref lf)]) (Keep [] H5 H') (Ex1 fun (as:List Addr)=>Aj3 (ys=as.map V.ref) (as.length=n) (KAt H' as ((zs.take n).map fun z=>(dg r D z,z)))),
    ⟨zs.length,rfl,Zd _,⟨none,rfl⟩,Keep.refl,[],rfl,rfl,.nil⟩,?_⟩
   rintro n m ys τ H9 ⟨rfl,hn,⟨x0,rfl⟩,k9,as,rfl,hal,ka⟩
   have hl9:=k9 _ _ hl5 (by simp)
   have R9:RAt H9 d es:=R.keep (k5.trans k9) (by simp) (fun _ _=>by simp)
   by_cases hlt:n < zs.length
   ·refine .inr ⟨⟨_,.str zs[n],SqL.of hl9,by rw [Qn,Qc hlt];rfl⟩,by rw [Qa];lia,?_⟩
    rintro v H10 ⟨rfl,hv⟩
    have hv':=hv _ (SqL.of hl9)
    rw [Qn,Qc hlt] at hv'
    obtain rfl:V.str zs[n]=v:=Qm hv'
    obtain ⟨en,hen,heny⟩:=Qi.mp (by rw [hnsd];exact ((hzs _).mp (Qr hlt)).1:zs[n]∈es.map (·.1))
    have heny':en.1=zs[n]:=heny
    have g:=DGet.k (k:=Sum.inr en.1) R9.dc
    rw [zbx R9.nd hen,heny'] at g
    have hro:=R9.ro en hen
    have hel:=hrl en hen
    refine ⟨_,rfl,_,rfl,d,_,rfl,g,en.2.2,rfl,⟨_,SqL.of hro⟩,fun i m ys τ H'=>Aj5 (m=en.2.1.length - i) (i≤en.2.1.length) (Ex1 fun x0=>τ=[x0,some (.ref lf)]) (H'=H10) (ys=((en.2.1.take i).filter fun z=>decide (z∈zs)).map V.str),
     ⟨en.2.1.length,rfl,Zd _,⟨none,rfl⟩,rfl,rfl⟩,?_⟩
    rintro i m ys τ H' ⟨rfl,hi,⟨x0',rfl⟩,rfl,rfl⟩
    by_cases hlt2:i < en.2.1.length
    ·have hfl:=Yl (fun z=>decide (z∈zs)) (en.2.1.take i)
     rw [Zm] at hfl
     refine .inr ⟨⟨_,.str en.2.1[i],SqL.of hro,by rw [Qn,Qc hlt2];rfl⟩,by rw [Qa];lia,?_⟩
     rintro v H3 ⟨rfl,hv⟩
     have hv':=hv _ (SqL.of hro)
     rw [Qn,Qc hlt2] at hv'
     obtain rfl:V.str en.2.1[i]=v:=Qm hv'
     refine ⟨_,rfl,_,rfl,lf,_,rfl,.inl (SqL.of hl9),rfl,zcl _,_,rfl,?_⟩
     by_cases hz:en.2.1[i]∈zs
     ·refine zb8 (by rw [if_neg Zb,ze1,decide_eq_true hz]) ⟨_,rfl,en.2.1.length - (i+1),by exact zar1 ‹_›,rfl,hlt2,⟨_,rfl⟩,rfl,?_⟩
      rw [Qg hlt2,Zs,Zi (by simpa using hz),Yd,Qo];rfl
     ·refine zbh (by rw [if_neg Zb,ze1,decide_eq_false hz]) ⟨en.2.1.length - (i+1),by exact zar1 ‹_›,rfl,hlt2,⟨_,rfl⟩,rfl,?_⟩
      rw [Qg hlt2,Zs,Zj (by simpa using hz),Yd,Zr]
    ·have hie:i=en.2.1.length:=by exact zar3 ‹_› ‹_›
     subst hie
     refine .inl ⟨⟨_,SqL.of hro,by rw [Qa];exact Qh _⟩,fun L hL=>?_⟩
     refine ⟨L,_,rfl,.inl (SqL.of zac),?_⟩
     rw [Qa,Qp (Qh _),hdg en hen,heny']
     generalize ((en.2.1.filter fun z=>decide (z∈zs)).map V.str)=ls
     have k11:Keep [] H' (upd H' L (.lst ls)):=Keep.new hL
     generalize upd H' L (.lst ls)=H11 at k11
     refine ⟨_,rfl,(by show 2≤sizeLine;decide),fun t ht=>⟨zs.length - (n+1),by exact zar1 ‹_›,rfl,hlt,⟨_,rfl⟩,(k9.trans k11).trans (Keep.new ht),as++[t],?_,?_,?_⟩⟩
     ·rw [Qo];rfl
     ·rw [Qw,hal];rfl
     ·rw [Qg hlt,Qo]
      refine za3 (Paired.imp' (fun a k h=>?_) ka) (.cons zac .nil)
      have h':=k11 _ _ h (by simp)
      rw [zad (zaa h' ht)];exact h'
   ·have hie:n=zs.length:=by exact zar3 ‹_› ‹_›
    subst hie
    rw [Qp (Qh _)] at ka
    refine .inl ⟨⟨_,SqL.of hl9,by rw [Qa];exact Qh _⟩,fun L hL=>?_⟩
    have kaL:KAt (upd H9 L (.lst (as.map V.ref))) as (zs.map fun z=>(dg r D z,z)):=Paired.imp' (fun a k h=>by rw [zad (zaa h hL)];exact h) ka
    have k10:Keep [] H5 (upd H9 L (.lst (as.map V.ref))):=k9.trans (Keep.new hL)
    have hL10:(upd H9 L (.lst (as.map V.ref))) L=some (.lst (as.map V.ref)):=zac
    generalize upd H9 L (.lst (as.map V.ref))=H10 at k10 kaL hL10
    have hf10:=k10 _ _ hf5 (by simp)
    have hl10:=k10 _ _ hl5 (by simp)
    refine ⟨_,rfl,.inl ⟨rfl,_,SqL.of hf10⟩,_,rfl,L,as,_,rfl,SqL.of hL10,kaL,by simpa using hze,fun aa kk hkk ha hle=>?_⟩
    obtain ⟨y,hy,rfl⟩:=Qi.mp hkk
    obtain ⟨hyn,hyD⟩:=(hzs y).mp hy
    have PD':=PD.snoc hyn hyD fun z h1 h2=>hle _ (Qi.mpr ⟨z,(hzs z).mpr ⟨h1,h2⟩,rfl⟩)
    have hDl:D.length≤nm.length:=zcd PD.nd PD.sub
    refine ⟨aa,_,1,_,rfl,rfl,SqT.of ha,rfl,fo,_,_,rfl,rfl,hf10,by rw [Qa];lia,?_⟩
    have k11:Keep [] H (upd H10 fo (.lst (D.map V.str++[V.str y]))):=(k5.trans k10).fr ffo
    have hf11:(upd H10 fo (.lst (D.map V.str++[V.str y]))) fo=some (.lst ((D++[y]).map V.str)):=by rw [zac,Qo];rfl
    have hl11:(upd H10 fo (.lst (D.map V.str++[V.str y]))) lf=some (.lst (zs.map V.str)):=by rw [zad nlf];exact hl10
    generalize upd H10 fo (.lst (D.map V.str++[V.str y]))=H11 at k11 hf11 hl11
    refine ⟨_,rfl,.inl ⟨rfl,_,SqL.of hl11⟩,_,rfl,1,rfl,fo,_,-1,.str y,rfl,rfl,SqL.of hf11,?_,lf,zs,y,rfl,rfl,hl11,hy,?_⟩
    ·exact atI_last D y
    ·refine ⟨_,?_,D++[y],zs.erase y,rfl,⟨_,rfl⟩,zac,by rw [zad (Zl nlf)];exact hf11,PD',hzn.erase _,fun z=>?_,k11.fr hlf⟩
     ·rw [Zy hy]
      have:=Yf hy
      lia
     ·rw [hzn.mem_erase_iff,hzs z,Ql,Qd,not_or]
      exact ⟨fun h=>⟨h.2.1,h.2.2,h.1⟩,fun h=>⟨h.2.2,h.1,h.2.1⟩⟩
end
abbrev zew:Stmt:=top 41
abbrev csSxA:Scope:=scOf (eOf (bAt (sAt zew 1) 0))
abbrev csSxB:Scope:=scOf (aOf 0 (eOf (bAt (sAt zew 1) 1)))
theorem csSxA_k:csSxA.kind=.function:=by rfl
theorem csSxA_c:∀ y∈csSxA.names,y.2≠.cell:=by decide +kernel
theorem csSxA_n:∀ y∈csSxA.names,y.2=.local→csSxA.names.lookup y.1=some .local:=by decide +kernel
theorem csSxA_f:∀ y∈csSxA.names,y.2=.free→(zaf zew).names.lookup y.1=some .cell∨(zaf zew).names.lookup y.1=some .free:=by decide +kernel
theorem csSxA_l:csSxA.names.lookup ("_law_hues" : Str)=some NameKind.free:=by decide +kernel
theorem ndSA:(["_law_other", "_law_hues"]:List Str).Nodup:=by decide +kernel
theorem csSxB_k:csSxB.kind=.function:=by rfl
theorem csSxB_c:∀ y∈csSxB.names,y.2≠.cell:=by decide +kernel
theorem csSxB_n:∀ y∈csSxB.names,y.2=.local→csSxB.names.lookup y.1=some .local:=by decide +kernel
theorem csSxB_f:∀ y∈csSxB.names,y.2=.free→(zaf zew).names.lookup y.1=some .cell∨(zaf zew).names.lookup y.1=some .free:=by decide +kernel
theorem csSxB_l:csSxB.names.lookup ("_law_taken" : Str)=some NameKind.free:=by decide +kernel
theorem ndSB:(["_law_hue", "_law_taken"]:List Str).Nodup:=by decide +kernel
theorem zhm {X:Cx} {K:PySem.W.Frag} (hK:X.K=K):OpR X (compareOp .NotIn) (rIn K true):=hK ▸ zcq
inductive IspLSix (vs:List V) (H:Hp) (Q:VK):Prop
 | mk (d lT:Addr) (es:List Ent) (T:List Str) (h0:vs=[.ref d,.ref lT]) (h1:RAt H d es) (h2:H lT=some (.lst (T.map V.str))) (h3:∀ y∈T,y∈es.map (·.1)) (h4:T.Nodup) (h5:T.length≤100) (h6:∀ e∈es,e.2.1.length≤100)
  (h7:∀ (l:Addr) (H':Hp),H' l=some (.dK (cnt T.reverse fun y=>(col (row (rsOf es)) T y:Int)))→H l=none→Keep [] H H'→Q (.ref l) H'):IspLSix vs H Q
def spLSix:Sp:=fun vs H Q _=>IspLSix vs H Q
section
variable {P:Program} {w:World} {K:PySem.W.Frag} {mg:Str→Option Value} {base:Heap}
theorem scLSix:zas ["_law_rounds_here", "_law_told", "_law_hues", "_law_name", "_law_taken"] ["_law_rounds_here", "_law_told"] (zaf zew):=⟨rfl,rfl,rfl,by decide +kernel,rfl,by decide +kernel,by decide +kernel⟩
theorem ok_lsix {f:Addr} {fd:FuncData} (F:Fun K "_law_six" "_law_six" zew f fd) (hlen:mg "len" = none) (hmin:mg "min" = none) (hran:mg "range" = none):FnOk P w K mg base CX0 1 f fd ["_law_rounds_here", "_law_told"] spLSix:=by
 refine F.ok scLSix (fun vs H Q E h=>?_) (fun cdv A outer s H vs Q E hr h=>?_)
 ·obtain ⟨d,lT,es,T,rfl,_⟩:=h
  rfl
 ·obtain ⟨d,lT,es,T,rfl,R,hT,hTs,hTn,hTl,hrl,k⟩:=h
  have hu:=zce hr
  have hs0:sizeLine=16777216:=sizeLine_eq
  refine ⟨_,zae (zam (i:=2) scLSix.nd rfl (Or.inr rfl) zed)
   (zae (zbe Zg rfl (zaw (pe_rev (pv 1))) (zaj (i:=3) scLSix.nd rfl (Or.inl rfl))
    (zae (zam (i:=4) scLSix.nd rfl (Or.inr rfl) (zd1 (M:=["_law_other", "_law_hues"]) (ix:=[none,some 2]) ⟨csSxA_k,csSxA_c,csSxA_n,csSxA_f,rfl,by decide +kernel,fun j i x h1 h2=>by
      match j,h1,h2 with
      | 0,_,h2=>cases h2
      | 1,h1,h2=>cases h1;cases h2;exact ⟨rfl,csSxA_l⟩
      | n+2,h1,_=>cases h1⟩ rfl (zaw (zau hu (pv 0) (pv 3) (fun _ _=>rfl))) (fun C pins ex s H=>zaj (i:=0) ndSA rfl (Or.inl rfl) (Or.inr rfl))
     (fun C pins ex s H=>zc0 (ze7 (pc_din (by exact hu) (pv 0) (pv 1)))) (fun C pins ex s H=>zau (by exact hu) (pv 1) (pv 0) (fun _ _=>rfl))))
    (zah (zbv hu (pv 2) (pv 3) (zak (zh8 rfl) (by rfl) hmin Uj (zab (zd1 (M:=["_law_hue", "_law_taken"]) (ix:=[none,some 4]) ⟨csSxB_k,csSxB_c,csSxB_n,csSxB_f,rfl,by decide +kernel,fun j i x h1 h2=>by
      match j,h1,h2 with
      | 0,_,h2=>cases h2
      | 1,h1,h2=>cases h1;cases h2;exact ⟨rfl,csSxB_l⟩
      | n+2,h1,_=>cases h1⟩ rfl (zbs rfl hran (zab (zaz zbl (zak zaq (by rfl) hlen Yb (zab (pv 4) zag)) zai) zag)) (fun C pins ex s H=>zaj (i:=0) ndSB rfl (Or.inl rfl) (Or.inr rfl))
     (fun C pins ex s H=>zc0 (zay (zhm (K:=K) rfl) (pv 0) (pv 1) rfl)) (fun C pins ex s H=>pv 0)) zag)) rfl))))
   (zah (zbk (pv 2)))),?_⟩
  have hrow:∀ e∈es,row (rsOf es) e.1=e.2.1:=fun e he=>zb3 R.nd he
  refine fun hd hfr=>?_
  have k1:Keep [] H (upd H hd (.dK [])):=Keep.new hfr
  have hh1:(upd H hd (.dK [])) hd=some (.dK []):=zac
  generalize upd H hd (.dK [])=H1 at k1 hh1
  have hT1:=k1 _ _ hT (by simp)
  refine ⟨_,rfl,lT,_,rfl,SqL.of hT1,fun lr hlr=>?_⟩
  rw [← List.map_reverse]
  have nhr:hd≠lr:=zaa hh1 hlr
  have k3:Keep [] H (upd H1 lr (.lst (T.reverse.map V.str))):=k1.trans (Keep.new hlr)
  have hlr3:(upd H1 lr (.lst (T.reverse.map V.str))) lr=some (.lst (T.reverse.map V.str)):=zac
  have hh3:(upd H1 lr (.lst (T.reverse.map V.str))) hd=some (.dK []):=by rw [zad nhr];exact hh1
  generalize upd H1 lr (.lst (T.reverse.map V.str))=H3 at k3 hlr3 hh3
  have hrn:T.reverse.Nodup:=(Wv T).nodup_iff.mpr hTn
  have hrlen:T.reverse.length≤100:=by rw [Ux];exact hTl
  refine ⟨lr,rfl,⟨_,SqL.of hlr3⟩,zbm (xs:=T.reverse.map V.str) (fun i σ H'=>Aj4 (Ex2 fun x3 x4=>σ=[some (.ref d),some (.ref lT),some (.ref hd),x3,x4]) (H' lr=some (.lst (T.reverse.map V.str))) (H' hd=some (.dK (cnt (T.reverse.take i) fun y=>(col (row (rsOf es)) (T.reverse.take i).reverse y:Int)))) (Keep [] H H'))
   ⟨⟨_,_,rfl⟩,hlr3,hh3,k3⟩ (fun j σ H' _ hh=>SqL.of hh.2) ?_ ?_⟩
  ·rintro i v σ H4 hx4 ⟨⟨x3,x4,rfl⟩,hlr4,hh4,k4⟩
   have hi:i < T.reverse.length:=by
    have:=(Qz.mp hx4).1
    rwa [Qa] at this
   have hxz:v=.str T.reverse[i]:=by
    rw [Qn,Qc hi] at hx4
    exact (Qm hx4).symm
   subst hxz
   have R4:RAt H4 d es:=R.keep k4 (by simp) (fun _ _=>by simp)
   obtain ⟨en,hen,heny⟩:=Qi.mp (hTs _ (Wg.mp (Qr hi)))
   have heny':en.1=T.reverse[i]:=heny
   have g:=DGet.k (k:=Sum.inr en.1) R4.dc
   rw [zbx R4.nd hen,heny'] at g
   have hro:=R4.ro en hen
   have hel:=hrl en hen
   have hu5:(en.2.1.filter fun z=>decide (z∈T.reverse.take i)).map (fun z=>(col (row (rsOf es)) (T.reverse.take i).reverse z:Int))=usd (row (rsOf es)) (T.reverse.take i).reverse T.reverse[i]:=by
    unfold usd
    rw [← heny',hrow en hen]
    congr 1
    apply We
    intro z _
    rw [Zv,decide_eq_true_eq,decide_eq_true_eq,Wg]
   have hul:(usd (row (rsOf es)) (T.reverse.take i).reverse T.reverse[i]).length≤100:=by
    rw [← hu5,Qa]
    exact Zf (Yl ..) hel
   refine ⟨_,rfl,_,rfl,d,_,rfl,g,en.2.2,rfl,⟨_,SqL.of hro⟩,fun n m ys τ H'=>Aj5 (m=en.2.1.length - n) (n≤en.2.1.length) (Ex1 fun x0=>τ=[x0,some (.ref hd)]) (H'=H4) (ys=(((en.2.1.take n).filter fun z=>decide (z∈T.reverse.take i)).map fun z=>(col (row (rsOf es)) (T.reverse.take i).reverse z:Int)).map V.int),
    ⟨en.2.1.length,rfl,Zd _,⟨none,rfl⟩,rfl,rfl⟩,?_⟩
   rintro n m ys τ H' ⟨rfl,hn,⟨x0,rfl⟩,rfl,rfl⟩
   by_cases hlt:n < en.2.1.length
   ·have hfl:=Yl (fun z=>decide (z∈T.reverse.take i)) (en.2.1.take n)
    rw [Zm] at hfl
    refine .inr ⟨⟨_,.str en.2.1[n],SqL.of hro,by rw [Qn,Qc hlt];rfl⟩,by rw [Qa,Qa];lia,?_⟩
    rintro v H5 ⟨rfl,hv⟩
    have hv':=hv _ (SqL.of hro)
    rw [Qn,Qc hlt] at hv'
    obtain rfl:V.str en.2.1[n]=v:=Qm hv'
    have g2:=DGet.k (k:=Sum.inr en.2.1[n]) hh4
    by_cases hz:en.2.1[n]∈T.reverse.take i
    ·rw [ze9 hz] at g2
     refine ⟨_,rfl,_,rfl,hd,_,rfl,g2,_,rfl,zb8 rfl ⟨_,rfl,_,rfl,hd,_,rfl,g2,en.2.1.length - (n+1),by exact zar1 ‹_›,rfl,hlt,⟨_,rfl⟩,rfl,?_⟩⟩
     rw [Qg hlt,Zs,Zi (by simpa using hz),Yd,Qo,Qo];rfl
    ·rw [zh2 hz] at g2
     refine ⟨_,rfl,_,rfl,hd,_,rfl,g2,_,rfl,zbh rfl ⟨en.2.1.length - (n+1),by exact zar1 ‹_›,rfl,hlt,⟨_,rfl⟩,rfl,?_⟩⟩
     rw [Qg hlt,Zs,Zj (by simpa using hz),Yd,Zr]
   ·have hie:n=en.2.1.length:=by exact zar3 ‹_› ‹_›
    subst hie
    refine .inl ⟨⟨_,SqL.of hro,by rw [Qa];exact Qh _⟩,fun L hL=>?_⟩
    rw [Qp (Qh _),hu5]
    have hcn:=zgj (row (rsOf es)) (T.reverse.take i).reverse T.reverse[i]
    generalize usd (row (rsOf es)) (T.reverse.take i).reverse T.reverse[i]=us at hul hcn
    have k5:Keep [] H' (upd H' L (.lst (us.map V.int))):=Keep.new hL
    have hL5:(upd H' L (.lst (us.map V.int))) L=some (.lst (us.map V.int)):=zac
    generalize upd H' L (.lst (us.map V.int))=H5 at k5 hL5
    have hmx:=mex_is us
    have hml:=mex_le us
    refine ⟨_,rfl,L,_,rfl,.inl (SqL.of hL5),_,_,rfl,rfl,_,rfl,by rw [Qa];lia,by rw [Qa];lia,?_⟩
    refine ⟨fun n m ys τ H'=>Aj5 (m=us.length+1 - n) (n≤us.length+1) (Ex1 fun x0=>τ=[x0,some (.ref L)]) (H'=H5) (ys=(((List.range n).filter fun q:Nat=>decide ((q:Int)∉us)).map fun q:Nat=>(q:Int)).map V.int),
     ⟨us.length+1,rfl,Zd _,⟨none,rfl⟩,rfl,rfl⟩,?_⟩
    rintro n m ys τ H'' ⟨rfl,hn',⟨x0',rfl⟩,rfl,rfl⟩
    have hfl:=Yl (fun q:Nat=>decide ((q:Int)∉us)) (List.range n)
    rw [Uc] at hfl
    by_cases hlt2:n < us.length+1
    ·refine .inr ⟨by show n < _;rw [Qa];lia,by rw [Qa,Qa];lia,?_⟩
     rintro v H6 ⟨rfl,rfl⟩
     have ei:(0:Int)+(n:Int)=(n:Int):=by lia
     rw [ei]
     refine ⟨_,rfl,_,rfl,L,_,rfl,.inl (SqL.of hL5),rfl,flat_ints us,_,rfl,?_⟩
     by_cases hin:(n:Int)∈us
     ·refine zbh (by rw [if_pos rfl,zhw,decide_eq_true hin];rfl) ⟨us.length+1 - (n+1),by exact zar1 ‹_›,rfl,hlt2,⟨_,rfl⟩,rfl,?_⟩
      rw [Ku,Zs,Zj (by simpa using hin),Yd,Zr]
     ·refine zb8 (by rw [if_pos rfl,zhw,decide_eq_false hin];rfl) ⟨_,rfl,us.length+1 - (n+1),by exact zar1 ‹_›,rfl,hlt2,⟨_,rfl⟩,rfl,?_⟩
      rw [Ku,Zs,Zi (by simpa using hin),Yd,Qo,Qo];rfl
    ·have hie:n=us.length+1:=by exact zar3 ‹_› ‹_›
     subst hie
     refine .inl ⟨by show _≤us.length+1;rw [Qa];lia,fun M hM=>?_⟩
     have hmm:((mex us:Nat):Int)∈((List.range (us.length+1)).filter fun q:Nat=>decide ((q:Int)∉us)).map fun q:Nat=>(q:Int):=Qi.mpr ⟨_,Zk.mpr ⟨Wu.mpr (Nat.lt_succ_of_le hml),decide_eq_true hmx.1⟩,rfl⟩
     refine ⟨M,_,rfl,SqL.of zac,Ug hmm,fun n hn hle=>?_⟩
     obtain ⟨n',hn2,rfl⟩:=Qi.mp hn
     have e:n'=mex us:=by
      have h1:=hle _ hmm
      have h2:=of_decide_eq_true (Zk.mp hn2).2
      rcases Nat.lt_or_ge n' (mex us) with z | z
      ·exact absurd (hmx.2 n' z) h2
      ·lia
     subst e
     rw [← hcn]
     generalize (((List.range (us.length+1)).filter fun q:Nat=>decide ((q:Int)∉us)).map fun q:Nat=>(q:Int)).map V.int=ls
     have k6:Keep [] H' (upd H'' M (.lst ls)):=k5.trans (Keep.new hM)
     generalize upd H'' M (.lst ls)=H6 at k6
     have hh6:=k6 _ _ hh4 (by simp)
     have nlh:lr≠hd:=za0 hlr4 hh4 (by intro z;cases z)
     have nt:=zbn hrn hi
     refine ⟨_,rfl,_,rfl,hd,_,rfl,DPut.k (k:=Sum.inr T.reverse[i]) hh6 (by unfold cnt;rw [List.length_map,List.length_take];lia),⟨_,_,rfl⟩,?_,?_,(k4.trans k6).fr hfr⟩
     ·rw [zad nlh];exact k6 _ _ hlr4 (by simp)
     ·rw [zac,Qg hi,Jv,Ji,Wn]
      have e1:cnt (T.reverse.take i) (fun y=>(col (row (rsOf es)) (T.reverse.take i).reverse y:Int))=cnt (T.reverse.take i) (fun y=>(col (row (rsOf es)) (T.reverse[i]::(T.reverse.take i).reverse) y:Int)):=zdj fun y hy=>by
       rw [zgi (fun e=>nt (by rw [← e];exact hy))]
      rw [e1,← cnt_new (F:=fun y=>(col (row (rsOf es)) (T.reverse[i]::(T.reverse.take i).reverse) y:Int)) nt]
  ·rintro σ H4 ⟨⟨x3,x4,rfl⟩,hlr4,hh4,k4⟩
   rw [Qa,Qp (Qh _),Um] at hh4
   exact ⟨_,rfl,k hd H4 hh4 hfr k4⟩
end
end K21
end
section
namespace Wb
section
variable {α:Type} [DecidableEq α]
theorem good_cut {rs:Rs α} (G:Good rs) {v u:α} (h:u∈row rs v):Good (zba (zba rs v ((row rs v).filter fun z=>decide (z≠u))) u ((row rs u).filter fun z=>decide (z≠v))):=by
 obtain ⟨cs,lab,C⟩:=G
 have hvu:v≠u:=fun e=>C.ir u (by rw [e] at h;exact h)
 have er:∀ x y,(row rs x).filter (fun z=>decide (z≠y))=(row rs x).erase y:=fun x y=>by
  rw [Kd (C.rn x)]
  apply We
  intro z _
  rw [Zv,decide_eq_true_eq,bne_iff_ne]
 rw [er,er]
 have hv:=C.inn h
 have hu:=C.inn' h
 have hu':u∈(zba rs v ((row rs v).erase u)).map (·.1):=by rw [zb4];exact hu
 have L:Less (row rs) (row (zba (zba rs v ((row rs v).erase u)) u ((row rs u).erase v))) v u :=
  ⟨h,by rw [zbi hvu,zbz hv],by rw [zbz hu'],fun x h1 h2=>by rw [zbi h2,zbi h1]⟩
 obtain ⟨cs',lab',C'⟩:=cert_less C L
 refine ⟨cs',lab',?_⟩
 rw [zb4,zb4]
 exact C'
theorem good_ic {f:Fin 12→α} (hf:∀ x y,f x=f y→x=y):Good (icN.map fun i=>(f i,(icR i).map f)):=by
 have nd:((icN.map fun i=>(f i,(icR i).map f)).map (·.1)).Nodup:=by
  rw [Zn]
  exact Ww.mpr (ic_cert.nd.imp fun h e=>h (hf _ _ e))
 have hns:(icN.map fun i=>(f i,(icR i).map f)).map (·.1)=icN.map f:=by rw [Zn];rfl
 have all:∀ x:Fin 12,x∈icN:=by decide +kernel
 have C:=cert_map hf ic_cert (r':=row (icN.map fun i=>(f i,(icR i).map f))) (fun x=>zfw nd (p:=(f x,(icR x).map f)) (Qi.mpr ⟨x,all x,rfl⟩)) (fun y hy=>zhj (by
  rw [hns]
  intro z
  obtain ⟨x,_,e⟩:=Qi.mp z
  exact hy x e.symm)) (all 10)
 exact ⟨_,_,by rw [hns];exact C⟩
end
end Wb
namespace K21
open PySem L2 Wb
abbrev zbf:Stmt:=top 39
abbrev csZwA:Scope:=scOf (eOf (sAt zbf 3))
abbrev csZwB:Scope:=scOf (eOf (sAt zbf 4))
abbrev csZwC:Scope:=scOf (eOf (bAt (bAt (sAt zbf 5) 1) 1))
abbrev csZwD:Scope:=scOf (eOf (bAt (bAt (sAt zbf 5) 1) 2))
theorem csZwA_k:csZwA.kind=.function:=by rfl
theorem csZwA_c:∀ y∈csZwA.names,y.2≠.cell:=by decide +kernel
theorem csZwA_n:∀ y∈csZwA.names,y.2=.local→csZwA.names.lookup y.1=some .local:=by decide +kernel
theorem csZwA_f:∀ y∈csZwA.names,y.2=.free→(zaf zbf).names.lookup y.1=some .cell∨(zaf zbf).names.lookup y.1=some .free:=by decide +kernel
theorem csZwA_l:csZwA.names.lookup ("_law_names_here" : Str)=some NameKind.free:=by decide +kernel
theorem csZwB_k:csZwB.kind=.function:=by rfl
theorem csZwB_c:∀ y∈csZwB.names,y.2≠.cell:=by decide +kernel
theorem csZwB_n:∀ y∈csZwB.names,y.2=.local→csZwB.names.lookup y.1=some .local:=by decide +kernel
theorem csZwB_f:∀ y∈csZwB.names,y.2=.free→(zaf zbf).names.lookup y.1=some .cell∨(zaf zbf).names.lookup y.1=some .free:=by decide +kernel
theorem csZwB_l:csZwB.names.lookup ("_law_names_here" : Str)=some NameKind.free:=by decide +kernel
theorem ndTA:(["_law_k", "_law_names_here"]:List Str).Nodup:=by decide +kernel
theorem csZwC_k:csZwC.kind=.function:=by rfl
theorem csZwC_c:∀ y∈csZwC.names,y.2≠.cell:=by decide +kernel
theorem csZwC_n:∀ y∈csZwC.names,y.2=.local→csZwC.names.lookup y.1=some .local:=by decide +kernel
theorem csZwC_f:∀ y∈csZwC.names,y.2=.free→(zaf zbf).names.lookup y.1=some .cell∨(zaf zbf).names.lookup y.1=some .free:=by decide +kernel
theorem csZwC_l:csZwC.names.lookup ("_law_other" : Str)=some NameKind.free:=by decide +kernel
theorem ndTC:(["_law_name", "_law_other"]:List Str).Nodup:=by decide +kernel
theorem csZwD_k:csZwD.kind=.function:=by rfl
theorem csZwD_c:∀ y∈csZwD.names,y.2≠.cell:=by decide +kernel
theorem csZwD_n:∀ y∈csZwD.names,y.2=.local→csZwD.names.lookup y.1=some .local:=by decide +kernel
theorem csZwD_f:∀ y∈csZwD.names,y.2=.free→(zaf zbf).names.lookup y.1=some .cell∨(zaf zbf).names.lookup y.1=some .free:=by decide +kernel
theorem csZwD_l:csZwD.names.lookup ("_law_one" : Str)=some NameKind.free:=by decide +kernel
theorem ndTD:(["_law_name", "_law_one"]:List Str).Nodup:=by decide +kernel
inductive IspTwelve (vs:List V) (H:Hp) (Q:VK):Prop
 | mk (p:Addr) (b m:Int) (h0:vs=[.ref p]) (h1:Pot H p b m) (h2:∀ (d:Addr) (es:List Ent) (b' m':Int) (H':Hp),RAt H' d es→Good (rsOf es)→es.length≤24→(∀ e∈es,zdl e.1)→Pot H' p b' m'→H d=none→Keep [p] H H'→Q (.ref d) H'):IspTwelve vs H Q
def spTwelve:Sp:=fun vs H Q _=>IspTwelve vs H Q
theorem Keep.frx {xs:List Addr} {H H':Hp} {a:Addr} {o:HO} (k:Keep xs H H') (h:H a=none):Keep xs H (upd H' a o):=fun c u ec hc=>by rw [zad (zaa ec h)];exact k c u ec hc
theorem rsOf_snoc (es:List Ent) (x:Str) (r:List Str) (a:Addr):rsOf (es++[(x,r,a)])=rsOf es++[(x,r)]:=by unfold rsOf;rw [List.map_append];rfl
theorem zff (es:List Ent):(rsOf es).map (·.1)=es.map (·.1):=by unfold rsOf;rw [List.map_map];rfl
def nmf (nm:List Str) (i:Fin 12):Str:=nm.getD i.val Str.empty
def icg (nm:List Str) (i:Fin 12):Str×List Str:=(nmf nm i,(icR i).map (nmf nm))
theorem icA (nm:List Str) {i:Nat} (hi:i < 5):([nm.getD (10:Int).toNat Str.empty,nm.getD ((0+(i:Int)+1) % 5).toNat Str.empty,nm.getD (5+(0+(i:Int)+1) % 5).toNat Str.empty,nm.getD (5+(0+(i:Int))).toNat Str.empty,nm.getD ((0+(i:Int)+4) % 5).toNat Str.empty]:List Str)=(icR ⟨i,by omega⟩).map (nmf nm)∧nm.getD (0+(i:Int)).toNat Str.empty=nmf nm ⟨i,by omega⟩:=by
 match i,hi with
 | 0,_=>exact ⟨rfl,rfl⟩
 | 1,_=>exact ⟨rfl,rfl⟩
 | 2,_=>exact ⟨rfl,rfl⟩
 | 3,_=>exact ⟨rfl,rfl⟩
 | 4,_=>exact ⟨rfl,rfl⟩
theorem icB (nm:List Str) {i:Nat} (hi:i < 5):([nm.getD (11:Int).toNat Str.empty,nm.getD (5+(0+(i:Int)+4) % 5).toNat Str.empty,nm.getD ((0+(i:Int)+4) % 5).toNat Str.empty,nm.getD (0+(i:Int)).toNat Str.empty,nm.getD (5+(0+(i:Int)+1) % 5).toNat Str.empty]:List Str)=(icR ⟨5+i,by omega⟩).map (nmf nm)∧nm.getD (5+(0+(i:Int))).toNat Str.empty=nmf nm ⟨5+i,by omega⟩:=by
 match i,hi with
 | 0,_=>exact ⟨rfl,rfl⟩
 | 1,_=>exact ⟨rfl,rfl⟩
 | 2,_=>exact ⟨rfl,rfl⟩
 | 3,_=>exact ⟨rfl,rfl⟩
 | 4,_=>exact ⟨rfl,rfl⟩
theorem icS {i:Nat} (hi:i < 5):icN.take (2*(i+1))=icN.take (2*i)++[⟨i,by omega⟩]++[⟨5+i,by omega⟩]∧(⟨i,by omega⟩:Fin 12)∉icN.take (2*i)∧(⟨5+i,by omega⟩:Fin 12)∉icN.take (2*i)++[⟨i,by omega⟩]:=by
 match i,hi with
 | 0,_=>exact ⟨rfl,(by decide:(0:Fin 12)∉icN.take (2*0)),(by decide:(5:Fin 12)∉icN.take (2*0)++[0])⟩
 | 1,_=>exact ⟨rfl,(by decide:(1:Fin 12)∉icN.take (2*1)),(by decide:(6:Fin 12)∉icN.take (2*1)++[1])⟩
 | 2,_=>exact ⟨rfl,(by decide:(2:Fin 12)∉icN.take (2*2)),(by decide:(7:Fin 12)∉icN.take (2*2)++[2])⟩
 | 3,_=>exact ⟨rfl,(by decide:(3:Fin 12)∉icN.take (2*3)),(by decide:(8:Fin 12)∉icN.take (2*3)++[3])⟩
 | 4,_=>exact ⟨rfl,(by decide:(4:Fin 12)∉icN.take (2*4)),(by decide:(9:Fin 12)∉icN.take (2*4)++[4])⟩
section
variable {P:Program} {w:World} {K:PySem.W.Frag} {mg:Str→Option Value} {base:Heap}
theorem zcy:zas ["_law_pot_here", "_law_names_here", "_law_rounds_here", "_law_k", "_law_turn", "_law_one", "_law_other"] ["_law_pot_here"] (zaf zbf):=⟨rfl,rfl,rfl,by decide +kernel,rfl,by decide +kernel,by decide +kernel⟩
theorem ok_twelve {f fn ft:Addr} {fd fdn fdt:FuncData} (F:Fun K "_law_twelve" "_law_twelve" zbf f fd)
  (FN:Fun K "_law_names" "_law_names" zdc fn fdn) (bN:Binds K fdn ["_law_pot_here", "_law_many"] []) (mN:mg "_law_names" = some (.ref fn)) (GN:FnOk P w K mg base CX0 2 fn fdn ["_law_pot_here", "_law_many"] spNames)
  (FT:Fun K "_law_take" "_law_take" zeu ft fdt) (bT:Binds K fdt ["_law_pot_here", "_law_many"] []) (mT:mg "_law_take" = some (.ref ft)) (GT:FnOk P w K mg base CX0 1 ft fdt ["_law_pot_here", "_law_many"] ze6)
  (hran:mg "range" = none) (hlen:mg "len" = none):FnOk P w K mg base CX0 3 f fd ["_law_pot_here"] spTwelve:=by
 refine F.ok zcy (fun vs H Q E h=>?_) (fun cdv A outer s H vs Q E hr h=>?_)
 ·obtain ⟨p,b,m,rfl,_⟩:=h
  rfl
 ·obtain ⟨p,b,m,rfl,hp,k⟩:=h
  have hu:=zce hr
  have hu1:=Jh hu
  have hr1:Room 1 _:=hr.mono (by decide)
  have hs0:sizeLine=16777216:=sizeLine_eq
  refine ⟨_,zae (zam (i:=1) zcy.nd rfl (Or.inr rfl) (zal GN hr rfl mN FN.kp bN .nil zax (zab (pv 0) (zab zai zag))))
   (zae (zam (i:=2) zcy.nd rfl (Or.inl rfl) zed)
   (zae (zbe Zg rfl (zbs rfl hran (zab zai zag)) (zaj (i:=3) zcy.nd rfl (Or.inl rfl))
    (zae (zbv hu (pv 2) (zbb zat (pv 1) (pv 3) (fun _ _=>rfl)) (zbd (zab (zbb zat (pv 1) zai (fun _ _=>rfl)) (zab (zbb zat (pv 1) (zaz zc7 (zaz zbl (pv 3) zai) zai) (fun _ _=>rfl)) (zab (zbb zat (pv 1) (zaz zbl zai (zaz zc7 (zaz zbl (pv 3) zai) zai)) (fun _ _=>rfl)) (zab (zbb zat (pv 1) (zaz zbl zai (pv 3)) (fun _ _=>rfl)) (zab (zbb zat (pv 1) (zaz zc7 (zaz zbl (pv 3) zai) zai) (fun _ _=>rfl)) zag)))))) rfl)
    (zah (zbv hu (pv 2) (zbb zat (pv 1) (zaz zbl zai (pv 3)) (fun _ _=>rfl)) (zbd (zab (zbb zat (pv 1) zai (fun _ _=>rfl)) (zab (zbb zat (pv 1) (zaz zbl zai (zaz zc7 (zaz zbl (pv 3) zai) zai)) (fun _ _=>rfl)) (zab (zbb zat (pv 1) (zaz zc7 (zaz zbl (pv 3) zai) zai) (fun _ _=>rfl)) (zab (zbb zat (pv 1) (pv 3) (fun _ _=>rfl)) (zab (zbb zat (pv 1) (zaz zbl zai (zaz zc7 (zaz zbl (pv 3) zai) zai)) (fun _ _=>rfl)) zag)))))) rfl))))
   (zae (zbv hu (pv 2) (zbb zat (pv 1) zai (fun _ _=>rfl)) (zd1 (M:=["_law_k", "_law_names_here"]) (ix:=[none,some 1]) ⟨csZwA_k,csZwA_c,csZwA_n,csZwA_f,rfl,by decide +kernel,fun j i x h1 h2=>by
      match j,h1,h2 with
      | 0,_,h2=>cases h2
      | 1,h1,h2=>cases h1;cases h2;exact ⟨rfl,csZwA_l⟩
      | n+2,h1,_=>cases h1⟩ rfl (zaw (zbd (zab zai (zab zai (zab zai (zab zai (zab zai zag))))))) (fun C pins ex s H=>zaj (i:=0) ndTA rfl (Or.inl rfl) (Or.inr rfl))
     (fun C pins ex s H=>zb9) (fun C pins ex s H=>zbb (zht (K:=K) rfl) (pv 1) (pv 0) (fun _ _=>rfl))) rfl)
   (zae (zbv hu (pv 2) (zbb zat (pv 1) zai (fun _ _=>rfl)) (zd1 (M:=["_law_k", "_law_names_here"]) (ix:=[none,some 1]) ⟨csZwB_k,csZwB_c,csZwB_n,csZwB_f,rfl,by decide +kernel,fun j i x h1 h2=>by
      match j,h1,h2 with
      | 0,_,h2=>cases h2
      | 1,h1,h2=>cases h1;cases h2;exact ⟨rfl,csZwB_l⟩
      | n+2,h1,_=>cases h1⟩ rfl (zbs rfl hran (zab zai zag)) (fun C pins ex s H=>zaj (i:=0) ndTA rfl (Or.inl rfl) (Or.inr rfl))
     (fun C pins ex s H=>zb9) (fun C pins ex s H=>zbb (zht (K:=K) rfl) (pv 1) (zaz zbl zai (pv 0)) (fun _ _=>rfl))) rfl)
   (zae (zbe Zg rfl (zbs rfl hran (zab (zal GT hr1 rfl mT FT.kp bT .nil zax (zab (pv 0) (zab zai zag))) zag)) (zaj (i:=4) zcy.nd rfl (Or.inl rfl))
    (zae (zam (i:=5) zcy.nd rfl (Or.inr rfl) (zbb zat (pv 1) (zal GT hr1 rfl mT FT.kp bT .nil zax (zab (pv 0) (zab zai zag))) (fun _ _=>rfl)))
    (zah (zcg (zay (zeg hu1) (zau hu (pv 2) (pv 5) (fun _ _=>rfl)) (zbd zag) (zb0 _))
     (zae (zam (i:=6) zcy.nd rfl (Or.inr rfl) (zbb zat (zau hu (pv 2) (pv 5) (fun _ _=>rfl)) (zal GT hr1 rfl mT FT.kp bT .nil zax (zab (pv 0) (zab (zak zaq (by rfl) hlen Yb (zab (zau hu (pv 2) (pv 5) (fun _ _=>rfl)) zag)) zag))) (fun _ _=>rfl)))
     (zae (zbv hu (pv 2) (pv 5) (zd1 (M:=["_law_name", "_law_other"]) (ix:=[none,some 6]) ⟨csZwC_k,csZwC_c,csZwC_n,csZwC_f,rfl,by decide +kernel,fun j i x h1 h2=>by
        match j,h1,h2 with
        | 0,_,h2=>cases h2
        | 1,h1,h2=>cases h1;cases h2;exact ⟨rfl,csZwC_l⟩
        | n+2,h1,_=>cases h1⟩ rfl (zaw (zau hu (pv 2) (pv 5) (fun _ _=>rfl))) (fun C pins ex s H=>zaj (i:=0) ndTC rfl (Or.inl rfl) (Or.inr rfl))
       (fun C pins ex s H=>zc0 (zay op_ne (pv 0) (pv 1) (zb0 _))) (fun C pins ex s H=>pv 0)) rfl)
     (zah (zbv hu (pv 2) (pv 6) (zd1 (M:=["_law_name", "_law_one"]) (ix:=[none,some 5]) ⟨csZwD_k,csZwD_c,csZwD_n,csZwD_f,rfl,by decide +kernel,fun j i x h1 h2=>by
        match j,h1,h2 with
        | 0,_,h2=>cases h2
        | 1,h1,h2=>cases h1;cases h2;exact ⟨rfl,csZwD_l⟩
        | n+2,h1,_=>cases h1⟩ rfl (zaw (zau hu (pv 2) (pv 6) (fun _ _=>rfl))) (fun C pins ex s H=>zaj (i:=0) ndTD rfl (Or.inl rfl) (Or.inr rfl))
       (fun C pins ex s H=>zc0 (zay op_ne (pv 0) (pv 1) (zb0 _))) (fun C pins ex s H=>pv 0)) rfl)))) za4))))
   (zah (zbk (pv 2)))))))),?_⟩
  refine ⟨_,rfl,p,b,m,12,rfl,hp,by decide,fun ln nm b1 m1 H1 hn1 hnl hnn hnk hp1 hlfr k1=>?_⟩
  have hf:∀ x y:Fin 12,nmf nm x=nmf nm y→x=y:=fun x y e=>by
   have hx:x.val < nm.length:=by rw [hnl];exact x.isLt
   have hy:y.val < nm.length:=by rw [hnl];exact y.isLt
   unfold nmf at e
   simp [List.getD,hx,hy] at e
   exact Fin.ext ((Uf hnn).mp e)
  have hnok:∀ i:Fin 12,zdl (nmf nm i):=fun i=>by
   have hx:i.val < nm.length:=by rw [hnl];exact i.isLt
   unfold nmf
   simp [List.getD,hx]
   exact hnk _ (Qr hx)
  have hat:∀ j:Int,0≤j→j < 12→atI (nm.map V.str) j=some (.str (nm.getD j.toNat Str.empty)):=fun j h0 h1=>by
   obtain ⟨n,rfl⟩:=Ya h0
   have hn:n < nm.length:=by omega
   refine zbo ?_
   rw [Qn,Qc hn]
   simp [List.getD,hn]
  refine fun d hd=>?_
  have npd:d≠p:=fun e=>by rw [e] at hd;rw [hp1.1] at hd;cases hd
  have fd:H d=none:=zbt k1 hd (by simpa using npd)
  have nld:ln≠d:=zaa hn1 hd
  have k2:Keep [p] H (upd H1 d (.dK [])):=k1.frx fd
  have hn2:(upd H1 d (.dK [])) ln=some (.lst (nm.map V.str)):=by rw [zad nld];exact hn1
  have hp2:Pot (upd H1 d (.dK [])) p b1 m1:=hp1.keep (xs:=[d]) (Keep.wr Qb) (by simpa using Zl npd)
  have R2:RAt (upd H1 d (.dK [])) d []:=⟨zac,fun e he=>(by cases he),Zo⟩
  generalize upd H1 d (.dK [])=H2 at k2 hn2 hp2 R2
  have nlp:ln≠p:=zc6 hp1 hn1
  have put:∀ {H':Hp} {es:List Ent} {is:List (Fin 12)} {i:Fin 12} {a:Addr},RAt H' d es→rsOf es=is.map (icg nm)→i∉is→H' a=some (.lst (((icR i).map (nmf nm)).map V.str)) →
    RAt (upd H' d (.dK (putK (es.map fun e=>((Sum.inr e.1:Key),V.ref e.2.2)) (Sum.inr (nmf nm i)) (.ref a)))) d (es++[(nmf nm i,(icR i).map (nmf nm),a)])∧rsOf (es++[(nmf nm i,(icR i).map (nmf nm),a)])=(is++[i]).map (icg nm):=fun {H' es is i a} R e hi ha=>by
   refine ⟨rat_new R ?_ ha,by rw [rsOf_snoc,e,Qo];rfl⟩
   rw [← zff,e,Zn]
   intro z
   obtain ⟨j,hj,ej⟩:=Qi.mp z
   exact hi (hf j i ej ▸ hj)
  have lenE:∀ {es:List Ent} {is:List (Fin 12)},rsOf es=is.map (icg nm)→es.length=is.length:=fun {es is} e=>by
   have:=congrArg List.length e
   unfold rsOf at this
   rwa [Qa,Qa] at this
  refine ⟨5,rfl,by decide,by decide,zck (fun i σ H'=>Aj5 (Ex4 fun x3 x4 x5 x6=>σ=[some (.ref p),some (.ref ln),some (.ref d),x3,x4,x5,x6]) (H' ln=some (.lst (nm.map V.str))) (Pot H' p b1 m1) (Keep [p] H H') (Ex1 fun (es:List Ent)=>Aj2 (RAt H' d es) (rsOf es=(icN.take (2*i)).map (icg nm))))
   ⟨⟨_,_,_,_,rfl⟩,hn2,hp2,k2,[],R2,rfl⟩ ?_ ?_⟩
  ·rintro i σ H3 hi ⟨⟨x3,x4,x5,x6,rfl⟩,hn3,hp3,k3,es,R3,e3⟩
   have hi5:i < 5:=hi
   obtain ⟨eA,kA⟩:=icA nm hi5
   obtain ⟨eB,kB⟩:=icB nm hi5
   obtain ⟨s1,s2,s3⟩:=icS hi5
   have hel:=lenE e3
   have hel2:(icN.take (2*i)).length≤12:=by rw [Zm];exact Nat.min_le_right _ _
   refine ⟨_,rfl,ln,_,10,_,rfl,rfl,SqL.of hn3,hat 10 (by decide) (by decide),?_⟩
   refine ⟨_,rfl,_,rfl,_,_,rfl,rfl,_,_,rfl,rfl,by decide,ln,_,_,_,rfl,rfl,SqL.of hn3,hat _ (by omega) (by omega),?_⟩
   refine ⟨_,rfl,_,rfl,_,_,rfl,rfl,_,_,rfl,rfl,by decide,_,_,rfl,rfl,ln,_,_,_,rfl,rfl,SqL.of hn3,hat _ (by omega) (by omega),?_⟩
   refine ⟨_,rfl,_,rfl,_,_,rfl,rfl,ln,_,_,_,rfl,rfl,SqL.of hn3,hat _ (by omega) (by omega),?_⟩
   refine ⟨_,rfl,_,rfl,_,_,rfl,rfl,_,_,rfl,rfl,by decide,ln,_,_,_,rfl,rfl,SqL.of hn3,hat _ (by omega) (by omega),?_⟩
   refine ⟨(by show 5≤sizeLine;decide),fun a ha=>?_⟩
   have eA':[V.str (nm.getD (10:Int).toNat Str.empty),V.str (nm.getD ((0+(i:Int)+1) % 5).toNat Str.empty),V.str (nm.getD (5+(0+(i:Int)+1) % 5).toNat Str.empty),V.str (nm.getD (5+(0+(i:Int))).toNat Str.empty),V.str (nm.getD ((0+(i:Int)+4) % 5).toNat Str.empty)]=((icR ⟨i,by omega⟩).map (nmf nm)).map V.str:=by rw [← eA];rfl
   rw [eA']
   have k4:Keep [] H3 (upd H3 a (.lst (((icR ⟨i,by omega⟩).map (nmf nm)).map V.str))):=Keep.new ha
   have ha4:(upd H3 a (.lst (((icR ⟨i,by omega⟩).map (nmf nm)).map V.str))) a=some (.lst (((icR ⟨i,by omega⟩).map (nmf nm)).map V.str)):=zac
   generalize upd H3 a (.lst (((icR ⟨i,by omega⟩).map (nmf nm)).map V.str))=H4 at k4 ha4
   have R4:RAt H4 d es:=R3.keep k4 (by simp) (fun _ _=>by simp)
   have hn4:=k4 _ _ hn3 (by simp)
   refine ⟨_,rfl,_,rfl,_,rfl,ln,_,_,_,rfl,rfl,SqL.of hn4,hat _ (by omega) (by omega),d,_,rfl,DPut.k (k:=Sum.inr _) R4.dc (by rw [Qa];lia),?_⟩
   rw [kA]
   obtain ⟨R5,e5⟩:=put R4 e3 s2 ha4
   have hn5:(upd H4 d (.dK (putK (es.map fun e=>((Sum.inr e.1:Key),V.ref e.2.2)) (Sum.inr (nmf nm ⟨i,by omega⟩)) (.ref a)))) ln=some (.lst (nm.map V.str)):=by rw [zad nld];exact hn4
   have hp5:Pot (upd H4 d (.dK (putK (es.map fun e=>((Sum.inr e.1:Key),V.ref e.2.2)) (Sum.inr (nmf nm ⟨i,by omega⟩)) (.ref a)))) p b1 m1:=(hp3.keep k4 (by simp)).keep (xs:=[d]) (Keep.wr Qb) (by simpa using Zl npd)
   have k5:Keep [p] H (upd H4 d (.dK (putK (es.map fun e=>((Sum.inr e.1:Key),V.ref e.2.2)) (Sum.inr (nmf nm ⟨i,by omega⟩)) (.ref a)))):=(k3.trans (k4.sub (by simp))).frx fd
   generalize upd H4 d (.dK (putK (es.map fun e=>((Sum.inr e.1:Key),V.ref e.2.2)) (Sum.inr (nmf nm ⟨i,by omega⟩)) (.ref a)))=H5 at R5 hn5 hp5 k5
   have hel5:=lenE e5
   generalize es++[(nmf nm ⟨i,by omega⟩,(icR ⟨i,by omega⟩).map (nmf nm),a)]=es5 at R5 e5 hel5
   rw [Qw,Wp] at hel5
   refine ⟨_,rfl,ln,_,11,_,rfl,rfl,SqL.of hn5,hat 11 (by decide) (by decide),?_⟩
   refine ⟨_,rfl,_,rfl,_,_,rfl,rfl,_,_,rfl,rfl,by decide,_,_,rfl,rfl,ln,_,_,_,rfl,rfl,SqL.of hn5,hat _ (by omega) (by omega),?_⟩
   refine ⟨_,rfl,_,rfl,_,_,rfl,rfl,_,_,rfl,rfl,by decide,ln,_,_,_,rfl,rfl,SqL.of hn5,hat _ (by omega) (by omega),?_⟩
   refine ⟨_,rfl,_,rfl,ln,_,_,_,rfl,rfl,SqL.of hn5,hat _ (by omega) (by omega),?_⟩
   refine ⟨_,rfl,_,rfl,_,_,rfl,rfl,_,_,rfl,rfl,by decide,_,_,rfl,rfl,ln,_,_,_,rfl,rfl,SqL.of hn5,hat _ (by omega) (by omega),?_⟩
   refine ⟨(by show 5≤sizeLine;decide),fun a6 ha6=>?_⟩
   have eB':[V.str (nm.getD (11:Int).toNat Str.empty),V.str (nm.getD (5+(0+(i:Int)+4) % 5).toNat Str.empty),V.str (nm.getD ((0+(i:Int)+4) % 5).toNat Str.empty),V.str (nm.getD (0+(i:Int)).toNat Str.empty),V.str (nm.getD (5+(0+(i:Int)+1) % 5).toNat Str.empty)]=((icR ⟨5+i,by omega⟩).map (nmf nm)).map V.str:=by rw [← eB];rfl
   rw [eB']
   have k6:Keep [] H5 (upd H5 a6 (.lst (((icR ⟨5+i,by omega⟩).map (nmf nm)).map V.str))):=Keep.new ha6
   have ha7:(upd H5 a6 (.lst (((icR ⟨5+i,by omega⟩).map (nmf nm)).map V.str))) a6=some (.lst (((icR ⟨5+i,by omega⟩).map (nmf nm)).map V.str)):=zac
   generalize upd H5 a6 (.lst (((icR ⟨5+i,by omega⟩).map (nmf nm)).map V.str))=H6 at k6 ha7
   have R6:RAt H6 d es5:=R5.keep k6 (by simp) (fun _ _=>by simp)
   have hn6:=k6 _ _ hn5 (by simp)
   refine ⟨_,rfl,_,rfl,_,rfl,_,_,rfl,rfl,ln,_,_,_,rfl,rfl,SqL.of hn6,hat _ (by omega) (by omega),d,_,rfl,DPut.k (k:=Sum.inr _) R6.dc (by rw [Qa];lia),?_⟩
   rw [kB]
   obtain ⟨R7,e7⟩:=put R6 e5 s3 ha7
   refine ⟨⟨_,_,_,_,rfl⟩,by rw [zad nld];exact hn6,(hp5.keep k6 (by simp)).keep (xs:=[d]) (Keep.wr Qb) (by simpa using Zl npd),(k5.trans (k6.sub (by simp))).frx fd,_,R7,?_⟩
   rw [e7,s1]
  ·rintro σ H3 ⟨⟨x3,x4,x5,x6,rfl⟩,hn3,hp3,k3,es,R3,e3⟩
   have hel:=lenE e3
   have e3':rsOf es=(icN.take 10).map (icg nm):=e3
   have hel':es.length=10:=hel
   refine ⟨(by show 5≤sizeLine;decide),fun L0 hL0=>?_⟩
   have eq0:([V.int 4,V.int 3,V.int 2,V.int 1,V.int 0]:List V)=([4,3,2,1,0]:List Nat).map fun q:Nat=>V.int (q:Int):=rfl
   rw [eq0]
   generalize hqs:([4,3,2,1,0]:List Nat)=qs
   have hql:qs.length=5:=by rw [← hqs];rfl
   have hqb:∀ q∈qs,q < 12:=by rw [← hqs];decide
   have k4:Keep [] H3 (upd H3 L0 (.lst (qs.map fun q:Nat=>V.int (q:Int)))):=Keep.new hL0
   have hL4:(upd H3 L0 (.lst (qs.map fun q:Nat=>V.int (q:Int)))) L0=some (.lst (qs.map fun q:Nat=>V.int (q:Int))):=zac
   generalize upd H3 L0 (.lst (qs.map fun q:Nat=>V.int (q:Int)))=H4 at k4 hL4
   have hn4:=k4 _ _ hn3 (by simp)
   refine ⟨L0,rfl,⟨_,SqL.of hL4⟩,fun n m ys τ H'=>Aj5 (m=qs.length - n) (n≤qs.length) (Ex1 fun x0=>τ=[x0,some (.ref ln)]) (H'=H4) (ys=((qs.take n).map fun q:Nat=>nm.getD q Str.empty).map V.str),
    ⟨qs.length,rfl,Zd _,⟨none,rfl⟩,rfl,rfl⟩,?_⟩
   rintro n m' ys τ H' ⟨rfl,hn,⟨x0,rfl⟩,rfl,rfl⟩
   by_cases hlt:n < qs.length
   ·refine .inr ⟨⟨_,.int (qs[n]:Int),SqL.of hL4,by rw [Qn,Qc hlt];rfl⟩,by rw [Qa,Qa,Zm];lia,?_⟩
    rintro v H5 ⟨rfl,hv⟩
    have hv':=hv _ (SqL.of hL4)
    rw [Qn,Qc hlt] at hv'
    obtain rfl:V.int (qs[n]:Int)=v:=Qm hv'
    have hb:=hqb _ (Qr hlt)
    refine ⟨_,rfl,_,rfl,ln,_,_,_,rfl,rfl,SqL.of hn4,hat _ (by omega) (by omega),qs.length - (n+1),by exact zar1 ‹_›,rfl,hlt,⟨_,rfl⟩,rfl,?_⟩
    rw [Qg hlt,Qo,Qo]
    rfl
   ·have hie:n=qs.length:=by exact zar3 ‹_› ‹_›
    subst hie
    refine .inl ⟨⟨_,SqL.of hL4,by rw [Qa];exact Qh _⟩,fun a ha=>?_⟩
    rw [Qp (Qh _)]
    have er:qs.map (fun q:Nat=>nm.getD q Str.empty)=(icR 10).map (nmf nm):=by rw [← hqs];rfl
    rw [er]
    have k5:Keep [] H' (upd H' a (.lst (((icR 10).map (nmf nm)).map V.str))):=Keep.new ha
    have ha5:(upd H' a (.lst (((icR 10).map (nmf nm)).map V.str))) a=some (.lst (((icR 10).map (nmf nm)).map V.str)):=zac
    generalize upd H' a (.lst (((icR 10).map (nmf nm)).map V.str))=H5 at k5 ha5
    have k35:Keep [] H3 H5:=k4.trans k5
    have R5:RAt H5 d es:=R3.keep k35 (by simp) (fun _ _=>by simp)
    have hn5:=k35 _ _ hn3 (by simp)
    refine ⟨_,rfl,_,rfl,ln,_,10,_,rfl,rfl,SqL.of hn5,hat 10 (by decide) (by decide),d,_,rfl,DPut.k (k:=Sum.inr _) R5.dc (by rw [Qa];lia),?_⟩
    obtain ⟨R6,e6⟩:=put (i:=10) R5 e3' (by decide) ha5
    have hn6:(upd H5 d (.dK (putK (es.map fun e=>((Sum.inr e.1:Key),V.ref e.2.2)) (Sum.inr (nmf nm 10)) (.ref a)))) ln=some (.lst (nm.map V.str)):=by rw [zad nld];exact hn5
    have hp6:Pot (upd H5 d (.dK (putK (es.map fun e=>((Sum.inr e.1:Key),V.ref e.2.2)) (Sum.inr (nmf nm 10)) (.ref a)))) p b1 m1:=(hp3.keep k35 (by simp)).keep (xs:=[d]) (Keep.wr Qb) (by simpa using Zl npd)
    have k6:Keep [p] H (upd H5 d (.dK (putK (es.map fun e=>((Sum.inr e.1:Key),V.ref e.2.2)) (Sum.inr (nmf nm 10)) (.ref a)))):=(k3.trans (k35.sub (by simp))).frx fd
    rw [show nm.getD (10:Int).toNat Str.empty=nmf nm 10 from rfl]
    generalize upd H5 d (.dK (putK (es.map fun e=>((Sum.inr e.1:Key),V.ref e.2.2)) (Sum.inr (nmf nm 10)) (.ref a)))=H6 at R6 hn6 hp6 k6
    have hel6:=lenE e6
    generalize es++[(nmf nm 10,(icR 10).map (nmf nm),a)]=es6 at R6 e6 hel6
    rw [Qw,Zm,Wp] at hel6
    have hel6':es6.length=11:=hel6
    refine ⟨5,rfl,by decide,by decide,fun n m ys τ H'=>Aj5 (m=5 - n) (n≤5) (Ex1 fun x0=>τ=[x0,some (.ref ln)]) (H'=H6) (ys=((List.range n).map fun q:Nat=>nm.getD (5+q) Str.empty).map V.str),
     ⟨5,rfl,Zd _,⟨none,rfl⟩,rfl,rfl⟩,?_⟩
    rintro n m' ys τ H7 ⟨rfl,hn',⟨x0',rfl⟩,rfl,rfl⟩
    by_cases hlt2:n < 5
    ·refine .inr ⟨hlt2,by rw [Qa,Qa,Uc];lia,?_⟩
     rintro v H8 ⟨rfl,rfl⟩
     refine ⟨_,rfl,_,rfl,_,_,rfl,rfl,ln,_,_,_,rfl,rfl,SqL.of hn6,hat _ (by omega) (by omega),5 - (n+1),by omega,rfl,hlt2,⟨_,rfl⟩,rfl,?_⟩
     rw [Ku,Qo,Qo,show (5+(0+(n:Int))).toNat=5+n by omega]
     rfl
    ·have hie:n=5:=by omega
     subst hie
     refine .inl ⟨Qh _,fun a7 ha7=>?_⟩
     have er7:(List.range 5).map (fun q:Nat=>nm.getD (5+q) Str.empty)=(icR 11).map (nmf nm):=rfl
     rw [er7]
     have k8:Keep [] H7 (upd H7 a7 (.lst (((icR 11).map (nmf nm)).map V.str))):=Keep.new ha7
     have ha8:(upd H7 a7 (.lst (((icR 11).map (nmf nm)).map V.str))) a7=some (.lst (((icR 11).map (nmf nm)).map V.str)):=zac
     generalize upd H7 a7 (.lst (((icR 11).map (nmf nm)).map V.str))=H8 at k8 ha8
     have R8:RAt H8 d es6:=R6.keep k8 (by simp) (fun _ _=>by simp)
     have hn8:=k8 _ _ hn6 (by simp)
     refine ⟨_,rfl,_,rfl,ln,_,11,_,rfl,rfl,SqL.of hn8,hat 11 (by decide) (by decide),d,_,rfl,DPut.k (k:=Sum.inr _) R8.dc (by rw [Qa];lia),?_⟩
     obtain ⟨R9,e9⟩:=put (i:=11) R8 e6 (by decide) ha8
     have hn9:(upd H8 d (.dK (putK (es6.map fun e=>((Sum.inr e.1:Key),V.ref e.2.2)) (Sum.inr (nmf nm 11)) (.ref a7)))) ln=some (.lst (nm.map V.str)):=by rw [zad nld];exact hn8
     have hp9:Pot (upd H8 d (.dK (putK (es6.map fun e=>((Sum.inr e.1:Key),V.ref e.2.2)) (Sum.inr (nmf nm 11)) (.ref a7)))) p b1 m1:=(hp6.keep k8 (by simp)).keep (xs:=[d]) (Keep.wr Qb) (by simpa using Zl npd)
     have k9:Keep [p] H (upd H8 d (.dK (putK (es6.map fun e=>((Sum.inr e.1:Key),V.ref e.2.2)) (Sum.inr (nmf nm 11)) (.ref a7)))):=(k6.trans (k8.sub (by simp))).frx fd
     rw [show nm.getD (11:Int).toNat Str.empty=nmf nm 11 from rfl]
     generalize upd H8 d (.dK (putK (es6.map fun e=>((Sum.inr e.1:Key),V.ref e.2.2)) (Sum.inr (nmf nm 11)) (.ref a7)))=H9 at R9 hn9 hp9 k9
     have e9':rsOf (es6++[(nmf nm 11,(icR 11).map (nmf nm),a7)])=icN.map (icg nm):=e9
     generalize es6++[(nmf nm 11,(icR 11).map (nmf nm),a7)]=es9 at R9 e9'
     have G9:Good (rsOf es9):=by rw [e9'];exact good_ic hf
     have N9:es9.map (·.1)=icN.map (nmf nm):=by rw [← zff,e9',Zn];rfl
     clear e9 e6 e3 e3' put
     refine ⟨_,rfl,p,b1,m1,4,rfl,hp9,by decide,by decide,fun j b2 m2 H10 hj0 hj4 hp10 kp10=>?_⟩
     have k10:=zbj kp10
     have R10:=R9.pot hp9 k10
     have hn10:=k10 _ _ hn9 (by simpa using nlp)
     refine ⟨j,rfl,by lia,by lia,zck (fun i σ H'=>Aj5 (Ex4 fun x3 x4 x5 x6=>σ=[some (.ref p),some (.ref ln),some (.ref d),x3,x4,x5,x6]) (H' ln=some (.lst (nm.map V.str))) (Ex2 fun b m=>Pot H' p b m) (Keep [p] H H') (Ex1 fun (es:List Ent)=>Aj3 (RAt H' d es) (Good (rsOf es)) (es.map (·.1)=icN.map (nmf nm))))
      ⟨⟨_,_,_,_,rfl⟩,hn10,⟨b2,m2,hp10⟩,k9.trans k10,es9,R10,G9,N9⟩ ?_ ?_⟩
     ·rintro i σ H11 hi ⟨⟨y3,y4,y5,y6,rfl⟩,hn11,⟨b3,m3,hp11⟩,k11,es,R11,G11,N11⟩
      have hlen12:es.length=12:=by
       have:=congrArg List.length N11
       rw [Qa,Qa] at this
       rw [this];rfl
      refine ⟨_,rfl,_,rfl,p,b3,m3,12,rfl,hp11,by decide,by decide,fun j1 b4 m4 H12 h10 h11 hp12 kp12=>?_⟩
      have k12:=zbj kp12
      have R12:=R11.pot hp11 k12
      have hn12:=k12 _ _ hn11 (by simpa using nlp)
      refine ⟨ln,_,j1,_,rfl,rfl,SqL.of hn12,hat j1 h10 h11,?_⟩
      obtain ⟨en,hen,heny⟩:=Qi.mp (show nm.getD j1.toNat Str.empty∈es.map (·.1) by
       rw [N11]
       exact Qi.mpr ⟨⟨j1.toNat,by omega⟩,(by decide +kernel:∀ x:Fin 12,x∈icN) _,rfl⟩)
      have heny':en.1=nm.getD j1.toNat Str.empty:=heny
      rw [← heny']
      clear heny heny'
      have hrow:∀ e∈es,row (rsOf es) e.1=e.2.1:=fun e he=>zb3 R11.nd he
      obtain ⟨cs,lab,Ct0⟩:=id G11
      have Ct:Cert (es.map (·.1)) (row (rsOf es)) cs lab:=by rw [← zff];exact Ct0
      have hrl:∀ e∈es,e.2.1.length≤100:=fun e he=>by
       have:=zcd (m:=es.map (·.1)) (hrow e he ▸ Ct.rn e.1) fun y hy=>Ct.inn' (x:=e.1) (by rw [hrow e he];exact hy)
       rw [Qa] at this
       omega
      have g12:=DGet.k (k:=Sum.inr en.1) R12.dc
      rw [zbx R12.nd hen] at g12
      have hro:=R12.ro en hen
      refine ⟨_,rfl,_,rfl,d,_,rfl,g12,(by show 0≤sizeLine;decide),fun q hq=>?_⟩
      have k13:Keep [] H12 (upd H12 q (.lst [])):=Keep.new hq
      have hq13:(upd H12 q (.lst [])) q=some (.lst []):=zac
      generalize upd H12 q (.lst [])=H13 at k13 hq13
      have R13:RAt H13 d es:=R12.keep k13 (by simp) (fun _ _=>by simp)
      have hn13:=k13 _ _ hn12 (by simp)
      have hp13:=hp12.keep k13 (by simp)
      have g13:=DGet.k (k:=Sum.inr en.1) R13.dc
      rw [zbx R13.nd hen] at g13
      have hro13:=R13.ro en hen
      have kH13:Keep [p] H H13:=(k11.trans k12).trans (k13.sub (by simp))
      refine ⟨en.2.2,q,_,rfl,rfl,SqL.of hro13,SqL.of hq13,_,rfl,?_⟩
      by_cases hem:en.2.1=[]
      ·refine zbh (by rw [hem];rfl) ?_
       exact ⟨⟨_,_,_,_,rfl⟩,hn13,⟨b4,m4,hp13⟩,kH13,es,R13,G11,N11⟩
      ·refine zb8 (by cases hh:en.2.1 with
        | nil=>exact absurd hh hem
        | cons _ _=>rfl) ?_
       have hpos:0 < en.2.1.length:=Wk.mpr hem
       have hel:=hrl en hen
       refine ⟨_,rfl,_,rfl,d,_,rfl,g13,_,rfl,_,rfl,_,rfl,d,_,rfl,g13,en.2.2,_,rfl,.inl (SqL.of hro13),p,b4,m4,_,rfl,hp13,(by rw [Qa];omega),(by rw [Qa];omega),fun j2 b5 m5 H14 h20 h21 hp14 kp14=>?_⟩
       have k14:=zbj kp14
       have R14:=R13.pot hp13 k14
       have hn14:=k14 _ _ hn13 (by simpa using nlp)
       have kH14:Keep [p] H H14:=kH13.trans k14
       obtain ⟨i6,rfl⟩:=Ya h20
       have hi6:i6 < en.2.1.length:=by rw [Qa] at h21;omega
       have hro14:=R14.ro en hen
       refine ⟨en.2.2,_,_,_,rfl,rfl,SqL.of hro14,zbo (by rw [Qn,Qc hi6];rfl),?_⟩
       have hcm:en.2.1[i6]∈en.2.1:=Qr hi6
       generalize en.2.1[i6]=ot at hcm
       have hot:ot∈row (rsOf es) en.1:=by rw [hrow en hen];exact hcm
       have hoe:ot≠en.1:=fun e=>Ct.ir en.1 (e ▸ hot)
       have g14:=DGet.k (k:=Sum.inr en.1) R14.dc
       rw [zbx R14.nd hen] at g14
       refine ⟨_,rfl,_,rfl,d,_,rfl,g14,en.2.2,rfl,⟨_,SqL.of hro14⟩,fun n m ys τ H'=>Aj5 (m=en.2.1.length - n) (n≤en.2.1.length) (Ex1 fun x0=>τ=[x0,some (.str ot)]) (H'=H14) (ys=((en.2.1.take n).filter fun z=>decide (z≠ot)).map V.str),
        ⟨en.2.1.length,rfl,Zd _,⟨none,rfl⟩,rfl,rfl⟩,?_⟩
       rintro n m' ys τ H' ⟨rfl,hn',⟨x0,rfl⟩,rfl,rfl⟩
       by_cases hlt:n < en.2.1.length
       ·have hfl:=Yl (fun z=>decide (z≠ot)) (en.2.1.take n)
        rw [Zm] at hfl
        refine .inr ⟨⟨_,.str en.2.1[n],SqL.of hro14,by rw [Qn,Qc hlt];rfl⟩,by rw [Qa];lia,?_⟩
        rintro v H15 ⟨rfl,hv⟩
        have hv':=hv _ (SqL.of hro14)
        rw [Qn,Qc hlt] at hv'
        obtain rfl:V.str en.2.1[n]=v:=Qm hv'
        refine ⟨_,rfl,_,rfl,rfl,_,rfl,?_⟩
        by_cases hz:en.2.1[n]=ot
        ·refine zbh (by simp [hz]) ⟨en.2.1.length - (n+1),by exact zar1 ‹_›,rfl,hlt,⟨_,rfl⟩,rfl,?_⟩
         rw [Qg hlt,Zs,Zj (by simpa using hz),Yd,Zr]
        ·refine zb8 (by simp [hz]) ⟨_,rfl,en.2.1.length - (n+1),by exact zar1 ‹_›,rfl,hlt,⟨_,rfl⟩,rfl,?_⟩
         rw [Qg hlt,Zs,Zi (by simpa using hz),Yd,Qo];rfl
       ·have hie:n=en.2.1.length:=by exact zar3 ‹_› ‹_›
        subst hie
        refine .inl ⟨⟨_,SqL.of hro14,by rw [Qa];exact Qh _⟩,fun L hL=>?_⟩
        rw [Qp (Qh _)]
        have k15:Keep [] H' (upd H' L (.lst ((en.2.1.filter fun z=>decide (z≠ot)).map V.str))):=Keep.new hL
        have hL15:(upd H' L (.lst ((en.2.1.filter fun z=>decide (z≠ot)).map V.str))) L=some (.lst ((en.2.1.filter fun z=>decide (z≠ot)).map V.str)):=zac
        generalize upd H' L (.lst ((en.2.1.filter fun z=>decide (z≠ot)).map V.str))=H15 at k15 hL15
        have R15:RAt H15 d es:=R14.keep k15 (by simp) (fun _ _=>by simp)
        refine ⟨_,rfl,_,rfl,d,_,rfl,DPut.k (k:=Sum.inr en.1) R15.dc (by rw [Qa];lia),?_⟩
        have R16:=rat_set R15 (Qi.mpr ⟨en,hen,rfl⟩) hL15
        have k16:Keep [p] H (upd H15 d (.dK (putK (es.map fun e=>((Sum.inr e.1:Key),V.ref e.2.2)) (Sum.inr en.1) (.ref L)))):=(kH14.trans (k15.sub (by simp))).frx fd
        have hp16:Pot (upd H15 d (.dK (putK (es.map fun e=>((Sum.inr e.1:Key),V.ref e.2.2)) (Sum.inr en.1) (.ref L)))) p b5 m5:=(hp14.keep k15 (by simp)).keep (xs:=[d]) (Keep.wr Qb) (by simpa using Zl npd)
        have hn16:(upd H15 d (.dK (putK (es.map fun e=>((Sum.inr e.1:Key),V.ref e.2.2)) (Sum.inr en.1) (.ref L)))) ln=some (.lst (nm.map V.str)):=by rw [zad nld];exact k15 _ _ hn14 (by simp)
        generalize upd H15 d (.dK (putK (es.map fun e=>((Sum.inr e.1:Key),V.ref e.2.2)) (Sum.inr en.1) (.ref L)))=H16 at R16 k16 hp16 hn16
        have e16:=zey es en.1 (en.2.1.filter fun z=>decide (z≠ot)) L
        have n16:(setE es en.1 (en.2.1.filter fun z=>decide (z≠ot)) L).map (·.1)=es.map (·.1):=zb5 ..
        have l16:(setE es en.1 (en.2.1.filter fun z=>decide (z≠ot)) L).length=12:=by
         have:=congrArg List.length n16
         rw [Qa,Qa] at this
         rw [this];exact hlen12
        generalize setE es en.1 (en.2.1.filter fun z=>decide (z≠ot)) L=es16 at R16 e16 n16 l16
        have hot16:ot∈es16.map (·.1):=by rw [n16];exact Ct.inn' hot
        obtain ⟨eo,heo,heoy⟩:=Qi.mp hot16
        have heoy':eo.1=ot:=heoy
        have hreo:eo.2.1=row (rsOf es) ot:=by
         have:=zb3 R16.nd heo
         rw [e16,heoy',zbi hoe] at this
         exact this.symm
        have heol:eo.2.1.length≤100:=by
         rw [hreo]
         have:=zcd (m:=es.map (·.1)) (Ct.rn ot) fun y hy=>Ct.inn' (x:=ot) hy
         rw [Qa] at this
         omega
        have g16:=DGet.k (k:=Sum.inr eo.1) R16.dc
        rw [zbx R16.nd heo,heoy'] at g16
        have hro16:=R16.ro eo heo
        refine ⟨_,rfl,_,rfl,d,_,rfl,g16,eo.2.2,rfl,⟨_,SqL.of hro16⟩,fun n m ys τ H'=>Aj5 (m=eo.2.1.length - n) (n≤eo.2.1.length) (Ex1 fun x0=>τ=[x0,some (.str en.1)]) (H'=H16) (ys=((eo.2.1.take n).filter fun z=>decide (z≠en.1)).map V.str),
         ⟨eo.2.1.length,rfl,Zd _,⟨none,rfl⟩,rfl,rfl⟩,?_⟩
        rintro n m' ys τ H17 ⟨rfl,hn17,⟨x0',rfl⟩,rfl,rfl⟩
        by_cases hlt2:n < eo.2.1.length
        ·have hfl:=Yl (fun z=>decide (z≠en.1)) (eo.2.1.take n)
         rw [Zm] at hfl
         refine .inr ⟨⟨_,.str eo.2.1[n],SqL.of hro16,by rw [Qn,Qc hlt2];rfl⟩,by rw [Qa];lia,?_⟩
         rintro v H18 ⟨rfl,hv⟩
         have hv':=hv _ (SqL.of hro16)
         rw [Qn,Qc hlt2] at hv'
         obtain rfl:V.str eo.2.1[n]=v:=Qm hv'
         refine ⟨_,rfl,_,rfl,rfl,_,rfl,?_⟩
         by_cases hz:eo.2.1[n]=en.1
         ·refine zbh (by simp [hz]) ⟨eo.2.1.length - (n+1),by exact zar1 ‹_›,rfl,hlt2,⟨_,rfl⟩,rfl,?_⟩
          rw [Qg hlt2,Zs,Zj (by simpa using hz),Yd,Zr]
         ·refine zb8 (by simp [hz]) ⟨_,rfl,eo.2.1.length - (n+1),by exact zar1 ‹_›,rfl,hlt2,⟨_,rfl⟩,rfl,?_⟩
          rw [Qg hlt2,Zs,Zi (by simpa using hz),Yd,Qo];rfl
        ·have hie:n=eo.2.1.length:=by exact zar3 ‹_› ‹_›
         subst hie
         refine .inl ⟨⟨_,SqL.of hro16,by rw [Qa];exact Qh _⟩,fun L2 hL2=>?_⟩
         rw [Qp (Qh _)]
         have k18:Keep [] H17 (upd H17 L2 (.lst ((eo.2.1.filter fun z=>decide (z≠en.1)).map V.str))):=Keep.new hL2
         have hL18:(upd H17 L2 (.lst ((eo.2.1.filter fun z=>decide (z≠en.1)).map V.str))) L2=some (.lst ((eo.2.1.filter fun z=>decide (z≠en.1)).map V.str)):=zac
         generalize upd H17 L2 (.lst ((eo.2.1.filter fun z=>decide (z≠en.1)).map V.str))=H18 at k18 hL18
         have R18:RAt H18 d es16:=R16.keep k18 (by simp) (fun _ _=>by simp)
         refine ⟨_,rfl,_,rfl,d,_,rfl,DPut.k (k:=Sum.inr ot) R18.dc (by rw [Qa];lia),?_⟩
         refine ⟨⟨_,_,_,_,rfl⟩,by rw [zad nld];exact k18 _ _ hn16 (by simp),⟨b5,m5,(hp16.keep k18 (by simp)).keep (xs:=[d]) (Keep.wr Qb) (by simpa using Zl npd)⟩,(k16.trans (k18.sub (by simp))).frx fd,_,rat_set R18 hot16 hL18,?_,by rw [zb5,n16];exact N11⟩
         rw [zey,e16,hreo,← hrow en hen]
         exact good_cut G11 hot
     ·rintro σ H11 ⟨⟨y3,y4,y5,y6,rfl⟩,hn11,⟨b3,m3,hp11⟩,k11,es11,R11,G11,N11⟩
      refine ⟨_,rfl,k d es11 b3 m3 H11 R11 G11 ?_ (fun e he=>?_) hp11 fd k11⟩
      ·have:=congrArg List.length N11
       rw [Qa,Qa] at this
       rw [this];decide
      ·have:e.1∈icN.map (nmf nm):=by rw [← N11];exact Qi.mpr ⟨e,he,rfl⟩
       obtain ⟨i,_,ei⟩:=Qi.mp this
       rw [← ei];exact hnok i
end
end K21
end
section
namespace K21
open PySem L2 Wb
abbrev sLaw:Stmt:=top 42
inductive IspLaw (K:PySem.W.Frag) (vs:List V) (H:Hp) (Q:VK):Prop
 | mk (a:Addr) (ns:List Int) (h0:vs=[.ref a]) (h1:SqL K H a (ns.map V.int)) (h2:ns.length≤63) (h3:∀ H',Q (.bl true) H'):IspLaw K vs H Q
def spLaw (K:PySem.W.Frag):Sp:=fun vs H Q _=>IspLaw K vs H Q
theorem SqL.keep {K:PySem.W.Frag} {H H':Hp} {a:Addr} {xs:List V} (k:Keep [] H H') (h:SqL K H a xs):SqL K H' a xs:=by
 rcases h with (h | ⟨o,h⟩) | h
 ·exact .inl (.inl (k _ _ h (by simp)))
 ·exact .inl (.inr ⟨o,k _ _ h (by simp)⟩)
 ·exact .inr h
def tstOf:Stmt→Expr
 | .If e _ _ _=>e
 | _=>.Name "" ⟨0,0,0,0⟩
abbrev csLwA:Scope:=scOf (aOf 0 (tstOf (bAt (sAt sLaw 0) 6)))
abbrev csLwB:Scope:=scOf (aOf 0 (tstOf (bAt (bAt (sAt sLaw 0) 7) 0)))
theorem csLwA_k:csLwA.kind=.function:=by rfl
theorem csLwA_c:∀ y∈csLwA.names,y.2≠.cell:=by decide +kernel
theorem csLwA_n:∀ y∈csLwA.names,y.2=.local→csLwA.names.lookup y.1=some .local:=by decide +kernel
theorem csLwA_f:∀ y∈csLwA.names,y.2=.free→(zaf sLaw).names.lookup y.1=some .cell∨(zaf sLaw).names.lookup y.1=some .free:=by decide +kernel
theorem csLwA_l:csLwA.names.lookup ("_law_hues" : Str)=some NameKind.free:=by decide +kernel
theorem ndLA:(["_law_name", "_law_hues"]:List Str).Nodup:=by decide +kernel
theorem csLwB_k:csLwB.kind=.function:=by rfl
theorem csLwB_c:∀ y∈csLwB.names,y.2≠.cell:=by decide +kernel
theorem csLwB_n:∀ y∈csLwB.names,y.2=.local→csLwB.names.lookup y.1=some .local:=by decide +kernel
theorem csLwB_f:∀ y∈csLwB.names,y.2=.free→(zaf sLaw).names.lookup y.1=some .cell∨(zaf sLaw).names.lookup y.1=some .free:=by decide +kernel
theorem csLwB_l:csLwB.names.lookup ("_law_hues" : Str)=some NameKind.free:=by decide +kernel
theorem csLwB_m:csLwB.names.lookup ("_law_name" : Str)=some NameKind.free:=by decide +kernel
theorem ndLB:(["_law_other", "_law_hues", "_law_name"]:List Str).Nodup:=by decide +kernel
theorem ite_both {c:Bool} {A B:Prop} (a:A) (b:B):if c=true then A else B:=by
 cases c
 ·exact iteF b
 ·exact iteT a
section
variable {P:Program} {w:World} {K:PySem.W.Frag} {mg:Str→Option Value} {base:Heap}
theorem zhh:zas ["_law_script", "_law_k", "_law_pot_here", "_law_rounds_here", "_law_web_here", "_law_hues", "_law_told", "_law_name"] ["_law_script"] (zaf sLaw):=⟨rfl,rfl,rfl,by decide +kernel,rfl,by decide +kernel,by decide +kernel⟩
theorem ok_law {C f fp ft fz fr fw fs fo ff fx:Addr} {fd fdp fdt fdz fdr fdw fds fdo fdf fdx:FuncData} (F:Fun K "law" "law" sLaw f fd)
  (FP:Fun K "_law_pot" "_law_pot" sPot fp fdp) (bP:Binds K fdp ["_law_script", "_law_k"] []) (mP:mg "_law_pot" = some (.ref fp)) (GP:FnOk P w K mg base CX0 1 fp fdp ["_law_script", "_law_k"] (spPot K))
  (FT:Fun K "_law_take" "_law_take" zeu ft fdt) (bT:Binds K fdt ["_law_pot_here", "_law_many"] []) (mT:mg "_law_take" = some (.ref ft)) (GT:FnOk P w K mg base CX0 1 ft fdt ["_law_pot_here", "_law_many"] ze6)
  (FZ:Fun K "_law_twelve" "_law_twelve" zbf fz fdz) (bZ:Binds K fdz ["_law_pot_here"] []) (mZ:mg "_law_twelve" = some (.ref fz)) (GZ:FnOk P w K mg base CX0 3 fz fdz ["_law_pot_here"] spTwelve)
  (FR:Fun K "_law_rounds" "_law_rounds" zdw fr fdr) (bR:Binds K fdr ["_law_pot_here", "_law_most"] []) (mR:mg "_law_rounds" = some (.ref fr)) (GR:FnOk P w K mg base CX0 4 fr fdr ["_law_pot_here", "_law_most"] (spRounds Good))
  (FW:Fun K "_law_web" "_law_web" sLWeb fw fdw) (bW:Binds K fdw ["_law_pot_here", "_law_rounds_here"] []) (mW:mg "_law_web" = some (.ref fw)) (GW:FnOk P w K mg base CX0 6 fw fdw ["_law_pot_here", "_law_rounds_here"] (spLWeb C))
  (FS:Fun K "six_hues" "six_hues" sSix fs fds) (bS:Binds K fds ["web"] []) (mS:mg "six_hues" = some (.ref fs)) (GS:FnOk P w K mg base CX0 3 fs fds ["web"] (spSix C))
  (FO:Fun K "order" "order" zcn fo fdo) (bO:Binds K fdo ["web"] []) (mO:mg "order" = some (.ref fo)) (GO:FnOk P w K mg base CX0 2 fo fdo ["web"] (spOrder C))
  (FF:Fun K "_law_taken_off" "_law_taken_off" sOff ff fdf) (bF:Binds K fdf ["_law_rounds_here"] []) (mF:mg "_law_taken_off" = some (.ref ff)) (GF:FnOk P w K mg base CX0 1 ff fdf ["_law_rounds_here"] spOff)
  (FX:Fun K "_law_six" "_law_six" zew fx fdx) (bX:Binds K fdx ["_law_rounds_here", "_law_told"] []) (mX:mg "_law_six" = some (.ref fx)) (GX:FnOk P w K mg base CX0 1 fx fdx ["_law_rounds_here", "_law_told"] spLSix)
  (hlen:mg "len" = none) (hmax:mg "max" = none) (hmin:mg "min" = none) (hran:mg "range" = none) (hany:mg "any" = none):FnOk P w K mg base CX0 7 f fd ["_law_script"] (spLaw K):=by
 refine F.ok zhh (fun vs H Q E h=>?_) (fun cdv A outer s H vs Q E hr h=>?_)
 ·obtain ⟨a,ns,rfl,_⟩:=h
  rfl
 ·obtain ⟨a,ns,rfl,hS,hns,k⟩:=h
  have hu:=zce hr
  have hu1:=Jh hu
  have hr1:Room 1 _:=hr.mono (by decide)
  have hr2:Room 2 _:=hr.mono (by decide)
  have hr3:Room 3 _:=hr.mono (by decide)
  have hr4:Room 4 _:=hr.mono (by decide)
  have hs0:sizeLine=16777216:=sizeLine_eq
  refine ⟨_,zae (zbe Zg rfl (zbs rfl hran (zab (zak (call_max2 rfl) (by rfl) hmax PyProof.Rows.boot_max (zab zai (zab (zak (call_min2 rfl) (by rfl) hmin Uj (zab zai (zab (zak zaq (by rfl) hlen Yb (zab (pv 0) zag)) zag))) zag))) zag)) (zaj (i:=1) zhh.nd rfl (Or.inl rfl))
    (zae (zam (i:=2) zhh.nd rfl (Or.inl rfl) (zal GP hr1 rfl mP FP.kp bP .nil zax (zab (pv 0) (zab (pv 1) zag))))
    (zae (zcg (zay op_eq (zal GT hr1 rfl mT FT.kp bT .nil zax (zab (pv 2) (zab zai zag))) zai (zb0 _))
     (zah (zam (i:=3) zhh.nd rfl (Or.inl rfl) (zal GZ hr3 rfl mZ FZ.kp bZ .nil zax (zab (pv 2) zag))))
     (zah (zam (i:=3) zhh.nd rfl (Or.inl rfl) (zal GR hr4 rfl mR FR.kp bR .nil zax (zab (pv 2) (zab zai zag))))))
    (zae (zam (i:=4) zhh.nd rfl (Or.inl rfl) (zal GW hr rfl mW FW.kp bW .nil zax (zab (pv 2) (zab (pv 3) zag))))
    (zae (zam (i:=5) zhh.nd rfl (Or.inr rfl) (zal GS hr3 rfl mS FS.kp bS .nil zax (zab (pv 4) zag)))
    (zae (zam (i:=6) zhh.nd rfl (Or.inl rfl) (zal GF hr1 rfl mF FF.kp bF .nil zax (zab (pv 3) zag)))
    (zae (zcg (PW.pt (pw_or (zay (op_ne_lists hu1) (zal GO hr2 rfl mO FO.kp bO .nil zax (zab (pv 4) zag)) (pv 6) (zb0 _))
     (pw_or1 (zay (zg0 hu1) (pv 5) (zal GX hr1 rfl mX FX.kp bX .nil zax (zab (pv 3) (zab (pv 6) zag))) (zb0 _))))) (zah zgr) za4)
    (zae (zcg (pt_val (zak (call_any rfl) (by rfl) hany PyProof.Rows.boot_any (zab (pe_thaw (zd1 (M:=["_law_name", "_law_hues"]) (ix:=[none,some 5]) ⟨csLwA_k,csLwA_c,csLwA_n,csLwA_f,rfl,by decide +kernel,fun j i x h1 h2=>by
       match j,h1,h2 with
       | 0,_,h2=>cases h2
       | 1,h1,h2=>cases h1;cases h2;exact ⟨rfl,csLwA_l⟩
       | n+2,h1,_=>cases h1⟩ rfl (zd0 (pv 5)) (fun C pins ex s H=>zaj (i:=0) ndLA rfl (Or.inl rfl) (Or.inr rfl))
       (fun C pins ex s H=>zb9) (fun C pins ex s H=>pe_not (zhl op_le op_lt zai (zau (by exact hu) (pv 1) (pv 0) (fun _ _=>rfl)) zai)))) zag))) (zah zgr) za4)
    (zae (zhk (zbe Zg rfl (zd0 (pv 3)) (zaj (i:=7) zhh.nd rfl (Or.inr rfl))
     (zah (zcg (pt_val (zak (call_any rfl) (by rfl) hany PyProof.Rows.boot_any (zab (zd1 (M:=["_law_other", "_law_hues", "_law_name"]) (ix:=[none,some 5,some 7]) ⟨csLwB_k,csLwB_c,csLwB_n,csLwB_f,rfl,by decide +kernel,fun j i x h1 h2=>by
       match j,h1,h2 with
       | 0,_,h2=>cases h2
       | 1,h1,h2=>cases h1;cases h2;exact ⟨rfl,csLwB_l⟩
       | 2,h1,h2=>cases h1;cases h2;exact ⟨rfl,csLwB_m⟩
       | n+3,h1,_=>cases h1⟩ rfl (zaw (zau hu (pv 3) (pv 7) (fun _ _=>rfl))) (fun C pins ex s H=>zaj (i:=0) ndLB rfl (Or.inl rfl) (Or.inr rfl))
       (fun C pins ex s H=>zb9) (fun C pins ex s H=>pe_cmpR op_eq (zau (by exact hu) (pv 1) (pv 0) (fun _ _=>rfl)) (zau (by exact hu) (pv 1) (pv 2) (fun _ _=>rfl)) (zb0 _))) zag))) (zah zgr) za4))))
    (zae (za8 (pe_bm0 PySem.F.plainAttrs_dict PySem.F.slot_dict_clear PySem.F.type_dict_clear mt_dclear (pv 5)))
    (zah (zcg (zay (zg0 hu1) (zal GS hr3 rfl mS FS.kp bS .nil zax (zab (pv 4) zag)) (zal GX hr1 rfl mX FX.kp bX .nil zax (zab (pv 3) (zab (pv 6) zag))) (zb0 _)) (zah zgr) za4))))))))))))
   (zah (zbk pe_bl)),?_⟩
  refine ⟨_,rfl,a,_,rfl,.inl hS,_,_,rfl,_,_,rfl,_,rfl,?_,?_,?_⟩
  ·split <;> split <;> lia
  ·rw [Qa];split <;> split <;> lia
  refine zck (fun i σ H'=>Aj2 (Keep [] H H') (Ex7 fun x1 x2 x3 x4 x5 x6 x7=>σ=[some (.ref a),x1,x2,x3,x4,x5,x6,x7])) ⟨Keep.refl,_,_,_,_,_,_,_,rfl⟩ ?_ ?_
  ·rintro i σ H1 hi ⟨k1,x1,x2,x3,x4,x5,x6,x7,rfl⟩
   have hi8:i≤1000:=by
    rw [Qa] at hi
    have:(if (if ((ns.length:Int)) < 5 then ((ns.length:Int)) else 5) > 2 then (if ((ns.length:Int)) < 5 then ((ns.length:Int)) else 5) else 2)≤1000:=by split <;> split <;> lia
    lia
   have ei:(0:Int)+(i:Int)=(i:Int):=by lia
   rw [ei]
   refine ⟨_,rfl,_,rfl,a,ns,i,rfl,SqL.keep k1 hS,hi8,fun p b2 m2 H2 hpfr hp2 k2=>?_⟩
   refine ⟨_,rfl,p,b2,m2,4,rfl,hp2,by decide,by decide,fun j0 b3 m3 H3 hj0 hj4 hp3 kp3=>⟨rfl,_,rfl,?_⟩⟩
   have k3:=zbj kp3
   refine (fun key=>ite_both ⟨_,rfl,p,b3,m3,rfl,hp3,key⟩ ⟨_,rfl,p,b3,m3,24,rfl,hp3,by decide,key⟩) ?_
   intro d es b4 m4 H4 R4 hG hel hok hp4 hdfr k4
   obtain ⟨cs,lab,Ct0⟩:=hG
   have hnames:(rsOf es).map (·.1)=es.map (·.1):=zff es
   have Ct:Cert (es.map (·.1)) (row (rsOf es)) cs lab:=by rw [← hnames];exact Ct0
   have hrow:∀ e∈es,row (rsOf es) e.1=e.2.1:=fun e he=>zb3 R4.nd he
   refine ⟨_,rfl,_,rfl,p,d,b4,m4,es,cs,lab,rfl,hp4,R4,by lia,hok,Ct,fun x dx d2 ts b5 m5 H5 wt5 hnp hrp hp5 k5=>?_⟩
   have R5:=R4.pot hp4 k5
   have kA:Keep [] H1 H5:=Keep.cut ((((k2.sub (by simp)).trans k3).trans k4).trans k5) hpfr
   have htl:ts.length≤100:=by
    have:=hnp.length_eq
    rw [Qa,Qa] at this
    lia
   have hF:=cert_flat Ct
   have rnT:∀ y,(row (rsOf ts) y).Nodup:=fun y=>(hrp y).nodup_iff.mpr (Ct.rn y)
   have syT:∀ a b,b∈row (rsOf ts) a→a∈row (rsOf ts) b:=fun a b h=>(hrp b).mem_iff.mpr (Ct.sy a b ((hrp a).mem_iff.mp h))
   have hinn:∀ e∈es,∀ y∈e.2.1,y∈es.map (·.1):=fun e he y hy=>Ct.inn' (x:=e.1) (by rw [hrow e he];exact hy)
   have hrl:∀ e∈es,e.2.1.length≤100:=fun e he=>by
    have:=zcd (hrow e he ▸ Ct.rn e.1) (hinn e he)
    rw [Qa] at this
    lia
   refine ⟨_,rfl,x,dx,d2,ts,_,_,cs,rfl,wt5,htl,hF,hnp,hrp,fun lh T H6 hh6 hO' hhfr k6=>?_⟩
   have hO:zbw (es.map (·.1)) (row (rsOf es)) T:=hO'.turn hnp hrp
   have ecol:(fun y=>(col (row (rsOf ts)) T y:Int))=fun y=>(col (row (rsOf es)) T y:Int):=by
    funext y
    rw [col_turn hrp]
   rw [ecol] at hh6
   have flh:H1 lh=none:=zbt kA hhfr (by simp)
   have R6:RAt H6 d es:=R5.keep k6 (by simp) (fun _ _=>by simp)
   have wt6:WAt H6 C x dx d2 ts:=wt5.keep k6 (by simp) (by simp) (fun _ _=>by simp)
   have hTl:T.length≤60:=by
    rw [hO.pm.length_eq,Qa];lia
   have hsub:∀ y∈T,y∈es.map (·.1):=hO.sub
   obtain ⟨hc5,hcne⟩:=col_right hF hO
   have hkn:((cnt T.reverse fun y=>(col (row (rsOf es)) T y:Int)).map (·.1)).Nodup:=by
    unfold cnt
    rw [Zn]
    exact Ww.mpr (((Wv T).nodup_iff.mpr hO.nd).imp fun h e=>h (Wm e))
   have hfl:∀ q∈cnt T.reverse fun y=>(col (row (rsOf es)) T y:Int),zdu q.2=true:=fun q hq=>by
    obtain ⟨e,_,rfl⟩:=Qi.mp hq
    rfl
   refine ⟨_,rfl,d,es,rfl,R6,by lia,hrl,hinn,fun lT T2 H7 hT7 hO2 hTfr k7=>?_⟩
   obtain rfl:T=T2:=hO.one hO2
   have R7:RAt H7 d es:=R6.keep k7 (by simp) (fun _ _=>by simp)
   have wt7:WAt H7 C x dx d2 ts:=wt6.keep k7 (by simp) (by simp) (fun _ _=>by simp)
   have hh7:=k7 _ _ hh6 (by simp)
   refine ⟨_,rfl,x,dx,d2,ts,rfl,wt7,htl,rnT,syT,fun lO T3 H8 hT8 hO3 _ k8=>?_⟩
   obtain rfl:T=T3:=hO'.one hO3
   refine ⟨_,rfl,lO,lT,T,rfl,rfl,SqL.of hT8,SqL.of (k8 _ _ hT7 (by simp)),_,rfl,zbh rfl ?_⟩
   have R8:RAt H8 d es:=R7.keep k8 (by simp) (fun _ _=>by simp)
   refine ⟨_,rfl,_,rfl,_,rfl,d,lT,es,T,rfl,R8,k8 _ _ hT7 (by simp),hsub,hO.nd,by lia,hrl,fun lS H9 hS9 _ k9=>?_⟩
   have k79:Keep [] H7 H9:=k8.trans k9
   have hh9:=k79 _ _ hh7 (by simp)
   have hT9:=k79 _ _ hT7 (by simp)
   have R9:RAt H9 d es:=R7.keep k79 (by simp) (fun _ _=>by simp)
   have wt9:WAt H9 C x dx d2 ts:=wt7.keep k79 (by simp) (by simp) (fun _ _=>by simp)
   refine ⟨lh,lS,_,rfl,rfl,.inl hh9,.inl hS9,hkn,hfl,_,rfl,zbh rfl ?_⟩
   have kB:Keep [] H1 H9:=(kA.trans k6).trans (k7.trans k79)
   have hkn0:=hkn
   have hfl0:=hfl
   generalize hcs:(fun y=>(col (row (rsOf es)) T y:Int))=G at hh9 hkn hfl
   have hG:∀ y,G y=(col (row (rsOf es)) T y:Int):=fun y=>by rw [← hcs]
   have nfh:∀ o' u',H lh≠some (.frz o' u'):=fun o' u' z=>by
    have:=k1 _ _ z (by simp)
    rw [flh] at this;cases this
   have hcl:(cnt T.reverse G).length=T.length:=by unfold cnt;rw [List.length_map,List.length_reverse]
   refine ⟨_,rfl,lh,_,rfl,hh9,fun o=>⟨fun n m ys τ H'=>Aj5 (m=T.length - n) (n≤T.length) (Ex1 fun x0=>τ=[x0,some (.ref lh)]) (H'=upd H9 lh (.frz o (.dK (cnt T.reverse G)))) (ys=(List.replicate n false).map V.bl),
    ⟨T.length,rfl,Zd _,⟨none,rfl⟩,rfl,rfl⟩,?_⟩⟩
   rintro n m ys τ H' ⟨rfl,hn,⟨x0,rfl⟩,rfl,rfl⟩
   have hz9:(upd H9 lh (.frz o (.dK (cnt T.reverse G)))) lh=some (.frz o (.dK (cnt T.reverse G))):=zac
   by_cases hlt:n < T.length
   ·have hlt':n < T.reverse.length:=by rw [Ux];exact hlt
    refine .inr ⟨⟨hz9,by rw [hcl];exact hlt⟩,by rw [Qa,Uk];lia,?_⟩
    rintro v H10 ⟨rfl,pr,e1,rfl⟩
    have g1:pr=((Sum.inr T.reverse[n]:Key),V.int (G T.reverse[n])):=by
     unfold cnt at e1
     rw [Qn,Qc hlt'] at e1
     exact (Qm e1).symm
    subst g1
    have hb:=hc5 _ (Wg.mp (Qr hlt'))
    have hg:=hG T.reverse[n]
    refine ⟨_,rfl,_,rfl,lh,_,rfl,.inl ⟨_,Sum.inr T.reverse[n],.inr ⟨o,hz9⟩,rfl,(ze9 (Qr hlt')).symm⟩,?_⟩
    refine ⟨_,_,rfl,rfl,_,rfl,zb8 (decide_eq_true (by show (0:Int)≤G T.reverse[n];lia)) ?_⟩
    refine ⟨_,_,rfl,rfl,_,rfl,T.length - (n+1),by exact zar1 ‹_›,rfl,hlt,⟨_,rfl⟩,rfl,?_⟩
    rw [List.replicate_succ',Qo,decide_eq_true (by lia:G T.reverse[n] < 6)]
    rfl
   ·have hie:n=T.length:=by exact zar3 ‹_› ‹_›
    subst hie
    refine .inl ⟨⟨hz9,by rw [hcl];exact Qh _⟩,fun L hL=>?_⟩
    have nhL:lh≠L:=zaa hz9 hL
    refine ⟨lh,o,_,by rw [zad nhL];exact hz9,nfh,?_⟩
    have kk:Keep [] H9 (upd (upd (upd H9 lh (.frz o (.dK (cnt T.reverse G)))) L (.lst ((List.replicate T.length false).map V.bl))) lh (.dK (cnt T.reverse G))):=fun c u ec _=>by
     by_cases hc:c=lh
     ·subst hc
      rw [zac,← hh9];exact ec
     ·rw [zad hc,zad,zad hc]
      ·exact ec
      ·rw [zad (Zl nhL)] at hL
       exact zaa ec hL
    have hL10:(upd (upd (upd H9 lh (.frz o (.dK (cnt T.reverse G)))) L (.lst ((List.replicate T.length false).map V.bl))) lh (.dK (cnt T.reverse G))) L=some (.lst ((List.replicate T.length false).map V.bl)):=by rw [zad (Zl nhL)];exact zac
    generalize upd (upd (upd H9 lh (.frz o (.dK (cnt T.reverse G)))) L (.lst ((List.replicate T.length false).map V.bl))) lh (.dK (cnt T.reverse G))=H10 at kk hL10
    have noany:∀ n,(List.replicate n false).any id=false:=fun n=>by
     induction n with
     | zero=>rfl
     | succ n ih=>rw [List.replicate_succ,Uz,ih];rfl
    refine ⟨L,_,rfl,SqL.of hL10,_,rfl,zbh (noany _) ?_⟩
    have R10:RAt H10 d es:=R9.keep kk (by simp) (fun _ _=>by simp)
    have hh10:=kk _ _ hh9 (by simp)
    have hdp:d≠p:=fun e=>by rw [e,hp3.1] at hdfr;cases hdfr
    have fd1:H1 d=none:=zbt (xs:=[p]) ((k2.sub (by simp)).trans k3) hdfr (by simpa using hdp)
    have nfd:∀ o' u',H d≠some (.frz o' u'):=fun o' u' z=>by
     have:=k1 _ _ z (by simp)
     rw [fd1] at this;cases this
    have nhd:lh≠d:=Zl (zaa R5.dc hhfr)
    refine ⟨_,rfl,d,_,rfl,R10.dc,fun o2=>zhx (fun n σ H'=>Aj3 (Ex1 fun x7=>σ=[some (.ref a),some (.int (i:Int)),some (.ref p),some (.ref d),some (.ref x),some (.ref lh),some (.ref lT),x7]) (H' d=some (.frz o2 (.dK (es.map fun e=>((Sum.inr e.1:Key),V.ref e.2.2))))) (Keep [d] H10 H'))
     ⟨⟨_,rfl⟩,zac,Keep.wr Qb⟩ (fun n σ H' _ hh=>hh.2) ?_ ?_⟩
    ·rintro n pr σ H11 hpr ⟨⟨y7,rfl⟩,hz11,k11⟩
     have hn:n < es.length:=by
      have:=(Qz.mp hpr).1
      rwa [Qa] at this
     have g1:pr=((Sum.inr es[n].1:Key),V.ref es[n].2.2):=by
      rw [Qn,Qc hn] at hpr
      exact (Qm hpr).symm
     subst g1
     have hei:es[n]∈es:=Qr hn
     have hro:=k11 _ _ (R10.ro _ hei) (by simpa using za0 (R10.ro _ hei) R10.dc (by intro z;cases z))
     have hel1:=hrl _ hei
     have hh11:=k11 _ _ hh10 (by simpa using nhd)
     have inT:∀ y∈es.map (·.1),y∈T.reverse:=fun y hy=>Wg.mpr (hO.pm.mem_iff.mpr hy)
     have gn:=DGet.k (k:=Sum.inr es[n].1) hh11
     rw [ze9 (inT _ (Qi.mpr ⟨_,hei,rfl⟩))] at gn
     refine ⟨_,rfl,_,rfl,d,.ref es[n].2.2,rfl,.inl ⟨_,Sum.inr es[n].1,.inr ⟨o2,hz11⟩,rfl,(zbx R10.nd hei).symm⟩,es[n].2.2,rfl,⟨_,SqL.of hro⟩,fun q m ys τ H'=>Aj5 (m=es[n].2.1.length - q) (q≤es[n].2.1.length) (Ex1 fun x0=>τ=[x0,some (.ref lh),some (.str es[n].1)]) (H'=H11) (ys=(List.replicate q false).map V.bl),
      ⟨es[n].2.1.length,rfl,Zd _,⟨none,rfl⟩,rfl,rfl⟩,?_⟩
     rintro q m ys τ H' ⟨rfl,hq,⟨x0',rfl⟩,rfl,rfl⟩
     by_cases hlt2:q < es[n].2.1.length
     ·refine .inr ⟨⟨_,.str es[n].2.1[q],SqL.of hro,by rw [Qn,Qc hlt2];rfl⟩,by rw [Qa,Uk];lia,?_⟩
      rintro v H12 ⟨rfl,hv⟩
      have hv':=hv _ (SqL.of hro)
      rw [Qn,Qc hlt2] at hv'
      obtain rfl:V.str es[n].2.1[q]=v:=Qm hv'
      have hqm:es[n].2.1[q]∈es[n].2.1:=Qr hlt2
      have go:=DGet.k (k:=Sum.inr es[n].2.1[q]) hh11
      rw [ze9 (inT _ (hinn _ hei _ hqm))] at go
      refine ⟨_,rfl,_,rfl,lh,_,rfl,go,_,rfl,_,rfl,lh,_,rfl,gn,rfl,es[n].2.1.length - (q+1),by exact zar1 ‹_›,rfl,hlt2,⟨_,rfl⟩,rfl,?_⟩
      have hne:=hcne es[n].1 es[n].2.1[q] (by rw [hrow _ hei];exact hqm)
      rw [List.replicate_succ',Qo,decide_eq_false (fun z=>hne (by
       have z':G es[n].2.1[q]=G es[n].1:=by injection z
       rw [hG,hG] at z'
       exact Int.ofNat.inj z'))]
      rfl
     ·have hie:q=es[n].2.1.length:=by exact zar3 ‹_› ‹_›
      subst hie
      refine .inl ⟨⟨_,SqL.of hro,by rw [Qa];exact Qh _⟩,fun L2 hL2=>?_⟩
      refine ⟨L2,_,rfl,SqL.of zac,_,rfl,zbh (noany _) ⟨⟨_,rfl⟩,?_,k11.trans (Keep.new hL2)⟩⟩
      rw [zad (zaa hz11 hL2)];exact hz11
    ·rintro σ H11 ⟨⟨y7,rfl⟩,hz11,k11⟩
     refine ⟨d,o2,_,hz11,nfd,?_⟩
     have k12:Keep [] H10 (upd H11 d (.dK (es.map fun e=>((Sum.inr e.1:Key),V.ref e.2.2)))):=fun c u ec _=>by
      by_cases hc:c=d
      ·subst hc
       rw [zac,← R10.dc];exact ec
      ·rw [zad hc]
       exact k11 c u ec (by simpa using hc)
     generalize upd H11 d (.dK (es.map fun e=>((Sum.inr e.1:Key),V.ref e.2.2)))=H12 at k12
     have k912:Keep [] H9 H12:=kk.trans k12
     have hh12:=k912 _ _ hh9 (by simp)
     refine ⟨_,rfl,.inr (.inr (.inl ⟨rfl,.inl ⟨_,hh12⟩⟩)),lh,_,rfl,rfl,hh12,?_⟩
     have kC:Keep [] H1 (upd H12 lh (.dK [])):=(kB.trans k912).fr flh
     have wt13:WAt (upd H12 lh (.dK [])) C x dx d2 ts:=(wt9.keep k912 (by simp) (by simp) (fun _ _=>by simp)).keep (xs:=[lh]) (Keep.wr Qb) (by simpa using zaa wt5.ob hhfr) (by simpa using zaa wt5.ta.dc hhfr) (fun e he=>by simpa using zaa (wt5.ta.ro e he) hhfr)
     have R13:RAt (upd H12 lh (.dK [])) d es:=(R9.keep k912 (by simp) (fun _ _=>by simp)).keep (xs:=[lh]) (Keep.wr Qb) (by simpa using Zl nhd) (fun e he=>by simpa using zaa (R5.ro e he) hhfr)
     have hT13:(upd H12 lh (.dK [])) lT=some (.lst (T.map V.str)):=by
      rw [zad (za0 hT9 hh9 (by intro z;cases z))];exact k912 _ _ hT9 (by simp)
     generalize upd H12 lh (.dK [])=H13 at kC wt13 R13 hT13
     refine ⟨_,rfl,x,dx,d2,ts,_,_,cs,rfl,wt13,htl,hF,hnp,hrp,fun lh2 T4 H14 hh14 hO4 _ k14=>?_⟩
     obtain rfl:T=T4:=hO'.one hO4
     rw [ecol] at hh14
     have R14:RAt H14 d es:=R13.keep k14 (by simp) (fun _ _=>by simp)
     refine ⟨_,rfl,_,rfl,d,lT,es,T,rfl,R14,k14 _ _ hT13 (by simp),hsub,hO.nd,by lia,hrl,fun lS2 H15 hS15 _ k15=>?_⟩
     exact ⟨lh2,lS2,_,rfl,rfl,.inl (k15 _ _ hh14 (by simp)),.inl hS15,hkn0,hfl0,_,rfl,zbh rfl ⟨((k1.trans kC).trans k14).trans k15,_,_,_,_,_,_,_,rfl⟩⟩
  ·rintro σ H1 ⟨k1,x1,x2,x3,x4,x5,x6,x7,rfl⟩
   exact k H1
end
end K21
end
section
namespace L2
open PySem
section
variable {K:PySem.W.Frag} {x qual p1 p2 p3 p4:Str} {st:Stmt} {f:Addr} {fd:FuncData} (F:Fun K x qual st f fd)
include F
theorem Fun.b1 (h:∀ (kV doc pm:Value) (an:Option Addr) (cdv ct a1:Value),bindArgs (PySem.W.fnOf x qual (zap st) (zao st) (zaf st) .none kV doc pm an cdv ct) ⟨[a1],[]⟩=pure [(p1,a1)]):Binds K fd [p1] [] :=
 F.binds fun kV doc pm an cdv ct us hl=>by
  obtain _ | ⟨a1,_ | ⟨z,t⟩⟩:=us
  ·cases hl
  ·exact h kV doc pm an cdv ct a1
  ·cases hl
theorem Fun.b2 (h:∀ (kV doc pm:Value) (an:Option Addr) (cdv ct a1 a2:Value),bindArgs (PySem.W.fnOf x qual (zap st) (zao st) (zaf st) .none kV doc pm an cdv ct) ⟨[a1,a2],[]⟩=pure [(p1,a1),(p2,a2)]):Binds K fd [p1,p2] [] :=
 F.binds fun kV doc pm an cdv ct us hl=>by
  obtain _ | ⟨a1,_ | ⟨a2,_ | ⟨z,t⟩⟩⟩:=us
  ·cases hl
  ·cases hl
  ·exact h kV doc pm an cdv ct a1 a2
  ·cases hl
theorem Fun.b3 (h:∀ (kV doc pm:Value) (an:Option Addr) (cdv ct a1 a2 a3:Value),bindArgs (PySem.W.fnOf x qual (zap st) (zao st) (zaf st) .none kV doc pm an cdv ct) ⟨[a1,a2,a3],[]⟩=pure [(p1,a1),(p2,a2),(p3,a3)]):Binds K fd [p1,p2,p3] [] :=
 F.binds fun kV doc pm an cdv ct us hl=>by
  obtain _ | ⟨a1,_ | ⟨a2,_ | ⟨a3,_ | ⟨z,t⟩⟩⟩⟩:=us
  ·cases hl
  ·cases hl
  ·cases hl
  ·exact h kV doc pm an cdv ct a1 a2 a3
  ·cases hl
theorem Fun.b4 (h:∀ (kV doc pm:Value) (an:Option Addr) (cdv ct a1 a2 a3 a4:Value),bindArgs (PySem.W.fnOf x qual (zap st) (zao st) (zaf st) .none kV doc pm an cdv ct) ⟨[a1,a2,a3,a4],[]⟩=pure [(p1,a1),(p2,a2),(p3,a3),(p4,a4)]):Binds K fd [p1,p2,p3,p4] [] :=
 F.binds fun kV doc pm an cdv ct us hl=>by
  obtain _ | ⟨a1,_ | ⟨a2,_ | ⟨a3,_ | ⟨a4,_ | ⟨z,t⟩⟩⟩⟩⟩:=us
  ·cases hl
  ·cases hl
  ·cases hl
  ·cases hl
  ·exact h kV doc pm an cdv ct a1 a2 a3 a4
  ·cases hl
end
end L2
namespace K21
open PySem L2 Wb PyProof.Rows
theorem all_mk {l:PySem.W.OpenLaw} {w:World} {K:PySem.W.Frag} {h:Heap} {mg:Str→Option Value} {fa C fL f0 f1 f2 f3 f4 f5 f6 f7 f8 f9 f10 f11 f12 f13 f14 f15 f16 f17 f18 f19 f20 f21 f22 f23 f24 f25 g0 g1 g2:Addr} (X:K.In h) (G:h.Ns mainGlobals mg) (hfa:mg "law" = some (.ref fa))
  {odf0 anf0:Option Addr} {slf0:Array (Option Value)} {ocf0 kVf0 dcf0 pmf0 cdf0 ctf0:Value}
  (af0:PySem.W.nsIn K mainGlobals "free_hue" = some (some (.ref f0))) (lf0:K.lookup f0=some ⟨ocf0,odf0,.func (PySem.W.fnOf "free_hue" "free_hue" (zap zgq) (zao zgq) (zaf zgq) .none kVf0 dcf0 pmf0 anf0 cdf0 ctf0),slf0⟩) (cf0:PySem.W.codeIn K cdf0 "free_hue" = true) (kf0:PySem.W.keepIn K (.ref f0)=true)
  {odf1 anf1:Option Addr} {slf1:Array (Option Value)} {ocf1 kVf1 dcf1 pmf1 cdf1 ctf1:Value}
  (af1:PySem.W.nsIn K mainGlobals "order" = some (some (.ref f1))) (lf1:K.lookup f1=some ⟨ocf1,odf1,.func (PySem.W.fnOf "order" "order" (zap zcn) (zao zcn) (zaf zcn) .none kVf1 dcf1 pmf1 anf1 cdf1 ctf1),slf1⟩) (cf1:PySem.W.codeIn K cdf1 "order" = true) (kf1:PySem.W.keepIn K (.ref f1)=true)
  {odf2 anf2:Option Addr} {slf2:Array (Option Value)} {ocf2 kVf2 dcf2 pmf2 cdf2 ctf2:Value}
  (af2:PySem.W.nsIn K mainGlobals "six_hues" = some (some (.ref f2))) (lf2:K.lookup f2=some ⟨ocf2,odf2,.func (PySem.W.fnOf "six_hues" "six_hues" (zap sSix) (zao sSix) (zaf sSix) .none kVf2 dcf2 pmf2 anf2 cdf2 ctf2),slf2⟩) (cf2:PySem.W.codeIn K cdf2 "six_hues" = true) (kf2:PySem.W.keepIn K (.ref f2)=true)
  {odf3 anf3:Option Addr} {slf3:Array (Option Value)} {ocf3 kVf3 dcf3 pmf3 cdf3 ctf3:Value}
  (af3:PySem.W.nsIn K mainGlobals "steps_behind" = some (some (.ref f3))) (lf3:K.lookup f3=some ⟨ocf3,odf3,.func (PySem.W.fnOf "steps_behind" "steps_behind" (zap zft) (zao zft) (zaf zft) .none kVf3 dcf3 pmf3 anf3 cdf3 ctf3),slf3⟩) (cf3:PySem.W.codeIn K cdf3 "steps_behind" = true) (kf3:PySem.W.keepIn K (.ref f3)=true)
  {odf4 anf4:Option Addr} {slf4:Array (Option Value)} {ocf4 kVf4 dcf4 pmf4 cdf4 ctf4:Value}
  (af4:PySem.W.nsIn K mainGlobals "faces_of" = some (some (.ref f4))) (lf4:K.lookup f4=some ⟨ocf4,odf4,.func (PySem.W.fnOf "faces_of" "faces_of" (zap zdd) (zao zdd) (zaf zdd) .none kVf4 dcf4 pmf4 anf4 cdf4 ctf4),slf4⟩) (cf4:PySem.W.codeIn K cdf4 "faces_of" = true) (kf4:PySem.W.keepIn K (.ref f4)=true)
  {odf5 anf5:Option Addr} {slf5:Array (Option Value)} {ocf5 kVf5 dcf5 pmf5 cdf5 ctf5:Value}
  (af5:PySem.W.nsIn K mainGlobals "piece_from" = some (some (.ref f5))) (lf5:K.lookup f5=some ⟨ocf5,odf5,.func (PySem.W.fnOf "piece_from" "piece_from" (zap zfu) (zao zfu) (zaf zfu) .none kVf5 dcf5 pmf5 anf5 cdf5 ctf5),slf5⟩) (cf5:PySem.W.codeIn K cdf5 "piece_from" = true) (kf5:PySem.W.keepIn K (.ref f5)=true)
  {odf6 anf6:Option Addr} {slf6:Array (Option Value)} {ocf6 kVf6 dcf6 pmf6 cdf6 ctf6:Value}
  (af6:PySem.W.nsIn K mainGlobals "pieces_of" = some (some (.ref f6))) (lf6:K.lookup f6=some ⟨ocf6,odf6,.func (PySem.W.fnOf "pieces_of" "pieces_of" (zap zdx) (zao zdx) (zaf zdx) .none kVf6 dcf6 pmf6 anf6 cdf6 ctf6),slf6⟩) (cf6:PySem.W.codeIn K cdf6 "pieces_of" = true) (kf6:PySem.W.keepIn K (.ref f6)=true)
  {odf7 anf7:Option Addr} {slf7:Array (Option Value)} {ocf7 kVf7 dcf7 pmf7 cdf7 ctf7:Value}
  (af7:PySem.W.nsIn K mainGlobals "is_name" = some (some (.ref f7))) (lf7:K.lookup f7=some ⟨ocf7,odf7,.func (PySem.W.fnOf "is_name" "is_name" (zap zcs) (zao zcs) (zaf zcs) .none kVf7 dcf7 pmf7 anf7 cdf7 ctf7),slf7⟩) (cf7:PySem.W.codeIn K cdf7 "is_name" = true) (kf7:PySem.W.keepIn K (.ref f7)=true)
  {odf8 anf8:Option Addr} {slf8:Array (Option Value)} {ocf8 kVf8 dcf8 pmf8 cdf8 ctf8:Value}
  (af8:PySem.W.nsIn K mainGlobals "refuse_no_names" = some (some (.ref f8))) (lf8:K.lookup f8=some ⟨ocf8,odf8,.func (PySem.W.fnOf "refuse_no_names" "refuse_no_names" (zap zcz) (zao zcz) (zaf zcz) .none kVf8 dcf8 pmf8 anf8 cdf8 ctf8),slf8⟩) (cf8:PySem.W.codeIn K cdf8 "refuse_no_names" = true) (kf8:PySem.W.keepIn K (.ref f8)=true)
  {odf9 anf9:Option Addr} {slf9:Array (Option Value)} {ocf9 kVf9 dcf9 pmf9 cdf9 ctf9:Value}
  (af9:PySem.W.nsIn K mainGlobals "refuse_twice" = some (some (.ref f9))) (lf9:K.lookup f9=some ⟨ocf9,odf9,.func (PySem.W.fnOf "refuse_twice" "refuse_twice" (zap zcv) (zao zcv) (zaf zcv) .none kVf9 dcf9 pmf9 anf9 cdf9 ctf9),slf9⟩) (cf9:PySem.W.codeIn K cdf9 "refuse_twice" = true) (kf9:PySem.W.keepIn K (.ref f9)=true)
  {odf10 anf10:Option Addr} {slf10:Array (Option Value)} {ocf10 kVf10 dcf10 pmf10 cdf10 ctf10:Value}
  (af10:PySem.W.nsIn K mainGlobals "refuse_one_way" = some (some (.ref f10))) (lf10:K.lookup f10=some ⟨ocf10,odf10,.func (PySem.W.fnOf "refuse_one_way" "refuse_one_way" (zap zdy) (zao zdy) (zaf zdy) .none kVf10 dcf10 pmf10 anf10 cdf10 ctf10),slf10⟩) (cf10:PySem.W.codeIn K cdf10 "refuse_one_way" = true) (kf10:PySem.W.keepIn K (.ref f10)=true)
  {odf11 anf11:Option Addr} {slf11:Array (Option Value)} {ocf11 kVf11 dcf11 pmf11 cdf11 ctf11:Value}
  (af11:PySem.W.nsIn K mainGlobals "refuse_not_flat" = some (some (.ref f11))) (lf11:K.lookup f11=some ⟨ocf11,odf11,.func (PySem.W.fnOf "refuse_not_flat" "refuse_not_flat" (zap zex) (zao zex) (zaf zex) .none kVf11 dcf11 pmf11 anf11 cdf11 ctf11),slf11⟩) (cf11:PySem.W.codeIn K cdf11 "refuse_not_flat" = true) (kf11:PySem.W.keepIn K (.ref f11)=true)
  {odf12 anf12:Option Addr} {slf12:Array (Option Value)} {ocf12 kVf12 dcf12 pmf12 cdf12 ctf12:Value}
  (af12:PySem.W.nsIn K mainGlobals "from_least" = some (some (.ref f12))) (lf12:K.lookup f12=some ⟨ocf12,odf12,.func (PySem.W.fnOf "from_least" "from_least" (zap zfv) (zao zfv) (zaf zfv) .none kVf12 dcf12 pmf12 anf12 cdf12 ctf12),slf12⟩) (cf12:PySem.W.codeIn K cdf12 "from_least" = true) (kf12:PySem.W.keepIn K (.ref f12)=true)
  {odf13 anf13:Option Addr} {slf13:Array (Option Value)} {ocf13 kVf13 dcf13 pmf13 cdf13 ctf13:Value}
  (af13:PySem.W.nsIn K mainGlobals "_law_pot" = some (some (.ref f13))) (lf13:K.lookup f13=some ⟨ocf13,odf13,.func (PySem.W.fnOf "_law_pot" "_law_pot" (zap sPot) (zao sPot) (zaf sPot) .none kVf13 dcf13 pmf13 anf13 cdf13 ctf13),slf13⟩) (cf13:PySem.W.codeIn K cdf13 "_law_pot" = true) (kf13:PySem.W.keepIn K (.ref f13)=true)
  {odf14 anf14:Option Addr} {slf14:Array (Option Value)} {ocf14 kVf14 dcf14 pmf14 cdf14 ctf14:Value}
  (af14:PySem.W.nsIn K mainGlobals "_law_take" = some (some (.ref f14))) (lf14:K.lookup f14=some ⟨ocf14,odf14,.func (PySem.W.fnOf "_law_take" "_law_take" (zap zeu) (zao zeu) (zaf zeu) .none kVf14 dcf14 pmf14 anf14 cdf14 ctf14),slf14⟩) (cf14:PySem.W.codeIn K cdf14 "_law_take" = true) (kf14:PySem.W.keepIn K (.ref f14)=true)
  {odf15 anf15:Option Addr} {slf15:Array (Option Value)} {ocf15 kVf15 dcf15 pmf15 cdf15 ctf15:Value}
  (af15:PySem.W.nsIn K mainGlobals "_law_names" = some (some (.ref f15))) (lf15:K.lookup f15=some ⟨ocf15,odf15,.func (PySem.W.fnOf "_law_names" "_law_names" (zap zdc) (zao zdc) (zaf zdc) .none kVf15 dcf15 pmf15 anf15 cdf15 ctf15),slf15⟩) (cf15:PySem.W.codeIn K cdf15 "_law_names" = true) (kf15:PySem.W.keepIn K (.ref f15)=true)
  {odf16 anf16:Option Addr} {slf16:Array (Option Value)} {ocf16 kVf16 dcf16 pmf16 cdf16 ctf16:Value}
  (af16:PySem.W.nsIn K mainGlobals "_law_behind" = some (some (.ref f16))) (lf16:K.lookup f16=some ⟨ocf16,odf16,.func (PySem.W.fnOf "_law_behind" "_law_behind" (zap zde) (zao zde) (zaf zde) .none kVf16 dcf16 pmf16 anf16 cdf16 ctf16),slf16⟩) (cf16:PySem.W.codeIn K cdf16 "_law_behind" = true) (kf16:PySem.W.keepIn K (.ref f16)=true)
  {odf17 anf17:Option Addr} {slf17:Array (Option Value)} {ocf17 kVf17 dcf17 pmf17 cdf17 ctf17:Value}
  (af17:PySem.W.nsIn K mainGlobals "_law_put" = some (some (.ref f17))) (lf17:K.lookup f17=some ⟨ocf17,odf17,.func (PySem.W.fnOf "_law_put" "_law_put" (zap sPut) (zao sPut) (zaf sPut) .none kVf17 dcf17 pmf17 anf17 cdf17 ctf17),slf17⟩) (cf17:PySem.W.codeIn K cdf17 "_law_put" = true) (kf17:PySem.W.keepIn K (.ref f17)=true)
  {odf18 anf18:Option Addr} {slf18:Array (Option Value)} {ocf18 kVf18 dcf18 pmf18 cdf18 ctf18:Value}
  (af18:PySem.W.nsIn K mainGlobals "_law_face" = some (some (.ref f18))) (lf18:K.lookup f18=some ⟨ocf18,odf18,.func (PySem.W.fnOf "_law_face" "_law_face" (zap sFace) (zao sFace) (zaf sFace) .none kVf18 dcf18 pmf18 anf18 cdf18 ctf18),slf18⟩) (cf18:PySem.W.codeIn K cdf18 "_law_face" = true) (kf18:PySem.W.keepIn K (.ref f18)=true)
  {odf19 anf19:Option Addr} {slf19:Array (Option Value)} {ocf19 kVf19 dcf19 pmf19 cdf19 ctf19:Value}
  (af19:PySem.W.nsIn K mainGlobals "_law_tie" = some (some (.ref f19))) (lf19:K.lookup f19=some ⟨ocf19,odf19,.func (PySem.W.fnOf "_law_tie" "_law_tie" (zap sTie) (zao sTie) (zaf sTie) .none kVf19 dcf19 pmf19 anf19 cdf19 ctf19),slf19⟩) (cf19:PySem.W.codeIn K cdf19 "_law_tie" = true) (kf19:PySem.W.keepIn K (.ref f19)=true)
  {odf20 anf20:Option Addr} {slf20:Array (Option Value)} {ocf20 kVf20 dcf20 pmf20 cdf20 ctf20:Value}
  (af20:PySem.W.nsIn K mainGlobals "_law_more" = some (some (.ref f20))) (lf20:K.lookup f20=some ⟨ocf20,odf20,.func (PySem.W.fnOf "_law_more" "_law_more" (zap sMore) (zao sMore) (zaf sMore) .none kVf20 dcf20 pmf20 anf20 cdf20 ctf20),slf20⟩) (cf20:PySem.W.codeIn K cdf20 "_law_more" = true) (kf20:PySem.W.keepIn K (.ref f20)=true)
  {odf21 anf21:Option Addr} {slf21:Array (Option Value)} {ocf21 kVf21 dcf21 pmf21 cdf21 ctf21:Value}
  (af21:PySem.W.nsIn K mainGlobals "_law_rounds" = some (some (.ref f21))) (lf21:K.lookup f21=some ⟨ocf21,odf21,.func (PySem.W.fnOf "_law_rounds" "_law_rounds" (zap zdw) (zao zdw) (zaf zdw) .none kVf21 dcf21 pmf21 anf21 cdf21 ctf21),slf21⟩) (cf21:PySem.W.codeIn K cdf21 "_law_rounds" = true) (kf21:PySem.W.keepIn K (.ref f21)=true)
  {odf22 anf22:Option Addr} {slf22:Array (Option Value)} {ocf22 kVf22 dcf22 pmf22 cdf22 ctf22:Value}
  (af22:PySem.W.nsIn K mainGlobals "_law_web" = some (some (.ref f22))) (lf22:K.lookup f22=some ⟨ocf22,odf22,.func (PySem.W.fnOf "_law_web" "_law_web" (zap sLWeb) (zao sLWeb) (zaf sLWeb) .none kVf22 dcf22 pmf22 anf22 cdf22 ctf22),slf22⟩) (cf22:PySem.W.codeIn K cdf22 "_law_web" = true) (kf22:PySem.W.keepIn K (.ref f22)=true)
  {odf23 anf23:Option Addr} {slf23:Array (Option Value)} {ocf23 kVf23 dcf23 pmf23 cdf23 ctf23:Value}
  (af23:PySem.W.nsIn K mainGlobals "_law_twelve" = some (some (.ref f23))) (lf23:K.lookup f23=some ⟨ocf23,odf23,.func (PySem.W.fnOf "_law_twelve" "_law_twelve" (zap zbf) (zao zbf) (zaf zbf) .none kVf23 dcf23 pmf23 anf23 cdf23 ctf23),slf23⟩) (cf23:PySem.W.codeIn K cdf23 "_law_twelve" = true) (kf23:PySem.W.keepIn K (.ref f23)=true)
  {odf24 anf24:Option Addr} {slf24:Array (Option Value)} {ocf24 kVf24 dcf24 pmf24 cdf24 ctf24:Value}
  (af24:PySem.W.nsIn K mainGlobals "_law_taken_off" = some (some (.ref f24))) (lf24:K.lookup f24=some ⟨ocf24,odf24,.func (PySem.W.fnOf "_law_taken_off" "_law_taken_off" (zap sOff) (zao sOff) (zaf sOff) .none kVf24 dcf24 pmf24 anf24 cdf24 ctf24),slf24⟩) (cf24:PySem.W.codeIn K cdf24 "_law_taken_off" = true) (kf24:PySem.W.keepIn K (.ref f24)=true)
  {odf25 anf25:Option Addr} {slf25:Array (Option Value)} {ocf25 kVf25 dcf25 pmf25 cdf25 ctf25:Value}
  (af25:PySem.W.nsIn K mainGlobals "_law_six" = some (some (.ref f25))) (lf25:K.lookup f25=some ⟨ocf25,odf25,.func (PySem.W.fnOf "_law_six" "_law_six" (zap zew) (zao zew) (zaf zew) .none kVf25 dcf25 pmf25 anf25 cdf25 ctf25),slf25⟩) (cf25:PySem.W.codeIn K cdf25 "_law_six" = true) (kf25:PySem.W.keepIn K (.ref f25)=true)
  {odg0 ang0:Option Addr} {slg0:Array (Option Value)} {ocg0 kVg0 dcg0 pmg0 cdg0 ctg0:Value}
  (ag0:PySem.W.findIn K (.ref C) "__init__" = some (some (.ref g0))) (ig0:PySem.W.isFn K (.ref g0)=true) (lg0:K.lookup g0=some ⟨ocg0,odg0,.func (PySem.W.fnOf "__init__" "Web.__init__" (zap zhi) (zao zhi) (zaf zhi) .none kVg0 dcg0 pmg0 ang0 cdg0 ctg0),slg0⟩) (cg0:PySem.W.codeIn K cdg0 "Web.__init__" = true) (kg0:PySem.W.keepIn K (.ref g0)=true)
  {odg1 ang1:Option Addr} {slg1:Array (Option Value)} {ocg1 kVg1 dcg1 pmg1 cdg1 ctg1:Value}
  (ag1:PySem.W.findIn K (.ref C) "places" = some (some (.ref g1))) (ig1:PySem.W.isFn K (.ref g1)=true) (lg1:K.lookup g1=some ⟨ocg1,odg1,.func (PySem.W.fnOf "places" "Web.places" (zap zev) (zao zev) (zaf zev) .none kVg1 dcg1 pmg1 ang1 cdg1 ctg1),slg1⟩) (cg1:PySem.W.codeIn K cdg1 "Web.places" = true) (kg1:PySem.W.keepIn K (.ref g1)=true)
  {odg2 ang2:Option Addr} {slg2:Array (Option Value)} {ocg2 kVg2 dcg2 pmg2 cdg2 ctg2:Value}
  (ag2:PySem.W.findIn K (.ref C) "round_of" = some (some (.ref g2))) (ig2:PySem.W.isFn K (.ref g2)=true) (lg2:K.lookup g2=some ⟨ocg2,odg2,.func (PySem.W.fnOf "round_of" "Web.round_of" (zap zdr) (zao zdr) (zaf zdr) .none kVg2 dcg2 pmg2 ang2 cdg2 ctg2),slg2⟩) (cg2:PySem.W.codeIn K cdg2 "Web.round_of" = true) (kg2:PySem.W.keepIn K (.ref g2)=true)
  {odfL anfL:Option Addr} {slfL:Array (Option Value)} {ocfL kVfL dcfL pmfL cdfL ctfL:Value}
  (afL:PySem.W.nsIn K mainGlobals "law" = some (some (.ref fL))) (lfL:K.lookup fL=some ⟨ocfL,odfL,.func (PySem.W.fnOf "law" "law" (zap sLaw) (zao sLaw) (zaf sLaw) .none kVfL dcfL pmfL anfL cdfL ctfL),slfL⟩) (cfL:PySem.W.codeIn K cdfL "law" = true) (kfL:PySem.W.keepIn K (.ref fL)=true)
  (aC:PySem.W.nsIn K mainGlobals "Web" = some (some (.ref C))) {tkM:Tok} (aM:PySem.W.nsIn K mainGlobals "MOST_LETTERS" = some (some (.int 8 tkM))) {tkS:Tok} (aS:PySem.W.nsIn K mainGlobals "SIX" = some (some (.int 6 tkS)))
  (pg:PySem.W.plainGet K C Str.empty=true) (hdd:PySem.W.hasDictIn K C=true) (po:PySem.W.plainOver K C=true) (sa:PySem.W.findIn K (.ref C) "__setattr__" = some (some (.builtin "object.__setattr__"))) (mk:PySem.W.makesIn K C=true) (kc:PySem.W.keepIn K (.ref C)=true) (nR:PySem.W.findIn K (.ref C) "rounds" = some none)
  (z_len:PySem.W.nsIn K mainGlobals "len" = some none)
  (z_max:PySem.W.nsIn K mainGlobals "max" = some none)
  (z_abs:PySem.W.nsIn K mainGlobals "abs" = some none)
  (z_divmod:PySem.W.nsIn K mainGlobals "divmod" = some none)
  (z_sorted:PySem.W.nsIn K mainGlobals "sorted" = some none)
  (z_range:PySem.W.nsIn K mainGlobals "range" = some none)
  (z_min:PySem.W.nsIn K mainGlobals "min" = some none)
  (z_tuple:PySem.W.nsIn K mainGlobals "tuple" = some none)
  (z_list:PySem.W.nsIn K mainGlobals "list" = some none)
  (z_dict:PySem.W.nsIn K mainGlobals "dict" = some none)
  (z_set:PySem.W.nsIn K mainGlobals "set" = some none)
  (z_isinstance:PySem.W.nsIn K mainGlobals "isinstance" = some none)
  (z_str:PySem.W.nsIn K mainGlobals "str" = some none)
  (z_all:PySem.W.nsIn K mainGlobals "all" = some none)
  (z_sum:PySem.W.nsIn K mainGlobals "sum" = some none)
  (z_enumerate:PySem.W.nsIn K mainGlobals "enumerate" = some none)
  (z_any:PySem.W.nsIn K mainGlobals "any" = some none) :
  ∃ fd:FuncData,(∀ (s:Shared) (v:Value),BindsTo s fd ⟨[v],[]⟩ [("_law_script",v)])∧∀ base:Heap,K.In base→base.Ns mainGlobals mg→FnOk l.prog w K mg base CX0 7 fa fd ["_law_script"] (spLaw K):=by
 have e:=hfa.symm.trans (Zp X G afL)
 cases e
 have F0:=za6 (st:=zgq) lf0 cf0 kf0
 have b0:=F0.b4 (p1 := "web") (p2 := "hues") (p3 := "place") (p4 := "many") fun _ _ _ _ _ _ _ _ _ _=>rfl
 have m0:=Zp X G af0
 have F1:=za6 (st:=zcn) lf1 cf1 kf1
 have b1:=F1.b1 (p1 := "web") fun _ _ _ _ _ _ _=>rfl
 have m1:=Zp X G af1
 have F2:=za6 (st:=sSix) lf2 cf2 kf2
 have b2:=F2.b1 (p1 := "web") fun _ _ _ _ _ _ _=>rfl
 have m2:=Zp X G af2
 have F3:=za6 (st:=zft) lf3 cf3 kf3
 have b3:=F3.b1 (p1 := "rounds") fun _ _ _ _ _ _ _=>rfl
 have m3:=Zp X G af3
 have F4:=za6 (st:=zdd) lf4 cf4 kf4
 have b4:=F4.b1 (p1 := "rounds") fun _ _ _ _ _ _ _=>rfl
 have m4:=Zp X G af4
 have F5:=za6 (st:=zfu) lf5 cf5 kf5
 have b5:=F5.b2 (p1 := "rounds") (p2 := "start") fun _ _ _ _ _ _ _ _=>rfl
 have m5:=Zp X G af5
 have F6:=za6 (st:=zdx) lf6 cf6 kf6
 have b6:=F6.b1 (p1 := "rounds") fun _ _ _ _ _ _ _=>rfl
 have m6:=Zp X G af6
 have F7:=za6 (st:=zcs) lf7 cf7 kf7
 have b7:=F7.b1 (p1 := "thing") fun _ _ _ _ _ _ _=>rfl
 have m7:=Zp X G af7
 have F8:=za6 (st:=zcz) lf8 cf8 kf8
 have b8:=F8.b1 (p1 := "rows") fun _ _ _ _ _ _ _=>rfl
 have m8:=Zp X G af8
 have F9:=za6 (st:=zcv) lf9 cf9 kf9
 have b9:=F9.b1 (p1 := "rows") fun _ _ _ _ _ _ _=>rfl
 have m9:=Zp X G af9
 have F10:=za6 (st:=zdy) lf10 cf10 kf10
 have b10:=F10.b1 (p1 := "rows") fun _ _ _ _ _ _ _=>rfl
 have m10:=Zp X G af10
 have F11:=za6 (st:=zex) lf11 cf11 kf11
 have b11:=F11.b1 (p1 := "rounds") fun _ _ _ _ _ _ _=>rfl
 have m11:=Zp X G af11
 have F12:=za6 (st:=zfv) lf12 cf12 kf12
 have b12:=F12.b1 (p1 := "around") fun _ _ _ _ _ _ _=>rfl
 have m12:=Zp X G af12
 have F13:=za6 (st:=sPot) lf13 cf13 kf13
 have b13:=F13.b2 (p1 := "_law_script") (p2 := "_law_k") fun _ _ _ _ _ _ _ _=>rfl
 have m13:=Zp X G af13
 have F14:=za6 (st:=zeu) lf14 cf14 kf14
 have b14:=F14.b2 (p1 := "_law_pot_here") (p2 := "_law_many") fun _ _ _ _ _ _ _ _=>rfl
 have m14:=Zp X G af14
 have F15:=za6 (st:=zdc) lf15 cf15 kf15
 have b15:=F15.b2 (p1 := "_law_pot_here") (p2 := "_law_many") fun _ _ _ _ _ _ _ _=>rfl
 have m15:=Zp X G af15
 have F16:=za6 (st:=zde) lf16 cf16 kf16
 have b16:=F16.b2 (p1 := "_law_row") (p2 := "_law_name") fun _ _ _ _ _ _ _ _=>rfl
 have m16:=Zp X G af16
 have F17:=za6 (st:=sPut) lf17 cf17 kf17
 have b17:=F17.b4 (p1 := "_law_rounds_here") (p2 := "_law_one") (p3 := "_law_corner") (p4 := "_law_other") fun _ _ _ _ _ _ _ _ _ _=>rfl
 have m17:=Zp X G af17
 have F18:=za6 (st:=sFace) lf18 cf18 kf18
 have b18:=F18.b3 (p1 := "_law_rounds_here") (p2 := "_law_corner") (p3 := "_law_one") fun _ _ _ _ _ _ _ _ _=>rfl
 have m18:=Zp X G af18
 have F19:=za6 (st:=sTie) lf19 cf19 kf19
 have b19:=F19.b2 (p1 := "_law_pot_here") (p2 := "_law_rounds_here") fun _ _ _ _ _ _ _ _=>rfl
 have m19:=Zp X G af19
 have F20:=za6 (st:=sMore) lf20 cf20 kf20
 have b20:=F20.b3 (p1 := "_law_pot_here") (p2 := "_law_rounds_here") (p3 := "_law_name") fun _ _ _ _ _ _ _ _ _=>rfl
 have m20:=Zp X G af20
 have F21:=za6 (st:=zdw) lf21 cf21 kf21
 have b21:=F21.b2 (p1 := "_law_pot_here") (p2 := "_law_most") fun _ _ _ _ _ _ _ _=>rfl
 have m21:=Zp X G af21
 have F22:=za6 (st:=sLWeb) lf22 cf22 kf22
 have b22:=F22.b2 (p1 := "_law_pot_here") (p2 := "_law_rounds_here") fun _ _ _ _ _ _ _ _=>rfl
 have m22:=Zp X G af22
 have F23:=za6 (st:=zbf) lf23 cf23 kf23
 have b23:=F23.b1 (p1 := "_law_pot_here") fun _ _ _ _ _ _ _=>rfl
 have m23:=Zp X G af23
 have F24:=za6 (st:=sOff) lf24 cf24 kf24
 have b24:=F24.b1 (p1 := "_law_rounds_here") fun _ _ _ _ _ _ _=>rfl
 have m24:=Zp X G af24
 have F25:=za6 (st:=zew) lf25 cf25 kf25
 have b25:=F25.b2 (p1 := "_law_rounds_here") (p2 := "_law_told") fun _ _ _ _ _ _ _ _=>rfl
 have m25:=Zp X G af25
 have FG0:=za6 (st:=zhi) lg0 cg0 kg0
 have bG0:=FG0.b2 (p1 := "self") (p2 := "rows") fun _ _ _ _ _ _ _ _=>rfl
 have FG1:=za6 (st:=zev) lg1 cg1 kg1
 have bG1:=FG1.b1 (p1 := "self") fun _ _ _ _ _ _ _=>rfl
 have FG2:=za6 (st:=zdr) lg2 cg2 kg2
 have bG2:=FG2.b2 (p1 := "self") (p2 := "place") fun _ _ _ _ _ _ _ _=>rfl
 have FL:=za6 (st:=sLaw) lfL cfL kfL
 have cW:Cls K C:=⟨pg,hdd,po,sa⟩
 have mC:=Zp X G aC
 have mM:=Zp X G aM
 have mSX:=Zp X G aS
 have y_len:=Zw X G z_len
 have y_max:=Zw X G z_max
 have y_abs:=Zw X G z_abs
 have y_divmod:=Zw X G z_divmod
 have y_sorted:=Zw X G z_sorted
 have y_range:=Zw X G z_range
 have y_min:=Zw X G z_min
 have y_tuple:=Zw X G z_tuple
 have y_list:=Zw X G z_list
 have y_dict:=Zw X G z_dict
 have y_set:=Zw X G z_set
 have y_isinstance:=Zw X G z_isinstance
 have y_str:=Zw X G z_str
 have y_all:=Zw X G z_all
 have y_sum:=Zw X G z_sum
 have y_enumerate:=Zw X G z_enumerate
 have y_any:=Zw X G z_any
 refine ⟨PySem.W.fnOf "law" "law" (zap sLaw) (zao sLaw) (zaf sLaw) .none kVfL dcfL pmfL anfL cdfL ctfL,fun s v=>.of_eq rfl,fun base _ _=>?_⟩
 have gg:=gen_good (α:=Str)
 have GTake:=zhn (P:=l.prog) (w:=w) (base:=base) F14 y_divmod
 have GPot:=ok_pot (P:=l.prog) (w:=w) (base:=base) F13 y_len y_max y_abs
 have GNames:=ok_names (P:=l.prog) (w:=w) (base:=base) F15 F14 b14 m14 y_range y_divmod
 have GTie:=ok_tie (P:=l.prog) (w:=w) (base:=base) gg F19 F14 b14 m14 F16 b16 m16 F18 b18 m18 F17 b17 m17 y_len y_sorted y_divmod
 have GMore:=ok_more (P:=l.prog) (w:=w) (base:=base) gg F20 F14 b14 m14 F17 b17 m17 y_len y_sorted y_divmod
 have GRounds:=ok_rounds (P:=l.prog) (w:=w) (base:=base) gg F21 F14 b14 m14 F15 b15 m15 F20 b20 m20 F19 b19 m19 GTake GNames GMore GTie y_range
 have GPlaces:=ok_places (P:=l.prog) (w:=w) (base:=base) FG1 cW nR y_list
 have GRoundOf:=ok_roundof (P:=l.prog) (w:=w) (base:=base) FG2 cW nR y_list
 have GOrder:=ok_order (P:=l.prog) (w:=w) (base:=base) F1 cW ⟨ag1,ig1,kg1⟩ bG1 GPlaces ⟨ag2,ig2,kg2⟩ bG2 GRoundOf y_len y_min
 have GFree:=ok_free (P:=l.prog) (w:=w) (base:=base) F0 cW ⟨ag2,ig2,kg2⟩ bG2 GRoundOf y_range
 have GSix:=ok_six (P:=l.prog) (w:=w) (base:=base) F2 F1 b1 m1 GOrder F0 b0 m0 GFree mSX
 have GTwelve:=ok_twelve (P:=l.prog) (w:=w) (base:=base) F23 F15 b15 m15 GNames F14 b14 m14 GTake y_range y_len
 have GOff:=ok_off (P:=l.prog) (w:=w) (base:=base) F24 y_len y_min y_sorted
 have GLSix:=ok_lsix (P:=l.prog) (w:=w) (base:=base) F25 y_len y_min y_range
 have GIsName:=ok_isname (P:=l.prog) (w:=w) (base:=base) F7 mM y_isinstance y_str y_len y_all
 have GNo:=ok_nonames (P:=l.prog) (w:=w) (base:=base) F8 F7 b7 m7 GIsName
 have GTw:=ok_twice (P:=l.prog) (w:=w) (base:=base) F9 y_len y_set
 have GOne:=ok_oneway (P:=l.prog) (w:=w) (base:=base) F10 y_dict
 have GLeast:=ok_least (P:=l.prog) (w:=w) (base:=base) F12 y_min y_tuple
 have GSteps:=ok_steps (P:=l.prog) (w:=w) (base:=base) F3 y_enumerate
 have GFaces:=ok_faces (P:=l.prog) (w:=w) (base:=base) F4 F3 b3 m3 GSteps y_sorted
 have GPiece:=ok_piece (P:=l.prog) (w:=w) (base:=base) F5 y_sorted
 have GPieces:=ok_pieces (P:=l.prog) (w:=w) (base:=base) F6 F5 b5 m5 GPiece y_sorted
 have GFlat:=ok_flat (P:=l.prog) (w:=w) (base:=base) F11 F4 b4 m4 GFaces F6 b6 m6 GPieces y_len y_sum
 have GInit:=ok_init (P:=l.prog) (w:=w) (base:=base) FG0 cW nR F8 b8 m8 GNo F9 b9 m9 GTw F10 b10 m10 GOne F12 b12 m12 GLeast F11 b11 m11 GFlat y_sorted
 have GWeb:=ok_lweb (P:=l.prog) (w:=w) (base:=base) F22 F14 b14 m14 GTake ⟨mk,ag0,ig0,kc⟩ mC bG0 GInit y_len
 exact ok_law FL F13 b13 m13 GPot F14 b14 m14 GTake F23 b23 m23 GTwelve F21 b21 m21 GRounds F22 b22 m22 GWeb F2 b2 m2 GSix F1 b1 m1 GOrder F24 b24 m24 GOff F25 b25 m25 GLSix y_len y_max y_min y_range y_any
theorem walk {l:PySem.W.OpenLaw} {q:Program} {loose:List Str} {XP:(Str→Option Value)→Heap→Prop} {d:DefRec} {K:Params→PySem.W.Frag} (hn:l.most=some 63) (hdf:d.params.defaults=[])
  (F:∀ (w:World) (mg:Str→Option Value) (fa:Addr) (h:Heap),(K w.params).In h→h.Ns mainGlobals mg→mg d.name=some (.ref fa) →
   ∃ fd:FuncData,(∀ (s:Shared) (u:Value),BindsTo s fd ⟨[u],[]⟩ [("_law_script",u)])∧∀ base:Heap,(K w.params).In base→base.Ns mainGlobals mg→FnOk l.prog w (K w.params) mg base CX0 7 fa fd ["_law_script"] (spLaw (K w.params))) :
  PySem.W.WalkO q loose XP (fun w h=>(K w.params).In h) l.row.toRowW d [] (fun f vs=>PySem.call f vs) :=
 L2.walk_of (n:=63) (k:=7) (x := "_law_script") (CX:=fun _=>CX0) (sp:=fun w=>spLaw (K w.params)) hn (by decide) hdf ⟨rfl,by decide,by decide⟩ (fun _ _ z=>z) F (fun _ _ a ns hl _ hS=>⟨a,ns,rfl,hS,hl,fun _=>rfl⟩) fun _ _ _ _ _ z=>z
end K21
end
section
set_option Elab.async false
set_option linter.all false
open PySem PySem.W PySem.W.X PyProof.Rows
def PySem.W.Fast.tw1416103612765855:Unit:=()
def PySem.W.Fast.tw122016889007624848:Unit:=()
def PySem.W.Fast.tw8863390012970734448:Unit:=()
def PySem.W.Fast.tw8509251926185527271:Unit:=()
def PySem.W.Fast.tw16733085237459663539:Unit:=()
def PySem.W.Fast.tw9508162076300188263:Unit:=()
def PySem.W.Fast.tw18048202470378296458:Unit:=()
def PySem.W.Fast.tw12048769467423592835:Unit:=()
def PySem.W.Fast.tw3748428426102395057:Unit:=()
def PySem.W.Fast.tw4709830767939623294:Unit:=()
def PySem.W.Fast.tw10166721237740844497:Unit:=()
def PySem.W.Fast.tw14919255620964643904:Unit:=()
def PySem.W.Fast.tw14923832644280732842:Unit:=()
def PySem.W.Fast.tw2789926586932174676:Unit:=()
set_option maxRecDepth 100000 in
set_option maxHeartbeats 0 in
theorem PySem.Challenge.cw_fivehues_k23_whole_six_hues_holds : PySem.Challenge.rw_fivehues_k23_whole_six_hues.Holds := by
 w_on;o_law;z_head;(case hw=>w_witness2)
 k_fill
 intro w s0 s1 mg mb G y fa o pm cd doc dV kV ho hd hcd hD hmg hg args vals as L hpre hlay hrd hwl hlo
 z_open y L KX ZH ZN ZT
 refine K21.walk (l:=PySem.Challenge.rw_fivehues_k23_whole_six_hues) rfl rfl ?F w s0 s1 mg mb G KX fa o pm cd doc dV kV ho hd hcd hD hmg hg args vals as hpre hlay hrd hwl hlo
 case F =>
  clear KX ZH ZN ZT L y G hmg hg hpre hlay hrd hwl hlo ho hd hcd hD
  intro w mg fa h KX G hmg
  refine' K21.all_mk KX G hmg ?_ ?_ ?_ ?_ ?_ ?_ ?_ ?_ ?_ ?_ ?_ ?_ ?_ ?_ ?_ ?_ ?_ ?_ ?_ ?_ ?_ ?_ ?_ ?_ ?_ ?_ ?_ ?_ ?_ ?_ ?_ ?_ ?_ ?_ ?_ ?_ ?_ ?_ ?_ ?_ ?_ ?_ ?_ ?_ ?_ ?_ ?_ ?_ ?_ ?_ ?_ ?_ ?_ ?_ ?_ ?_ ?_ ?_ ?_ ?_ ?_ ?_ ?_ ?_ ?_ ?_ ?_ ?_ ?_ ?_ ?_ ?_ ?_ ?_ ?_ ?_ ?_ ?_ ?_ ?_ ?_ ?_ ?_ ?_ ?_ ?_ ?_ ?_ ?_ ?_ ?_ ?_ ?_ ?_ ?_ ?_ ?_ ?_ ?_ ?_ ?_ ?_ ?_ ?_ ?_ ?_ ?_ ?_ ?_ ?_ ?_ ?_ ?_ ?_ ?_ ?_ ?_ ?_ ?_ ?_ ?_ ?_ ?_ ?aC ?_ ?_ ?_ ?_ ?_ ?_ ?_ ?_ ?_ ?_ ?_ ?_ ?_ ?_ ?_ ?_ ?_ ?_ ?_ ?_ ?_ ?_ ?_ ?_ ?_ ?_
  (case aC=>k_is)
  all_goals (try k_is)
end
