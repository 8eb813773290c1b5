import PyProof.Rows.All
import Wide.All
import OpenK.AllK
import Wide.FinOn
import Lean
import PyProof.EqAt
import PyProof.EqKinds
import PyProof.TupleCall
import PySem.Challenge.RW_stripmeld_k49_whole_stopped_halfway
set_option Elab.async false
set_option linter.all false
set_option maxRecDepth 100000
noncomputable section
def Uaa:=@List.getElem?_eq_getElem
def Uab:=@List.length_map
def Uac:=@List.getD_eq_getElem?_getD
def Uad:=@if_neg
def Uae:=@if_pos
def Uaf:=@decide_eq_true
def Uag:=@List.mem_singleton
def Uah:=@Nat.le_refl
def Uai:=@List.map_cons
def Uaj:=@List.getElem?_map
def Uak:=@List.zip_cons_cons
def Ual:=@Nat.le_trans
def Uam:=@decide_eq_false
def Uan:=@List.mem_cons
def Uao:=@List.size_toArray
def Uap:=@of_decide_eq_true
def Uaq:=@List.map_append
def Uar:=@Bool.false_ne_true
def Uas:=@List.getElem?_eq_some_iff
def Uat:=@List.length_append
def Uau:=@List.take_succ_eq_append_getElem
def Uav:=@List.mem_cons_of_mem
def Uaw:=@List.getElem_mem
def Uax:=@List.mem_of_getElem?
def Uay:=@List.zip_nil_right
def Uaz:=@List.length_cons
def Ua0:=@List.mem_append
def Ua1:=@List.mem_cons_self
def Ua2:=@Int.toNat_natCast
def Ua3:=@List.mem_append_right
def Ua4:=@List.length_take
def Ua5:=@List.mem_map
def Ua6:=@Nat.ne_of_lt
def Ua7:=@List.mem_filter
def Ua8:=@List.map_map
def Ua9:=@List.nodup_cons
def Uba:=@List.drop_eq_getElem_cons
def Ubb:=@Nat.lt_of_lt_of_le
def Ubc:=@Array.length_toList
def Ubd:=@List.mem_iff_getElem
def Ube:=@congrArg
def Ubf:=@List.cons_append
def Ubg:=@List.getElem?_append_left
def Ubh:=@Bool.and_eq_true
def Ubi:=@List.append_nil
def Ubj:=@List.lookup_cons
def Ubk:=@List.take_length
def Ubl:=@List.pairwise_iff_getElem
def Ubm:=@Array.getElem?_toList
def Ubn:=@List.length_filter_le
def Ubo:=@Nat.zero_le
def Ubp:=@List.getElem?_append_right
def Ubq:=@List.filterMap_eq_map'
def Ubr:=@Array.getElem?_eq_getElem
def Ubs:=@List.length_singleton
def Ubt:=@List.getElem?_take_of_lt
def Ubu:=@List.nodup_append
def Ubv:=@List.zip_nil_left
def Ubw:=@List.length_set
def Ubx:=@List.filterMap_cons
def Uby:=@List.filterMap_append
def Ubz:=@List.map_singleton
def Ub0:=@Int.le_refl
def Ub1:=@List.getElem_take
def Ub2:=@Nat.lt_irrefl
def Ub3:=@List.length_eq_zero_iff
def Ub4:=@Nat.le_of_eq
def Ub5:=@List.pairwise_cons
def Ub6:=@List.getElem?_eq_none
def Ub7:=@List.sum_cons
def Ub8:=@List.mem_append_left
def Ub9:=@List.nodup_nil
def Uca:=@List.all_eq_true
def Ucb:=@List.map_congr_left
def Ucc:=@List.filter_cons_of_pos
def Ucd:=@List.filter_cons_of_neg
def Uce:=@List.getElem?_cons_succ
def Ucf:=@List.any_cons
def Ucg:=@List.find?_cons
def Uch:=@Int.emod_lt_of_pos
def Uci:=@List.take_of_length_le
def Ucj:=@Nat.lt_trans
def Uck:=@List.dropLast_concat_getLast
def Ucl:=@List.take_append_drop
def Ucm:=@Int.ne_of_lt
def Ucn:=@List.length_drop
def Uco:=@List.pairwise_append
def Ucp:=@Bool.true_and
def Ucq:=@Array.getElem?_eq_some_iff
def Ucr:=@Nat.le_succ
def Ucs:=@Int.add_mul
def Uct:=@Int.emod_nonneg
def Ucu:=@Nat.le_of_lt
def Ucv:=@Bool.false_eq_true
def Ucw:=@List.length_filterMap_le
def Ucx:=@List.filterMap_cons_some
def Ucy:=@List.filterMap_cons_none
def Ucz:=@Nat.add_sub_cancel
def Uc0:=@List.take_zero
def Uc1:=@List.getElem?_replicate
def Uc2:=@List.take_sublist
def Uc3:=@Nat.lt_succ_of_lt
def Uc4:=@List.length_range
def Uc5:=@List.getElem?_set_self
def Uc6:=@Array.getElem?_eq_none
def Uc7:=@Nat.lt_succ_self
def Uc8:=@List.not_mem_nil
def Uc9:=@List.getElem?_reverse
def Uda:=@List.getElem?_set_ne
def Udb:=@Bool.eq_iff_iff
def Udc:=@Option.map_some
def Udd:=@List.forIn_cons
def Ude:=@Nat.not_lt
def Udf:=@List.range_succ
def Udg:=@List.filter_sublist
def Udh:=@List.length_reverse
def Udi:=@List.mem_map_of_mem
def Udj:=@List.mem_range
def Udk:=@Bool.false_and
def Udl:=@Nat.add_le_add
def Udm:=@List.mem_filterMap
def Udn:=@Nat.lt_of_le_of_lt
def Udo:=@List.any_eq_false
def Udp:=@List.append_assoc
def Udq:=@List.ext_getElem?
def Udr:=@Bool.eq_false_iff
def Uds:=@Bool.not_eq_true'
def Udt:=@Nat.ne_of_gt
def Udu:=@List.map_nil
def Udv:=@List.drop_length
def Udw:=@List.ext_getElem
namespace L2
open PySem PySem.Spec PyProof.Rows
abbrev Key:=Sum Int Str
def keyIs:Key->Value->Bool
 | .inl k,v=>Value.isInt k v
 | .inr x,v=>Value.isStrOf x v
def keyH (w:World):Key->Int
 | .inl k=>hashInt k
 | .inr x=>hashStr w x
theorem Zbp:∀ {k:Key} {v:Value},keyIs k v=true->(∃ i t,k=Sum.inl i/\v=Value.int i t)\/(∃ x t,k=Sum.inr x/\v=Value.str x t)
 | .inl i,v,h=>by
  obtain ⟨t,e⟩:=Value.isInt_shape (k:=i) (v:=v) h
  exact .inl ⟨i,t,rfl,e⟩
 | .inr x,v,h=>by
  obtain ⟨t,e⟩:=Value.isStrOf_shape (x:=x) (v:=v) h
  exact .inr ⟨x,t,rfl,e⟩
theorem Zut (i:Int) (t:Tok):keyIs (.inl i) (.int i t)=true:=by simp [keyIs,Value.isInt]
theorem Zt9 (x:Str) (t:Tok):keyIs (.inr x) (.str x t)=true:=by simp [keyIs,Value.isStrOf]
theorem Zza (a b:Int):decide ((Sum.inl a:Key)=Sum.inl b)=(a == b):=by
 by_cases e:a=b
 ·subst e;simp
 ·have h:¬ (Sum.inl a:Key)=Sum.inl b:=fun q=>e (Sum.inl.inj q)
  rw [Uam h]
  exact (beq_eq_false_iff_ne.mpr e).symm
theorem Zys (a b:Str):decide ((Sum.inr a:Key)=Sum.inr b)=decide (a=b):=by
 by_cases e:a=b
 ·subst e;simp
 ·have h:¬ (Sum.inr a:Key)=Sum.inr b:=fun q=>e (Sum.inr.inj q)
  rw [Uam h,Uam e]
theorem Zy2 (a:Int) (b:Str):decide ((Sum.inl a:Key)=Sum.inr b)=false:=Uam (fun q=>nomatch q)
theorem Zzm (a:Str) (b:Int):decide ((Sum.inr a:Key)=Sum.inl b)=false:=Uam (fun q=>nomatch q)
def mixKind (prog:Program) (w:World):PySem.KeyKind prog w Key where
 is:=keyIs
 hash:=keyH w
 inj:=fun v a b ha hb=>by
  rcases Zbp ha with ⟨i,t,rfl,rfl⟩ | ⟨x,t,rfl,rfl⟩
  ·rcases Zbp hb with ⟨j,u,rfl,e⟩ | ⟨y,u,rfl,e⟩
   ·injection e with e1 _;rw [e1]
   ·exact nomatch e
  ·rcases Zbp hb with ⟨j,u,rfl,e⟩ | ⟨y,u,rfl,e⟩
   ·exact nomatch e
   ·injection e with e1 _;rw [e1]
 byValue:=fun k v h=>by
  rcases Zbp h with ⟨i,t,rfl,rfl⟩ | ⟨x,t,rfl,rfl⟩<;>rfl
 pyHash:=fun hv h=>by
  rcases Zbp hv with ⟨i,t,rfl,rfl⟩ | ⟨x,t,rfl,rfl⟩
  ·exact wpAny_pyHash_int h
  ·exact wpAny_pyHash_str h
 eqBool:=fun hu hv h=>by
  rcases Zbp hu with ⟨i,t,rfl,rfl⟩ | ⟨x,t,rfl,rfl⟩
  ·rcases Zbp hv with ⟨j,u,rfl,rfl⟩ | ⟨y,u,rfl,rfl⟩
   ·rw [Zza] at h;exact wpAny_eqBool_int h
   ·rw [Zy2] at h;exact SeqAt.EqAt.int_str i t y u _ _ _ _ h
  ·rcases Zbp hv with ⟨j,u,rfl,rfl⟩ | ⟨y,u,rfl,rfl⟩
   ·rw [Zzm] at h;exact SeqAt.EqAt.str_int x t j u _ _ _ _ h
   ·rw [Zys] at h;exact wpAny_eqBool_str h
 «strs»:=fun k x t v h=>by
  rcases Zbp h with ⟨i,u,rfl,e⟩ | ⟨y,u,rfl,e⟩
  ·exact nomatch e
  ·injection e with e1 _
   subst e1
   cases v<;>rfl
theorem Zp9 (prog:Program) (w:World) (i:Int) (t:Tok):(mixKind prog w).is (.inl i) (.int i t)=true:=Zut i t
theorem Zqr (prog:Program) (w:World) (x:Str) (t:Tok):(mixKind prog w).is (.inr x) (.str x t)=true:=Zt9 x t
end L2
namespace L2
open PySem PySem.Spec PyProof.Rows
inductive V where
 | non | bl (b:Bool) | int (i:Int) | str (x:Str) | byt (b:Array UInt8) | flt (b:UInt64) | ref (a:Addr) | ty (n:String)
 deriving DecidableEq
def RelV:V->Value->Prop
 | .non,u=>u=Value.none
 | .bl b,u=>u=Value.bool b
 | .int i,u=>∃ t,u=Value.int i t
 | .str x,u=>∃ t,u=Value.str x t
 | .byt b,u=>∃ t,u=Value.bytes b t
 | .flt b,u=>∃ t,u=Value.float b t
 | .ref a,u=>u=Value.ref a
 | .ty n,u=>u=Value.type n
abbrev Vals:List V->List Value->Prop:=Paired RelV
theorem Vals.length {xs:List V} {us:List Value} (r:Vals xs us):xs.length=us.length:=Paired.length r
theorem Vals.get:∀ {xs:List V} {us:List Value} {i:Nat} {x:V},Vals xs us->xs[i]?=some x->∃ u,us[i]?=some u/\RelV x u
 | _,_,_,_,.nil,e=>by simp at e
 | _,_,0,_,.cons r _,e=>by simp at e;subst e;exact ⟨_,rfl,r⟩
 | _,_,i + 1,x,.cons _ t,e=>by
  obtain ⟨u,h1,h2⟩:=Vals.get (i:=i) (x:=x) t (by simpa using e)
  exact ⟨u,by simpa using h1,h2⟩
theorem Vals.set {x:V} {u:Value} (r:RelV x u):∀ {xs:List V} {us:List Value} (i:Nat),Vals xs us->Vals (xs.set i x) (us.set i u)
 | _,_,_,.nil=>.nil
 | _,_,0,.cons _ t=>.cons r t
 | _,_,i + 1,.cons q t=>.cons q (Vals.set r i t)
theorem Vals.append:∀ {xs ys:List V} {us ws:List Value},Vals xs us->Vals ys ws->Vals (xs++ys) (us++ws)
 | _,_,_,_,.nil,s=>s
 | _,_,_,_,.cons r t,s=>.cons r (Vals.append t s)
theorem Vals.take:∀ {xs:List V} {us:List Value} (n:Nat),Vals xs us->Vals (xs.take n) (us.take n)
 | _,_,0,_=>.nil
 | _,_,_ + 1,.nil=>.nil
 | _,_,n + 1,.cons r t=>.cons r (Vals.take n t)
theorem Vals.drop:∀ {xs:List V} {us:List Value} (n:Nat),Vals xs us->Vals (xs.drop n) (us.drop n)
 | _,_,0,r=>r
 | _,_,_ + 1,.nil=>.nil
 | _,_,n + 1,.cons _ t=>Vals.drop n t
def RelO:Option V->Option Value->Prop
 | some v,some u=>RelV v u
 | none,none=>True
 | _,_=>False
def KV {κ:Type}:List (κ×V)->List (κ×Value)->Prop:=Paired fun (p:κ×V) (q:κ×Value)=>p.1=q.1/\RelV p.2 q.2
def kV:Key->V
 | .inl i=>.int i
 | .inr x=>.str x
inductive HO where
 | lst (xs:List V)
 | tup (xs:List V)
 | dK (kvs:List (Key×V)) | dT (kvs:List (List Key×V))
 | set (S:Int->Bool) (n:Nat)
 | ins (C dx:Addr) (fs:List (Str×V))
 | own (x:Addr)
 | xd (fs:List (Str×V))
 | met (f x:Addr)
 | rng (lo hi:Int)
 | frz (o:Obj) (u:HO)
 | tbl (ps:Array Value)
 | ext (φ:Heap->Prop)
abbrev Hp:=Addr->Option HO
def upd (H:Hp) (a:Addr) (o:HO):Hp:=fun b=>if b=a then some o else H b
theorem Zas {H:Hp} {a:Addr} {o:HO}:upd H a o a=some o:=by unfold upd;rw [Uae rfl]
theorem Za5 {H:Hp} {a b:Addr} {o:HO} (h:b≠a):upd H a o b=H b:=by unfold upd;rw [Uad h]
theorem Ztp {H:Hp} {a:Addr} {o u:HO}:upd (upd H a o) a u=upd H a u:=by
 funext b;unfold upd;split<;>rfl
theorem Zzk {H:Hp} {a b:Addr} {o u:HO} (h:H a=some o) (h':H b=some u) (d:o≠u):a≠b:=by
 intro e;subst e;rw [h] at h';exact d (Option.some.inj h')
theorem Zba {H:Hp} {a b:Addr} {o:HO} (h:H a=some o) (h':H b=none):a≠b:=by
 intro e;subst e;rw [h] at h';cases h'
section
variable (P:Program) (w:World)
def ObjOk (H:Hp) (h:Heap) (a:Addr):HO->Prop
 | .lst xs=>xs.length<=sizeLine/\∃ (its:List Value) (n:Nat),Vals xs its/\h.get? a=some { cls:=.type "list",data:=.seq its.toArray n }
 | .tup xs=>xs.length<=sizeLine/\∃ its:List Value,Vals xs its/\IsTup h a its.toArray
 | .dK kvs=>kvs.length<=sizeLine/\(a == sysModules)=false/\∃ vs,KV kvs vs/\h.DictOf (mixKind P w) a vs
 | .dT kvs=>kvs.length<=sizeLine/\(a == sysModules)=false/\∃ xs:List (List Key×Addr×Value),
   Paired (fun (p:List Key×V) (q:List Key×Addr×Value)=>p.1=q.1/\H q.2.1=some (.tup (p.1.map kV))/\RelV p.2 q.2.2) kvs xs/\
   ∃ o es ep,h.get? a=some o/\o.ExactDict/\o.data=.dict es ep/\es.toList=xs.map (entryOfKey (tupleKind (mixKind P w)))/\(xs.map (·.1)).Nodup
 | .set S n=>h.SetOf (intKind P w) a S n
 | .ins C dx fs=>H dx=some (.own a)/\fs.length<=1000/\dx≠a/\h.get? a=some (PySem.W.instObj C dx)/\
   ∃ mA,h.Ns1 dx mA/\(∀ f,RelO (fs.lookup f) (mA f))/\PySem.Within mA (fs.map (·.1))
 | .own _=>∃ o,h.get? a=some o
 | .xd fs=>∃ mA,h.Ns1 a mA/\∀ f,RelO (fs.lookup f) (mA f)
 | .rng lo hi=>∃ t u v,h.get? a=some { cls:=.type "range",data:=.fields #[.int lo t,.int hi u,.int 1 v] }
 | .frz o u=>h.get? a=some o/\ObjOk H h a u
 | .tbl ps=>h.get? a=some { cls:=.none,data:=.fields ps }
 | .met f x=>h.get? a=some (PySem.W.methodObj (.ref f) (.ref x))
 | .ext φ=>φ h/\(∃ o,h.get? a=some o)/\∀ h1 h2:Heap,φ h1->(∀ o,h1.get? a=some o->h2.get? a=some o)->φ h2
def HOk (H:Hp) (h:Heap):Prop:=∀ a o,H a=some o->ObjOk P w H h a o
end
section
variable {P:Program} {w:World} {H H':Hp} {h h':Heap} {a:Addr} {o:HO}
theorem ObjOk.lt (x:ObjOk P w H h a o):a < h.objs.size:=by
 cases o with
 | lst xs=>obtain ⟨_,_,_,_,e⟩:=x;exact Heap.lt_size e
 | tup xs=>obtain ⟨_,_,_,p⟩:=x;exact p.lt
 | dK kvs=>obtain ⟨_,_,_,_,o,_,_,e,_⟩:=x;exact Heap.lt_size e
 | dT kvs=>obtain ⟨_,_,_,_,o,_,_,e,_⟩:=x;exact Heap.lt_size e
 | set S n=>obtain ⟨o,_,_,_,e,_⟩:=x;exact Heap.lt_size e
 | ins C dx fs=>obtain ⟨_,_,_,e,_⟩:=x;exact Heap.lt_size e
 | own y=>obtain ⟨_,e⟩:=x;exact Heap.lt_size e
 | xd fs=>obtain ⟨_,⟨_,_,_,e,_⟩,_⟩:=x;exact Heap.lt_size e
 | rng lo hi=>obtain ⟨_,_,_,e⟩:=x;exact Heap.lt_size e
 | frz ob u=>obtain ⟨e,_⟩:=x;exact Heap.lt_size e
 | tbl ps=>exact Heap.lt_size (show h.get? a=some _ from x)
 | met f y=>exact Heap.lt_size (show h.get? a=some _ from x)
 | ext φ=>obtain ⟨_,⟨_,e⟩,_⟩:=x;exact Heap.lt_size e
theorem Paired.mapP {α β:Type} {F G:α->β->Prop}:∀ {l₁:List α} {l₂:List β},Paired F l₁ l₂->(∀ a b,F a b->G a b)->Paired G l₁ l₂
 | _,_,.nil,_=>.nil
 | _,_,.cons r t,f=>.cons (f _ _ r) (Paired.mapP t f)
theorem ObjOk.stay (x:ObjOk P w H h a o) (k:∀ b u,(b=a\/H b=some (.own a))->h.get? b=some u->h'.get? b=some u)
  (ho:∀ b,H b=some (.own a)->H' b=some (.own a)) (ht:∀ b xs,H b=some (.tup xs)->H' b=some (.tup xs)):ObjOk P w H' h' a o:=by
 induction o with
 | lst xs=>obtain ⟨z,its,n,r,e⟩:=x;exact ⟨z,its,n,r,k _ _ (.inl rfl) e⟩
 | tup xs=>obtain ⟨z,its,r,ob,e,c⟩:=x;exact ⟨z,its,r,ob,k _ _ (.inl rfl) e,c⟩
 | dK kvs=>obtain ⟨z,y,vs,r,ob,es,ep,e,c⟩:=x;exact ⟨z,y,vs,r,ob,es,ep,k _ _ (.inl rfl) e,c⟩
 | dT kvs=>
  obtain ⟨z,y,xs,r,ob,es,ep,e,c⟩:=x
  exact ⟨z,y,xs,Paired.mapP r fun p q z=>⟨z.1,ht _ _ z.2.1,z.2.2⟩,ob,es,ep,k _ _ (.inl rfl) e,c⟩
 | set S n=>obtain ⟨ob,es,ep,t,e,c⟩:=x;exact ⟨ob,es,ep,t,k _ _ (.inl rfl) e,c⟩
 | ins C dx fs=>
  obtain ⟨d,z,ne,e,mA,⟨od,es,ep,e2,c⟩,r⟩:=x
  exact ⟨ho _ d,z,ne,k _ _ (.inl rfl) e,mA,⟨od,es,ep,k _ _ (.inr d) e2,c⟩,r⟩
 | own y=>obtain ⟨ob,e⟩:=x;exact ⟨ob,k _ _ (.inl rfl) e⟩
 | xd fs=>obtain ⟨mA,⟨od,es,ep,e,c⟩,r⟩:=x;exact ⟨mA,⟨od,es,ep,k _ _ (.inl rfl) e,c⟩,r⟩
 | rng lo hi=>obtain ⟨t,u,v,e⟩:=x;exact ⟨t,u,v,k _ _ (.inl rfl) e⟩
 | frz ob u ih=>obtain ⟨e,q⟩:=x;exact ⟨k _ _ (.inl rfl) e,ih q⟩
 | tbl ps=>
  have e:h.get? a=some { cls:=.none,data:=.fields ps }:=x
  show h'.get? a=some { cls:=.none,data:=.fields ps }
  exact k a _ (.inl rfl) e
 | met f y=>
  have e:h.get? a=some (PySem.W.methodObj (.ref f) (.ref y)):=x
  show h'.get? a=some (PySem.W.methodObj (.ref f) (.ref y))
  exact k a _ (.inl rfl) e
 | ext φ=>obtain ⟨p,⟨o,e⟩,st⟩:=x;exact ⟨st _ _ p fun o q=>k _ _ (.inl rfl) q,⟨o,k _ _ (.inl rfl) e⟩,st⟩
theorem HOk.lt (x:HOk P w H h) (e:H a=some o):a < h.objs.size:=(x a o e).lt
theorem HOk.fresh (x:HOk P w H h) (e:h.objs.size<=a):H a=none:=by
 cases q:H a with
 | none=>rfl
 | some u=>exact absurd (Ubb (x.lt q) e) (Ub2 _)
theorem HOk.kept (x:HOk P w H h) (k:∀ b u,h.get? b=some u->h'.get? b=some u):HOk P w H h':=fun a o e=>
 (x a o e).stay (fun b u _ q=>k b u q) (fun _ q=>q) fun _ _ q=>q
theorem HOk.laid (x:HOk P w H h) (k:∀ b u,h.get? b=some u->h'.get? b=some u) (hp:h.objs.size<=a) (new:ObjOk P w (upd H a o) h' a o):HOk P w (upd H a o) h':=fun b u e=>by
 have hn:=x.fresh hp
 by_cases hb:b=a
 ·subst hb;rw [Zas] at e;cases e;exact new
 ·rw [Za5 hb] at e
  exact (x b u e).stay (fun c v _ q=>k c v q) (fun c q=>by rw [Za5 (Zba q hn)];exact q) fun c xs q=>by rw [Za5 (Zba q hn)];exact q
end
def Rd (H:Hp) (a:Addr) (u:HO):Prop:=H a=some u\/∃ o,H a=some (.frz o u)
theorem Rd.ok {P:Program} {w:World} {H:Hp} {h:Heap} {a:Addr} {u:HO} (r:Rd H a u) (x:HOk P w H h):ObjOk P w H h a u:=by
 rcases r with r | ⟨o,r⟩
 ·exact x a u r
 ·obtain ⟨_,q⟩:=x a _ r
  exact q
def Mut:Option HO->Prop
 | some (.lst _)=>True
 | some (.dK _)=>True
 | some (.dT _)=>True
 | some (.set _ _)=>True
 | some (.ins _ _ _)=>True
 | some (.ext _)=>True
 | _=>False
section
variable {P:Program} {w:World} {H:Hp} {h h':Heap} {x e:Addr} {o':HO}
theorem HOk.write (ok:HOk P w H h) (mu:Mut (H x)) (he:e=x\/H e=some (.own x)) (k:∀ b u,b≠e->h.get? b=some u->h'.get? b=some u) (heo:∃ u,h'.get? e=some u)
  (new:ObjOk P w (upd H x o') h' x o'):HOk P w (upd H x o') h':=fun b u q=>by
 have nown:∀ c y,H c=some (.own y)->c≠x:=fun c y r z=>by subst z;rw [r] at mu;exact mu
 have ntup:∀ c xs,H c=some (.tup xs)->c≠x:=fun c xs r z=>by subst z;rw [r] at mu;exact mu
 by_cases hb:b=x
 ·subst hb;rw [Zas] at q;cases q;exact new
 ·rw [Za5 hb] at q
  by_cases hbe:b=e
  ·have q':H b=some (.own x):=by
    rcases he with z | z
    ·exact absurd (hbe.trans z) hb
    ·rw [hbe];exact z
   rw [q] at q';cases q'
   obtain ⟨v,hv⟩:=heo
   exact ⟨v,by rw [hbe];exact hv⟩
  ·refine (ok b u q).stay (fun c v hc r=>k c v ?_ r) (fun c r=>by rw [Za5 (nown c b r)];exact r) fun c xs r=>by rw [Za5 (ntup c xs r)];exact r
   rcases hc with rfl | hc
   ·exact hbe
   ·rintro rfl
    rcases he with z | z
    ·exact nown c b hc z
    ·rw [hc] at z;cases z;exact hb rfl
end
structure Un (fs ex:List Addr) (H H':Hp) (h h':Heap):Prop where
 keep:∀ b o,h.get? b=some o->H b=none->b∉fs->b∉ex->h'.get? b=some o
 slot:∀ b o,h.get? b=some o->H b=none->b∈fs->b∉ex->∃ sl,h'.get? b=some { o with slots:=sl }
 free:∀ b o,h.get? b=some o->H b=none->b∉ex->H' b=none
 there:∀ b o,h.get? b=some o->b∉ex->∃ o',h'.get? b=some o'
 tups:∀ b xs,H b=some (.tup xs)->H' b=some (.tup xs)
 frzs:∀ b o u,H b=some (.frz o u)->H' b=some (.frz o u)
 tbls:∀ b ps,H b=some (.tbl ps)->∃ more,H' b=some (.tbl (ps++more))
section
variable {fs fs' ex ex':List Addr} {H H1 H2:Hp} {h h1 h2 h':Heap} {a x e:Addr} {o:HO}
theorem Un.any (u:Un fs ex H H1 h h1) {b:Addr} {ob:Obj} (q:h.get? b=some ob) (n:H b=none) (hx:b∉ex):∃ sl,h1.get? b=some { ob with slots:=sl }:=by
 by_cases hb:b∈fs
 ·exact u.slot b ob q n hb hx
 ·exact ⟨ob.slots,u.keep b ob q n hb hx⟩
theorem Un.trans (a:Un fs ex H H1 h h1) (b:Un fs ex H1 H2 h1 h2):Un fs ex H H2 h h2 where
 keep:=fun c ob q n hc hx=>b.keep c ob (a.keep c ob q n hc hx) (a.free c ob q n hx) hc hx
 slot:=fun c ob q n hc hx=>by
  obtain ⟨sl,e1⟩:=a.slot c ob q n hc hx
  obtain ⟨sl',e2⟩:=b.slot c _ e1 (a.free c ob q n hx) hc hx
  exact ⟨sl',e2⟩
 free:=fun c ob q n hx=>by
  obtain ⟨o',e1⟩:=a.there c ob q hx
  exact b.free c o' e1 (a.free c ob q n hx) hx
 there:=fun c ob q hx=>by
  obtain ⟨o',e1⟩:=a.there c ob q hx
  exact b.there c o' e1 hx
 tups:=fun c xs q=>b.tups c xs (a.tups c xs q)
 frzs:=fun c ob xs q=>b.frzs c ob xs (a.frzs c ob xs q)
 tbls:=fun c ps q=>by
  obtain ⟨m1,e1⟩:=a.tbls c ps q
  obtain ⟨m2,e2⟩:=b.tbls c _ e1
  exact ⟨m1++m2,by rw [e2,Array.append_assoc]⟩
theorem Un.kept (k:∀ b u,h.get? b=some u->h'.get? b=some u):Un fs ex H H h h':=
 ⟨fun b ob q _ _ _=>k b ob q,fun b ob q _ _ _=>⟨ob.slots,k b ob q⟩,fun _ _ _ n _=>n,fun b ob q _=>⟨ob,k b ob q⟩,fun _ _ q=>q,fun _ _ _ q=>q,fun _ ps q=>⟨#[],by rw [q];simp⟩⟩
theorem Un.refl:Un fs ex H H h h:=Un.kept fun _ _ q=>q
theorem Un.laid (k:∀ b u,h.get? b=some u->h'.get? b=some u) (hp:h.objs.size<=a) (hn:H a=none):Un fs ex H (upd H a o) h h' where
 keep:=fun b u q _ _ _=>k b u q
 slot:=fun b u q _ _ _=>⟨u.slots,k b u q⟩
 free:=fun b u q n _=>by rw [Za5 (Ua6 (Ubb (Heap.lt_size q) hp))];exact n
 there:=fun b u q _=>⟨u,k b u q⟩
 tups:=fun b xs q=>by rw [Za5 (Zba q hn)];exact q
 frzs:=fun b u xs q=>by rw [Za5 (Zba q hn)];exact q
 tbls:=fun b ps q=>⟨#[],by rw [Za5 (Zba q hn),q];simp⟩
theorem Un.write (mu:Mut (H x)) (he:e=x\/H e=some (.own x)) (k:∀ b u,b≠e->h.get? b=some u->h'.get? b=some u) (heo:∃ u,h'.get? e=some u):Un fs ex H (upd H x o) h h':=by
 have hx:∀ b,H b=none->b≠x:=fun b n z=>by subst z;rw [n] at mu;exact mu
 have hb:∀ b,H b=none->b≠e:=fun b n z=>by
  subst z
  rcases he with r | r
  ·exact hx b n r
  ·rw [n] at r;cases r
 have hm:∀ b u,H b=some u->¬ Mut (some u)->b≠x:=fun b u q nm z=>by subst z;rw [q] at mu;exact nm mu
 refine ⟨fun b u q n _ _=>k b u (hb b n) q,fun b u q n _ _=>⟨u.slots,k b u (hb b n) q⟩,fun b u q n _=>by rw [Za5 (hx b n)];exact n,fun b u q _=>?_,
  fun b xs q=>by rw [Za5 (hm b _ q fun z=>z)];exact q,fun b u xs q=>by rw [Za5 (hm b _ q fun z=>z)];exact q,fun b ps q=>⟨#[],by rw [Za5 (hm b _ q fun z=>z),q];simp⟩⟩
 by_cases hbe:b=e
 ·subst hbe;exact heo
 ·exact ⟨u,k b u hbe q⟩
end
def trk (h:Heap) (H:Hp):List Addr:=(List.range h.objs.size).filter fun a=>(H a).isSome
def hidT (h:Heap) (H:Hp):Heap:=PySem.W.hideAll h (trk h H)
theorem Zt5 (h:Heap) (H:Hp):(hidT h H).objs.size=h.objs.size:=PySem.W.hideAll_size _ _
theorem Zwu {h:Heap} {H:Hp} {b:Addr} {o:Obj} (e:h.get? b=some o) (n:H b=none):(hidT h H).get? b=some o:=
 PySem.W.hideAll_get _ e fun hm=>by
  have q:(H b).isSome=true:=(Ua7.mp hm).2
  rw [n] at q;simp at q
theorem Zxx {h:Heap} {H:Hp} {b:Addr} {o:Obj} (e:(hidT h H).get? b=some o):h.get? b=some o/\H b=none:=by
 have e':h.get? b=some o:=PySem.W.of_hideAll (trk h H) e
 refine ⟨e',?_⟩
 cases q:H b with
 | none=>rfl
 | some x=>
  have hm:b∈trk h H:=Ua7.mpr ⟨Udj.mpr (Heap.lt_size e'),by simp [q]⟩
  have z:(hidT h H).get? b=none:=PySem.W.hideAll_none (trk h H) hm
  rw [z] at e;cases e
def allNews (g h:Heap) (L:Addr):List (Addr×Obj):=(List.range h.objs.size).filterMap fun a=>if a=L\/(g.get? a).isSome=true then none else (h.get? a).map fun o=>(a,o)
def rest (g h:Heap) (L d:Addr):List (Addr×Obj):=(allNews g h L).filter fun p=>decide (p.1≠d)
end L2
namespace L2
open PySem PySem.Spec PyProof.Rows
structure Mod (K:PySem.W.Frag) (mg:Str->Option Value) (base:Heap):Prop where
 kin:K.In base
 glob:base.Ns mainGlobals mg
 blt:∃ mb,base.Ns builtinsNs mb/\∀ x:Str,x≠"__name__"->mb x=bootBuiltins x
 nolimit:base.NoLimit
structure Cx where
 prog:Program
 w:World
 K:PySem.W.Frag
 mg:Str->Option Value
 base:Heap
 A:Around
 N:List Str
 s₀:Shared
 H₀:Hp
 env:Env
 outer:List Env
 stack:List Env
 ex:List Addr
 fn:Str->Bool
 calm:Bool
 pn:List (Addr×Obj)
 xe:Value->Shared->Prop
def frs (l:List Env):List Addr:=l.filterMap (·.frame)
abbrev Cx.fs (X:Cx):List Addr:=frs X.outer
def Vis (sc:Scope) (x:Str):Prop:=sc.names.lookup x=some .local\/sc.names.lookup x=some .cell\/sc.names.lookup x=some .free
def Loc (sc:Scope) (x:Str):Prop:=sc.names.lookup x=some .local\/sc.names.lookup x=some .cell
def Look (env:Env) (h:Heap) (m:Str->Option Value) (x:Str) (u:Value):Prop:=
 (env.kindOf x=some .local/\m x=some u)\/((env.kindOf x=some .cell\/env.kindOf x=some .free)/\∃ c,env.cells.lookup x=some c/\h.IsCell c (some u))
structure Cx.Ok (X:Cx):Prop where
 mod:Mod X.K X.mg X.base
 kind:X.env.scope.kind=.function
 glob:X.env.globals=mainGlobals
 blt:X.env.builtins=builtinsNs
 above:X.s₀.heap.objs.size<=X.env.locals
 inj:∀ x y c,X.env.cells.lookup x=some c->X.env.cells.lookup y=some c->x=y
 has:∀ x,(X.env.kindOf x=some .cell\/X.env.kindOf x=some .free)->∃ c,X.env.cells.lookup x=some c
 cab:∀ x c,X.fn x=true->X.env.cells.lookup x=some c->X.s₀.heap.objs.size<=c
 hd:X.calm=true->X.A.handled=none
 frames:X.A.frames=some X.stack
 stk:X.stack=X.outer\/(X.stack=X.env :: X.outer/\X.env.frame=some X.env.locals)
 exf:∀ b∈X.ex,b≠X.env.locals/\∀ x c,X.env.cells.lookup x=some c->c≠b
 bs:∀ b o,X.base.get? b=some o->X.s₀.heap.get? b=some o/\X.H₀ b=none
 bsz:X.base.objs.size<=X.s₀.heap.objs.size
 noex:∀ b o,X.base.get? b=some o->b∉X.ex
 exfs:∀ b∈X.ex,b∉X.fs
 funs:X.s₀.heap.FunFrames X.base X.outer
 frf:∀ b∈X.fs,X.H₀ b=none
structure Inv (X:Cx) (pins:List (Addr×Obj)) (σ:List (Option V)) (H:Hp) (s:Shared):Prop where
 ok:X.Ok
 os:s.os=X.s₀.os
 bare:AllBare s.gens
 base:Un X.fs X.ex X.H₀ H X.s₀.heap s.heap
 loc:∃ m,s.heap.Ns X.env.locals m/\∀ (i:Nat) (x:Str) (v:V),X.N[i]?=some x->σ[i]?=some (some v)->Vis X.env.scope x->∃ u,RelV v u/\Look X.env s.heap m x u
 cell:∀ x c,X.env.cells.lookup x=some c->∃ v,s.heap.IsCell c v
 free:H X.env.locals=none
 freeC:∀ x c,X.env.cells.lookup x=some c->H c=none
 pin:∀ p∈X.pn++pins,s.heap.get? p.1=some p.2/\H p.1=none/\p.1≠X.env.locals/\p.1∉X.fs/\∀ v,p.2.data≠.cell v
 hok:HOk X.prog X.w H s.heap
 len:σ.length=X.N.length
section
variable {X:Cx} {pins:List (Addr×Obj)} {σ:List (Option V)} {H H':Hp} {s:Shared} {h':Heap}
theorem Cx.Ok.nofr (ok:X.Ok) {b:Addr} {o:Obj} (e:X.base.get? b=some o):b∉X.fs:=fun hb=>by
 have:=(ok.funs.mem hb).1
 rw [e] at this;cases this
theorem Inv.bs (I:Inv X pins σ H s):∀ b o,X.base.get? b=some o->s.heap.get? b=some o/\H b=none:=fun b o e=>
 ⟨I.base.keep b o (I.ok.bs b o e).1 (I.ok.bs b o e).2 (I.ok.nofr e) (I.ok.noex b o e),I.base.free b o (I.ok.bs b o e).1 (I.ok.bs b o e).2 (I.ok.noex b o e)⟩
theorem Inv.bk (I:Inv X pins σ H s):∀ b o,X.base.get? b=some o->s.heap.get? b=some o:=fun b o e=>(I.bs b o e).1
theorem Inv.mod (I:Inv X pins σ H s):Mod X.K X.mg X.base:=I.ok.mod
theorem Inv.kIn (I:Inv X pins σ H s):X.K.In s.heap:=I.ok.mod.kin.keeps I.bk
theorem Inv.lt (I:Inv X pins σ H s):X.env.locals < s.heap.objs.size:=let ⟨_,hn,_⟩:=I.loc;hn.lt
theorem Inv.sz (I:Inv X pins σ H s):X.s₀.heap.objs.size<=s.heap.objs.size:=Ual I.ok.above (Ucu I.lt)
theorem Inv.nofs (I:Inv X pins σ H s) {a:Addr} (h:s.heap.objs.size<=a):a∉X.fs:=fun hb=>by
 obtain ⟨_,o,ho,_⟩:=I.ok.funs.mem hb
 exact absurd (Ubb (Heap.lt_size ho) (Ual I.sz h)) (Ub2 _)
theorem Inv.cne (I:Inv X pins σ H s):∀ x c,X.env.cells.lookup x=some c->c≠X.env.locals:=fun x c e z=>by
 obtain ⟨v,o,ho,hd⟩:=I.cell x c e
 obtain ⟨m,⟨o',es,ep,ho',hd',_⟩,_⟩:=I.loc
 rw [z,ho'] at ho;cases ho;rw [hd'] at hd;cases hd
theorem Inv.funs (I:Inv X pins σ H s):s.heap.FunFrames X.base X.outer:=by
 have all:∀ (l:List Env),(∀ b∈frs l,b∈X.fs)->X.s₀.heap.FunFrames X.base l->s.heap.FunFrames X.base l:=by
  intro l
  induction l with
  | nil=>intro _ _;trivial
  | cons env r ih=>
   intro hs hl
   obtain ⟨hk,⟨L,o,hf,hn,ho,hd⟩,hr⟩:=hl
   have hL:L∈X.fs:=hs L (by unfold frs;rw [Ubx,hf];exact Ua1)
   obtain ⟨sl,e⟩:=I.base.slot L o ho (I.ok.frf L hL) hL fun z=>I.ok.exfs L z hL
   exact ⟨hk,⟨L,_,hf,hn,e,hd⟩,ih (fun b hb=>hs b (by unfold frs;rw [Ubx,hf];exact Uav _ hb)) hr⟩
 exact all X.outer (fun _ hb=>hb) I.ok.funs
theorem Inv.stack (I:Inv X pins σ H s):s.heap.FunFrames X.base X.stack:=by
 rcases I.ok.stk with e | ⟨e,hf⟩
 ·rw [e];exact I.funs
 ·rw [e]
  obtain ⟨m,hn,_⟩:=I.loc
  refine .cons (by rw [I.ok.kind];decide) hf hn ?_ I.funs
  exact Heap.get?_none_of_le (Ual I.ok.bsz I.ok.above)
theorem Inv.stkSub (I:Inv X pins σ H s):∀ b∈frs X.stack,b∈X.env.locals :: X.fs:=fun b hb=>by
 rcases I.ok.stk with e | ⟨e,hf⟩
 ·rw [e] at hb;exact Uav _ hb
 ·rw [e] at hb
  unfold frs at hb
  rw [Ubx,hf] at hb
  exact hb
theorem Inv.stkFree (I:Inv X pins σ H s):∀ b∈frs X.stack,H b=none:=fun b hb=>by
 rcases Uan.mp (I.stkSub b hb) with e | hb
 ·rw [e];exact I.free
 ·obtain ⟨_,o,ho,_⟩:=I.ok.funs.mem hb
  exact I.base.free b o ho (I.ok.frf b hb) fun z=>I.ok.exfs b z hb
theorem Inv.step {g':Array GenState} {t':Nat} {d':Drawn} {ch:List Addr} (I:Inv X pins σ H s)
  (hch:∀ b∈ch,(b∈X.ex\/X.s₀.heap.objs.size<=b)/\b≠X.env.locals/\(∀ x c,X.env.cells.lookup x=some c->c≠b)/\∀ p∈X.pn++pins,p.1≠b)
  (keep:∀ b o,b≠X.env.locals->b∉X.fs->b∉ch->s.heap.get? b=some o->H b=none->h'.get? b=some o)
  (slot:∀ b o,b≠X.env.locals->b∈X.fs->b∉ch->s.heap.get? b=some o->H b=none->∃ sl,h'.get? b=some { o with slots:=sl }) (free:∀ b o,b∉ch->s.heap.get? b=some o->H b=none->H' b=none)
  (there:∀ b o,b∉ch->s.heap.get? b=some o->∃ o',h'.get? b=some o')
  (tups:∀ b xs,H b=some (.tup xs)->H' b=some (.tup xs)) (frzs:∀ b o u,H b=some (.frz o u)->H' b=some (.frz o u)) (tbls:∀ b ps,H b=some (.tbl ps)->∃ more,H' b=some (.tbl (ps++more)))
  (ns:∀ m,s.heap.Ns X.env.locals m->h'.Ns X.env.locals m) (hok:HOk X.prog X.w H' h') (hg:AllBare g') :
  Inv X pins σ H' { s with heap:=h',gens:=g',drawn:=d',toks:=t' }:=by
 have neL:∀ b o,X.s₀.heap.get? b=some o->b≠X.env.locals:=fun b o e=>Ua6 (Ubb (Heap.lt_size e) I.ok.above)
 have neC:∀ b o,X.s₀.heap.get? b=some o->b∉X.ex->b∉ch:=fun b o e hx hb=>by
  rcases (hch b hb).1 with z | z
  ·exact hx z
  ·exact absurd (Ubb (Heap.lt_size e) z) (Ub2 _)
 have cellK:∀ x c,X.env.cells.lookup x=some c->∀ v,s.heap.IsCell c v->h'.IsCell c v:=fun x c e v ⟨o,ho,hd⟩=>by
  have nch:c∉ch:=fun z=>(hch c z).2.2.1 x c e rfl
  by_cases hc:c∈X.fs
  ·obtain ⟨sl,q⟩:=slot c o (I.cne x c e) hc nch ho (I.freeC x c e)
   exact ⟨_,q,hd⟩
  ·exact ⟨o,keep c o (I.cne x c e) hc nch ho (I.freeC x c e),hd⟩
 refine ⟨I.ok,I.os,hg,⟨fun b o e n hb hx=>?_,fun b o e n hb hx=>?_,fun b o e n hx=>?_,fun b o e hx=>?_,fun b xs e=>tups b xs (I.base.tups b xs e),fun b o xs e=>frzs b o xs (I.base.frzs b o xs e),fun b ps e=>?_⟩,?_,fun x c e=>?_,?_,fun x c e=>?_,fun p hp=>?_,hok,I.len⟩
 ·exact keep b o (neL b o e) hb (neC b o e hx) (I.base.keep b o e n hb hx) (I.base.free b o e n hx)
 ·obtain ⟨sl,e1⟩:=I.base.slot b o e n hb hx
  obtain ⟨sl',e2⟩:=slot b _ (neL b o e) hb (neC b o e hx) e1 (I.base.free b o e n hx)
  exact ⟨sl',e2⟩
 ·obtain ⟨o',e1⟩:=I.base.there b o e hx
  exact free b o' (neC b o e hx) e1 (I.base.free b o e n hx)
 ·obtain ⟨o',e1⟩:=I.base.there b o e hx
  exact there b o' (neC b o e hx) e1
 ·obtain ⟨m1,e1⟩:=I.base.tbls b ps e
  obtain ⟨m2,e2⟩:=tbls b _ e1
  exact ⟨m1++m2,by rw [e2,Array.append_assoc]⟩
 ·obtain ⟨m,hn,hl⟩:=I.loc
  refine ⟨m,ns m hn,fun i x v e1 e2 e3=>?_⟩
  obtain ⟨u,r,l⟩:=hl i x v e1 e2 e3
  refine ⟨u,r,?_⟩
  rcases l with l | ⟨k,c,e,z⟩
  ·exact .inl l
  ·exact .inr ⟨k,c,e,cellK x c e _ z⟩
 ·obtain ⟨v,z⟩:=I.cell x c e
  exact ⟨v,cellK x c e v z⟩
 ·obtain ⟨m,⟨o,_,_,ho,_⟩,_⟩:=I.loc
  exact free _ o (fun z=>(hch _ z).2.1 rfl) ho I.free
 ·obtain ⟨v,o,ho,hd⟩:=I.cell x c e
  exact free c o (fun z=>(hch c z).2.2.1 x c e rfl) ho (I.freeC x c e)
 ·obtain ⟨e,n,ne,nf,d⟩:=I.pin p hp
  have nch:p.1∉ch:=fun z=>(hch p.1 z).2.2.2 p hp rfl
  exact ⟨keep p.1 p.2 ne nf nch e n,free p.1 p.2 nch e n,ne,nf,d⟩
theorem Inv.un {t':Nat} (I:Inv X pins σ H s) (u:Un X.fs [] H H' s.heap h') (hok:HOk X.prog X.w H' h'):Inv X pins σ H' { s with heap:=h',toks:=t' }:=by
 obtain ⟨m,⟨o,es,ep,ho,r⟩,_⟩:=id I.loc
 obtain ⟨sl,hL⟩:=u.any ho I.free (by simp)
 exact I.step (g':=s.gens) (d':=s.drawn) (ch:=[]) (fun _ z=>nomatch z) (fun b o _ hb _ e n=>u.keep b o e n hb (by simp)) (fun b o _ hb _ e n=>u.slot b o e n hb (by simp)) (fun b o _ e n=>u.free b o e n (by simp)) (fun b o _ e=>u.there b o e (by simp)) u.tups u.frzs u.tbls (fun m' hm=>by
  obtain ⟨o',es',ep',ho',r'⟩:=hm
  rw [ho] at ho';cases ho'
  exact ⟨_,es',ep',hL,r'⟩) hok I.bare
theorem Inv.call {g':Array GenState} {t':Nat} {d':Drawn} {ch:List Addr} (I:Inv X pins σ H s) (u:Un (frs X.stack) ch H H' s.heap h') (hok:HOk X.prog X.w H' h') (hg:AllBare g')
  (hch:∀ b∈ch,(b∈X.ex\/X.s₀.heap.objs.size<=b)/\b≠X.env.locals/\(∀ x c,X.env.cells.lookup x=some c->c≠b)/\∀ p∈X.pn++pins,p.1≠b) :
  Inv X pins σ H' { s with heap:=h',gens:=g',drawn:=d',toks:=t' }:=by
 obtain ⟨m,⟨o,es,ep,ho,r⟩,_⟩:=id I.loc
 obtain ⟨sl,hL⟩:=u.any ho I.free fun z=>(hch _ z).2.1 rfl
 exact I.step (ch:=ch) hch (fun b o hL hb hc e n=>u.keep b o e n (fun z=>(Uan.mp (I.stkSub b z)).elim hL hb) hc) (fun b o _ _ hc e n=>u.any e n hc) (fun b o hc e n=>u.free b o e n hc) (fun b o hc e=>u.there b o e hc) u.tups u.frzs u.tbls (fun m' hm=>by
  obtain ⟨o',es',ep',ho',r'⟩:=hm
  rw [ho] at ho';cases ho'
  exact ⟨_,es',ep',hL,r'⟩) hok hg
theorem Inv.turned {t':Nat} {it:Addr} (I:Inv X pins σ H s) (k:∀ b o,b≠it->s.heap.get? b=some o->h'.get? b=some o) (hn:H it=none) (hL:it≠X.env.locals)
  (h1:it∈X.ex\/X.s₀.heap.objs.size<=it) (h2:∀ x c,X.env.cells.lookup x=some c->c≠it) (h3:∀ p∈X.pn++pins,p.1≠it):Inv X pins σ H { s with heap:=h',toks:=t' }:=by
 have nit:∀ b u,H b=some u->b≠it:=fun b u e z=>by rw [z,hn] at e;cases e
 refine I.step (g':=s.gens) (d':=s.drawn) (ch:=[it]) (fun b hb=>?_) (fun b o _ _ hc e _=>k b o (fun z=>hc (by simp [z])) e) (fun b o _ _ hc e _=>⟨o.slots,k b o (fun z=>hc (by simp [z])) e⟩) (fun _ _ _ _ n=>n)
  (fun b o hc e=>⟨o,k b o (fun z=>hc (by simp [z])) e⟩) (fun _ _ e=>e) (fun _ _ _ e=>e) (fun b ps e=>⟨#[],by rw [e];simp⟩) (fun m hm=>?_) (fun b u e=>?_) I.bare
 ·have e:b=it:=by simpa using hb
  subst e
  exact ⟨h1,hL,h2,h3⟩
 ·obtain ⟨o,es,ep,ho,r⟩:=hm
  exact ⟨o,es,ep,k _ o (Ne.symm hL) ho,r⟩
 ·refine (I.hok b u e).stay (fun c v hc q=>k c v ?_ q) (fun _ q=>q) fun _ _ q=>q
  rcases hc with z | z
  ·rw [z];exact nit b u e
  ·exact nit c _ z
theorem Inv.tok (I:Inv X pins σ H s) (t:Nat):Inv X pins σ H { s with toks:=t }:=I.un (h':=s.heap) (t':=t) Un.refl I.hok
theorem Inv.kept {t':Nat} (I:Inv X pins σ H s) (k:∀ b u,s.heap.get? b=some u->h'.get? b=some u):Inv X pins σ H { s with heap:=h',toks:=t' }:=I.un (Un.kept k) (I.hok.kept k)
theorem Inv.laid {a:Addr} {o:HO} {t':Nat} (I:Inv X pins σ H s) (k:∀ b u,s.heap.get? b=some u->h'.get? b=some u) (hp:s.heap.objs.size<=a) (new:ObjOk X.prog X.w (upd H a o) h' a o) :
  Inv X pins σ (upd H a o) { s with heap:=h',toks:=t' }:=I.un (Un.laid k hp (I.hok.fresh hp)) (I.hok.laid k hp new)
theorem Inv.write {x e:Addr} {o:HO} {t':Nat} (I:Inv X pins σ H s) (mu:Mut (H x)) (he:e=x\/H e=some (.own x)) (k:∀ b u,b≠e->s.heap.get? b=some u->h'.get? b=some u) (heo:∃ u,h'.get? e=some u)
  (new:ObjOk X.prog X.w (upd H x o) h' x o):Inv X pins σ (upd H x o) { s with heap:=h',toks:=t' }:=I.un (Un.write mu he k heo) (I.hok.write mu he k heo new)
theorem Inv.weak {σ':List (Option V)} (I:Inv X pins σ H s) (hl:σ'.length=σ.length) (w:∀ (i:Nat) v,σ'[i]?=some (some v)->σ[i]?=some (some v)):Inv X pins σ' H s:=
 ⟨I.ok,I.os,I.bare,I.base,let ⟨m,hn,hl'⟩:=I.loc;⟨m,hn,fun i x v e1 e2 e3=>hl' i x v e1 (w i v e2) e3⟩,I.cell,I.free,I.freeC,I.pin,I.hok,hl.trans I.len⟩
theorem Inv.pins_of {pins':List (Addr×Obj)} (I:Inv X pins σ H s) (h:∀ p∈pins',s.heap.get? p.1=some p.2/\H p.1=none/\p.1≠X.env.locals/\p.1∉X.fs/\∀ v,p.2.data≠.cell v):Inv X pins' σ H s:=
 ⟨I.ok,I.os,I.bare,I.base,I.loc,I.cell,I.free,I.freeC,fun p hp=>(Ua0.mp hp).elim (fun z=>I.pin p (Ub8 _ z)) (h p),I.hok,I.len⟩
theorem Zq3 {N:List Str} (hN:N.Nodup) {i j:Nat} {x:Str} (a:N[i]?=some x) (b:N[j]?=some x):i=j:=by
 obtain ⟨h1,e1⟩:=Uas.mp a
 obtain ⟨h2,e2⟩:=Uas.mp b
 exact (List.getElem_inj hN).mp (e1.trans e2.symm)
theorem Zt6 {M:Model} {A:Around} {E:Value->Shared->Prop} {i:Nat} {x:Str} {v:V} {u:Value} {Q:Unit->Shared->Prop} (I:Inv X pins σ H s) (hN:X.N.Nodup) (hi:X.N[i]?=some x) (hx:Loc X.env.scope x) (r:RelV v u)
  (h:∀ s',Inv X pins (σ.set i (some v)) H s'->(∃ a,Heap.SameBut a s.heap s'.heap/\(a=X.env.locals\/X.env.cells.lookup x=some a))->Q () s') (hf:X.fn x=true\/X.env.scope.names.lookup x=some .local:=by first | exact .inl rfl | exact .inr rfl | assumption):wpAny M A (storeName X.env x u) Q E s:=by
 obtain ⟨m,hn,hl⟩:=id I.loc
 have hcls:(X.env.scope.kind == .class || (X.env.scope.kind == .module && X.env.locals != X.env.globals))=false:=by rw [I.ok.kind];rfl
 have hiσ:i < σ.length:=by rw [I.len];exact (Uas.mp hi).1
 have cne:=I.cne
 have tracked:∀ {a:Addr} {h':Heap},(∃ o,s.heap.get? a=some o/\H a=none)->Heap.SameBut a s.heap h'->HOk X.prog X.w H h':=fun {a h'} ha hs b ob e=>by
  obtain ⟨_,_,hfree⟩:=ha
  refine (I.hok b ob e).stay (fun c w' hc q=>(hs.2 c ?_).trans q) (fun _ q=>q) fun _ _ q=>q
  rintro rfl
  rcases hc with rfl | hc
  ·rw [hfree] at e;cases e
  ·rw [hfree] at hc;cases hc
 rcases hx with hk | hk
 ·refine wpAny_storeName_local hk hn (fun h' hn' hs=>?_) hcls
  obtain ⟨oL,_,_,hoL,_⟩:=id hn
  refine h _ ⟨I.ok,I.os,I.bare,⟨fun b o e n hb hx=>?_,fun b o e n hb hx=>?_,I.base.free,fun b o e hx=>?_,I.base.tups,I.base.frzs,I.base.tbls⟩,⟨_,hn',fun j y v' e1 e2 e3=>?_⟩,fun y c e=>?_,I.free,I.freeC,fun p hp=>?_,tracked ⟨oL,hoL,I.free⟩ hs,by simpa using I.len⟩ ⟨_,hs,.inl rfl⟩
  ·exact (hs.2 b (Ua6 (Ubb (Heap.lt_size e) I.ok.above))).trans (I.base.keep b o e n hb hx)
  ·obtain ⟨sl,e1⟩:=I.base.slot b o e n hb hx
   exact ⟨sl,(hs.2 b (Ua6 (Ubb (Heap.lt_size e) I.ok.above))).trans e1⟩
  ·obtain ⟨o',e1⟩:=I.base.there b o e hx
   exact ⟨o',(hs.2 b (Ua6 (Ubb (Heap.lt_size e) I.ok.above))).trans e1⟩
  ·by_cases hj:j=i
   ·subst hj
    rw [hi] at e1;cases e1
    rw [Uc5 hiσ] at e2
    cases e2
    exact ⟨u,r,.inl ⟨hk,by simp⟩⟩
   ·rw [Uda (Ne.symm hj)] at e2
    obtain ⟨u',r',q⟩:=hl j y v' e1 e2 e3
    refine ⟨u',r',?_⟩
    rcases q with ⟨k,e⟩ | ⟨k,c,e,z⟩
    ·refine .inl ⟨k,?_⟩
     have:y≠x:=fun e=>hj (Zq3 hN e1 (e ▸ hi))
     simp [this,e]
    ·exact .inr ⟨k,c,e,z.sameBut hs (cne y c e)⟩
  ·obtain ⟨w',z⟩:=I.cell y c e
   exact ⟨w',z.sameBut hs (cne y c e)⟩
  ·obtain ⟨e,n,ne,nf,d⟩:=I.pin p hp
   exact ⟨(hs.2 p.1 ne).trans e,n,ne,nf,d⟩
 ·have hfn:X.fn x=true:=by
   rcases hf with z | z
   ·exact z
   ·rw [z] at hk;cases hk
  obtain ⟨c,hc⟩:=I.ok.has x (.inl hk)
  obtain ⟨w',z⟩:=I.cell x c hc
  refine wpAny_storeName_cell I.ok.kind hk hc z (fun h' hc' hs=>?_)
  obtain ⟨oc,hoc,hocd⟩:=id z
  refine h { s with heap:=h' } ⟨I.ok,I.os,I.bare,⟨fun b o e n hb hx=>?_,fun b o e n hb hx=>?_,I.base.free,fun b o e hx=>?_,I.base.tups,I.base.frzs,I.base.tbls⟩,⟨m,hn.sameBut hs (Ne.symm (cne x c hc)),fun j y v' e1 e2 e3=>?_⟩,fun y c' e=>?_,I.free,I.freeC,fun p hp=>?_,tracked ⟨oc,hoc,I.freeC x c hc⟩ hs,by simpa using I.len⟩ ⟨c,hs,.inr hc⟩
  ·exact (hs.2 b (Ua6 (Ubb (Heap.lt_size e) (I.ok.cab x c hfn hc)))).trans (I.base.keep b o e n hb hx)
  ·obtain ⟨sl,e1⟩:=I.base.slot b o e n hb hx
   exact ⟨sl,(hs.2 b (Ua6 (Ubb (Heap.lt_size e) (I.ok.cab x c hfn hc)))).trans e1⟩
  ·obtain ⟨o',e1⟩:=I.base.there b o e hx
   exact ⟨o',(hs.2 b (Ua6 (Ubb (Heap.lt_size e) (I.ok.cab x c hfn hc)))).trans e1⟩
  ·by_cases hj:j=i
   ·subst hj
    rw [hi] at e1;cases e1
    rw [Uc5 hiσ] at e2
    cases e2
    exact ⟨u,r,.inr ⟨.inl hk,c,hc,hc'⟩⟩
   ·rw [Uda (Ne.symm hj)] at e2
    obtain ⟨u',r',q⟩:=hl j y v' e1 e2 e3
    refine ⟨u',r',?_⟩
    rcases q with q | ⟨k,c',e,z'⟩
    ·exact .inl q
    ·refine .inr ⟨k,c',e,z'.sameBut hs ?_⟩
     rintro rfl
     exact hj (Zq3 hN e1 (I.ok.inj _ _ _ e hc ▸ hi))
  ·by_cases hcc:c'=c
   ·subst hcc;exact ⟨_,hc'⟩
   ·obtain ⟨w2,z2⟩:=I.cell y c' e
    exact ⟨w2,z2.sameBut hs hcc⟩
  ·obtain ⟨e,n,ne,nf,d⟩:=I.pin p hp
   refine ⟨(hs.2 p.1 ?_).trans e,n,ne,nf,d⟩
   intro q
   rw [q,hoc] at e
   have q':oc=p.2:=Option.some.inj e
   exact d w' (by rw [← q'];exact hocd)
theorem Zf4 {M:Model} {A:Around} {E:Value->Shared->Prop} {i:Nat} {x:Str} {v:V} {u:Value} {Q:Unit->Shared->Prop} (I:Inv X pins σ H s) (hN:X.N.Nodup) (hi:X.N[i]?=some x) (hx:Loc X.env.scope x) (r:RelV v u)
  (h:∀ s',Inv X pins (σ.set i (some v)) H s'->Q () s') (hf:X.fn x=true\/X.env.scope.names.lookup x=some .local:=by first | exact .inl rfl | exact .inr rfl | assumption):wpAny M A (storeName X.env x u) Q E s:=
 Zt6 I hN hi hx r (fun s' I' _=>h s' I') hf
theorem Inv.call' {s':Shared} {ch:List Addr} (I:Inv X pins σ H s) (ho:s'.os=s.os) (u:Un (frs X.stack) ch H H' s.heap s'.heap) (hok:HOk X.prog X.w H' s'.heap) (hg:AllBare s'.gens)
  (hch:∀ b∈ch,(b∈X.ex\/X.s₀.heap.objs.size<=b)/\b≠X.env.locals/\(∀ x c,X.env.cells.lookup x=some c->c≠b)/\∀ p∈X.pn++pins,p.1≠b):Inv X pins σ H' s':=by
 obtain ⟨h',g',d',t',o'⟩:=s'
 have e:o'=s.os:=ho
 subst e
 exact I.call (g':=g') (t':=t') (d':=d') u hok hg hch
end
abbrev XK:=Value->Option Addr->Hp->Prop
abbrev St:=List (Option V)
abbrev VK:=V->Hp->Prop
abbrev TE:=St->Hp->VK->Prop
abbrev TT:=St->Hp->(Bool->Hp->Prop)->Prop
abbrev TA:=St->Hp->(List V->Hp->Prop)->Prop
structure Ends where
 nx:St->Hp->Prop
 rt:VK
 bk:St->Hp->Prop:=fun _ _=>False
 ct:St->Hp->Prop:=fun _ _=>False
abbrev TS:=Ends->St->Hp->Prop
def EP (X:Cx) (pins:List (Addr×Obj)) (σ:St) (Q:VK) (u:Value) (s':Shared):Prop:=∃ v H',Inv X pins σ H' s'/\RelV v u/\Q v H'
def TP (X:Cx) (pins:List (Addr×Obj)) (σ:St) (Q:Bool->Hp->Prop) (b:Bool) (s':Shared):Prop:=∃ H',Inv X pins σ H' s'/\Q b H'
def AP (X:Cx) (pins:List (Addr×Obj)) (σ:St) (Q:List V->Hp->Prop) (us:List Value) (s':Shared):Prop:=∃ vs H',Inv X pins σ H' s'/\Vals vs us/\Q vs H'
def SP (X:Cx) (pins:List (Addr×Obj)) (D:Ends) (f:Flow) (s':Shared):Prop:=
 match f with
 | .next=>∃ σ' H',Inv X pins σ' H' s'/\D.nx σ' H'
 | .brk=>∃ σ' H',Inv X pins σ' H' s'/\D.bk σ' H'
 | .cont=>∃ σ' H',Inv X pins σ' H' s'/\D.ct σ' H'
 | .ret u=>∃ v σ' H',Inv X pins σ' H' s'/\RelV v u/\D.rt v H'
def PE (X:Cx) (e:Expr) (t:TE):Prop:=
 ∀ (pins:List (Addr×Obj)) (s:Shared) (σ:St) (H:Hp) (Q:VK),Inv X pins σ H s->t σ H Q->wpAny (model X.prog X.w) X.A (eval e X.env) (EP X pins σ Q) X.xe s
def PT (X:Cx) (e:Expr) (t:TT):Prop:=
 ∀ (pins:List (Addr×Obj)) (s:Shared) (σ:St) (H:Hp) (Q:Bool->Hp->Prop),Inv X pins σ H s->t σ H Q->wpAny (model X.prog X.w) X.A (isTrue e X.env (eval e X.env)) (TP X pins σ Q) X.xe s
def PW (X:Cx) (e:Expr) (t:TT):Prop:=
 ∀ (whole:Sem Value) (pins:List (Addr×Obj)) (s:Shared) (σ:St) (H:Hp) (Q:Bool->Hp->Prop),Inv X pins σ H s->t σ H Q->wpAny (model X.prog X.w) X.A (isTrue e X.env whole) (TP X pins σ Q) X.xe s
theorem PW.pt {X:Cx} {e:Expr} {t:TT} (h:PW X e t):PT X e t:=h _
def PA (X:Cx) (es:List Expr) (t:TA):Prop:=
 ∀ (pos:Pos) (pins:List (Addr×Obj)) (s:Shared) (σ:St) (H:Hp) (Q:List V->Hp->Prop),Inv X pins σ H s->t σ H Q->wpAny (model X.prog X.w) X.A (spliced (backTo pos (starEach es X.env))) (AP X pins σ Q) X.xe s
def PS (X:Cx) (st:Stmt) (t:TS):Prop:=
 ∀ (pins:List (Addr×Obj)) (s:Shared) (σ:St) (H:Hp) (D:Ends),Inv X pins σ H s->t D σ H->wpAny (model X.prog X.w) X.A (exec st X.env) (SP X pins D) X.xe s
def PSs (X:Cx) (st:List Stmt) (t:TS):Prop:=
 ∀ (pins:List (Addr×Obj)) (s:Shared) (σ:St) (H:Hp) (D:Ends),Inv X pins σ H s->t D σ H->wpAny (model X.prog X.w) X.A (execs st X.env) (SP X pins D) X.xe s
theorem thn {α:Type} {t:Sem α} {Q Q':α->Shared->Prop} {M:Model} {A:Around} {E:Value->Shared->Prop} {s:Shared} (h:wpAny M A t Q E s) (hQ:∀ a s,Q a s->Q' a s):wpAny M A t Q' E s:=wpAny_mono h hQ fun _ _ x=>x
end L2
namespace L2
open PySem PySem.Spec PyProof.Rows
section
variable {X:Cx}
theorem bin {a b:Expr} {ta tb:TE} (ha:PE X a ta) (hb:PE X b tb) {pins:List (Addr×Obj)} {s:Shared} {σ:St} {H:Hp} {R:V->V->Hp->Prop} (I:Inv X pins σ H s) (h:ta σ H fun x H1=>tb σ H1 fun y H2=>R x y H2)
  {α:Type} {Q:α->Shared->Prop} {f:Value->Value->Sem α}
  (hf:∀ v u s2 x y H2,Inv X pins σ H2 s2->RelV x v->RelV y u->R x y H2->wpAny (model X.prog X.w) X.A (f v u) Q X.xe s2) :
  wpAny (model X.prog X.w) X.A (eval a X.env) (fun v s₁=>wpAny (model X.prog X.w) X.A (eval b X.env) (fun u s₂=>wpAny (model X.prog X.w) X.A (f v u) Q X.xe s₂) X.xe s₁) X.xe s:=by
 refine thn (ha pins s σ H _ I h) fun v s1 ⟨x,H1,I1,r1,q1⟩=>?_
 refine thn (hb pins s1 σ H1 _ I1 q1) fun u s2 ⟨y,H2,I2,r2,q2⟩=>?_
 exact hf v u s2 x y H2 I2 r1 r2 q2
def tVar (i:Nat):TE:=fun σ H Q=>∃ v,σ[i]?=some (some v)/\Q v H
def tC (v:V):TE:=fun _ H Q=>Q v H
theorem Zyv {i:Nat} {x:Str} {pos:Pos} (hN:X.N[i]?=some x) (hv:Vis X.env.scope x) (hd:(x == ("__debug__" : Str))=false:=by decide) (hcd:(x == ("__classdict__" : Str))=false:=by decide):PE X (.Name x pos) (tVar i):=by
 intro pins s σ H Q I h
 obtain ⟨v,e,h⟩:=h
 obtain ⟨m,hn,hl⟩:=I.loc
 obtain ⟨u,r,l⟩:=hl i x v hN e hv
 have fin:EP X pins σ Q u s:=⟨v,H,I,r,h⟩
 rcases l with ⟨hk,hm⟩ | ⟨hk,c,hc,hcell⟩
 ·exact wpAny_Name (wpAny_loadName_local I.ok.kind hk hn hm fin) hd
 ·rcases hk with hk | hk
  ·exact wpAny_Name (wpAny_loadName_cell I.ok.kind hk hc hcell fin) hd
  ·exact wpAny_Name (wpAny_loadName_free I.ok.kind hk hc hcell fin hcd) hd
theorem Zah {i j pos}:PE X (.Constant (.int i) j pos) (tC (.int i)):=fun _ _ _ H _ I h=>wpAny_Constant_int ⟨.int i,H,I.tok _,⟨_,rfl⟩,h⟩
theorem Zhs {b j pos}:PE X (.Constant (.bool b) j pos) (tC (.bl b)):=fun _ _ _ H _ I h=>Constant_bool ⟨.bl b,H,I,rfl,h⟩
theorem Zw9 {j pos}:PE X (.Constant .none j pos) (tC .non):=fun _ _ _ H _ I h=>Constant_none ⟨.non,H,I,rfl,h⟩
theorem Zog {x j pos}:PE X (.Constant (.str x) j pos) (tC (.str x)):=fun _ _ _ H _ I h=>Calls.Constant_str ⟨.str x,H,I.tok _,⟨_,rfl⟩,h⟩
def Gl (X:Cx) (x:Str):Prop:=X.env.kindOf x=some .globalImplicit
theorem Zml {E:Value->Shared->Prop} {pins:List (Addr×Obj)} {s:Shared} {σ:St} {H:Hp} {x:Str} {u:Value} {pos:Pos} {Q:Value->Shared->Prop} (I:Inv X pins σ H s) (hg:Gl X x) (hm:X.mg x=some u) (h:Q u s)
  (hd:(x == ("__debug__" : Str))=false:=by decide):wpAny (model X.prog X.w) X.A (eval (.Name x pos) X.env) Q E s:=
 Calls.Name_function_global I.ok.kind hg (Calls.loadGlobal_global (by rw [I.ok.glob];exact I.mod.glob.keeps I.bk) hm h) hd
theorem Zow {E:Value->Shared->Prop} {pins:List (Addr×Obj)} {s:Shared} {σ:St} {H:Hp} {x:Str} {u:Value} {pos:Pos} {Q:Value->Shared->Prop} (I:Inv X pins σ H s) (hg:Gl X x) (hm:X.mg x=none) (hv:bootBuiltins x=some u) (h:Q u s)
  (hn:x≠"__name__":=by decide) (hd:(x == ("__debug__" : Str))=false:=by decide):wpAny (model X.prog X.w) X.A (eval (.Name x pos) X.env) Q E s:=by
 obtain ⟨mb,h1,h2⟩:=I.mod.blt
 exact Calls.Name_function_global I.ok.kind hg (Calls.loadGlobal_builtin (by rw [I.ok.glob];exact I.mod.glob.keeps I.bk) hm (by rw [I.ok.blt];exact h1.keeps I.bk) ((h2 x hn).trans hv) h) hd
theorem Zx6 {x:Str} {v:V} {u:Value} {pos:Pos} (hg:Gl X x) (hm:X.mg x=some u) (r:RelV v u) (hd:(x == ("__debug__" : Str))=false:=by decide):PE X (.Name x pos) (tC v):=
 fun _ _ _ H _ I h=>Zml I hg hm ⟨v,H,I,r,h⟩ hd
theorem Zgs {x:Str} {v:V} {u:Value} {pos:Pos} (hg:Gl X x) (hm:X.mg x=none) (hv:bootBuiltins x=some u) (r:RelV v u) (hn:x≠"__name__":=by decide) (hd:(x == ("__debug__" : Str))=false:=by decide):PE X (.Name x pos) (tC v):=
 fun _ _ _ H _ I h=>Zow I hg hm hv ⟨v,H,I,r,h⟩ hn hd
variable {a b:Expr} {ta tb:TE} {pos:Pos}
def PC (X:Cx) (op:CmpOp) (a b:Expr) (t:TE):Prop:=
 ∀ (pins:List (Addr×Obj)) (s:Shared) (σ:St) (H:Hp) (Q:VK),Inv X pins σ H s->t σ H Q->
  wpAny (model X.prog X.w) X.A (eval a X.env) (fun v s₁=>wpAny (model X.prog X.w) X.A (eval b X.env) (fun u s₂=>wpAny (model X.prog X.w) X.A (compareOp op v u) (EP X pins σ Q) X.xe s₂) X.xe s₁) X.xe s
theorem nobehind (b:Expr) {op:CmpOp} (h:op≠.In) (h2:op≠.NotIn):behindInMarks op b=false:=by
 have e1:(op == CmpOp.In)=false:=by cases op<;>first | rfl | exact absurd rfl h
 have e2:(op == CmpOp.NotIn)=false:=by cases op<;>first | rfl | exact absurd rfl h2
 cases b<;>simp [behindInMarks,e1,e2]
def tIsN (ta:TE):TE:=fun σ H Q=>ta σ H fun x H1=>Q (.bl (decide (x=.non))) H1
theorem RelV.none_iff {x:V} {v:Value} (r:RelV x v):(v == Value.none)=decide (x=.non):=by
 cases x with
 | non=>cases r;rfl
 | bl _=>cases r;rfl
 | int _=>obtain ⟨t,rfl⟩:=r;rfl
 | str _=>obtain ⟨t,rfl⟩:=r;rfl
 | byt _=>obtain ⟨t,rfl⟩:=r;rfl
 | flt _=>obtain ⟨t,rfl⟩:=r;rfl
 | ref _=>cases r;rfl
 | ty _=>cases r;rfl
theorem Zy6 {j pos'} (ha:PE X a ta):PC X .Is a (.Constant .none j pos') (tIsN ta):=by
 intro pins s σ H Q I h
 refine thn (ha pins s σ H _ I h) fun v s1 ⟨x,H1,I1,r1,q1⟩=>?_
 exact Constant_none (is_none_gen ⟨.bl _,H1,I1,by rw [r1.none_iff];rfl,q1⟩)
def tB (t:TE):TT:=fun σ H Q=>t σ H fun x H1=>∃ c,x=.bl c/\Q c H1
theorem Zxb {op:CmpOp} {t:TE} (h:PC X op a b t) (h1:behindInMarks op b=false:=by first | exact nobehind _ (by decide) (by decide) | rfl):PT X (.Compare a [op] [b] pos) (tB t):=by
 intro pins s σ H Q I hw
 refine wpAny_isTrue_Compare1 (thn (h pins s σ H _ I hw) fun v s1 h1=>thn h1 fun u s2 h2=>thn h2 fun c s3 ⟨x,H1,I1,r1,q1⟩=>?_) h1
 obtain ⟨d,rfl,q⟩:=q1
 cases r1
 exact wpAny_truthy_bool ⟨H1,I1,q⟩
variable {tA tB':TT} {rest:List Expr}
def tAnd (t u:TT):TT:=fun σ H Q=>t σ H fun c H1=>if c=true then u σ H1 Q else Q false H1
def tOr (t u:TT):TT:=fun σ H Q=>t σ H fun c H1=>if c=true then Q true H1 else u σ H1 Q
def tNot (t:TT):TT:=fun σ H Q=>t σ H fun c H1=>Q (!c) H1
theorem Zm1 (ha:PT X a tA):PW X (.BoolOp .And [a] pos) tA:=by
 intro wh pins s σ H Q I h
 refine isTrue_and (thn (ha pins s σ H Q I h) fun c s1 e=>?_)
 cases c with
 | true=>exact isTrue_and_nil e
 | false=>exact e
theorem Zfd (ha:PT X a tA):PW X (.BoolOp .Or [a] pos) tA:=by
 intro wh pins s σ H Q I h
 refine isTrue_or (thn (ha pins s σ H Q I h) fun c s1 e=>?_)
 cases c with
 | false=>exact isTrue_or_nil e
 | true=>exact e
theorem Zrk (ha:PT X a tA) (hb:PW X (.BoolOp .And (b :: rest) pos) tB'):PW X (.BoolOp .And (a :: b :: rest) pos) (tAnd tA tB'):=by
 intro wh pins s σ H Q I h
 refine isTrue_and (thn (ha pins s σ H _ I h) fun c s1 ⟨H1,I1,q1⟩=>?_)
 cases c with
 | true=>exact hb wh pins s1 σ H1 Q I1 q1
 | false=>exact ⟨H1,I1,q1⟩
theorem Zhq (ha:PT X a tA) (hb:PW X (.BoolOp .Or (b :: rest) pos) tB'):PW X (.BoolOp .Or (a :: b :: rest) pos) (tOr tA tB'):=by
 intro wh pins s σ H Q I h
 refine isTrue_or (thn (ha pins s σ H _ I h) fun c s1 ⟨H1,I1,q1⟩=>?_)
 cases c with
 | true=>exact ⟨H1,I1,q1⟩
 | false=>exact hb wh pins s1 σ H1 Q I1 q1
theorem Zd6 (ha:PT X a tA):PT X (.UnaryOp .Not a pos) (tNot tA):=by
 intro pins s σ H Q I h
 exact isTrue_not (ha pins s σ H (fun c H1=>Q (!c) H1) I h)
def tAndV (ta tb:TE):TE:=fun σ H Q=>ta σ H fun x H1=>∃ c,x=.bl c/\if c=true then tb σ H1 Q else Q (.bl false) H1
def tNotV (ta:TE):TE:=fun σ H Q=>ta σ H fun x H1=>∃ c,x=.bl c/\Q (.bl (!c)) H1
theorem Ztt {op} {t:TE} (h:PE X a t):PE X (.BoolOp op [a] pos) t:=fun pins s σ H Q I hw=>BoolOp_one (h pins s σ H Q I hw)
theorem Zud (ha:PE X a ta) (hb:PE X (.BoolOp .And (b :: rest) pos) tb):PE X (.BoolOp .And (a :: b :: rest) pos) (tAndV ta tb):=by
 intro pins s σ H Q I h
 refine BoolOp_and (thn (ha pins s σ H _ I h) fun v s1 ⟨x,H1,I1,r1,q1⟩=>?_)
 obtain ⟨c,rfl,q1⟩:=q1
 cases r1
 refine wpAny_truthy_bool ?_
 cases c with
 | true=>exact hb pins s1 σ H1 Q I1 q1
 | false=>exact ⟨.bl false,H1,I1,rfl,q1⟩
theorem Ztm (ha:PE X a ta):PE X (.UnaryOp .Not a pos) (tNotV ta):=by
 intro pins s σ H Q I h
 refine UnaryOp_ (thn (ha pins s σ H _ I h) fun v s1 ⟨x,H1,I1,r1,q1⟩=>?_)
 obtain ⟨c,rfl,q1⟩:=q1
 cases r1
 exact not_of (wpAny_truthy_bool ⟨.bl (!c),H1,I1,rfl,q1⟩)
end
end L2
namespace L2
open PySem PySem.Spec PyProof.Rows
def SqL (K:PySem.W.Frag) (H:Hp) (a:Addr) (xs:List V):Prop:=
 Rd H a (.lst xs)\/
  ∃ (o:Obj) (its:Array Value) (n:Nat),K.lookup a=some o/\o.cls=.type "list"/\o.dict=none/\o.data=.seq its n/\its.size<=sizeLine/\Vals xs its.toList
def SqT (K:PySem.W.Frag) (H:Hp) (a:Addr) (xs:List V):Prop:=
 Rd H a (.tup xs)\/
  ∃ (o:Obj) (its:Array Value) (n:Nat),K.lookup a=some o/\o.cls=.type "tuple"/\o.data=.seq its n/\its.size<=sizeLine/\Vals xs its.toList
def absV:Value->Option V
 | .none=>some .non
 | .bool b=>some (.bl b)
 | .int i _=>some (.int i)
 | .str x _=>some (.str x)
 | .bytes b _=>some (.byt b)
 | .float b _=>some (.flt b)
 | .ref a=>some (.ref a)
 | .type n=>some (.ty n)
 | _=>none
theorem RelV.abs {x:V} {u:Value} (r:RelV x u):absV u=some x:=by
 cases x with
 | non=>cases r;rfl
 | bl _=>cases r;rfl
 | int _=>obtain ⟨t,rfl⟩:=r;rfl
 | str _=>obtain ⟨t,rfl⟩:=r;rfl
 | byt _=>obtain ⟨t,rfl⟩:=r;rfl
 | flt _=>obtain ⟨t,rfl⟩:=r;rfl
 | ref _=>cases r;rfl
 | ty _=>cases r;rfl
theorem RelV.inj {x y:V} {u:Value} (r:RelV x u) (q:RelV y u):x=y:=Option.some.inj (r.abs.symm.trans q.abs)
theorem Vals.inj:∀ {xs ys:List V} {us:List Value},Vals xs us->Vals ys us->xs=ys
 | _,_,_,.nil,.nil=>rfl
 | _,_,_,.cons r t,.cons r' t'=>by rw [r.inj r',Vals.inj t t']
section
variable {X:Cx} {pins:List (Addr×Obj)} {σ:St} {H:Hp} {s:Shared} {a:Addr} {xs ys:List V}
theorem SqL.of {K:PySem.W.Frag} (h:H a=some (.lst xs)):SqL K H a xs:=.inl (.inl h)
theorem SqT.of {K:PySem.W.Frag} (h:H a=some (.tup xs)):SqT K H a xs:=.inl (.inl h)
theorem Inv.list (I:Inv X pins σ H s) (h:SqL X.K H a xs):∃ its:List Value,Vals xs its/\PlainL s.heap a its.toArray/\xs.length<=sizeLine:=by
 rcases h with h | ⟨o,its,n,hk,hc,hd,hs,hz,r⟩
 ·obtain ⟨z,its,n,r,e⟩:=h.ok I.hok
  exact ⟨its,r,⟨_,n,e,rfl,rfl,rfl⟩,z⟩
 ·refine ⟨its.toList,r,⟨o,n,I.kIn a o hk,hc,hd,by simpa using hs⟩,?_⟩
  have e:=r.length
  simp only [Ubc] at e
  omega
theorem Inv.tuple (I:Inv X pins σ H s) (h:SqT X.K H a xs):∃ its:List Value,Vals xs its/\IsTup s.heap a its.toArray/\xs.length<=sizeLine:=by
 rcases h with h | ⟨o,its,n,hk,hc,hs,hz,r⟩
 ·obtain ⟨z,its,r,p⟩:=h.ok I.hok
  exact ⟨its,r,p,z⟩
 ·refine ⟨its.toList,r,⟨o,I.kIn a o hk,hc,n,by simpa using hs⟩,?_⟩
  have e:=r.length
  simp only [Ubc] at e
  omega
theorem Inv.list_inj (I:Inv X pins σ H s) (h:SqL X.K H a xs) (h':SqL X.K H a ys):xs=ys:=by
 obtain ⟨its,r,⟨o,n,e,_,_,d⟩,_⟩:=I.list h
 obtain ⟨its',r',⟨o',n',e',_,_,d'⟩,_⟩:=I.list h'
 rw [e] at e';cases e'
 rw [d] at d'
 injection d' with d1 _
 have:its=its':=by simpa using Ube Array.toList d1
 subst this
 exact r.inj r'
theorem Inv.tuple_inj (I:Inv X pins σ H s) (h:SqT X.K H a xs) (h':SqT X.K H a ys):xs=ys:=by
 obtain ⟨its,r,⟨o,e,_,n,d⟩,_⟩:=I.tuple h
 obtain ⟨its',r',⟨o',e',_,n',d'⟩,_⟩:=I.tuple h'
 rw [e] at e';cases e'
 rw [d] at d'
 injection d' with d1 _
 have:its=its':=by simpa using Ube Array.toList d1
 subst this
 exact r.inj r'
end
abbrev Cx.wish (X:Cx) (E:Value->Shared->Prop):Cx:={ X with xe:=E }
abbrev Cx.nox (X:Cx):Cx:=X.wish fun _ _=>False
theorem Cx.Ok.wish {X:Cx} (ok:X.Ok) (E:Value->Shared->Prop):(X.wish E).Ok:=
 ⟨ok.mod,ok.kind,ok.glob,ok.blt,ok.above,ok.inj,ok.has,ok.cab,ok.hd,ok.frames,ok.stk,ok.exf,ok.bs,ok.bsz,ok.noex,ok.exfs,ok.funs,ok.frf⟩
theorem Cx.Ok.unwish {X:Cx} {E:Value->Shared->Prop} (ok:(X.wish E).Ok):X.Ok:=
 ⟨ok.mod,ok.kind,ok.glob,ok.blt,ok.above,ok.inj,ok.has,ok.cab,ok.hd,ok.frames,ok.stk,ok.exf,ok.bs,ok.bsz,ok.noex,ok.exfs,ok.funs,ok.frf⟩
section
variable {X:Cx} {pins:List (Addr×Obj)} {σ:St} {H:Hp} {s:Shared} {E:Value->Shared->Prop}
theorem Inv.wish (I:Inv X pins σ H s) (E:Value->Shared->Prop):Inv (X.wish E) pins σ H s:=⟨I.ok.wish E,I.os,I.bare,I.base,I.loc,I.cell,I.free,I.freeC,I.pin,I.hok,I.len⟩
theorem Inv.unwish (I:Inv (X.wish E) pins σ H s):Inv X pins σ H s:=⟨I.ok.unwish,I.os,I.bare,I.base,I.loc,I.cell,I.free,I.freeC,I.pin,I.hok,I.len⟩
theorem SP.unwish {D:Ends} {f:Flow} {s':Shared} (h:SP (X.wish E) pins D f s'):SP X pins D f s':=by
 cases f with
 | next=>obtain ⟨σ',H',I,q⟩:=h;exact ⟨σ',H',I.unwish,q⟩
 | brk=>obtain ⟨σ',H',I,q⟩:=h;exact ⟨σ',H',I.unwish,q⟩
 | cont=>obtain ⟨σ',H',I,q⟩:=h;exact ⟨σ',H',I.unwish,q⟩
 | ret u=>obtain ⟨v,σ',H',I,r,q⟩:=h;exact ⟨v,σ',H',I.unwish,r,q⟩
theorem PSs.nox {st:List Stmt} {t:TS} (h:PSs X.nox st t):PSs X st t:=fun pins s σ H D I hw=>
 wpAny_mono (h pins s σ H D (I.wish _) hw) (fun _ _ q=>q.unwish) fun _ _ z=>False.elim z
end
section
variable {X:Cx} {st:Stmt} {rest:List Stmt} {t u:TS} {e:Expr} {te:TE} {pos:Pos}
def tNext:TS:=fun D σ H=>D.nx σ H
def tSeq (t u:TS):TS:=fun D σ H=>t { D with nx:=u D } σ H
theorem Zaz:PSs X [] tNext:=fun _ _ σ H _ I h=>wpAny_execs_nil ⟨σ,H,I,h⟩
theorem Zac (h1:PS X st t) (h2:PSs X rest u):PSs X (st :: rest) (tSeq t u):=by
 intro pins s σ H D I h
 refine wpAny_execs_cons (thn (h1 pins s σ H { D with nx:=u D } I h) fun f s1 q=>?_)
 cases f with
 | next=>
  obtain ⟨σ',H',I',q⟩:=q
  exact h2 pins s1 σ' H' D I' q
 | ret v=>exact q
 | brk=>exact q
 | cont=>exact q
theorem Zaf (h1:PS X st t):PSs X [st] t:=by
 intro pins s σ H D I h
 refine wpAny_execs_cons (thn (h1 pins s σ H D I h) fun f s1 q=>?_)
 cases f with
 | next=>exact wpAny_execs_nil q
 | ret v=>exact q
 | brk=>exact q
 | cont=>exact q
theorem Inv.quiet {pins:List (Addr×Obj)} {σ:St} {H:Hp} {s:Shared} (I:Inv X pins σ H s):interactive X.env=false:=by simp [interactive,I.ok.kind]
def tDrop (te:TE):TS:=fun D σ H=>te σ H fun _ H1=>D.nx σ H1
theorem Zbn (he:PE X e te) (hs:swapsWith e none pos.line X.env=pure false:=by rfl):PS X (.Expr e pos) (tDrop te):=by
 intro pins s σ H D I h
 exact wpAny_Expr_any (thn (he pins s σ H _ I h) fun v s1 ⟨x,H1,I1,r1,q1⟩=>⟨σ,H1,I1,q1⟩) I.quiet hs
def tRet (te:TE):TS:=fun D σ H=>te σ H D.rt
theorem Zap (he:PE X e te):PS X (.Return (some e) pos) (tRet te):=by
 intro pins s σ H D I h
 exact wpAny_Return_some (thn (he pins s σ H _ I h) fun v s1 ⟨x,H1,I1,r1,q1⟩=>⟨x,σ,H1,I1,r1,q1⟩)
def tIfS (c:TT) (t u:TS):TS:=fun D σ H=>c σ H fun b H1=>if b=true then t D σ H1 else u D σ H1
theorem Zbw {c:Expr} {a b:List Stmt} {tc:TT} (hc:PT X c tc) (ha:PSs X a t) (hb:PSs X b u):PS X (.If c a b pos) (tIfS tc t u):=by
 intro pins s σ H D I h
 refine wpAny_If (thn (hc pins s σ H _ I h) fun d s1 ⟨H1,I1,q1⟩=>?_)
 cases d with
 | true=>exact ha pins s1 σ H1 D I1 q1
 | false=>exact hb pins s1 σ H1 D I1 q1
def tNever:TS:=fun _ _ _=>False
theorem Zv2:PS X st tNever:=fun _ _ _ _ _ _ h=>h.elim
end
abbrev TG:=V->St->Hp->(St->Hp->Prop)->Prop
abbrev TGs:=List V->St->Hp->(St->Hp->Prop)->Prop
def PG (X:Cx) (target:Expr) (t:TG):Prop:=
 ∀ (pins:List (Addr×Obj)) (s:Shared) (σ:St) (H:Hp) (v:V) (u:Value) (Q:St->Hp->Prop),Inv X pins σ H s->RelV v u->t v σ H Q->
  wpAny (model X.prog X.w) X.A (assign target X.env u) (fun _ s'=>∃ σ' H',Inv X pins σ' H' s'/\Q σ' H') X.xe s
def PGs (X:Cx) (ts:List Expr) (t:TGs):Prop:=
 ∀ (pins:List (Addr×Obj)) (s:Shared) (σ:St) (H:Hp) (vs:List V) (us:List Value) (Q:St->Hp->Prop),Inv X pins σ H s->Vals vs us->t vs σ H Q->
  wpAny (model X.prog X.w) X.A (assignInOrder ((assignEach ts X.env).map (·.2)) us) (fun _ s'=>∃ σ' H',Inv X pins σ' H' s'/\Q σ' H') X.xe s
abbrev TSet:=V->V->V->Hp->(Hp->Prop)->Prop
def PSet (X:Cx) (t:TSet):Prop:=
 ∀ (pins:List (Addr×Obj)) (s:Shared) (σ:St) (H:Hp) (o i v:V) (ov iv u:Value) (Q:Hp->Prop),Inv X pins σ H s->RelV o ov->RelV i iv->RelV v u->t o i v H Q->
  wpAny (model X.prog X.w) X.A (setItem ov iv u) (fun _ s'=>∃ H',Inv X pins σ H' s'/\Q H') X.xe s
abbrev TIp:=V->V->Hp->VK->Prop
def PIp (X:Cx) (op:Operator) (t:TIp):Prop:=
 ∀ (pins:List (Addr×Obj)) (s:Shared) (σ:St) (H:Hp) (x y:V) (v u:Value) (Q:VK),Inv X pins σ H s->RelV x v->RelV y u->t x y H Q->
  wpAny (model X.prog X.w) X.A (inplaceOp op v u) (EP X pins σ Q) X.xe s
section
variable {X:Cx} {pos:Pos}
def gName (i:Nat):TG:=fun v σ H Q=>Q (σ.set i (some v)) H
theorem Zan {i:Nat} {x:Str} (hN:X.N.Nodup) (hi:X.N[i]?=some x) (hx:Loc X.env.scope x) (hf:X.fn x=true\/X.env.scope.names.lookup x=some .local:=by first | exact .inl rfl | exact .inr rfl | assumption):PG X (.Name x pos) (gName i):=by
 intro pins s σ H v u Q I r h
 exact wpAny_assign_Name (Zf4 I hN hi hx r (fun s' I'=>⟨_,H,I',h⟩) hf)
def gNil:TGs:=fun vs σ H Q=>vs=[]/\Q σ H
def gCons (t:TG) (u:TGs):TGs:=fun vs σ H Q=>∃ v r,vs=v :: r/\t v σ H fun σ' H'=>u r σ' H' Q
theorem Zfy:PGs X [] gNil:=by
 intro pins s σ H vs us Q I r h
 obtain ⟨e,h⟩:=h
 subst e
 cases r
 exact assignInOrder_nil ⟨σ,H,I,h⟩
theorem Zbc {e:Expr} {es:List Expr} {t:TG} {u:TGs} (h1:PG X e t) (h2:PGs X es u)
  (hs:(assignEach (e :: es) X.env).map (·.2)=assign e X.env :: (assignEach es X.env).map (·.2):=by rfl):PGs X (e :: es) (gCons t u):=by
 intro pins s σ H vs us Q I r h
 obtain ⟨v,vr,e1,h⟩:=h
 subst e1
 cases r with
 | cons r rr=>
  rw [hs]
  refine assignInOrder_cons (thn (h1 pins s σ H _ _ _ I r h) fun _ s1 ⟨σ1,H1,I1,q1⟩=>?_)
  exact h2 pins s1 σ1 H1 _ _ Q I1 rr q1
def gTup (K:PySem.W.Frag) (n:Nat) (t:TGs):TG:=fun v σ H Q=>∃ a xs,v=.ref a/\SqT K H a xs/\xs.length=n/\t xs σ H Q
theorem Zw6 {es:List Expr} {k:Nat} {t:TGs} {n:Nat} (hc:X.calm=true) (h:PGs X es t)
  (hn:(assignEach es X.env).length=n:=by rfl) (hst:(assignEach es X.env).findIdx? (·.1)=none:=by rfl):PG X (.Tuple es k pos) (gTup X.K n t):=by
 intro pins s σ H v u Q I r hw
 obtain ⟨a,xs,e1,hq,hl,hw⟩:=hw
 subst e1
 cases r
 obtain ⟨its,rv,ht,hz⟩:=I.tuple hq
 refine assign_Tuple_tuple (I.ok.hd hc) ht (by simp [hn,← hl,rv.length]) hst fun h' hx=>?_
 have I1:Inv X pins σ H { s with heap:=h' }:=I.kept (t':=s.toks) fun b o e=>hx b o (Ua6 (Heap.lt_size e)) e
 exact h pins _ σ H xs _ Q I1 (by simpa using rv) hw
def gSub (to ti:TE) (t:TSet):TG:=fun v σ H Q=>to σ H fun o H1=>ti σ H1 fun i H2=>t o i v H2 fun H3=>Q σ H3
theorem Zx {o i:Expr} {to ti:TE} {t:TSet} (ho:PE X o to) (hi:PE X i ti) (hs:PSet X t)
  (ha:∀ v,assign (.Subscript o i pos) X.env v=(do
   let ov ← holding [v] (eval o X.env)
   let iv ← holding [v,ov] (eval i X.env)
   standAt pos
   holding [v,ov,iv] (setItem ov iv v)
   release [v,ov,iv] []):=by intro _;rfl):PG X (.Subscript o i pos) (gSub to ti t):=by
 intro pins s σ H v u Q I r h
 rw [ha]
 refine wpAny_bind (wpAny_holding (thn (ho pins s σ H _ I h) fun ov s1 ⟨x,H1,I1,r1,q1⟩=>?_))
 refine wpAny_bind (wpAny_holding (thn (hi pins s1 σ H1 _ I1 q1) fun iv s2 ⟨y,H2,I2,r2,q2⟩=>?_))
 refine wpAny_bind (wpAny_standAt (wpAny_bind (wpAny_holding (thn (hs pins s2 σ H2 x y v ov iv u _ I2 r1 r2 r q2) fun _ s3 ⟨H3,I3,q3⟩=>?_))))
 exact wpAny_release ⟨σ,H3,I3,q3⟩
def tAsg (te:TE) (g:TG):TS:=fun D σ H=>te σ H fun x H1=>g x σ H1 D.nx
theorem Zxj {tg e:Expr} {te:TE} {g:TG} (he:PE X e te) (hg:PG X tg g) (hs:swapsWithSole [tg] e pos.line X.env=pure false:=by rfl) (hw:swappedStores [tg] e X.env=pure none:=by rfl)
  (h1:(assignEach [tg] X.env).map (·.2)=[assign tg X.env]:=by rfl):PS X (.Assign [tg] e pos) (tAsg te g):=by
 intro pins s σ H D I h
 refine wpAny_Assign_stores (thn (he pins s σ H _ I h) fun v s1 ⟨x,H1,I1,r1,q1⟩=>?_) hs hw
 rw [h1]
 exact thn (hg pins s1 σ H1 x v _ I1 r1 q1) fun _ s2 q=>q
theorem Zzl {i:Nat} {x:Str} {e:Expr} {te:TE} {pos':Pos} (hN:X.N.Nodup) (hi:X.N[i]?=some x) (hx:Loc X.env.scope x) (he:PE X e te) (hs:swapsWith e (some (.Name x pos')) pos.line X.env=pure false:=by rfl) (hf:X.fn x=true\/X.env.scope.names.lookup x=some .local:=by first | exact .inl rfl | exact .inr rfl | assumption) :
  PS X (.Assign [.Name x pos'] e pos) (tAsg te (gName i)):=by
 intro pins s σ H D I h
 refine wpAny_Assign_Name (thn (he pins s σ H _ I h) fun v s1 ⟨y,H1,I1,r1,q1⟩=>?_) hs
 exact Zf4 I1 hN hi hx r1 (fun s2 I2=>⟨_,H1,I2,q1⟩) hf
def tPar (i j:Nat) (ta:TA):TS:=fun D σ H=>ta σ H fun vs H1=>∃ v w,vs=[v,w]/\D.nx ((σ.set i (some v)).set j (some w)) H1
theorem Zy1 {i j:Nat} {x y:Str} {a b:Expr} {ta:TA} {px py pt:Pos} {kt k2 pt2} (hc:X.calm=true) (hN:X.N.Nodup) (hi:X.N[i]?=some x) (hj:X.N[j]?=some y) (hij:i≠j)
  (hx:X.env.scope.names.lookup x=some .local) (hy:X.env.scope.names.lookup y=some .local) (ha:PA X [a,b] ta)
  (hw:swappedStores [.Tuple [.Name x px,.Name y py] kt pt] (.Tuple [a,b] k2 pt2) X.env=pure (some [x,y]))
  (hs:swapsWithSole [.Tuple [.Name x px,.Name y py] kt pt] (.Tuple [a,b] k2 pt2) pos.line X.env=pure false:=by rfl) :
  PS X (.Assign [.Tuple [.Name x px,.Name y py] kt pt] (.Tuple [a,b] k2 pt2) pos) (tPar i j ta):=by
 intro pins s σ H D I h
 rw [exec_Assign_arm]
 refine wpAny_bind (wpAny_standAt ?_)
 rw [hs]
 refine wpAny_bind (wpAny_pure ?_)
 rw [Uad (by decide)]
 refine wpAny_bind (Tuple_ (thn (ha _ pins s σ H _ I h) fun us s1 ⟨vs,H1,I1,r1,q1⟩=>?_))
 obtain ⟨v,w,e1,q1⟩:=q1
 subst e1
 obtain ⟨u1,u2,rfl,rv,rw'⟩:∃ u1 u2,us=[u1,u2]/\RelV v u1/\RelV w u2:=by
  cases r1 with
  | cons p q=>
   cases q with
   | cons p' q'=>
    cases q'
    exact ⟨_,_,rfl,p,p'⟩
 refine wpAny_newObj_type ?_ (by show 2<=sizeLine;decide)
 have I2:Inv X pins σ H1 { s1 with heap:=s1.heap.push { cls:=.type "tuple",data:=.seq [u1,u2].toArray } }:=I1.kept (t':=s1.toks) fun b o e=>Heap.get?_push_of_some _ e
 rw [hw]
 refine wpAny_bind (wpAny_pure ?_)
 show wpAny (model X.prog X.w) X.A (do rule "assign.swapped-stores";let items ← unpackItems (.ref s1.heap.objs.size) 2 none;assignInOrder [fun v=>bindName X.env y v,fun v=>bindName X.env x v] items.reverse;pure Flow.next) _ _ _
 refine wpAny_bind (wpAny_rule (wpAny_bind (unpackItems_tuple (items:=#[u1,u2]) (I.ok.hd hc) (IsTup.new s1.heap _) fun h' hx'=>?_)))
 have I3:=I2.kept (h':=h') (t':=s1.toks) fun b o e=>hx' b o (Ua6 (Heap.lt_size e)) e
 show wpAny _ _ (assignInOrder [fun v=>bindName X.env y v,fun v=>bindName X.env x v] [u2,u1] >>= fun _=>pure Flow.next) _ _ _
 refine wpAny_bind (assignInOrder_cons (wpAny_bindName (Zf4 I3 hN hj (.inl hy) rw' (fun s2 I4=>?_) (.inr hy))))
 refine assignInOrder_cons (wpAny_bindName (Zf4 I4 hN hi (.inl hx) rv (fun s3 I5=>assignInOrder_nil (wpAny_pure ?_)) (.inr hx)))
 rw [List.set_comm _ _ (Ne.symm hij)] at I5
 exact ⟨_,H1,I5,q1⟩
def tAug (i:Nat) (te:TE) (ti:TIp):TS:=fun D σ H=>∃ x,σ[i]?=some (some x)/\te σ H fun y H1=>ti x y H1 fun z H2=>D.nx (σ.set i (some z)) H2
theorem Ztj {i:Nat} {x:Str} {e:Expr} {te:TE} {op:Operator} {ti:TIp} {pos':Pos} (hN:X.N.Nodup) (hi:X.N[i]?=some x) (hx:Loc X.env.scope x) (he:PE X e te) (ho:PIp X op ti) (hf:X.fn x=true\/X.env.scope.names.lookup x=some .local:=by first | exact .inl rfl | exact .inr rfl | assumption) :
  PS X (.AugAssign (.Name x pos') op e pos) (tAug i te ti):=by
 intro pins s σ H D I h
 obtain ⟨v,e1,h⟩:=h
 obtain ⟨m,hn,hl⟩:=I.loc
 have vis:Vis X.env.scope x:=by rcases hx with k | k;exact .inl k;exact .inr (.inl k)
 obtain ⟨u,r,l⟩:=hl i x v hi e1 vis
 refine wpAny_AugAssign_Name ?_
 have go:wpAny (model X.prog X.w) X.A (eval e X.env) (fun w s₂=>wpAny (model X.prog X.w) X.A (inplaceOp op u w) (fun r s₃=>wpAny (model X.prog X.w) X.A (storeName X.env x r) (fun _=>SP X pins D .next) X.xe s₃) X.xe s₂) X.xe s:=by
  refine thn (he pins s σ H _ I h) fun w s1 ⟨y,H1,I1,r1,q1⟩=>?_
  refine thn (ho pins s1 σ H1 v y u w _ I1 r r1 q1) fun z s2 ⟨zv,H2,I2,r2,q2⟩=>?_
  exact Zf4 I2 hN hi hx r2 (fun s3 I3=>⟨_,H2,I3,q2⟩) hf
 rcases l with ⟨hk,hm⟩ | ⟨hk,c,hc,hcell⟩
 ·exact wpAny_loadName_local I.ok.kind hk hn hm go
 ·rcases hk with hk | hk
  ·exact wpAny_loadName_cell I.ok.kind hk hc hcell go
  ·rcases hx with k | k
   ·have:X.env.scope.names.lookup x=some .free:=hk
    rw [k] at this;cases this
   ·have:X.env.scope.names.lookup x=some .free:=hk
    rw [k] at this;cases this
def ipI (f:Int->Int->Int):TIp:=fun x y H Q=>∃ i j,x=.int i/\y=.int j/\Q (.int (f i j)) H
theorem Zts:PIp X .Add (ipI fun i j=>i + j):=by
 intro pins s σ H x y v u Q I r1 r2 h
 obtain ⟨i,j,e1,e2,q⟩:=h
 subst e1;subst e2
 obtain ⟨t,rfl⟩:=r1
 obtain ⟨t',rfl⟩:=r2
 exact iadd_int ⟨.int _,H,I.tok _,⟨_,rfl⟩,q⟩
end
section
variable {X:Cx} {pos:Pos}
def tWhile (c:TT) (tb:TS):TS:=fun D σ H=>∃ W:Nat->St->Hp->Prop,(∃ m,W m σ H)/\∀ m σ H,W m σ H->
 c σ H fun b H1=>if b=true then ∃ N:St->Hp->Prop,(∀ σ' H',N σ' H'->∃ m',m' < m/\W m' σ' H')/\tb { D with nx:=N,ct:=N,bk:=D.nx } σ H1 else D.nx σ H1
theorem Zm5 {c:Expr} {body:List Stmt} {tc:TT} {tb:TS} (hp:PassesOwn (model X.prog X.w) X.A X.env X.xe) (hc:PT X c tc) (hb:PSs X body tb):PS X (.While c body [] pos) (tWhile tc tb):=by
 intro pins s σ H D I h
 obtain ⟨W,⟨m0,w0⟩,turn⟩:=h
 refine wpAny_While (codeAny_whileLoop (fun n s'=>∃ σ' H',Inv X pins σ' H' s'/\W n σ' H') ?_ m0 ⟨σ,H,I,w0⟩)
 rintro n s1 ⟨σ1,H1,I1,w1⟩
 refine wpAny_passesOwn hp (thn (hc pins s1 σ1 H1 _ I1 (turn n σ1 H1 w1)) fun b s2 ⟨H2,I2,q2⟩=>?_)
 cases b with
 | true=>
  obtain ⟨N,hN,q2⟩:=q2
  rw [Uae rfl]
  refine wpAny_passesOwn hp (thn (hb pins s2 σ1 H2 _ I2 q2) fun f s3 q3=>?_)
  cases f with
  | next=>
   obtain ⟨σ3,H3,I3,n3⟩:=q3
   obtain ⟨m',hm,w3⟩:=hN σ3 H3 n3
   exact ⟨m',hm,σ3,H3,I3,w3⟩
  | cont=>
   obtain ⟨σ3,H3,I3,n3⟩:=q3
   obtain ⟨m',hm,w3⟩:=hN σ3 H3 n3
   exact ⟨m',hm,σ3,H3,I3,w3⟩
  | brk=>exact q3
  | ret v=>exact q3
 | false=>
  rw [Uad Uar]
  exact wpAny_execs_nil ⟨σ1,H2,I2,q2⟩
end
structure It where
 go:Nat->Hp->Prop
 yld:Nat->Hp->V->Hp->Prop
 stop:Nat->Hp->Prop
def FpOk (X:Cx) (pins:List (Addr×Obj)) (H:Hp) (b:Addr):Prop:=
 H b=none/\b≠X.env.locals/\b∉X.fs/\(b∈X.ex\/X.s₀.heap.objs.size<=b)/\(∀ x c,X.env.cells.lookup x=some c->c≠b)/\∀ p∈X.pn++pins,p.1≠b
theorem Inv.fpOk {X:Cx} {pins:List (Addr×Obj)} {σ:St} {H H':Hp} {s:Shared} {b:Addr} (I:Inv X pins σ H s) (hb:s.heap.objs.size<=b) (hn:H' b=none):FpOk X pins H' b:=by
 refine ⟨hn,Udt (Ubb I.lt hb),I.nofs hb,.inr (Ual I.sz hb),fun x c e z=>?_,fun p hp z=>?_⟩
 ·obtain ⟨v,q⟩:=I.cell x c e
  exact absurd (Ubb q.lt (by rw [z];exact hb)) (Ub2 _)
 ·exact absurd (Ubb (Heap.lt_size (I.pin p hp).1) (by rw [z];exact hb)) (Ub2 _)
structure Turn (P:Program) (w:World) (K:PySem.W.Frag) (tg:Expr) (J:It) (fp:List Addr) (it:Addr) (tn:Nat->Heap->Prop):Prop where
 mem:it∈fp
 obj:∀ i h,tn i h->∀ b∈fp,∃ o,h.get? b=some o/\∀ v,o.data≠.cell v
 keep:∀ i h h',tn i h->(∀ b∈fp,∀ o,h.get? b=some o->h'.get? b=some o)->tn i h'
 item:∀ (X:Cx),X.prog=P->X.w=w->X.K=K->X.calm=true->∀ (i:Nat) (pins:List (Addr×Obj)) (s:Shared) (σ:St) (H:Hp) (E:Value->Shared->Prop),Inv X pins σ H s->(∀ b∈fp,FpOk X pins H b)->tn i s.heap->J.go i H->
  wpAny (model P w) X.A (pyNext (.ref it)) (fun r s1=>∃ u,r=some u/\
   wpAny (model P w) X.A (letOwnedTupleGo tg (.ref it) u) (fun _ s2=>∃ x H',Inv X pins σ H' s2/\RelV x u/\J.yld i H x H'/\tn (i + 1) s2.heap/\∀ b∈fp,H' b=none) E s1) E s
 done:∀ (X:Cx),X.prog=P->X.w=w->X.K=K->X.calm=true->∀ (i:Nat) (pins:List (Addr×Obj)) (s:Shared) (σ:St) (H:Hp) (E:Value->Shared->Prop),Inv X pins σ H s->(∀ b∈fp,FpOk X pins H b)->tn i s.heap->J.stop i H->
  wpAny (model P w) X.A (pyNext (.ref it)) (fun r s1=>r=none/\Inv X pins σ H s1) E s
 self:∀ (A:Around) (i:Nat) (s:Shared) (Q:Value->Shared->Prop) (E:Value->Shared->Prop),tn i s.heap->Q (.ref it) s->wpAny (model P w) A (pyIter (.ref it)) Q E s
abbrev TI:=St->Hp->(It->Hp->Prop)->Prop
def PIE (X:Cx) (pins:List (Addr×Obj)) (σ:St) (tg:Expr) (R:It->Hp->Prop) (itv:Value) (s2:Shared):Prop:=
 ∃ (it:Addr) (fp:List Addr) (tn:Nat->Heap->Prop) (J:It) (H':Hp),itv=.ref it/\Inv X pins σ H' s2/\Turn X.prog X.w X.K tg J fp it tn/\tn 0 s2.heap/\(∀ b∈fp,FpOk X pins H' b)/\R J H'
def PI (X:Cx) (tg iter:Expr) (wi:TI):Prop:=
 ∀ (pins:List (Addr×Obj)) (s:Shared) (σ:St) (H:Hp) (R:It->Hp->Prop),Inv X pins σ H s->wi σ H R->
  wpAny (model X.prog X.w) X.A (eval iter X.env) (fun v s1=>wpAny (model X.prog X.w) X.A (pyIter v) (PIE X pins σ tg R) X.xe s1) X.xe s
theorem Zyo {M : Model} {A : Around} {E : Value → Shared → Prop} {s : Shared} {tg : Expr} {it : Addr} {u : Value} {o : Obj} {n : String} {vs : Array Value} {Q : Unit → Shared → Prop} (ho : s.heap.get? it = some o) (hc : o.cls = .type n) (hd : o.data = .fields vs)
    (hn : ["enumerate", "zip", "dict_itemiterator", "dict_reverseitemiterator", "odict_iterator", "itertools.zip_longest", "itertools.pairwise"].contains n = false) (hQ : Q () s) : wpAny M A (letOwnedTupleGo tg (.ref it) u) Q E s := by
  unfold letOwnedTupleGo
  cases tg <;> first
    | exact wpAny_pure hQ
    | (cases u <;> first
        | exact wpAny_pure hQ
        | (refine wpAny_bind (wpAny_load ho ?_)
           rw [hc, hd]
           show wpAny M A (if (["enumerate", "zip", "dict_itemiterator", "dict_reverseitemiterator", "odict_iterator", "itertools.zip_longest", "itertools.pairwise"].contains n && vs[0]? == some (rawInt _)) = true then _ else _) Q E s
           rw [Uad (by intro h; rw [hn, Udk] at h; cases h)]
           exact wpAny_pure hQ))
def Itl (K:PySem.W.Frag) (a:Addr):It:=
 ⟨fun i H=>∃ xs x,SqL K H a xs/\xs[i]?=some x,fun i H x H'=>H'=H/\∀ xs,SqL K H a xs->xs[i]?=some x,fun i H=>∃ xs,SqL K H a xs/\xs.length<=i⟩
def Itt (K:PySem.W.Frag) (a:Addr):It:=
 ⟨fun i H=>∃ xs x,SqT K H a xs/\xs[i]?=some x,fun i H x H'=>H'=H/\∀ xs,SqT K H a xs->xs[i]?=some x,fun i H=>∃ xs,SqT K H a xs/\xs.length<=i⟩
def Itr (lo:Int) (n:Nat):It:=⟨fun i _=>i < n,fun i H x H'=>H'=H/\x=.int (lo + i),fun i _=>n<=i⟩
theorem Ztv {P:Program} {w:World} {K:PySem.W.Frag} {tg:Expr} (a it:Addr):Turn P w K tg (Itl K a) [it] it (fun i h=>h.IsListIter it a i) where
 mem:=by simp
 obj:=fun i h st b hb=>by
  have e:b=it:=by simpa using hb
  subst e
  obtain ⟨o,e,c,d⟩:=st
  exact ⟨o,e,fun v z=>by rw [d] at z;cases z⟩
 keep:=fun i h h' st k=>st.at fun o e=>k it (by simp) o e
 item:=by
  intro X hP hw hK hc i pins s σ H E I hf st hg
  subst hP hw hK
  obtain ⟨xs,x,hq,hx⟩:=hg
  obtain ⟨its,rv,p,hz⟩:=I.list hq
  obtain ⟨u,hu,ru⟩:=rv.get hx
  obtain ⟨f0,f1,f2,f3,f4,f5⟩:=hf it (by simp)
  refine wpAny_pyNext_list_item st p.isList (x:=u) (by simpa using hu) fun h' st' sb=>?_
  have I1:Inv X pins σ H { s with heap:=h' }:=I.turned (t':=s.toks) (fun b o hb e=>(sb.2 b hb).trans e) f0 f1 f3 f4 f5
  obtain ⟨o,e,c,d⟩:=id st'
  exact ⟨u,rfl,Zyo (s:={ s with heap:=h' }) e c d (by decide) ⟨x,H,I1,ru,⟨rfl,fun ys hy=>by rw [I.list_inj hy hq];exact hx⟩,st',fun b hb=>(hf b hb).1⟩⟩
 done:=by
  intro X hP hw hK hc i pins s σ H E I hf st hg
  subst hP hw hK
  obtain ⟨xs,hq,hx⟩:=hg
  obtain ⟨its,rv,p,hz⟩:=I.list hq
  obtain ⟨f0,f1,f2,f3,f4,f5⟩:=hf it (by simp)
  have hl:=rv.length
  exact wpAny_pyNext_list_end (I.ok.hd hc) st p.isList (by simp;omega) fun h' eb=>⟨rfl,I.turned (t':=s.toks) (fun b o hb e=>eb b o hb e) f0 f1 f3 f4 f5⟩
 self:=fun _ _ _ _ _ st h=>wpAny_pyIter_listiter st h
theorem Zs0 {P:Program} {w:World} {K:PySem.W.Frag} {tg:Expr} (a it:Addr):Turn P w K tg (Itt K a) [it] it (fun i h=>h.IsTupleIter it a i) where
 mem:=by simp
 obj:=fun i h st b hb=>by
  have e:b=it:=by simpa using hb
  subst e
  obtain ⟨o,e,c,d⟩:=st
  exact ⟨o,e,fun v z=>by rw [d] at z;cases z⟩
 keep:=fun i h h' st k=>st.at fun o e=>k it (by simp) o e
 item:=by
  intro X hP hw hK hc i pins s σ H E I hf st hg
  subst hP hw hK
  obtain ⟨xs,x,hq,hx⟩:=hg
  obtain ⟨its,rv,p,hz⟩:=I.tuple hq
  obtain ⟨u,hu,ru⟩:=rv.get hx
  obtain ⟨f0,f1,f2,f3,f4,f5⟩:=hf it (by simp)
  refine wpAny_pyNext_tuple_item st (show s.heap.IsTuple a its.toArray from p) (x:=u) (by simpa using hu) fun h' st' sb=>?_
  have I1:Inv X pins σ H { s with heap:=h' }:=I.turned (t':=s.toks) (fun b o hb e=>(sb.2 b hb).trans e) f0 f1 f3 f4 f5
  obtain ⟨o,e,c,d⟩:=id st'
  exact ⟨u,rfl,Zyo (s:={ s with heap:=h' }) e c d (by decide) ⟨x,H,I1,ru,⟨rfl,fun ys hy=>by rw [I.tuple_inj hy hq];exact hx⟩,st',fun b hb=>(hf b hb).1⟩⟩
 done:=by
  intro X hP hw hK hc i pins s σ H E I hf st hg
  subst hP hw hK
  obtain ⟨xs,hq,hx⟩:=hg
  obtain ⟨its,rv,p,hz⟩:=I.tuple hq
  obtain ⟨f0,f1,f2,f3,f4,f5⟩:=hf it (by simp)
  have hl:=rv.length
  exact wpAny_pyNext_tuple_end (I.ok.hd hc) st (show s.heap.IsTuple a its.toArray from p) (by simp;omega) fun h' eb=>⟨rfl,I.turned (t':=s.toks) (fun b o hb e=>eb b o hb e) f0 f1 f3 f4 f5⟩
 self:=fun _ _ _ _ _ st h=>wpAny_pyIter_tupleiter st h
theorem Zs6 {P:Program} {w:World} {K:PySem.W.Frag} {tg:Expr} (it:Addr) (lo:Int) (n:Nat):Turn P w K tg (Itr lo n) [it] it (fun i h=>IsRangeIter h it (lo + (i:Nat) * 1) ((n:Int) - (i:Nat)) 1) where
 mem:=by simp
 obj:=fun i h st b hb=>by
  have e:b=it:=by simpa using hb
  subst e
  exact ⟨_,st,fun v z=>by
   have z':Data.fields _=Data.cell v:=z
   cases z'⟩
 keep:=fun i h h' st k=>k it (by simp) _ st
 item:=by
  intro X hP hw hK hc i pins s σ H E I hf st hg
  subst hP hw hK
  obtain ⟨f0,f1,f2,f3,f4,f5⟩:=hf it (by simp)
  have W:=Walks.range (prog:=X.prog) (w:=X.w) (I.ok.hd hc) it lo 1 n
  refine W.item i s _ _ hg st fun v h' tk hv st' kk=>?_
  obtain ⟨t,rfl⟩:=hv
  have I1:Inv X pins σ H { s with heap:=h',toks:=tk }:=I.turned (fun b o hb e=>kk b o (by simpa using hb) e) f0 f1 f3 f4 f5
  refine ⟨_,rfl,Zyo (s:={ s with heap:=h',toks:=tk }) (n:="range_iterator") st' rfl rfl (by decide) ⟨.int (lo + i),H,I1,⟨t,?_⟩,⟨rfl,rfl⟩,st',fun b hb=>(hf b hb).1⟩⟩
  rw [Int.mul_one]
 done:=by
  intro X hP hw hK hc i pins s σ H E I hf st hg
  subst hP hw hK
  obtain ⟨f0,f1,f2,f3,f4,f5⟩:=hf it (by simp)
  exact wpAny_pyNext_range_end (I.ok.hd hc) st (by have:n<=i:=hg;omega) fun h' eb=>⟨rfl,I.turned (t':=s.toks) (fun b o hb e=>eb b o hb e) f0 f1 f3 f4 f5⟩
 self:=fun _ _ _ _ _ st h=>wpAny_pyIter_rangeiter st h
end L2
namespace L2
open PySem PySem.Spec PyProof.Rows
section
variable {X:Cx} {tg:Expr}
def iList (K:PySem.W.Frag) (tl:TE):TI:=fun σ H R=>tl σ H fun x H1=>∃ a,x=.ref a/\(∃ xs,SqL K H1 a xs)/\R (Itl K a) H1
def iTup (K:PySem.W.Frag) (tl:TE):TI:=fun σ H R=>tl σ H fun x H1=>∃ a,x=.ref a/\(∃ xs,SqT K H1 a xs)/\R (Itt K a) H1
theorem Ze1 {l:Expr} {tl:TE} (hl:PE X l tl):PI X tg l (iList X.K tl):=by
 intro pins s σ H R I h
 refine thn (hl pins s σ H _ I h) fun v s1 ⟨x,H1,I1,r1,q1⟩=>?_
 obtain ⟨a,e,⟨xs,hq⟩,q⟩:=q1
 subst e
 cases r1
 obtain ⟨its,rv,p,hz⟩:=I1.list hq
 refine wpAny_pyIter_list p.isList ?_
 refine ⟨s1.heap.objs.size,[s1.heap.objs.size],_,_,H1,rfl,I1.kept (t':=s1.toks) fun b o e=>Heap.get?_push_of_some _ e,Ztv a _,⟨_,Heap.get?_push_size _ rfl,rfl,rfl⟩,fun b hb=>?_,q⟩
 have e:b=s1.heap.objs.size:=by simpa using hb
 subst e
 exact I1.fpOk (Uah _) (I1.hok.fresh (Uah _))
theorem Zzi {l:Expr} {tl:TE} (hl:PE X l tl):PI X tg l (iTup X.K tl):=by
 intro pins s σ H R I h
 refine thn (hl pins s σ H _ I h) fun v s1 ⟨x,H1,I1,r1,q1⟩=>?_
 obtain ⟨a,e,⟨xs,hq⟩,q⟩:=q1
 subst e
 cases r1
 obtain ⟨its,rv,p,hz⟩:=I1.tuple hq
 refine wpAny_pyIter_tuple (show s1.heap.IsTuple a its.toArray from p) ?_
 refine ⟨s1.heap.objs.size,[s1.heap.objs.size],_,_,H1,rfl,I1.kept (t':=s1.toks) fun b o e=>Heap.get?_push_of_some _ e,Zs0 a _,⟨_,Heap.get?_push_size _ rfl,rfl,rfl⟩,fun b hb=>?_,q⟩
 have e:b=s1.heap.objs.size:=by simpa using hb
 subst e
 exact I1.fpOk (Uah _) (I1.hok.fresh (Uah _))
theorem Zrp {pins:List (Addr×Obj)} {σ:St} {H:Hp} {s:Shared} {R:It->Hp->Prop} {E:Value->Shared->Prop} {lo hi:Int} {t u v:Tok} {tk:Nat} (I:Inv X pins σ H s) (h1:-(2 ^ 62)<=lo) (h2:lo < 2 ^ 62) (h3:-(2 ^ 62)<=hi) (h4:hi < 2 ^ 62)
  (q:R (Itr lo (hi - lo).toNat) H):wpAny (model X.prog X.w) X.A (pyIter (.ref s.heap.objs.size)) (PIE X pins σ tg R) E { s with heap:=s.heap.push { cls:=.type "range",data:=.fields #[.int lo t,.int hi u,.int 1 v] },toks:=tk }:=by
 refine wpAny_pyIter_range (IsRange.new ..) (small_one h1 h2 h3 h4) ?_
 have I1:Inv X pins σ H { s with heap:=s.heap.push { cls:=.type "range",data:=.fields #[.int lo t,.int hi u,.int 1 v] },toks:=tk }:=I.kept fun b o e=>Heap.get?_push_of_some _ e
 refine ⟨(s.heap.push { cls:=.type "range",data:=.fields #[.int lo t,.int hi u,.int 1 v] }).objs.size,[(s.heap.push { cls:=.type "range",data:=.fields #[.int lo t,.int hi u,.int 1 v] }).objs.size],_,_,H,rfl,
  I1.kept (t':=tk) fun b o e=>Heap.get?_push_of_some _ e,Zs6 _ lo (hi - lo).toNat,?_,fun b hb=>?_,q⟩
 ·have e1:lo + ((0:Nat):Int) * 1=lo:=by simp
  have e2:(((hi - lo).toNat:Nat):Int) - ((0:Nat):Int)=Builtin.Range.rangeSize lo hi 1:=by rw [rangeSize_one];split<;>omega
  show IsRangeIter _ _ (lo + ((0:Nat):Int) * 1) ((((hi - lo).toNat:Nat):Int) - ((0:Nat):Int)) 1
  rw [e1,e2]
  exact Heap.get?_push_size _ rfl
 ·have e:b=(s.heap.push { cls:=.type "range",data:=.fields #[.int lo t,.int hi u,.int 1 v] }).objs.size:=by simpa using hb
  subst e
  exact I1.fpOk (Uah _) (I1.hok.fresh (Uah _))
def iRng1 (ta:TA):TI:=fun σ H R=>ta σ H fun vs H1=>∃ j:Int,vs=[.int j]/\-(2 ^ 62)<=j/\j < 2 ^ 62/\R (Itr 0 j.toNat) H1
def iRng2 (ta:TA):TI:=fun σ H R=>ta σ H fun vs H1=>∃ i j:Int,vs=[.int i,.int j]/\(-(2 ^ 62)<=i/\i < 2 ^ 62/\-(2 ^ 62)<=j/\j < 2 ^ 62)/\R (Itr i (j - i).toNat) H1
theorem Zer {a:Expr} {ta:TA} {p pos:Pos} (hg:Gl X "range") (hm:X.mg "range" = none) (ha:PA X [a] ta) (hs:starEach [a] X.env=[(false,eval a X.env)]:=by rfl):PI X tg (.Call (.Name "range" p) [a] [] pos) (iRng1 ta):=by
 intro pins s σ H R I h
 refine Call_ (Zow I hg hm boot_range (PyProof.Rows.callWith_type1 (thn (ha pos pins s σ H _ I h) fun us s1 ⟨vs,H1,I1,r1,q1⟩=>?_) hs rfl))
 obtain ⟨j,e,q1,q2,q⟩:=q1
 subst e
 cases r1 with
 | cons r rr=>
  cases rr
  obtain ⟨t,rfl⟩:=r
  exact call_range_1 (Zrp I1 (by omega) (by omega) q1 q2 (by simpa using q))
theorem Zom {a b:Expr} {ta:TA} {p pos:Pos} (hg:Gl X "range") (hm:X.mg "range" = none) (ha:PA X [a,b] ta) (hs:starEach [a,b] X.env=[(false,eval a X.env),(false,eval b X.env)]:=by rfl) (hs2:starEach [b] X.env=[(false,eval b X.env)]:=by rfl) :
  PI X tg (.Call (.Name "range" p) [a,b] [] pos) (iRng2 ta):=by
 intro pins s σ H R I h
 refine Call_ (Zow I hg hm boot_range (PyProof.Rows.callWith_type1 (thn (ha pos pins s σ H _ I h) fun us s1 ⟨vs,H1,I1,r1,q1⟩=>?_) (by rw [hs,hs2]) (by rw [hs2];rfl)))
 obtain ⟨i,j,e,⟨q1,q2,q3,q4⟩,q⟩:=q1
 subst e
 cases r1 with
 | cons r rr=>
  cases rr with
  | cons r' rr=>
   cases rr
   obtain ⟨t,rfl⟩:=r
   obtain ⟨t',rfl⟩:=r'
   exact call_range_2 (Zrp I1 q1 q2 q3 q4 q)
def tFor (wi:TI) (g:TG) (tb:TS):TS:=fun D σ H=>wi σ H fun J H1=>∃ W:Nat->Nat->St->Hp->Prop,(∃ m,W 0 m σ H1)/\∀ i m σ H,W i m σ H->
 (J.stop i H/\D.nx σ H)\/(J.go i H/\∃ N:St->Hp->Prop,(∀ σ' H',N σ' H'->∃ m',m' < m/\W (i + 1) m' σ' H')/\∀ x H',J.yld i H x H'->g x σ H' fun σ2 H2=>tb { D with nx:=N,ct:=N,bk:=D.nx } σ2 H2)
def pinsAt (fp:List Addr) (h:Heap):List (Addr×Obj):=fp.filterMap fun b=>(h.get? b).map fun o=>(b,o)
theorem Zga {fp:List Addr} {h:Heap} {b:Addr} {o:Obj} (hb:b∈fp) (e:h.get? b=some o):(b,o)∈pinsAt fp h:=Udm.mpr ⟨b,hb,by rw [e];rfl⟩
theorem Ztc {fp:List Addr} {h:Heap} {p:Addr×Obj} (hp:p∈pinsAt fp h):p.1∈fp/\h.get? p.1=some p.2:=by
 obtain ⟨b,hb,e⟩:=Udm.mp hp
 cases q:h.get? b with
 | none=>rw [q] at e;cases e
 | some o=>
  rw [q] at e
  have e':(b,o)=p:=Option.some.inj e
  subst e'
  exact ⟨hb,q⟩
theorem Inv.pinned {pins:List (Addr×Obj)} {σ:St} {H:Hp} {s:Shared} {fp:List Addr} (I:Inv X pins σ H s) (hf:∀ b∈fp,FpOk X pins H b) (ho:∀ b∈fp,∃ o,s.heap.get? b=some o/\∀ v,o.data≠.cell v):Inv X (pins++pinsAt fp s.heap) σ H s:=
 I.pins_of fun p hp=>(Ua0.mp hp).elim (fun z=>I.pin p (Ua3 _ z)) fun z=>by
  obtain ⟨hb,e⟩:=Ztc z
  obtain ⟨f0,f1,f2,_⟩:=hf p.1 hb
  obtain ⟨o,e',d⟩:=ho p.1 hb
  rw [e] at e';cases e'
  exact ⟨e,f0,f1,f2,d⟩
theorem Inv.unpinned {pins pl:List (Addr×Obj)} {σ:St} {H:Hp} {s:Shared} (I:Inv X (pins++pl) σ H s):Inv X pins σ H s:=I.pins_of fun p hp=>I.pin p (Ua3 _ (Ub8 _ hp))
theorem Zb9 {iter:Expr} {body:List Stmt} {wi:TI} {g:TG} {tb:TS} {pos:Pos} (hp:PassesOwn (model X.prog X.w) X.A X.env X.xe) (hc:X.calm=true) (hi:PI X tg iter wi) (hg:PG X tg g) (hb:PSs X body tb)
  (hs:∀ x,foldedSetIterable iter X.env x=pure x:=by intro _;rfl):PS X (.For tg iter body [] pos) (tFor wi g tb):=by
 intro pins s σ H D I h
 refine wpAny_For (thn (hi pins s σ H _ I h) fun v s1 h1=>thn h1 fun itv s2 h2=>?_) hs
 obtain ⟨it,fp,tn,J,H2,e,I2,T,st2,f2,W,⟨m0,w0⟩,turn⟩:=h2
 subst e
 have stat:∀ {H':Hp},(∀ b∈fp,H' b=none)->∀ b∈fp,FpOk X pins H' b:=fun hn b hb=>⟨hn b hb,(f2 b hb).2⟩
 refine codeAny_forLoop_any (fun n s'=>∃ i σ' H',Inv X pins σ' H' s'/\tn i s'.heap/\(∀ b∈fp,H' b=none)/\W i n σ' H') ?_ m0 ⟨0,σ,H2,I2,st2,fun b hb=>(f2 b hb).1,w0⟩
 rintro n s3 ⟨i,σ3,H3,I3,st3,fr3,w3⟩
 rcases turn i n σ3 H3 w3 with ⟨stop,qn⟩ | ⟨go,N,hN,step⟩
 ·refine wpAny_passesOwn hp (thn (T.done X rfl rfl rfl hc i pins s3 σ3 H3 X.xe I3 (stat fr3) st3 stop) fun r s4 ⟨hr,I4⟩=>?_)
  subst hr
  exact wpAny_execs_nil ⟨σ3,H3,I4,qn⟩
 ·refine wpAny_passesOwn hp (thn (T.item X rfl rfl rfl hc i pins s3 σ3 H3 X.xe I3 (stat fr3) st3 go) fun r s4 ⟨u,hr,h4⟩=>?_)
  subst hr
  refine wpAny_passesOwn hp (thn h4 fun _ s5 ⟨x,H5,I5,r5,y5,st5,fr5⟩=>?_)
  have I5':=I5.pinned (stat fr5) (T.obj _ _ st5)
  refine wpAny_passesOwn hp (thn (hg _ s5 σ3 H5 x u _ I5' r5 (step x H5 y5)) fun _ s6 ⟨σ6,H6,I6,q6⟩=>?_)
  refine wpAny_passesOwn hp (thn (hb _ s6 σ6 H6 _ I6 q6) fun f s7 q7=>?_)
  have again:∀ {σ7:St} {H7:Hp},Inv X (pins++pinsAt fp s5.heap) σ7 H7 s7->N σ7 H7->∃ m,m < n/\∃ i σ' H',Inv X pins σ' H' s7/\tn i s7.heap/\(∀ b∈fp,H' b=none)/\W i m σ' H':=fun {σ7 H7} I7 n7=>by
   obtain ⟨m',hm,w7⟩:=hN σ7 H7 n7
   refine ⟨m',hm,i + 1,σ7,H7,I7.unpinned,T.keep _ _ _ st5 fun b hb o e=>(I7.pin (b,o) (Ua3 _ (Ua3 _ (Zga hb e)))).1,fun b hb=>?_,w7⟩
   obtain ⟨o,e,d⟩:=T.obj _ _ st5 b hb
   exact (I7.pin (b,o) (Ua3 _ (Ua3 _ (Zga hb e)))).2.1
  cases f with
  | next=>obtain ⟨σ7,H7,I7,n7⟩:=q7;exact again I7 n7
  | cont=>obtain ⟨σ7,H7,I7,n7⟩:=q7;exact again I7 n7
  | brk=>obtain ⟨σ7,H7,I7,q7⟩:=q7;exact ⟨σ7,H7,I7.unpinned,q7⟩
  | ret v=>obtain ⟨x7,σ7,H7,I7,r7,q7⟩:=q7;exact ⟨x7,σ7,H7,I7.unpinned,r7,q7⟩
end
theorem Zqz {K:PySem.W.Frag} {a:Addr} {xs:List V} {g:TG} {tb:TS} {D:Ends} {σ:St} {H:Hp} (Pv:Nat->St->Hp->Prop) (h0:Pv 0 σ H) (hl:∀ i σ H,i<=xs.length->Pv i σ H->SqL K H a xs)
  (hs:∀ i x σ H,xs[i]?=some x->Pv i σ H->g x σ H fun σ2 H2=>tb { D with nx:=Pv (i + 1),ct:=Pv (i + 1),bk:=D.nx } σ2 H2) (hd:∀ σ H,Pv xs.length σ H->D.nx σ H) :
  ∃ W:Nat->Nat->St->Hp->Prop,(∃ m,W 0 m σ H)/\∀ i m σ H,W i m σ H->
   ((Itl K a).stop i H/\D.nx σ H)\/((Itl K a).go i H/\∃ N:St->Hp->Prop,(∀ σ' H',N σ' H'->∃ m',m' < m/\W (i + 1) m' σ' H')/\∀ x H',(Itl K a).yld i H x H'->g x σ H' fun σ2 H2=>tb { D with nx:=N,ct:=N,bk:=D.nx } σ2 H2):=by
 refine ⟨fun i m σ H=>m=xs.length - i/\i<=xs.length/\Pv i σ H,⟨xs.length,by simp,Ubo _,h0⟩,?_⟩
 rintro i m σ H ⟨rfl,hi,p⟩
 have q:=hl i σ H hi p
 by_cases hlt:i < xs.length
 ·refine .inr ⟨⟨xs,xs[i],q,by simp [hlt]⟩,Pv (i + 1),fun σ' H' p'=>⟨xs.length - (i + 1),by omega,rfl,hlt,p'⟩,fun x H' y=>?_⟩
  obtain ⟨e,y⟩:=y
  subst e
  exact hs i x σ _ (y xs q) p
 ·have e:i=xs.length:=by omega
  subst e
  exact .inl ⟨⟨xs,q,Uah _⟩,hd σ H p⟩
theorem Znr {lo:Int} {n:Nat} {g:TG} {tb:TS} {D:Ends} {σ:St} {H:Hp} (Pv:Nat->St->Hp->Prop) (h0:Pv 0 σ H)
  (hs:∀ i σ H,i < n->Pv i σ H->g (.int (lo + i)) σ H fun σ2 H2=>tb { D with nx:=Pv (i + 1),ct:=Pv (i + 1),bk:=D.nx } σ2 H2) (hd:∀ σ H,Pv n σ H->D.nx σ H) :
  ∃ W:Nat->Nat->St->Hp->Prop,(∃ m,W 0 m σ H)/\∀ i m σ H,W i m σ H->
   ((Itr lo n).stop i H/\D.nx σ H)\/((Itr lo n).go i H/\∃ N:St->Hp->Prop,(∀ σ' H',N σ' H'->∃ m',m' < m/\W (i + 1) m' σ' H')/\∀ x H',(Itr lo n).yld i H x H'->g x σ H' fun σ2 H2=>tb { D with nx:=N,ct:=N,bk:=D.nx } σ2 H2):=by
 refine ⟨fun i m σ H=>m=n - i/\i<=n/\Pv i σ H,⟨n,by simp,Ubo _,h0⟩,?_⟩
 rintro i m σ H ⟨rfl,hi,p⟩
 by_cases hlt:i < n
 ·refine .inr ⟨hlt,Pv (i + 1),fun σ' H' p'=>⟨n - (i + 1),by omega,rfl,hlt,p'⟩,fun x H' y=>?_⟩
  obtain ⟨e,y⟩:=y
  subst e y
  exact hs i σ _ hlt p
 ·have e:i=n:=by omega
  subst e
  exact .inl ⟨Uah _,hd σ H p⟩
end L2
namespace L2
open PySem PySem.Spec PyProof.Rows
abbrev R2:=V->V->Hp->VK->Prop
def OpR (X:Cx) (f:Value->Value->Sem Value) (r:R2):Prop:=
 ∀ (pins:List (Addr×Obj)) (s:Shared) (σ:St) (H:Hp) (x y:V) (v u:Value) (Q:VK),Inv X pins σ H s->RelV x v->RelV y u->r x y H Q->
  wpAny (model X.prog X.w) X.A (f v u) (EP X pins σ Q) X.xe s
def UnR (X:Cx) (f:Value->Sem Value) (r:V->Hp->VK->Prop):Prop:=
 ∀ (pins:List (Addr×Obj)) (s:Shared) (σ:St) (H:Hp) (x:V) (v:Value) (Q:VK),Inv X pins σ H s->RelV x v->r x H Q->
  wpAny (model X.prog X.w) X.A (f v) (EP X pins σ Q) X.xe s
def CallR (X:Cx) (f:Value) (r:List V->Hp->VK->Prop):Prop:=
 ∀ (pins:List (Addr×Obj)) (s:Shared) (σ:St) (H:Hp) (xs:List V) (us:List Value) (Q:VK),Inv X pins σ H s->Vals xs us->r xs H Q->
  wpAny (model X.prog X.w) X.A (call f us) (EP X pins σ Q) X.xe s
def TruR (X:Cx) (r:V->Hp->(Bool->Hp->Prop)->Prop):Prop:=
 ∀ (pins:List (Addr×Obj)) (s:Shared) (σ:St) (H:Hp) (x:V) (v:Value) (Q:Bool->Hp->Prop),Inv X pins σ H s->RelV x v->r x H Q->
  wpAny (model X.prog X.w) X.A (truthy v) (TP X pins σ Q) X.xe s
def tOp (r:R2) (ta tb:TE):TE:=fun σ H Q=>ta σ H fun x H1=>tb σ H1 fun y H2=>r x y H2 Q
def tUn (r:V->Hp->VK->Prop) (ta:TE):TE:=fun σ H Q=>ta σ H fun x H1=>r x H1 Q
def rI (C:Int->Int->Prop) (g:Int->Int->V):R2:=fun x y H Q=>∃ i j,x=.int i/\y=.int j/\C i j/\Q (g i j) H
def rI0 (g:Int->Int->V):R2:=fun x y H Q=>∃ i j,x=.int i/\y=.int j/\Q (g i j) H
def rU (g:Int->V):V->Hp->VK->Prop:=fun x H Q=>∃ i,x=.int i/\Q (g i) H
section
variable {X:Cx} {a b c:Expr} {ta tb tc:TE} {pos:Pos}
theorem binT (ha:PE X a ta) (hb:PE X b tb) {pins:List (Addr×Obj)} {s:Shared} {σ:St} {H:Hp} {R:V->V->Hp->Prop} (I:Inv X pins σ H s)
  (h:ta σ H fun x H1=>tb σ H1 fun y H2=>R x y H2) {Q:Value->Shared->Prop} {f:Value->Value->Sem Value}
  (hf:∀ v u s2 x y H2,Inv X pins σ H2 s2->RelV x v->RelV y u->R x y H2->wpAny (model X.prog X.w) X.A (f v u) Q X.xe s2) :
  wpAny (model X.prog X.w) X.A (eval a X.env) (fun v s₁=>wpAny (model X.prog X.w) X.A (eval b X.env) (fun u s₂=>wpAny (model X.prog X.w) X.A (f v u) Q X.xe s₂) X.xe s₁) X.xe s:=by
 refine thn (ha pins s σ H _ I h) fun v s1 ⟨x,H1,I1,r1,q1⟩=>?_
 refine thn (hb pins s1 σ H1 _ I1 q1) fun u s2 ⟨y,H2,I2,r2,q2⟩=>?_
 exact hf v u s2 x y H2 I2 r1 r2 q2
theorem Zau {op:Operator} {r:R2} (ho:OpR X (binaryOp op) r) (ha:PE X a ta) (hb:PE X b tb):PE X (.BinOp a op b pos) (tOp r ta tb):=by
 intro pins s σ H Q I h
 exact wpAny_BinOp (binT ha hb I h fun v u s2 x y H2 I2 rx ry q=>ho pins s2 σ H2 x y v u Q I2 rx ry q)
theorem Zss {op:UnaryOp} {r:V->Hp->VK->Prop} (ho:UnR X (unaryOp op) r) (ha:PE X a ta):PE X (.UnaryOp op a pos) (tUn r ta):=by
 intro pins s σ H Q I h
 exact UnaryOp_ (thn (ha pins s σ H _ I h) fun v s1 ⟨x,H1,I1,r1,q1⟩=>ho pins s1 σ H1 x v Q I1 r1 q1)
theorem opI {f:Value->Value->Sem Value} {C:Int->Int->Prop} {g:Int->Int->Int}
  (rule:∀ (i j:Int) (t u:Tok) (s:Shared) (Q:Value->Shared->Prop) (E:Value->Shared->Prop),C i j->Q (.int (g i j) s.toks) { s with toks:=s.toks + 1 }->wpAny (model X.prog X.w) X.A (f (.int i t) (.int j u)) Q E s) :
  OpR X f (rI C fun i j=>.int (g i j)):=by
 intro pins s σ H x y v u Q I rx ry h
 obtain ⟨i,j,rfl,rfl,hc,q⟩:=h
 obtain ⟨t,rfl⟩:=rx
 obtain ⟨t',rfl⟩:=ry
 exact rule i j t t' s _ _ hc ⟨.int (g i j),H,I.tok _,⟨_,rfl⟩,q⟩
theorem opI0 {f:Value->Value->Sem Value} {g:Int->Int->Int}
  (rule:∀ (i j:Int) (t u:Tok) (s:Shared) (Q:Value->Shared->Prop) (E:Value->Shared->Prop),Q (.int (g i j) s.toks) { s with toks:=s.toks + 1 }->wpAny (model X.prog X.w) X.A (f (.int i t) (.int j u)) Q E s) :
  OpR X f (rI0 fun i j=>.int (g i j)):=by
 intro pins s σ H x y v u Q I rx ry h
 obtain ⟨i,j,rfl,rfl,q⟩:=h
 obtain ⟨t,rfl⟩:=rx
 obtain ⟨t',rfl⟩:=ry
 exact rule i j t t' s _ _ ⟨.int (g i j),H,I.tok _,⟨_,rfl⟩,q⟩
theorem opB0 {f:Value->Value->Sem Value} {g:Int->Int->Bool}
  (rule:∀ (i j:Int) (t u:Tok) (s:Shared) (Q:Value->Shared->Prop) (E:Value->Shared->Prop),Q (.bool (g i j)) s->wpAny (model X.prog X.w) X.A (f (.int i t) (.int j u)) Q E s) :
  OpR X f (rI0 fun i j=>.bl (g i j)):=by
 intro pins s σ H x y v u Q I rx ry h
 obtain ⟨i,j,rfl,rfl,q⟩:=h
 obtain ⟨t,rfl⟩:=rx
 obtain ⟨t',rfl⟩:=ry
 exact rule i j t t' s _ _ ⟨.bl (g i j),H,I,rfl,q⟩
def CDiv (i j:Int):Prop:=0 < j/\j < 1073741824
def CMul (i j:Int):Prop:=(-(2 ^ 64) < i/\i < 2 ^ 64)\/(-(2 ^ 64) < j/\j < 2 ^ 64)
theorem CMul.ok {i j:Int} (h:CMul i j):IntMulOk i j:=by
 rcases h with ⟨h1,h2⟩ | ⟨h1,h2⟩
 ·exact .of_left (intBits_le_64 h1 h2)
 ·exact .of_right (intBits_le_64 h1 h2)
theorem Zca:OpR X (binaryOp .Add) (rI0 fun i j=>.int (i + j)):=opI0 fun _ _ _ _ _ _ _ q=>add_int q
theorem Zdm:OpR X (binaryOp .Sub) (rI0 fun i j=>.int (i - j)):=opI0 fun _ _ _ _ _ _ _ q=>sub_int q
theorem Zhi:OpR X (binaryOp .Mult) (rI CMul fun i j=>.int (i * j)):=opI fun _ _ _ _ _ _ _ hc q=>mul_int q hc.ok
theorem Zel:OpR X (binaryOp .FloorDiv) (rI CDiv fun i j=>.int (i / j)):=opI fun i j _ _ _ _ _ hc q=>by
 have h1:(0:Int) < j:=hc.1
 have h2:j < 1073741824:=hc.2
 exact floordiv_int (by omega) (by rw [Int.fdiv_eq_ediv_of_nonneg i (by omega)];exact q) (.inl (PyProof.noPylong_small (by omega)))
theorem Zb8:OpR X (binaryOp .Mod) (rI (fun _ j=>0 < j) fun i j=>.int (i % j)):=opI fun i j _ _ _ _ _ hc q=>by
 have h1:(0:Int) < j:=hc
 exact mod_int' (by omega) (by rw [Int.fmod_eq_emod_of_nonneg i (by omega)];exact q)
theorem unI {f:Value->Sem Value} {g:Int->Int}
  (rule:∀ (i:Int) (t:Tok) (s:Shared) (Q:Value->Shared->Prop) (E:Value->Shared->Prop),Q (.int (g i) s.toks) { s with toks:=s.toks + 1 }->wpAny (model X.prog X.w) X.A (f (.int i t)) Q E s) :
  UnR X f (rU fun i=>.int (g i)):=by
 intro pins s σ H x v Q I rx h
 obtain ⟨i,rfl,q⟩:=h
 obtain ⟨t,rfl⟩:=rx
 exact rule i t s _ _ ⟨.int (g i),H,I.tok _,⟨_,rfl⟩,q⟩
theorem Zl5:UnR X (unaryOp .USub) (rU fun i=>.int (-i)):=unI fun _ _ _ _ _ q=>neg_int q
end
def scal:V->V->Bool
 | .non,.non=>true | .non,.int _=>true | .int _,.non=>true | .non,.bl _=>true | .bl _,.non=>true | .non,.str _=>true | .str _,.non=>true
 | .int _,.int _=>true | .bl _,.bl _=>true | .str _,.str _=>true | .byt _,.byt _=>true
 | .int _,.str _=>true | .str _,.int _=>true | .bl _,.str _=>true | .str _,.bl _=>true
 | _,_=>false
def rEq:R2:=fun x y H Q=>scal x y=true/\Q (.bl (decide (x=y))) H
def rNe:R2:=fun x y H Q=>scal x y=true/\Q (.bl (!decide (x=y))) H
theorem Zvj {i j:Int}:decide (V.int i=V.int j)=(i == j):=by
 rw [Udb]
 simp
theorem Zw3 {i j:Bool}:decide (V.bl i=V.bl j)=(i == j):=by
 rw [Udb]
 simp
theorem Zug {i j:Str}:decide (V.str i=V.str j)=(i == j):=by
 rw [Udb]
 simp
theorem Zvb {i j:Array UInt8}:decide (V.byt i=V.byt j)=(i.toList == j.toList):=by
 rw [Udb]
 cases i
 cases j
 simp
section
variable {X:Cx} {a b c:Expr} {ta tb tc:TE} {pos:Pos}
theorem Zbe {pins:List (Addr×Obj)} {σ:St} {H:Hp} {s:Shared} {Q:VK} {k k':Bool} (I:Inv X pins σ H s) (q:Q (.bl k) H) (e:k=k'):EP X pins σ Q (.bool k') s:=by
 subst e
 exact ⟨.bl k,H,I,rfl,q⟩
theorem op_eq:OpR X (compareOp .Eq) rEq:=by
 intro pins s σ H x y v u Q I rx ry h
 obtain ⟨hs,q⟩:=h
 cases x with
 | non=>
  cases rx
  cases y with
  | non=>cases ry;exact PySem.EqNone.eq_none_none (Zbe I q (by simp))
  | bl j=>cases ry;exact PySem.EqNone.eq_none_bool (Zbe I q (by simp))
  | int j=>obtain ⟨t',rfl⟩:=ry;exact PySem.EqNone.eq_none_int (Zbe I q (by simp))
  | str j=>obtain ⟨t',rfl⟩:=ry;exact PySem.EqNone.eq_none_str (Zbe I q (by simp))
  | _=>exact absurd (show false=true from hs) Uar
 | bl i=>
  cases rx
  cases y with
  | non=>cases ry;exact PySem.EqNone.eq_bool_none (Zbe I q (by simp))
  | bl j=>cases ry;exact eq_bool (Zbe I q Zw3)
  | str j=>obtain ⟨t',rfl⟩:=ry;exact PySem.EqMixed.eq_bool_str (Zbe I q (by simp))
  | _=>exact absurd (show false=true from hs) Uar
 | int i=>
  obtain ⟨t,rfl⟩:=rx
  cases y with
  | non=>cases ry;exact PySem.EqNone.eq_int_none (Zbe I q (by simp))
  | int j=>obtain ⟨t',rfl⟩:=ry;exact eq_int (Zbe I q Zvj)
  | str j=>obtain ⟨t',rfl⟩:=ry;exact PySem.EqMixed.eq_int_str (Zbe I q (by simp))
  | _=>exact absurd (show false=true from hs) Uar
 | str i=>
  obtain ⟨t,rfl⟩:=rx
  cases y with
  | non=>cases ry;exact PySem.EqNone.eq_str_none (Zbe I q (by simp))
  | bl j=>cases ry;exact PySem.EqMixed.eq_str_bool (Zbe I q (by simp))
  | int j=>obtain ⟨t',rfl⟩:=ry;exact PySem.EqMixed.eq_str_int (Zbe I q (by simp))
  | str j=>obtain ⟨t',rfl⟩:=ry;exact eq_str (Zbe I q Zug)
  | _=>exact absurd (show false=true from hs) Uar
 | byt i=>
  obtain ⟨t,rfl⟩:=rx
  cases y with
  | byt j=>obtain ⟨t',rfl⟩:=ry;exact PySem.W.eq_bytes (Zbe I q Zvb)
  | _=>exact absurd (show false=true from hs) Uar
 | _=>cases y<;>exact absurd (show false=true from hs) Uar
theorem op_ne:OpR X (compareOp .NotEq) rNe:=by
 intro pins s σ H x y v u Q I rx ry h
 obtain ⟨hs,q⟩:=h
 cases x with
 | non=>
  cases rx
  cases y with
  | non=>cases ry;exact PySem.EqNone.ne_none_none (Zbe I q (by simp))
  | bl j=>cases ry;exact PySem.EqNone.ne_none_bool (Zbe I q (by simp))
  | int j=>obtain ⟨t',rfl⟩:=ry;exact PySem.EqNone.ne_none_int (Zbe I q (by simp))
  | str j=>obtain ⟨t',rfl⟩:=ry;exact PySem.EqNone.ne_none_str (Zbe I q (by simp))
  | _=>exact absurd (show false=true from hs) Uar
 | bl i=>
  cases rx
  cases y with
  | non=>cases ry;exact PySem.EqNone.ne_bool_none (Zbe I q (by simp))
  | bl j=>cases ry;exact ne_bool (Zbe I q (Ube not Zw3))
  | str j=>obtain ⟨t',rfl⟩:=ry;exact PySem.EqMixed.ne_bool_str (Zbe I q (by simp))
  | _=>exact absurd (show false=true from hs) Uar
 | int i=>
  obtain ⟨t,rfl⟩:=rx
  cases y with
  | non=>cases ry;exact PySem.EqNone.ne_int_none (Zbe I q (by simp))
  | int j=>obtain ⟨t',rfl⟩:=ry;exact ne_int (Zbe I q (Ube not Zvj))
  | str j=>obtain ⟨t',rfl⟩:=ry;exact PySem.EqMixed.ne_int_str (Zbe I q (by simp))
  | _=>exact absurd (show false=true from hs) Uar
 | str i=>
  obtain ⟨t,rfl⟩:=rx
  cases y with
  | non=>cases ry;exact PySem.EqNone.ne_str_none (Zbe I q (by simp))
  | bl j=>cases ry;exact PySem.EqMixed.ne_str_bool (Zbe I q (by simp))
  | int j=>obtain ⟨t',rfl⟩:=ry;exact PySem.EqMixed.ne_str_int (Zbe I q (by simp))
  | str j=>obtain ⟨t',rfl⟩:=ry;exact ne_str (Zbe I q (Ube not Zug))
  | _=>exact absurd (show false=true from hs) Uar
 | byt i=>
  obtain ⟨t,rfl⟩:=rx
  cases y with
  | byt j=>obtain ⟨t',rfl⟩:=ry;exact PySem.W.ne_bytes (Zbe I q (Ube not Zvb))
  | _=>exact absurd (show false=true from hs) Uar
 | _=>cases y<;>exact absurd (show false=true from hs) Uar
theorem Zta:OpR X (compareOp .Lt) (rI0 fun i j=>.bl (decide (i < j))):=opB0 fun _ _ _ _ _ _ _ q=>lt_int q
theorem Zna:OpR X (compareOp .Gt) (rI0 fun i j=>.bl (decide (j < i))):=opB0 fun _ _ _ _ _ _ _ q=>gt_int q
theorem Zwk:OpR X (compareOp .GtE) (rI0 fun i j=>.bl (decide (j<=i))):=opB0 fun _ _ _ _ _ _ _ q=>ge_int q
theorem OpR.or {f:Value->Value->Sem Value} {r r':R2} (h:OpR X f r) (h':OpR X f r'):OpR X f (fun x y H Q=>r x y H Q\/r' x y H Q):=by
 intro pins s σ H x y v u Q I rx ry q
 rcases q with q | q
 ·exact h pins s σ H x y v u Q I rx ry q
 ·exact h' pins s σ H x y v u Q I rx ry q
theorem nomark (b:Expr) {op:CmpOp} (h:op≠.In:=by decide) (h2:op≠.NotIn:=by decide):behindInMarks op b=false:=by
 have e1:(op == CmpOp.In)=false:=by cases op<;>first | rfl | exact absurd rfl h
 have e2:(op == CmpOp.NotIn)=false:=by cases op<;>first | rfl | exact absurd rfl h2
 cases b<;>simp [behindInMarks,e1,e2]
theorem Zkn {op:CmpOp} {r:R2} (ho:OpR X (compareOp op) r) (ha:PE X a ta) (hb:PE X b tb) (hm:behindInMarks op b=false):PE X (.Compare a [op] [b] pos) (tOp r ta tb):=by
 intro pins s σ H Q I h
 exact wpAny_Compare1 (binT ha hb I h fun v u s2 x y H2 I2 rx ry q=>ho pins s2 σ H2 x y v u Q I2 rx ry q) hm
def tTest (t:TE):TT:=fun σ H Q=>t σ H fun x H'=>∃ k,x=.bl k/\Q k H'
theorem Zat {op:CmpOp} {r:R2} (ho:OpR X (compareOp op) r) (ha:PE X a ta) (hb:PE X b tb) (hm:behindInMarks op b=false):PT X (.Compare a [op] [b] pos) (tTest (tOp r ta tb)):=by
 intro pins s σ H Q I h
 refine wpAny_isTrue_Compare1 (thn (ha pins s σ H _ I h) fun v s1 ⟨x,H1,I1,r1,q1⟩=>thn (hb pins s1 σ H1 _ I1 q1) fun u s2 ⟨y,H2,I2,r2,q2⟩=>
  thn (ho pins s2 σ H2 x y v u _ I2 r1 r2 q2) fun c s3 ⟨z,H3,I3,r3,k,e,q3⟩=>?_) hm
 subst e
 cases r3
 exact wpAny_truthy_bool ⟨H3,I3,q3⟩
def TruV (K:PySem.W.Frag) (x:V) (H:Hp) (k:Bool):Prop:=
 match x with
 | .non=>k=false
 | .bl b=>k=b
 | .int i=>k=(i != 0)
 | .str y=>y.length<=sizeLine/\k=((y.length:Int) != 0)
 | .byt y=>y.size<=sizeLine/\k=((y.size:Int) != 0)
 | .ref p=>(∃ xs,SqL K H p xs/\k=!xs.isEmpty)\/(∃ xs,SqT K H p xs/\k=!xs.isEmpty)\/∃ kvs,H p=some (.dK kvs)/\k=!kvs.isEmpty
 | _=>False
theorem Zse {κ:Type} {kvs:List (κ×V)} {vs:List (κ×Value)} (r:KV kvs vs):(!vs.isEmpty)=!kvs.isEmpty:=by
 cases r<;>rfl
theorem Zl8 {xs:List V} {its:List Value} (r:Vals xs its):(!its.toArray.isEmpty)=!xs.isEmpty:=by
 cases r<;>simp
theorem line63:(sizeLine:Nat) < 2 ^ 63:=by rw [sizeLine_eq];decide
theorem Zy7:TruR X (fun x H Q=>∃ k,TruV X.K x H k/\Q k H):=by
 intro pins s σ H x v Q I rx h
 obtain ⟨k,e,q⟩:=h
 have hl:=line63
 have hs:sizeLine=16777216:=sizeLine_eq
 cases x with
 | non=>
  cases rx
  have e':k=false:=e
  subst e'
  exact truthy_none ⟨H,I,q⟩
 | bl b=>
  cases rx
  have e':k=b:=e
  subst e'
  exact wpAny_truthy_bool ⟨H,I,q⟩
 | int i=>
  obtain ⟨t,rfl⟩:=rx
  have e':k=(i != 0):=e
  subst e'
  exact PySem.P.truthy_int ⟨H,I,q⟩
 | str y=>
  obtain ⟨t,rfl⟩:=rx
  obtain ⟨hy,e'⟩:y.length<=sizeLine/\k=((y.length:Int) != 0):=e
  subst e'
  exact PySem.P.truthy_str (by omega) ⟨H,I.tok _,q⟩
 | byt y=>
  obtain ⟨t,rfl⟩:=rx
  obtain ⟨hy,e'⟩:y.size<=sizeLine/\k=((y.size:Int) != 0):=e
  subst e'
  exact PySem.W.truthy_bytes (by omega) ⟨H,I.tok _,q⟩
 | ref p=>
  cases rx
  have e':(∃ xs,SqL X.K H p xs/\k=!xs.isEmpty)\/(∃ xs,SqT X.K H p xs/\k=!xs.isEmpty)\/∃ kvs,H p=some (.dK kvs)/\k=!kvs.isEmpty:=e
  rcases e' with ⟨xs,hx,e'⟩ | ⟨xs,hx,e'⟩ | ⟨kvs,hx,e'⟩
  ·subst e'
   obtain ⟨its,r,pl,hz⟩:=I.list hx
   have hlen:=r.length
   exact wpAny_truthy_list pl.isList (by simp only [Uao];omega) ⟨H,I.tok _,by rw [Zl8 r];exact q⟩
  ·subst e'
   obtain ⟨its,r,pl,hz⟩:=I.tuple hx
   have hlen:=r.length
   exact truthy_tuple pl (by simp only [Uao];omega) ⟨H,I.tok _,by rw [Zl8 r];exact q⟩
  ·subst e'
   obtain ⟨hz,hS,vs,r,m⟩:kvs.length<=sizeLine/\(p == sysModules)=false/\∃ vs,KV kvs vs/\s.heap.DictOf (mixKind X.prog X.w) p vs:=I.hok p _ hx
   have hlen:kvs.length=vs.length:=Paired.length r
   exact wpAny_truthy_dict hS m (by omega) ⟨H,I.tok _,by rw [Zse r];exact q⟩
 | _=>exact (show False from e).elim
theorem Zwg (ha:PE X a ta) (he:∀ whole,isTrue a X.env whole=(do let v ← whole;standAt a.pos;holding [v] (truthy v))) :
  PT X a (fun σ H Q=>ta σ H fun x H'=>∃ k,TruV X.K x H' k/\Q k H'):=by
 intro pins s σ H Q I h
 exact isTrue_plain (thn (ha pins s σ H _ I h) fun v s1 ⟨x,H1,I1,r1,q1⟩=>Zy7 pins s1 σ H1 x v Q I1 r1 q1) (he _)
theorem vals1 {x:V} {us:List Value} (r:Vals [x] us):∃ u,us=[u]/\RelV x u:=by
 cases r with
 | cons r1 r2=>cases r2;exact ⟨_,rfl,r1⟩
theorem vals2 {x y:V} {us:List Value} (r:Vals [x,y] us):∃ u w',us=[u,w']/\RelV x u/\RelV y w':=by
 cases r with
 | cons r1 r2=>
  cases r2 with
  | cons r3 r4=>cases r4;exact ⟨_,_,rfl,r1,r3⟩
theorem Ztq (hc:X.calm=true):CallR X (.builtin "max") (fun xs H Q=>∃ i j,xs=[.int i,.int j]/\Q (.int (if j > i then j else i)) H):=by
 intro pins s σ H xs us Q I r h
 obtain ⟨i,j,rfl,q⟩:=h
 obtain ⟨u,w',rfl,⟨t,rfl⟩,⟨t',rfl⟩⟩:=vals2 r
 refine max_two_ints (I.ok.hd hc) fun h' tk k=>⟨_,H,I.kept k,?_,q⟩
 by_cases hj:j > i
 ·rw [Uae hj,Uae hj];exact ⟨_,rfl⟩
 ·rw [Uad hj,Uad hj];exact ⟨_,rfl⟩
def LenV (K:PySem.W.Frag) (x:V) (H:Hp) (n:Nat):Prop:=
 match x with
 | .str y=>y.length<=sizeLine/\n=y.length
 | .byt y=>y.size<=sizeLine/\n=y.size
 | .ref p=>(∃ xs,SqL K H p xs/\n=xs.length)\/∃ xs,SqT K H p xs/\n=xs.length
 | _=>False
theorem Zq2:CallR X (.builtin "len") (fun xs H Q=>∃ x n,xs=[x]/\LenV X.K x H n/\Q (.int n) H):=by
 intro pins s σ H xs us Q I r h
 obtain ⟨x,n,rfl,e,q⟩:=h
 obtain ⟨u,rfl,rx⟩:=vals1 r
 have hl:=line63
 have hs:sizeLine=16777216:=sizeLine_eq
 cases x with
 | str y=>
  obtain ⟨t,rfl⟩:=rx
  obtain ⟨hy,e'⟩:y.length<=sizeLine/\n=y.length:=e
  subst e'
  exact len_str (by omega) ⟨.int _,H,I.tok _,⟨_,rfl⟩,q⟩
 | byt y=>
  obtain ⟨t,rfl⟩:=rx
  obtain ⟨hy,e'⟩:y.size<=sizeLine/\n=y.size:=e
  subst e'
  exact PySem.W.len_bytes (by omega) ⟨.int _,H,I.tok _,⟨_,rfl⟩,q⟩
 | ref p=>
  cases rx
  have e':(∃ xs,SqL X.K H p xs/\n=xs.length)\/∃ xs,SqT X.K H p xs/\n=xs.length:=e
  rcases e' with ⟨xs,hx,e'⟩ | ⟨xs,hx,e'⟩
  ·subst e'
   obtain ⟨its,r',pl,hz⟩:=I.list hx
   have hlen:=r'.length
   exact Calls.call_len_list pl.isList (by simp only [Uao];omega) ⟨.int xs.length,H,I.tok _,⟨_,by simp only [Uao];rw [hlen]⟩,q⟩
  ·subst e'
   obtain ⟨its,r',pl,hz⟩:=I.tuple hx
   have hlen:=r'.length
   exact len_tuple pl (by simp only [Uao];omega) ⟨.int xs.length,H,I.tok _,⟨_,by simp only [Uao];rw [hlen]⟩,q⟩
 | _=>exact (show False from e).elim
end
end L2
namespace L2
open PySem PySem.Spec PyProof.Rows
structure ObjM (h:Heap) (x dx C:Addr) (mA:Str->Option Value):Prop where
 obj:h.get? x=some (PySem.W.instObj C dx)
 ns:h.Ns1 dx mA
 ne:dx≠x
theorem Zu2 {h:Heap} {dx:Addr} {mA:Str->Option Value} (n:h.Ns1 dx mA):∃ od,h.get? dx=some od/\∀ name,PySem.W.lookIn name od=some (mA name):=by
 obtain ⟨o,es,ep,ho,hd,hk,_,hm⟩:=n
 refine ⟨o,ho,fun name=>?_⟩
 have e:=hm name
 unfold nsFind findBy at e
 rw [← Array.find?_toList] at e
 unfold PySem.W.lookIn
 rw [hd]
 dsimp only
 split
 ·rename_i y q
  rw [q] at e
  exact Ube some e
 ·rename_i q
  rw [q] at e
  have a:es.toList.any (·.refKey)=false:=by
   rw [Udo]
   intro y hy
   obtain ⟨z,t,hkey⟩:=hk y (Array.mem_toList_iff.mp hy)
   simp [DictEntry.refKey,hkey]
  have a':¬ es.toList.any (·.refKey)=true:=by rw [a];exact Uar
  rw [Uad a']
  exact Ube some e
theorem ObjM.look {h:Heap} {x dx C:Addr} {mA:Str->Option Value} (I:ObjM h x dx C mA):∃ od,PySem.W.InstAt h x (PySem.W.instObj C dx) C (some od)/\∀ name,PySem.W.lookIn name od=some (mA name):=
 let ⟨od,ho,hl⟩:=Zu2 I.ns
 ⟨od,⟨I.obj,rfl,rfl,ho⟩,hl⟩
section
variable {prog:Program} {w:World} {A:Around} {E:Value->Shared->Prop} {s:Shared} {K:PySem.W.Frag} {x dx C f:Addr} {mA:Str->Option Value} {name:Str} {v:Value}
theorem Zxv {expr:Bool} {Q:Value->Shared->Prop} (X:K.In s.heap) (I:ObjM s.heap x dx C mA) (hg:PySem.W.plainGet K C name=true) (hh:PySem.W.hasDictIn K C=true)
  (ha:PySem.W.findIn K (.ref C) name=some none) (hv:mA name=some v) (hv':PySem.W.handedIn v=true) (h:Q v { s with toks:=s.toks + 1 }) :
  wpAny (model prog w) A (getAttr (.ref x) name expr) Q E s:=by
 obtain ⟨od,J,hl⟩:=I.look
 exact PySem.W.get_value X J (PySem.W.plainGet_of hg).1 (PySem.W.findObj_own hh ha rfl (by rw [hl,hv])) hv' h
theorem Zw {pl:Sem Bool} {Q:Value×List Value->Shared->Prop} (X:K.In s.heap) (I:ObjM s.heap x dx C mA) (hg:PySem.W.plainGet K C name=true)
  (hf:PySem.W.findIn K (.ref C) name=some (some (.ref f))) (ht:PySem.W.isFn K (.ref f)=true) (hv:mA name=none) (h:Q (.ref f,[.ref x]) s) :
  wpAny (model prog w) A (getMethod (.ref x) name pl) Q E s:=by
 obtain ⟨od,J,hl⟩:=I.look
 exact PySem.W.method_fn X J (PySem.W.plainGet_of hg).1 (PySem.W.plainGet_of hg).2 hf (beq_iff_eq.mp ht) (by show (PySem.W.lookIn name od).map (·.isSome)=some false;rw [hl,hv];rfl) h
theorem Zxl {ns:List Str} {Q:Unit->Shared->Prop} (X:K.In s.heap) (I:ObjM s.heap x dx C mA)
  (hs:PySem.W.findIn K (.ref C) "__setattr__" = some (some (.builtin "object.__setattr__"))) (hp:PySem.W.plainOver K C=true) (ht:PySem.W.takerIn K C name=some none) (hh:PySem.W.hasDictIn K C=true)
  (hw:PySem.Within mA ns) (hsz:ns.length<=sizeLine)
  (h:∀ h',ObjM h' x dx C (fun y=>if y=name then some v else mA y)->Heap.SameBut dx s.heap h'->Q () { s with heap:=h',toks:=s.toks + 2 }) :
  wpAny (model prog w) A (setAttr (.ref x) name v) Q E s:=by
 obtain ⟨od,J,hl⟩:=I.look
 refine PySem.W.set_plain X J hs (PySem.W.osa_open (s:={ s with toks:=s.toks + 1 }) (r:=none) X J hp ht fun b=>?_)
 obtain ⟨cd,hc,hd'⟩:=PySem.W.any_some hh
 have hx:s.heap.get? x=some ⟨.ref C,some dx,.plain,#[]⟩:=I.obj
 refine wpAny_bind (wpAny_pure (wpAny_bind (wpAny_bind (wpAny_loadPart hx (wpAny_bind (PySem.W.Looks.here (s:={ s with toks:=s.toks + 1 }) (PySem.W.looks_clsIn X hc) ?_))))))
 rw [hd']
 refine wpAny_pure (a:=some dx) (wpAny_bind (wpAny_pure (wpAny_bind ?_)))
 refine wpAny_nsSet1 (s:={ s with toks:=s.toks + 1 }) I.ns fun h' hn2 hs2=>?_
 obtain ⟨oD,esD,epD,hoD,hdD,hcD⟩:=hn2.count (PySem.Within.cons name v hw)
 refine wpAny_bind (wpAny_lookBehind hoD (by rw [hdD];exact pastItsLine_dict (Ual hcD (by rw [Uaz];omega))) ?_)
 exact wpAny_pure (h _ ⟨(hs2.2 _ (Ne.symm I.ne)).trans I.obj,hn2,I.ne⟩ hs2)
theorem Zvo {R:Result->Shared->Prop} {vs:List Value} {kw:List (Str×Value)} (X:K.In s.heap) (hm:PySem.W.makesIn K C=true)
  (hi:PySem.W.findIn K (.ref C) "__init__" = some (some (.ref f))) (hf:PySem.W.typeIn K (.ref f)=some (.type "function"))
  (h:codeAny (model prog w) (A.under (.builtin "type.__call__" ⟨.ref C :: vs,kw⟩)) (.call (.ref f) ⟨.ref (s.heap.objs.size + 1) :: vs,kw⟩) (PySem.W.InitBack (s.heap.objs.size + 1) R)
   { s with heap:=(s.heap.push PySem.W.emptyDict).push (PySem.W.instObj C s.heap.objs.size) }) :
  codeAny (model prog w) A (.call (.ref C) ⟨vs,kw⟩) R s:=by
 obtain ⟨hh,g,d,t,os⟩:=s
 exact PySem.W.make_core (PySem.W.makes_of X hm) (PySem.W.looks_findIn X hi) (fun self=>PySem.W.bind_fn X self hf) (.inl rfl) h
end
def putF (f:Str) (v:V):List (Str×V)->List (Str×V)
 | []=>[(f,v)]
 | (g,x) :: r=>if g=f then (g,v) :: r else (g,x) :: putF f v r
theorem Zki (f g:Str) (v:V):∀ fs:List (Str×V),(putF f v fs).lookup g=if g=f then some v else fs.lookup g
 | []=>by
  show List.lookup g [(f,v)]=_
  by_cases h:g=f
  ·have hb:(g == f)=true:=beq_iff_eq.mpr h
   simp only [List.lookup,hb,Uae h]
  ·have hb:(g == f)=false:=beq_eq_false_iff_ne.mpr h
   simp only [List.lookup,hb,Uad h]
 | (k,x) :: r=>by
  have ih:=Zki f g v r
  rw [show putF f v ((k,x) :: r)=(if k=f then (k,v) :: r else (k,x) :: putF f v r) from rfl]
  by_cases hk:k=f
  ·rw [Uae hk]
   by_cases h:g=k
   ·have hb:(g == k)=true:=beq_iff_eq.mpr h
    simp only [List.lookup,hb,Uae (h.trans hk)]
   ·have hb:(g == k)=false:=beq_eq_false_iff_ne.mpr h
    simp only [List.lookup,hb,Uad (fun e:g=f=>h (e.trans hk.symm))]
  ·rw [Uad hk]
   by_cases h:g=k
   ·have hb:(g == k)=true:=beq_iff_eq.mpr h
    simp only [List.lookup,hb,Uad (fun e:g=f=>hk (h.symm.trans e))]
   ·have hb:(g == k)=false:=beq_eq_false_iff_ne.mpr h
    simp only [List.lookup,hb]
    exact ih
theorem Zkj (f:Str) (v:V):∀ fs:List (Str×V),f∈(putF f v fs).map (·.1)/\∀ g,g∈fs.map (·.1)->g∈(putF f v fs).map (·.1)
 | []=>⟨by simp [putF],fun g h=>by simp at h⟩
 | (k,x) :: r=>by
  obtain ⟨i1,i2⟩:=Zkj f v r
  rw [show putF f v ((k,x) :: r)=(if k=f then (k,v) :: r else (k,x) :: putF f v r) from rfl]
  by_cases hk:k=f
  ·rw [Uae hk]
   subst hk
   exact ⟨by simp,fun g h=>by simpa using h⟩
  ·rw [Uad hk]
   refine ⟨?_,fun g h=>?_⟩
   ·rw [Uai]
    exact Uav _ i1
   ·rw [Uai] at h ⊢
    rcases Uan.mp h with e | e
    ·exact Uan.mpr (.inl e)
    ·exact Uav _ (i2 g e)
theorem Zk2 (f:Str) (v:V):∀ fs:List (Str×V),(putF f v fs).length<=fs.length + 1
 | []=>by simp [putF]
 | (k,x) :: r=>by
  have ih:=Zk2 f v r
  rw [show putF f v ((k,x) :: r)=(if k=f then (k,v) :: r else (k,x) :: putF f v r) from rfl]
  by_cases hk:k=f
  ·rw [Uae hk,Uaz,Uaz];omega
  ·rw [Uad hk,Uaz,Uaz];omega
theorem RelO.some_of {v:V} {o:Option Value} (r:RelO (some v) o):∃ u,o=some u/\RelV v u:=by
 cases o with
 | none=>exact (show False from r).elim
 | some u=>exact ⟨u,rfl,r⟩
theorem RelO.none_of {o:Option Value} (r:RelO none o):o=none:=by
 cases o with
 | none=>rfl
 | some u=>exact (show False from r).elim
theorem Zvg {v:V} {u:Value} (r:RelV v u):PySem.W.handedIn u=true:=by
 cases v with
 | non=>cases (show u=Value.none from r);rfl
 | bl b=>cases (show u=Value.bool b from r);rfl
 | int i=>obtain ⟨t,e⟩:=(show ∃ t,u=Value.int i t from r);cases e;rfl
 | str x=>obtain ⟨t,e⟩:=(show ∃ t,u=Value.str x t from r);cases e;rfl
 | byt b=>obtain ⟨t,e⟩:=(show ∃ t,u=Value.bytes b t from r);cases e;rfl
 | flt b=>obtain ⟨t,e⟩:=(show ∃ t,u=Value.float b t from r);cases e;rfl
 | ref a=>cases (show u=Value.ref a from r);rfl
 | ty n=>cases (show u=Value.type n from r);rfl
section
variable {P:Program} {w:World} {H H':Hp} {h h':Heap} {a C dx:Addr} {fs fs':List (Str×V)}
theorem Zmg (hok:HOk P w H h) (e:H a=some (.ins C dx fs)):∃ mA,ObjM h a dx C mA/\(∀ f,RelO (fs.lookup f) (mA f))/\PySem.Within mA (fs.map (·.1))/\fs.length<=1000/\H dx=some (.own a):=by
 obtain ⟨d,z,ne,ob,mA,n,r,q⟩:=(show ObjOk P w H h a (.ins C dx fs) from hok a _ e)
 exact ⟨mA,⟨ob,n,ne⟩,r,q,z,d⟩
end
structure Cls (K:PySem.W.Frag) (C:Addr):Prop where
 pg:PySem.W.plainGet K C Str.empty=true
 hd:PySem.W.hasDictIn K C=true
 po:PySem.W.plainOver K C=true
 sa:PySem.W.findIn K (.ref C) "__setattr__" = some (some (.builtin "object.__setattr__"))
theorem Cls.get {K:PySem.W.Frag} {C:Addr} (c:Cls K C) (f:Str):PySem.W.plainGet K C f=true:=c.pg
def NoAttr (K:PySem.W.Frag) (C:Addr) (f:Str):Prop:=PySem.W.findIn K (.ref C) f=some none
theorem NoAttr.taker {K:PySem.W.Frag} {C:Addr} {f:Str} (n:NoAttr K C f):PySem.W.takerIn K C f=some none:=by
 unfold PySem.W.takerIn
 rw [show PySem.W.findIn K (.ref C) f=some none from n]
 rfl
structure Meth (K:PySem.W.Frag) (C:Addr) (m:Str) (f:Addr):Prop where
 at_:PySem.W.findIn K (.ref C) m=some (some (.ref f))
 fn:PySem.W.isFn K (.ref f)=true
 kp:PySem.W.keepIn K (.ref f)=true
section
variable {X:Cx} {pins:List (Addr×Obj)} {σ:St} {H:Hp} {s:Shared} {a C dx:Addr} {fs:List (Str×V)} {f:Str} {v:V} {A:Around} {E:Value->Shared->Prop}
theorem Zsc {b:Bool} {Q:Value->Shared->Prop} (I:Inv X pins σ H s) (e:H a=some (.ins C dx fs)) (c:Cls X.K C) (n:NoAttr X.K C f) (l:fs.lookup f=some v)
  (h:∀ u s',Inv X pins σ H s'->RelV v u->Q u s'):wpAny (model X.prog X.w) A (getAttr (.ref a) f b) Q E s:=by
 obtain ⟨mA,O,r,_,_,_⟩:=Zmg I.hok e
 obtain ⟨u,hu,ru⟩:=RelO.some_of (v:=v) (o:=mA f) (by rw [← l];exact r f)
 exact Zxv I.kIn O (c.get f) c.hd n hu (Zvg ru) (h u _ (I.tok _) ru)
theorem Zh8 {m:Str} {g:Addr} {pl:Sem Bool} {Q:Value×List Value->Shared->Prop} (I:Inv X pins σ H s) (e:H a=some (.ins C dx fs)) (c:Cls X.K C) (k:Meth X.K C m g) (l:fs.lookup m=none)
  (h:Q (.ref g,[.ref a]) s):wpAny (model X.prog X.w) A (getMethod (.ref a) m pl) Q E s:=by
 obtain ⟨mA,O,r,_,_,_⟩:=Zmg I.hok e
 have hn:mA m=none:=RelO.none_of (by rw [← l];exact r m)
 exact Zw I.kIn O (c.get m) k.at_ k.fn hn h
theorem Zsd {y:V} {u:Value} {Q:Unit->Shared->Prop} (I:Inv X pins σ H s) (e:H a=some (.ins C dx fs)) (c:Cls X.K C) (n:NoAttr X.K C f) (hl:fs.length < 1000) (ry:RelV y u)
  (h:∀ s',Inv X pins σ (upd H a (.ins C dx (putF f y fs))) s'->Q () s'):wpAny (model X.prog X.w) A (setAttr (.ref a) f u) Q E s:=by
 obtain ⟨mA,O,r,wi,_,ho⟩:=Zmg I.hok e
 have hz:(fs.map (·.1)).length<=sizeLine:=by rw [Uab,sizeLine_eq];omega
 refine Zxl I.kIn O c.sa c.po n.taker c.hd wi hz fun h' O' sb=>h _ ?_
 have hd:∃ o,h'.get? dx=some o:=let ⟨o,_,_,e',_⟩:=O'.ns;⟨o,e'⟩
 refine I.write (x:=a) (e:=dx) (by rw [e];exact True.intro) (.inr ho) (fun b q hb z=>(sb.2 b hb).trans z) hd ?_
 refine ⟨by rw [Za5 O.ne];exact ho,?_,O.ne,O'.obj,_,O'.ns,fun g=>?_,fun g hg=>?_⟩
 ·have:=Zk2 f y fs;omega
 ·show RelO ((putF f y fs).lookup g) (if g=f then some u else mA g)
  rw [Zki]
  by_cases q:g=f
  ·rw [Uae q,Uae q];exact ry
  ·rw [Uad q,Uad q];exact r g
 ·by_cases q:g=f
  ·rw [q];exact (Zkj f y fs).1
  ·refine (Zkj f y fs).2 g (wi g fun z=>hg ?_)
   show (if g=f then some u else mA g)=none
   rw [Uad q];exact z
theorem Inv.made (I:Inv X pins σ H s):Inv X pins σ (upd (upd H s.heap.objs.size (.own (s.heap.objs.size + 1))) (s.heap.objs.size + 1) (.ins C s.heap.objs.size []))
  { s with heap:=(s.heap.push PySem.W.emptyDict).push (PySem.W.instObj C s.heap.objs.size) }:=by
 have e1:(s.heap.push PySem.W.emptyDict).get? s.heap.objs.size=some PySem.W.emptyDict:=Heap.get?_push_size s.heap rfl
 have e2:((s.heap.push PySem.W.emptyDict).push (PySem.W.instObj C s.heap.objs.size)).get? (s.heap.objs.size + 1)=some (PySem.W.instObj C s.heap.objs.size):=by
  have:=Heap.get?_push_size (s.heap.push PySem.W.emptyDict) (o:=PySem.W.instObj C s.heap.objs.size) rfl
  rwa [Heap.size_push] at this
 have e3:(s.heap.push PySem.W.emptyDict).Ns s.heap.objs.size (fun _=>none):=⟨PySem.W.emptyDict,#[],_,e1,rfl,(fun e he=>absurd he (by simp)),fun _=>rfl⟩
 have I1:=I.laid (a:=s.heap.objs.size) (o:=.own (s.heap.objs.size + 1)) (h':=s.heap.push PySem.W.emptyDict) (t':=s.toks) (fun b u q=>Heap.get?_push_of_some _ q) (Uah _) ⟨_,e1⟩
 refine I1.laid (a:=s.heap.objs.size + 1) (o:=.ins C s.heap.objs.size []) (t':=s.toks) (fun b u q=>Heap.get?_push_of_some _ q) (Ub4 (Heap.size_push _ _)) ?_
 have ne:s.heap.objs.size≠s.heap.objs.size + 1:=Ua6 (Uc7 _)
 refine ⟨by rw [Za5 ne,Zas],Ubo _,ne,e2,fun _=>none,(Heap.Ns1.of_empty e3).at fun o q=>Heap.get?_push_of_some _ q,fun _=>True.intro,fun y hy=>absurd rfl hy⟩
theorem Zx0 {prog:Program} {w:World} {env:Env} {e:Expr} {f:Str} {pos:Pos} {s:Shared} {Q:Value->Shared->Prop} (hb:attributeBase e f env (eval e env)=eval e env)
  (h:wpAny (model prog w) A (eval e env) (fun o s₁=>wpAny (model prog w) A (getAttr o f true) Q E s₁) E s):wpAny (model prog w) A (eval (.Attribute e f pos) env) Q E s:=
 Attribute_any_ h (by rw [arm_eval_Attribute,hb])
end
def tFld (K:PySem.W.Frag) (ta:TE) (f:Str):TE:=fun σ H Q=>ta σ H fun x H1=>∃ a C dx fs v,x=.ref a/\H1 a=some (.ins C dx fs)/\Cls K C/\NoAttr K C f/\fs.lookup f=some v/\Q v H1
def sFld (K:PySem.W.Frag) (ta tv:TE) (f:Str):TS:=fun D σ H=>tv σ H fun y H1=>ta σ H1 fun x H2=>∃ a C dx fs,x=.ref a/\H2 a=some (.ins C dx fs)/\Cls K C/\NoAttr K C f/\fs.length < 1000/\
 D.nx σ (upd H2 a (.ins C dx (putF f y fs)))
section
variable {X:Cx} {o e value:Expr} {f:Str} {pos pos' tpos:Pos} {ta tv:TE}
theorem Zix (he:PE X e ta) (hb:attributeBase e f X.env (eval e X.env)=eval e X.env):PE X (.Attribute e f pos) (tFld X.K ta f):=by
 intro pins s σ H Q I h
 refine Zx0 hb (thn (he pins s σ H _ I h) fun u s1 ⟨x,H1,I1,rx,a,C,dx,fs,v,ex,ea,c,n,l,q⟩=>?_)
 subst ex
 obtain rfl:u=Value.ref a:=rx
 exact Zsc I1 ea c n l fun u' s2 I2 ru=>⟨v,H1,I2,ru,q⟩
theorem Ztl (ha:PE X o ta) (hv:PE X value tv) (hs:swapsWith value (some (.Attribute o f pos')) pos.line X.env=pure false):PS X (.Assign [.Attribute o f pos'] value pos) (sFld X.K ta tv f):=by
 intro pins s σ H D I h
 refine plainObj_wpAny_Assign_Attribute (thn (hv pins s σ H _ I h) fun u s1 ⟨y,H1,I1,ry,q⟩=>thn (ha pins s1 σ H1 _ I1 q) fun ov s2 ⟨x,H2,I2,rx,a,C,dx,fs,ex,ea,c,n,l,q2⟩=>?_) hs
 subst ex
 obtain rfl:ov=Value.ref a:=rx
 exact Zsd I2 ea c n l ry fun s3 I3=>⟨σ,_,I3,q2⟩
theorem Zx1 {pl:Sem Bool} {m:Str} {apos:Pos} {args:List Expr} {pins:List (Addr×Obj)} {s:Shared} {σ:St} {H:Hp} {Q:Value->Shared->Prop} {te:TE} (he:PE X e te) (I:Inv X pins σ H s)
  (h:te σ H fun x H1=>∃ a C dx fs g,x=.ref a/\H1 a=some (.ins C dx fs)/\Cls X.K C/\Meth X.K C m g/\fs.lookup m=none/\
   ∀ s1,Inv X pins σ H1 s1->wpAny (model X.prog X.w) X.A (callWith pos (.ref g) [.ref a] (backTo pos (starEach args X.env)) (backToKw pos (keywordEach [] X.env))) Q X.xe s1)
  (ht:eval (.Call (.Attribute e m apos) args [] pos) X.env=(do
   let ov ← eval e X.env
   standAt apos.atName
   let (f,first) ← holding [ov] (getMethod ov m pl)
   callWith pos f first (backTo pos (starEach args X.env)) (backToKw pos (keywordEach [] X.env)))) :
  wpAny (model X.prog X.w) X.A (eval (.Call (.Attribute e m apos) args [] pos) X.env) Q X.xe s:=by
 refine PySem.W.methodCall_KW (pl:=pl) (thn (he pins s σ H _ I h) fun u s1 ⟨x,H1,I1,rx,a,C,dx,fs,g,ex,ea,c,k,l,q⟩=>?_) ht
 subst ex
 obtain rfl:u=Value.ref a:=rx
 exact Zh8 I1 ea c k l (q s1 I1)
end
section
variable {X:Cx} {pins:List (Addr×Obj)} {σ:St} {H:Hp} {s:Shared} {A:Around} {E:Value->Shared->Prop} {Q:Value->Shared->Prop} {c:Value} {b:Bool}
inductive TyOf (K:PySem.W.Frag) (H:Hp):V->Value->Prop where
 | non:TyOf K H .non (.type "NoneType")
 | bl (x:Bool):TyOf K H (.bl x) (.type "bool")
 | int (i:Int):TyOf K H (.int i) (.type "int")
 | str (x:Str):TyOf K H (.str x) (.type "str")
 | flt (x:UInt64):TyOf K H (.flt x) (.type "float")
 | lst {a:Addr} {xs:List V} (e:H a=some (.lst xs)):TyOf K H (.ref a) (.type "list")
 | frz {a:Addr} {o:Obj} {xs:List V} (e:H a=some (.frz o (.lst xs))):TyOf K H (.ref a) (.type "list")
 | tup {a:Addr} {xs:List V} (e:H a=some (.tup xs)):TyOf K H (.ref a) (.type "tuple")
 | dK {a:Addr} {kvs:List (Key×V)} (e:H a=some (.dK kvs)):TyOf K H (.ref a) (.type "dict")
 | dT {a:Addr} {kvs:List (List Key×V)} (e:H a=some (.dT kvs)):TyOf K H (.ref a) (.type "dict")
 | ins {a C dx:Addr} {fs:List (Str×V)} (e:H a=some (.ins C dx fs)) (cl:Cls K C) (ha:PySem.W.findIn K (.ref C) "__class__" = some (some (.builtin "object.__class__")))
   (hn:PySem.W.specialIn K (.builtin "object.__class__") "__get__" = some (some (.builtin "getset_descriptor.__get__"))) (htk:PySem.W.takesIn K (.builtin "object.__class__")=some true)
   (hm:PySem.W.mroIn K C (.type "object")=some true):TyOf K H (.ref a) (.ref C)
theorem Ztw {x:V} {u t:Value} (I:Inv X pins σ H s) (rx:RelV x u) (ty:TyOf X.K H x t) (e:PySem.W.kitOne X.K t c=some b) (h:∀ tk,Q (.bool b) { s with toks:=tk }) :
  wpAny (model X.prog X.w) A (call (.builtin "isinstance") [u,c]) Q E s:=by
 cases ty with
 | non=>cases (show u=Value.none from rx);exact PySem.W.kia_one PySem.W.kitx_none I.kIn True.intro e (fun z=>nomatch z) h
 | bl y=>cases (show u=Value.bool y from rx);exact PySem.W.kia_one PySem.W.kitx_bool I.kIn True.intro e (fun z=>nomatch z) h
 | int i=>obtain ⟨t,q⟩:=(show ∃ t,u=Value.int i t from rx);cases q;exact PySem.W.kia_one PySem.W.kitx_int I.kIn True.intro e (fun z=>nomatch z) h
 | str y=>obtain ⟨t,q⟩:=(show ∃ t,u=Value.str y t from rx);cases q;exact PySem.W.kia_one PySem.W.kitx_str I.kIn True.intro e (fun z=>nomatch z) h
 | flt y=>obtain ⟨t,q⟩:=(show ∃ t,u=Value.float y t from rx);cases q;exact PySem.W.kia_one PySem.W.kitx_float I.kIn True.intro e (fun z=>nomatch z) h
 | @lst a xs ea=>
  cases (show u=Value.ref a from rx)
  obtain ⟨_,_,n,_,h1⟩:=(show ObjOk X.prog X.w H s.heap a (.lst xs) from I.hok a _ ea)
  exact PySem.W.kia_one PySem.W.kitx_list I.kIn ⟨_,h1,rfl⟩ e (fun z=>nomatch z) h
 | @frz a ob xs ea=>
  cases (show u=Value.ref a from rx)
  obtain ⟨_,_,_,n,_,h1⟩:=(show ObjOk X.prog X.w H s.heap a (.frz ob (.lst xs)) from I.hok a _ ea)
  exact PySem.W.kia_one PySem.W.kitx_list I.kIn ⟨_,h1,rfl⟩ e (fun z=>nomatch z) h
 | @tup a xs ea=>
  cases (show u=Value.ref a from rx)
  obtain ⟨_,_,_,p⟩:=(show ObjOk X.prog X.w H s.heap a (.tup xs) from I.hok a _ ea)
  obtain ⟨o,h1,h2,_⟩:=p
  exact PySem.W.kia_one PySem.W.kitx_tuple I.kIn ⟨o,h1,h2⟩ e (fun z=>nomatch z) h
 | @dK a kvs ea=>
  cases (show u=Value.ref a from rx)
  obtain ⟨_,_,vs,_,p⟩:=(show ObjOk X.prog X.w H s.heap a (.dK kvs) from I.hok a _ ea)
  obtain ⟨o,es,ep,h1,h2,_⟩:=p
  exact PySem.W.kia_one PySem.W.kitx_dict I.kIn ⟨o,h1,h2.1⟩ e (fun z=>nomatch z) h
 | @dT a kvs ea=>
  cases (show u=Value.ref a from rx)
  obtain ⟨_,_,xs,_,o,es,ep,h1,h2,_⟩:=(show ObjOk X.prog X.w H s.heap a (.dT kvs) from I.hok a _ ea)
  exact PySem.W.kia_one PySem.W.kitx_dict I.kIn ⟨o,h1,h2.1⟩ e (fun z=>nomatch z) h
 | @ins a C dx fs ea cl ha hn htk hm=>
  cases (show u=Value.ref a from rx)
  obtain ⟨mA,O,_⟩:=Zmg I.hok ea
  obtain ⟨od,J,_⟩:=O.look
  exact PySem.W.kia_one (PySem.W.kitx_own (cl.get _) cl.hd ha hn htk hm) I.kIn J e (fun z=>nomatch z) h
end
end L2
namespace L2
open PySem PySem.Spec PyProof.Rows
structure Room (k:Nat) (A:Around):Prop where
 hd:A.handled=none
 dp:A.depth + 3 * k + 5 < recursionLimit
 un:A.units + 16 * k + 200 < cLine
theorem Room.mono {j k:Nat} {A:Around} (r:Room k A) (h:j<=k):Room j A:=⟨r.hd,by have:=r.dp;omega,by have:=r.un;omega⟩
theorem Room.deeper {k:Nat} {A:Around} (r:Room (k + 1) A) (env:Env):Room k (A.deeper env):=
 ⟨r.hd,by have:=r.dp;show A.depth + 1 + 3 * k + 5 < _;omega,by have:=r.un;show A.units + 3 + 16 * k + 200 < _;omega⟩
theorem Zsu {A:Around} {C:Addr} {us:List Value} {kw:List (Str×Value)}:(A.under (.builtin "type.__call__" ⟨.ref C :: us,kw⟩)).depth=A.depth + 1:=by
 first | rfl | simp [Around.under,Code.weight,Code.isCreation,Code.isGuard,Code.isCaller,Code.frames,Code.isFrame,guardIds]
theorem Zr9 {A:Around} {C:Addr} {us:List Value} {kw:List (Str×Value)}:(A.under (.builtin "type.__call__" ⟨.ref C :: us,kw⟩)).units=A.units + 1:=by
 first | rfl | simp [Around.under,Code.cUnits,Code.frames,Code.isFrame]
theorem Room.make {k:Nat} {A:Around} (r:Room (k + 1) A) (C:Addr) (us:List Value) (kw:List (Str×Value)):Room k (A.under (.builtin "type.__call__" ⟨.ref C :: us,kw⟩)):=
 ⟨r.hd,by have:=r.dp;rw [Zsu];omega,by have:=r.un;rw [Zr9];omega⟩
theorem Room.depth {k:Nat} {A:Around} (r:Room k A):A.depth < recursionLimit:=by have:=r.dp;omega
theorem Room.units {k:Nat} {A:Around} (r:Room k A):A.units + 64 < cLine:=by have:=r.un;omega
theorem Room.units0 {k:Nat} {A:Around} (r:Room k A):A.units < cLine:=by have:=r.un;omega
def tNil:TA:=fun _ H Q=>Q [] H
def tCons (ta:TE) (tr:TA):TA:=fun σ H Q=>ta σ H fun x H1=>tr σ H1 fun xs H2=>Q (x :: xs) H2
section
variable {X:Cx} {e:Expr} {es:List Expr} {te:TE} {t:TA} {pos:Pos}
theorem Zad:PA X [] tNil:=fun _ _ _ _ H Q I h=>Calls.spliced_nil ⟨[],H,I,.nil,h⟩
theorem Za (ha:PE X e te) (hr:PA X es t) (hs:starEach (e :: es) X.env=(false,eval e X.env) :: starEach es X.env:=by rfl):PA X (e :: es) (tCons te t):=by
 intro pos pins s σ H Q I h
 rw [hs]
 show wpAny _ _ (spliced ((false,eval e X.env) :: backTo pos (starEach es X.env))) _ _ s
 refine Calls.spliced_cons (thn (ha pins s σ H _ I h) fun u s1 ⟨x,H1,I1,r1,q1⟩=>?_)
 exact thn (hr pos pins s1 σ H1 _ I1 q1) fun us s2 ⟨xs,H2,I2,r2,q2⟩=>⟨x :: xs,H2,I2,.cons r1 r2,q2⟩
def tTup (t:TA):TE:=fun σ H Q=>t σ H fun xs H1=>xs.length<=sizeLine/\∀ p,H1 p=none->Q (.ref p) (upd H1 p (.tup xs))
def tLst (t:TA):TE:=fun σ H Q=>t σ H fun xs H1=>xs.length<=sizeLine/\∀ p,H1 p=none->Q (.ref p) (upd H1 p (.lst xs))
theorem Zdf {x1} (h:PA X es t):PE X (.Tuple es x1 pos) (tTup t):=by
 intro pins s σ H Q I hq
 refine wpAny_Tuple_spliced (thn (h pos pins s σ H _ I hq) fun us s1 ⟨xs,H1,I1,r,z,q⟩=>⟨by rw [← r.length];exact z,?_⟩)
 have hf:H1 s1.heap.objs.size=none:=I1.hok.fresh (Uah _)
 refine ⟨.ref s1.heap.objs.size,upd H1 s1.heap.objs.size (.tup xs),I1.laid (t':=s1.toks) (fun b u e=>Heap.get?_push_of_some _ e) (Uah _) ?_,rfl,q _ hf⟩
 exact ⟨z,us,r,⟨_,Heap.get?_push_size _ rfl,rfl,_,rfl⟩⟩
theorem Zbd (h:PA X es t):PE X (.List es pos) (tLst t):=by
 intro pins s σ H Q I hq
 refine wpAny_List_spliced (thn (h pos pins s σ H _ I hq) fun us s1 ⟨xs,H1,I1,r,z,q⟩=>⟨by rw [← r.length];exact z,?_⟩)
 have hf:H1 s1.heap.objs.size=none:=I1.hok.fresh (Uah _)
 refine ⟨.ref s1.heap.objs.size,upd H1 s1.heap.objs.size (.lst xs),I1.laid (t':=s1.toks) (fun b u e=>Heap.get?_push_of_some _ e) (Uah _) ?_,rfl,q _ hf⟩
 exact ⟨z,us,0,r,Heap.get?_push_size _ rfl⟩
end
abbrev Sp:=List V->Hp->VK->XK->Prop
abbrev CXT:=List Env->Hp->Shared->XK->Value->Shared->Prop
structure Env0 (P:Program) (w:World) (K:PySem.W.Frag) (mg:Str->Option Value) (base:Heap) (A:Around) (outer:List Env) (s:Shared) (H:Hp):Prop where
 frames:A.frames=some outer
 mod:Mod K mg base
 bs:∀ b o,base.get? b=some o->s.heap.get? b=some o/\H b=none
 bsz:base.objs.size<=s.heap.objs.size
 funs:s.heap.FunFrames base outer
 frf:∀ b∈frs outer,H b=none
 hok:HOk P w H s.heap
 bare:AllBare s.gens
def CE (outer:List Env) (P:Program) (w:World) (H:Hp) (s:Shared) (Q:VK) (u:Value) (s':Shared):Prop:=
 ∃ v H',s'.os=s.os/\AllBare s'.gens/\Un (frs outer) [] H H' s.heap s'.heap/\HOk P w H' s'.heap/\RelV v u/\Q v H'
def CR (CX:CXT) (outer:List Env) (P:Program) (w:World) (H:Hp) (s:Shared) (Q:VK) (E:XK) (r:Result) (s':Shared):Prop:=
 match r with
 | .ok (.ret u)=>CE outer P w H s Q u s'
 | .ok _=>False
 | .error e=>CX outer H s E e s'
structure FnOk (P:Program) (w:World) (K:PySem.W.Frag) (mg:Str->Option Value) (base:Heap) (CX:CXT) (k:Nat) (f:Addr) (fd:FuncData) (ps:List Str) (sp:Sp):Prop where
 len:∀ vs H Q E,sp vs H Q E->vs.length=ps.length
 run:∀ (A:Around) (outer:List Env) (s:Shared) (H:Hp) (args:Args) (us:List Value) (vs:List V) (Q:VK) (E:XK),Room k A->Env0 P w K mg base A outer s H->BindsTo s fd args (ps.zip us)->Vals vs us->sp vs H Q E->
  codeAny (model P w) A (.call (.ref f) args) (CR CX outer P w H s Q E) s
theorem FnOk.imp {P:Program} {w:World} {K:PySem.W.Frag} {mg:Str->Option Value} {base:Heap} {CX:CXT} {k:Nat} {f:Addr} {fd:FuncData} {ps:List Str} {sp sp':Sp} (F:FnOk P w K mg base CX k f fd ps sp)
  (h:∀ vs H Q E,sp' vs H Q E->sp vs H Q E):FnOk P w K mg base CX k f fd ps sp':=
 ⟨fun vs H Q E q=>F.len vs H Q E (h _ _ _ _ q),fun A outer s H args us vs Q E hr he hb hv hs=>F.run A outer s H args us vs Q E hr he hb hv (h _ _ _ _ hs)⟩
theorem Env0.make {P:Program} {w:World} {K:PySem.W.Frag} {mg:Str->Option Value} {base:Heap} {A:Around} {outer:List Env} {s:Shared} {H:Hp} (e:Env0 P w K mg base A outer s H) (C:Addr) (us:List Value) (kw:List (Str×Value)) :
  Env0 P w K mg base (A.under (.builtin "type.__call__" ⟨.ref C :: us,kw⟩)) outer s H:=⟨by first | exact e.frames | (simpa [Around.under,Code.envs,Code.isFrame,pushEnvs] using e.frames),e.mod,e.bs,e.bsz,e.funs,e.frf,e.hok,e.bare⟩
section
variable {X:Cx} {pins:List (Addr×Obj)} {σ:St} {H:Hp} {s s':Shared}
theorem Inv.env0 (I:Inv X pins σ H s):Env0 X.prog X.w X.K X.mg X.base X.A X.stack s H:=
 ⟨I.ok.frames,I.ok.mod,I.bs,Ual I.ok.bsz I.sz,I.stack,I.stkFree,I.hok,I.bare⟩
theorem Inv.after {Q:VK} {u:Value} (I:Inv X pins σ H s) (h:CE X.stack X.prog X.w H s Q u s'):EP X pins σ Q u s':=by
 obtain ⟨v,H',os,bare,un,hok,r,q⟩:=h
 obtain ⟨hh,g,d,t,os'⟩:=s'
 obtain rfl:os'=s.os:=os
 exact ⟨v,H',I.call (h':=hh) (g':=g) (d':=d) (t':=t) (ch:=[]) un hok bare (fun b z=>absurd z (by simp)),r,q⟩
end
def tCall (sp:Sp) (dvs:List V) (E:XK) (t:TA):TE:=fun σ H Q=>t σ H fun vs H1=>sp (vs++dvs) H1 Q E
def tMeth (C:Addr) (m:Str) (sp:Sp) (dvs:List V) (E:XK) (ta:TE) (t:TA):TE:=fun σ H Q=>ta σ H fun x H1=>∃ a dx fs,x=.ref a/\H1 a=some (.ins C dx fs)/\fs.lookup m=none/\
 t σ H1 fun vs H2=>sp (x :: (vs++dvs)) H2 Q E
def tMake (C:Addr) (sp:Sp) (dvs:List V) (E:XK) (t:TA):TE:=fun σ H Q=>t σ H fun vs H1=>∀ x dx,H1 x=none->H1 dx=none->dx≠x->
 sp (.ref x :: (vs++dvs)) (upd (upd H1 dx (.own x)) x (.ins C dx [])) (fun v H2=>v=.non/\Q (.ref x) H2) E
def Binds (K:PySem.W.Frag) (fd:FuncData) (ps:List Str) (ds:List Value):Prop:=
 ∀ (s:Shared) (us:List Value),K.In s.heap->(us++ds).length=ps.length->BindsTo s fd ⟨us,[]⟩ (ps.zip (us++ds))
theorem Binds.all {K:PySem.W.Frag} {fd:FuncData} {ps:List Str} (h:∀ us:List Value,us.length=ps.length->bindArgs fd ⟨us,[]⟩=pure (ps.zip us)):Binds K fd ps []:=fun s us _ hl=>by
 rw [Ubi] at hl ⊢
 exact .of_eq (h us hl)
def Passes (CX:CXT) (X:Cx) (E:XK):Prop:=∀ (pins:List (Addr×Obj)) (σ:St) (H:Hp) (s:Shared) (e:Value) (s':Shared),Inv X pins σ H s->CX X.stack H s E e s'->X.xe e s'
section
variable {X:Cx} {CX:CXT} {k:Nat} {f C:Addr} {fd:FuncData} {ps:List Str} {sp:Sp} {dvs:List V} {ds:List Value} {E:XK} {x m:Str} {p pos apos:Pos} {e o:Expr} {es:List Expr} {ta:TE} {t:TA}
theorem Zvl {pins:List (Addr×Obj)} {σ:St} {H:Hp} {s:Shared} {Q:VK} {us:List Value} {vs:List V} (F:FnOk X.prog X.w X.K X.mg X.base CX k f fd ps sp) (hr:Room k X.A) (hb:Binds X.K fd ps ds) (hd:Vals dvs ds) (hx:Passes CX X E)
  (I:Inv X pins σ H s) (r:Vals vs us) (h:sp (vs++dvs) H Q E):wpAny (model X.prog X.w) X.A (call (.ref f) us) (EP X pins σ Q) X.xe s:=by
 have r2:Vals (vs++dvs) (us++ds):=r.append hd
 have hl:(us++ds).length=ps.length:=by rw [← r2.length];exact F.len _ _ _ _ h
 refine wpAny_call (codeAny_mono (F.run X.A X.stack s H ⟨us,[]⟩ (us++ds) (vs++dvs) Q E hr I.env0 (hb s us I.kIn hl) r2 h) fun r s' hq=>?_)
 cases r with
 | error e=>exact hx pins σ H s e s' I hq
 | ok fl=>
  cases fl with
  | ret u=>exact I.after hq
  | next=>exact False.elim hq
  | brk=>exact False.elim hq
  | cont=>exact False.elim hq
theorem Zyf (F:FnOk X.prog X.w X.K X.mg X.base CX k f fd ps sp) (hr:Room k X.A) (hg:Gl X x) (hm:X.mg x=some (.ref f)) (hk:PySem.W.keepIn X.K (.ref f)=true) (hb:Binds X.K fd ps ds) (hd:Vals dvs ds) (hx:Passes CX X E)
  (ha:PA X (e :: es) t) (hdb:(x == ("__debug__" : Str))=false:=by decide) (he:starEach (e :: es) X.env=(false,eval e X.env) :: starEach es X.env:=by rfl) (hpl:(backTo pos (starEach es X.env)).any (·.1)=false:=by rfl) :
  PE X (.Call (.Name x p) (e :: es) [] pos) (tCall sp dvs E t):=by
 intro pins s σ H Q I h
 refine wpAny_Call_Name_kw (Zml I hg hm ?_ hdb)
 refine PySem.W.callWith_K (h₀:=X.base) I.ok.mod.kin hk (thn (ha pos pins s σ H _ I h) fun us s1 ⟨vs,H1,I1,r,q⟩=>⟨I1.kIn,?_⟩) he hpl
 exact Zvl F hr hb hd hx I1 r q
theorem Zxw {pl:Sem Bool} (he:PE X o ta) (c:Cls X.K C) (hm:Meth X.K C m f) (F:FnOk X.prog X.w X.K X.mg X.base CX k f fd ps sp) (hr:Room k X.A) (hb:Binds X.K fd ps ds) (hd:Vals dvs ds) (hx:Passes CX X E) (ha:PA X (e :: es) t)
  (hst:starEach (e :: es) X.env=(false,eval e X.env) :: starEach es X.env:=by rfl) (hpl:(backTo pos (starEach es X.env)).any (·.1)=false:=by rfl)
  (ht:eval (.Call (.Attribute o m apos) (e :: es) [] pos) X.env=(do
   let ov ← eval o X.env
   standAt apos.atName
   let (f,first) ← holding [ov] (getMethod ov m pl)
   callWith pos f first (backTo pos (starEach (e :: es) X.env)) (backToKw pos (keywordEach [] X.env))):=by rfl) :
  PE X (.Call (.Attribute o m apos) (e :: es) [] pos) (tMeth C m sp dvs E ta t):=by
 intro pins s σ H Q I h
 refine PySem.W.methodCall_KW (pl:=pl) (thn (he pins s σ H _ I h) fun u s1 ⟨x,H1,I1,rx,a,dx,fs,ex,ea,l,q⟩=>?_) ht
 subst ex
 obtain rfl:u=Value.ref a:=rx
 refine Zh8 I1 ea c hm l ?_
 refine PySem.W.callWith_K (first:=[.ref a]) (h₀:=X.base) I.ok.mod.kin hm.kp (thn (ha pos pins s1 σ H1 _ I1 q) fun us s2 ⟨vs,H2,I2,r,q2⟩=>⟨I2.kIn,?_⟩) hst hpl
 exact Zvl (us:=.ref a :: us) (vs:=.ref a :: vs) F hr hb hd hx I2 (.cons rfl r) q2
theorem Zw1 {pl:Sem Bool} (he:PE X o ta) (c:Cls X.K C) (hm:Meth X.K C m f) (F:FnOk X.prog X.w X.K X.mg X.base CX k f fd ps sp) (hr:Room k X.A) (hb:Binds X.K fd ps ds) (hd:Vals dvs ds) (hx:Passes CX X E)
  (ht:eval (.Call (.Attribute o m apos) [] [] pos) X.env=(do
   let ov ← eval o X.env
   standAt apos.atName
   let (f,first) ← holding [ov] (getMethod ov m pl)
   callWith pos f first (backTo pos (starEach [] X.env)) (backToKw pos (keywordEach [] X.env))):=by rfl) :
  PE X (.Call (.Attribute o m apos) [] [] pos) (tMeth C m sp dvs E ta tNil):=by
 intro pins s σ H Q I h
 refine PySem.W.methodCall_KW (pl:=pl) (thn (he pins s σ H _ I h) fun u s1 ⟨x,H1,I1,rx,a,dx,fs,ex,ea,l,q⟩=>?_) ht
 subst ex
 obtain rfl:u=Value.ref a:=rx
 refine Zh8 I1 ea c hm l ?_
 exact PySem.W.callWith_K0 (first:=[.ref a]) I1.kIn hm.kp (Zvl (us:=[.ref a]) (vs:=[.ref a]) F hr hb hd hx I1 (.cons rfl .nil) q)
structure Mk (K:PySem.W.Frag) (C f:Addr):Prop where
 makes:PySem.W.makesIn K C=true
 init:PySem.W.findIn K (.ref C) "__init__" = some (some (.ref f))
 fn:PySem.W.isFn K (.ref f)=true
 kp:PySem.W.keepIn K (.ref C)=true
theorem Zwc {pins:List (Addr×Obj)} {σ:St} {H:Hp} {s:Shared} {Q:VK} {us:List Value} {vs:List V} (M:Mk X.K C f) (F:FnOk X.prog X.w X.K X.mg X.base CX k f fd ps sp) (hr:Room (k + 1) X.A) (hb:Binds X.K fd ps ds) (hd:Vals dvs ds)
  (hx:Passes CX X E) (I:Inv X pins σ H s) (r:Vals vs us)
  (h:∀ x dx,H x=none->H dx=none->dx≠x->sp (.ref x :: (vs++dvs)) (upd (upd H dx (.own x)) x (.ins C dx [])) (fun v H2=>v=.non/\Q (.ref x) H2) E) :
  wpAny (model X.prog X.w) X.A (call (.ref C) us) (EP X pins σ Q) X.xe s:=by
 have hq:=h (s.heap.objs.size + 1) s.heap.objs.size (I.hok.fresh (Ucr _)) (I.hok.fresh (Uah _)) (Ua6 (Uc7 _))
 have I2:=Inv.made (C:=C) I
 have r2:Vals (V.ref (s.heap.objs.size + 1) :: (vs++dvs)) (Value.ref (s.heap.objs.size + 1) :: (us++ds)):=.cons rfl (r.append hd)
 have hl:(Value.ref (s.heap.objs.size + 1) :: us++ds).length=ps.length:=by
  have e:=r2.length
  rw [F.len _ _ _ _ hq] at e
  exact e.symm
 refine wpAny_call (Zvo (f:=f) I.kIn M.makes M.init (beq_iff_eq.mp M.fn) (codeAny_mono (F.run _ X.stack _ _ ⟨Value.ref (s.heap.objs.size + 1) :: us,[]⟩ (Value.ref (s.heap.objs.size + 1) :: (us++ds)) _ _ E (hr.make C us [])
  (I2.env0.make C us []) (hb _ (Value.ref (s.heap.objs.size + 1) :: us) I2.kIn hl) r2 hq) fun r s' hq'=>?_))
 cases r with
 | error e=>exact hx pins σ _ _ e s' I2 hq'
 | ok fl=>
  cases fl with
  | ret u=>
   obtain ⟨v,H',I3,rv,ev,q3⟩:=I2.after hq'
   subst ev
   exact ⟨rv,⟨V.ref (s.heap.objs.size + 1),H',I3,rfl,q3⟩⟩
  | next=>exact False.elim hq'
  | brk=>exact False.elim hq'
  | cont=>exact False.elim hq'
theorem Zx4 (M:Mk X.K C f) (F:FnOk X.prog X.w X.K X.mg X.base CX k f fd ps sp) (hr:Room (k + 1) X.A) (hg:Gl X x) (hm:X.mg x=some (.ref C)) (hb:Binds X.K fd ps ds) (hd:Vals dvs ds) (hx:Passes CX X E)
  (ha:PA X (e :: es) t) (hdb:(x == ("__debug__" : Str))=false:=by decide) (he:starEach (e :: es) X.env=(false,eval e X.env) :: starEach es X.env:=by rfl) (hpl:(backTo pos (starEach es X.env)).any (·.1)=false:=by rfl) :
  PE X (.Call (.Name x p) (e :: es) [] pos) (tMake C sp dvs E t):=by
 intro pins s σ H Q I h
 refine wpAny_Call_Name_kw (Zml I hg hm ?_ hdb)
 refine PySem.W.callWith_K (h₀:=X.base) I.ok.mod.kin M.kp (thn (ha pos pins s σ H _ I h) fun us s1 ⟨vs,H1,I1,r,q⟩=>⟨I1.kIn,?_⟩) he hpl
 exact Zwc M F hr hb hd hx I1 r q
end
section
variable {X:Cx} {CX:CXT} {k:Nat} {f C:Addr} {fd:FuncData} {ps ks:List Str} {sp:Sp} {E:XK} {x m:Str} {p pos apos kpos:Pos} {e o:Expr} {es:List Expr} {kws:List Keyword} {te ta:TE} {t tk:TA} {nm:Option Str}
variable {g:List Value->List Value->List Value} {gV:List V->List V->List V}
end
structure FnScope (N P:List Str) (sc:Scope):Prop where
 kind:sc.kind=.function
 co:sc.isCoroutine=false
 gen:sc.isGenerator=false
 nd:N.Nodup
 pre:N.take P.length=P
 par:∀ x∈P,sc.names.lookup x=some .local\/sc.names.lookup x=some .cell
 nofree:∀ y∈sc.names,y.2≠.free
theorem Zoc {kindOf:Str->Option NameKind} {x:Str}:∀ {binds:List (Str×Value)} {m:Str->Option Value},(∀ v,(x,v)∉binds)->bindL kindOf binds m x=m x
 | [],_,_=>rfl
 | (n,v) :: r,m,h=>by
  unfold bindL
  rw [Zoc fun w hw=>h w (Uav _ hw)]
  split
  ·have:x≠n:=by rintro rfl;exact h v Ua1
   simp [this]
  ·rfl
theorem Zoo {kindOf:Str->Option NameKind} {x:Str}:∀ {binds:List (Str×Value)} {m:Str->Option Value},(∀ v,(x,v)∉binds)->bindC kindOf binds m x=m x
 | [],_,_=>rfl
 | (n,v) :: r,m,h=>by
  unfold bindC
  rw [Zoo fun w hw=>h w (Uav _ hw)]
  split
  ·rfl
  ·have:x≠n:=by rintro rfl;exact h v Ua1
   simp [this]
theorem Znv {kindOf:Str->Option NameKind} {x:Str} {v:Value}:∀ {P:List Str} {vs:List Value} {i:Nat} {m:Str->Option Value},P.Nodup->P[i]?=some x->vs[i]?=some v->kindOf x=some .local->
  bindL kindOf (P.zip vs) m x=some v
 | [],_,_,_,_,h,_,_=>by simp at h
 | _ :: _,[],_,_,_,_,h,_=>by simp at h
 | p :: P,w :: vs,0,m,nd,h1,h2,hk=>by
  simp at h1 h2;subst h1;subst h2
  show bindL kindOf ((p,w) :: P.zip vs) m p=_
  unfold bindL
  rw [Zoc fun v hv=>(Ua9.mp nd).1 (List.of_mem_zip hv).1,Uae hk]
  simp
 | p :: P,w :: vs,i + 1,m,nd,h1,h2,hk=>by
  show bindL kindOf ((p,w) :: P.zip vs) m x=_
  unfold bindL
  exact Znv (i:=i) (Ua9.mp nd).2 (by simpa using h1) (by simpa using h2) hk
theorem Zno {kindOf:Str->Option NameKind} {x:Str} {v:Value}:∀ {P:List Str} {vs:List Value} {i:Nat} {m:Str->Option Value},P.Nodup->P[i]?=some x->vs[i]?=some v->kindOf x≠some .local->
  bindC kindOf (P.zip vs) m x=some v
 | [],_,_,_,_,h,_,_=>by simp at h
 | _ :: _,[],_,_,_,_,h,_=>by simp at h
 | p :: P,w :: vs,0,m,nd,h1,h2,hk=>by
  simp at h1 h2;subst h1;subst h2
  show bindC kindOf ((p,w) :: P.zip vs) m p=_
  unfold bindC
  rw [Zoo fun v hv=>(Ua9.mp nd).1 (List.of_mem_zip hv).1,Uad hk]
  simp
 | p :: P,w :: vs,i + 1,m,nd,h1,h2,hk=>by
  show bindC kindOf ((p,w) :: P.zip vs) m x=_
  unfold bindC
  exact Zno (i:=i) (Ua9.mp nd).2 (by simpa using h1) (by simpa using h2) hk
def start (N:List Str) (vs:List V):St:=vs.map some++List.replicate (N.length - vs.length) none
def cxOf (CX:CXT) (P:Program) (w:World) (K:PySem.W.Frag) (mg:Str->Option Value) (base:Heap) (N:List Str) (qual:Str) (scope:Scope) (f:Addr) (cd:Value) (A:Around) (outer:List Env) (s:Shared) (H:Hp) (E:XK):Cx where
 prog:=P
 w:=w
 K:=K
 mg:=mg
 base:=base
 A:=A.deeper (envOfC qual scope s.heap.objs.size f cd)
 N:=N
 s₀:=s
 H₀:=H
 env:=envOfC qual scope s.heap.objs.size f cd
 outer:=outer
 stack:=envOfC qual scope s.heap.objs.size f cd :: outer
 ex:=[]
 calm:=true
 fn:=fun _=>true
 pn:=[]
 xe:=fun e s'=>wpAny (model P w) (A.deeper (envOfC qual scope s.heap.objs.size f cd)) (leaving (envOfC qual scope s.heap.objs.size f cd) e) (fun _ s''=>CX outer H s E e s'') (fun e' s''=>CX outer H s E e' s'') s'
theorem Zq6 {sc:Scope} {n:Nat} {x:Str} (h:sc.names.lookup x=some .cell):∃ c,(cellsFrom n sc.names []).lookup x=some c:=by
 have q:=PySem.W.cellsFrom_some sc.names n [] (.inl h)
 exact Option.isSome_iff_exists.mp q
theorem Zvi {CX:CXT} {P:Program} {w:World} {K:PySem.W.Frag} {mg:Str->Option Value} {base:Heap} {N ps:List Str} {qual:Str} {scope:Scope} {f:Addr} {cd:Value} {A:Around} {outer:List Env} {s s1:Shared} {H:Hp} {E:XK} {us:List Value} {vs:List V}
  (S:FnScope N ps scope) (hd:A.handled=none) (e0:Env0 P w K mg base A outer s H) (hl:vs.length=ps.length) (r:Vals vs us)
  (x:InCallC s s.heap.objs.size (bindL (envOfC qual scope s.heap.objs.size f cd).kindOf (ps.zip us) fun _=>none) (cellsFrom (s.heap.objs.size + 1) scope.names []) (bindC (envOfC qual scope s.heap.objs.size f cd).kindOf (ps.zip us) fun _=>none) s1) :
  Inv (cxOf CX P w K mg base N qual scope f cd A outer s H E) [] (start N vs) H s1:=by
 have hpl:ps.length<=N.length:=by have:=Ube List.length S.pre;rw [Ua4] at this;omega
 obtain ⟨h1,tk,rfl,hk⟩:=x.done
 have noA:∀ b:Addr,b∉(cxOf CX P w K mg base N qual scope f cd A outer s H E).ex:=fun b z=>absurd (show b∈([]:List Addr) from z) (by simp)
 refine ⟨⟨e0.mod,S.kind,rfl,rfl,Uah _,fun y z c h1 h2=>?_,fun y hy=>?_,fun y c _ h=>?_,fun _=>hd,Around.frames_deeper e0.frames,.inr ⟨rfl,rfl⟩,fun b z=>absurd z (noA b),e0.bs,e0.bsz,fun b _ _=>noA b,fun b z=>absurd z (noA b),e0.funs,e0.frf⟩,
  rfl,e0.bare,Un.kept hk,⟨_,x.toInCall.ns,fun i y v h1 h2 h3=>?_⟩,fun y c h=>⟨_,x.cell y c h⟩,e0.hok.fresh (Uah _),fun y c h=>?_,fun p hp=>absurd (show p∈([]:List (Addr×Obj)) from hp) (by simp),e0.hok.kept hk,?_⟩
 ·exact name_of_addr x.apart (PySem.mem_of_lookup h1) (PySem.mem_of_lookup h2)
 ·have hy:scope.names.lookup y=some .cell\/scope.names.lookup y=some .free:=hy
  rcases hy with hy | hy
  ·exact Zq6 hy
  ·exact absurd rfl (S.nofree _ (PySem.mem_of_lookup hy))
 ·exact Ucu (x.above y c (PySem.mem_of_lookup h))
 ·have hi:i < vs.length:=by
   unfold start at h2
   by_cases hi:i < vs.length
   ·exact hi
   ·rw [Ubp (by simpa using hi)] at h2
    rw [Uc1] at h2
    split at h2<;>cases h2
  have ha:vs[i]?=some v:=by
   unfold start at h2
   rw [Ubg (by simpa using hi),Uaj] at h2
   cases e:vs[i]? with
   | none=>rw [e] at h2;cases h2
   | some a=>rw [e] at h2;cases h2;rfl
  obtain ⟨u,hu,rv⟩:=r.get ha
  have hp:ps[i]?=some y:=by
   rw [← S.pre,Ubt (by omega)];exact h1
  have ndP:ps.Nodup:=by rw [← S.pre];exact S.nd.sublist (Uc2 _ _)
  refine ⟨u,rv,?_⟩
  rcases S.par y (Uax hp) with k | k
  ·exact .inl ⟨k,Znv ndP hp hu k⟩
  ·obtain ⟨c,e⟩:=Zq6 (n:=s.heap.objs.size + 1) k
   refine .inr ⟨.inl k,c,e,?_⟩
   have q:=x.cell y c e
   rw [Zno ndP hp hu (by show scope.names.lookup y≠_;rw [k];decide)] at q
   exact q
 ·exact e0.hok.fresh (Ucu (x.above y c (PySem.mem_of_lookup h)))
 ·unfold start
  show _=N.length
  rw [Uat,Uab,List.length_replicate]
  omega
theorem Zx8 {CX:CXT} {P:Program} {w:World} {K:PySem.W.Frag} {mg:Str->Option Value} {base:Heap} {k:Nat} {f:Addr} {name qual:Str} {params:Arguments} {body:List Stmt} {scope:Scope} {dV kV doc pm cdv ct oc:Value} {an od:Option Addr}
  {osl:Array (Option Value)} {N ps:List Str} {sp:Sp} (lk:K.lookup f=some ⟨oc,od,.func (PySem.W.fnOf name qual params body scope dV kV doc pm an cdv ct),osl⟩) (hcd:PySem.W.codeIn K cdv qual=true) (S:FnScope N ps scope)
  (len:∀ vs H Q E,sp vs H Q E->vs.length=ps.length)
  (hbody:∀ (A:Around) (outer:List Env) (s:Shared) (H:Hp) (vs:List V) (Q:VK) (E:XK),Room k (A.deeper (envOfC qual scope s.heap.objs.size f cdv))->sp vs H Q E->
   ∃ t,PSs (cxOf CX P w K mg base N qual scope f cdv A outer s H E) body t/\t { nx:=fun _ H'=>Q .non H',rt:=Q } (start N vs) H) :
  FnOk P w K mg base CX (k + 1) f (PySem.W.fnOf name qual params body scope dV kV doc pm an cdv ct) ps sp:=by
 refine ⟨len,fun A outer s H args us vs Q E hr e0 hb r hsp=>?_⟩
 have hl:=len _ _ _ _ hsp
 have KX:K.In s.heap:=e0.mod.kin.keeps fun b o e=>(e0.bs b o e).1
 have lim:s.heap.NoLimit:=e0.mod.nolimit.keeps fun b o e=>(e0.bs b o e).1
 have hkind:∀ y∈ps.zip us,scope.names.lookup y.1=some .local\/(scope.names.lookup y.1=some .cell/\((cellsFrom (s.heap.objs.size + 1) scope.names []).lookup y.1).isSome=true):=fun ⟨n,v⟩ hy=>by
  rcases S.par n (List.of_mem_zip hy).1 with q | q
  ·exact .inl q
  ·exact .inr ⟨q,PySem.W.cellsFrom_some _ _ _ (.inl q)⟩
 refine codeAny_call_function hr.depth (KX _ _ lk) rfl S.co S.gen rfl (PySem.W.codeRec_of KX hcd) (hb _ _ _ _ ?_)
 refine wpAny_newFunctionEnv_cells S.kind hkind fun env he s1 x=>?_
 subst he
 refine ⟨lim.keeps x.toInCall.keep,codeAny_func ?_⟩
 obtain ⟨t,ht,hq⟩:=hbody A outer s H vs Q E (hr.deeper _) hsp
 have I:Inv (cxOf CX P w K mg base N qual scope f cdv A outer s H E) [] (start N vs) H s1:=Zvi S hr.hd e0 hl r x
 refine wpAny_mono (ht [] s1 (start N vs) H _ I hq) (fun fl s' hs=>?_) fun e s' hs=>hs
 have fin:∀ {σ':St} {H':Hp} {v:V} {u:Value},Inv (cxOf CX P w K mg base N qual scope f cdv A outer s H E) [] σ' H' s'->RelV v u->Q v H'->CE outer P w H s Q u s':=
  fun {σ' H' v u} J rv q=>⟨v,H',J.os,J.bare,J.base,J.hok,rv,q⟩
 cases fl with
 | ret u=>
  obtain ⟨v,σ',H',J,rv,q⟩:=hs
  exact fin J rv q
 | next=>
  obtain ⟨σ',H',J,q⟩:=hs
  exact fin (v:=V.non) (u:=Value.none) J rfl q
 | brk=>
  obtain ⟨_,_,_,q⟩:=hs
  exact False.elim q
 | cont=>
  obtain ⟨_,_,_,q⟩:=hs
  exact False.elim q
end L2
namespace L2
open PySem PySem.Spec PyProof.Rows
section
variable {X:Cx} {x:Str} {p pos:Pos} {e:Expr} {es:List Expr} {t:TA} {id T:String} {r:List V->Hp->VK->Prop}
def tCB (r:List V->Hp->VK->Prop) (t:TA):TE:=fun σ H Q=>t σ H fun vs H1=>r vs H1 Q
theorem Zaq (hc:CallR X (.builtin id) r) (hg:Gl X x) (hm:X.mg x=none) (hv:bootBuiltins x=some (.builtin id)) (ha:PA X (e :: es) t) (hn:x≠"__name__":=by decide) (hdb:(x == ("__debug__" : Str))=false:=by decide)
  (he:starEach (e :: es) X.env=(false,eval e X.env) :: starEach es X.env:=by rfl) (hpl:(backTo pos (starEach es X.env)).any (·.1)=false:=by rfl):PE X (.Call (.Name x p) (e :: es) [] pos) (tCB r t):=by
 intro pins s σ H Q I h
 refine wpAny_Call_Name_kw (Zow I hg hm hv ?_ hn hdb)
 exact PyProof.Rows.callWith_builtin1 (thn (ha pos pins s σ H _ I h) fun us s1 ⟨vs,H1,I1,r1,q1⟩=>hc pins s1 σ H1 vs us Q I1 r1 q1) he hpl
theorem Zbb (hc:CallR X (.type T) r) (hg:Gl X x) (hm:X.mg x=none) (hv:bootBuiltins x=some (.type T)) (ha:PA X (e :: es) t) (hn:x≠"__name__":=by decide) (hdb:(x == ("__debug__" : Str))=false:=by decide)
  (he:starEach (e :: es) X.env=(false,eval e X.env) :: starEach es X.env:=by rfl) (hpl:(backTo pos (starEach es X.env)).any (·.1)=false:=by rfl):PE X (.Call (.Name x p) (e :: es) [] pos) (tCB r t):=by
 intro pins s σ H Q I h
 refine wpAny_Call_Name_kw (Zow I hg hm hv ?_ hn hdb)
 exact PyProof.Rows.callWith_type1 (thn (ha pos pins s σ H _ I h) fun us s1 ⟨vs,H1,I1,r1,q1⟩=>hc pins s1 σ H1 vs us Q I1 r1 q1) he hpl
end
end L2
namespace HT
open PySem PyProof.Rows
section
open PySem.SeqAt
open PySem.AutoSeq1 (wpAny_loadPart')
open PySem.MeetsSeq PySem.MeetsSeq2 PySem.MeetsSeq3
end
section
variable {prog:Program} {w:World} {A:Around} {E:Value->Shared->Prop} {s:Shared}
theorem Zyl {t b:Addr} {vs ws:List Value} {Q:Value->Shared->Prop} (ht:IsTup s.heap t vs.toArray) (hb:IsTup s.heap b ws.toArray) (hv:vs≠[])
  (h1:ws=[]->Q (.ref t) s) (h2:ws≠[]->Q (.ref s.heap.objs.size) { s with heap:=s.heap.push { cls:=.type "tuple",data:=.seq (vs++ws).toArray } })
  (hsz:vs.length + ws.length<=sizeLine):wpAny (model prog w) A (binaryOp .Add (.ref t) (.ref b)) Q E s:=by
 obtain ⟨⟨cls,dd,data,sl⟩,ho,hc,n,hd⟩:=id ht
 obtain ⟨⟨cls2,dd2,data2,sl2⟩,ho2,hc2,n2,hd2⟩:=id hb
 simp only at hc hd hc2 hd2
 subst hc hd hc2 hd2
 have e:vs.toArray++ws.toArray=(vs++ws).toArray:=by simp
 by_cases hw:ws=[]
 ·exact concat_meets ⟨_,ho,rfl⟩ ⟨_,ho2,rfl⟩ noFill_tuple_add seq_tuple_add PySem.F.slot_tuple_add PySem.F.entry_tuple_add (PySem.F.args_tuple_add_2 _ _)
   (tuple_addW1 t b vs.toArray ws.toArray n n2 dd dd2 sl sl2 (by simpa using hv) (by simp [hw])) ⟨ho,ho2,h1 hw⟩
 ·refine concat_meets ⟨_,ho,rfl⟩ ⟨_,ho2,rfl⟩ noFill_tuple_add seq_tuple_add PySem.F.slot_tuple_add PySem.F.entry_tuple_add (PySem.F.args_tuple_add_2 _ _)
   (tuple_addW2 t b vs.toArray ws.toArray n n2 dd dd2 sl sl2 (by simpa using hv) (by simpa using hw) (by rw [Uao,Uao];exact hsz)) ⟨ho,ho2,?_⟩
  rw [e]
  exact h2 hw
def sIx (n d:Nat):Option Int->Nat
 | none=>d
 | some v=>if v < 0 then (v + (n:Int)).toNat else min v.toNat n
theorem Zq8 (n d:Nat):sIx n d none=d:=rfl
theorem Zui (n d k:Nat):sIx n d (some (k:Int))=min k n:=by
 show (if (k:Int) < 0 then ((k:Int) + (n:Int)).toNat else min (k:Int).toNat n)=min k n
 rw [Uad (by omega),Ua2]
end
end HT
namespace L2
open PySem PySem.Spec PyProof.Rows
abbrev TO:=St->Hp->(Option Int->Hp->Prop)->Prop
def PO (X:Cx) (e:Option Expr) (t:TO):Prop:=
 ∀ (pins:List (Addr×Obj)) (s:Shared) (σ:St) (H:Hp) (Q:Option Int->Hp->Prop),Inv X pins σ H s->t σ H Q->
  wpAny (model X.prog X.w) X.A (evalPart e X.env) (fun u s'=>∃ o H',Inv X pins σ H' s'/\IsPart u o/\Q o H') X.xe s
def tNoPart:TO:=fun _ H Q=>Q none H
def tPart (t:TE):TO:=fun σ H Q=>t σ H fun x H1=>∃ i,x=.int i/\Q (some i) H1
theorem Zgb {ns:List Int}:∀ {us:List Value},Vals (ns.map V.int) us->IntsAre us ns:=by
 induction ns with
 | nil=>intro us r;rw [Udu] at r;cases r;exact .nil
 | cons n ns ih=>
  intro us r
  rw [Uai] at r
  cases r with
  | cons r1 r2=>
   obtain ⟨t,e⟩:=r1
   subst e
   exact .cons n t (ih r2)
section
variable {X:Cx} {e:Expr} {te:TE} {lo hi:Option Expr} {tl th:TO} {pos p2:Pos}
theorem Zh3:PO X none tNoPart:=by
 intro pins s σ H Q I h
 rw [evalPart_none]
 exact wpAny_pure ⟨none,H,I,.none,h⟩
theorem Zht (h:PE X e te):PO X (some e) (tPart te):=by
 intro pins s σ H Q I hw
 rw [evalPart_some]
 refine thn (h pins s σ H _ I hw) fun u s1 ⟨x,H1,I1,r1,q1⟩=>?_
 obtain ⟨i,rfl,q⟩:=q1
 obtain ⟨t,rfl⟩:=r1
 exact ⟨some i,H1,I1,.int i t,q⟩
def SlR (X:Cx) (r:V->Option Int->Option Int->Hp->VK->Prop):Prop:=
 ∀ (pins:List (Addr×Obj)) (s:Shared) (σ:St) (H:Hp) (x:V) (v vl vu:Value) (lo hi:Option Int) (sl:Addr) (Q:VK),Inv X pins σ H s->RelV x v->s.heap.IsSliceOf sl vl vu .none->IsPart vl lo->IsPart vu hi->r x lo hi H Q->
  ∃ T id,typeLookup (.type T) "__getitem__" = pure (some (.builtin id))/\s.TypeIs v T/\wpAny (model X.prog X.w) X.A (getItem v (.ref sl)) (EP X pins σ Q) X.xe s
def tSl (r:V->Option Int->Option Int->Hp->VK->Prop) (te:TE) (tl th:TO):TE:=fun σ H Q=>te σ H fun x H1=>tl σ H1 fun l H2=>th σ H2 fun u H3=>r x l u H3 Q
theorem Zf6 {r:V->Option Int->Option Int->Hp->VK->Prop} (hr:SlR X r) (he:PE X e te) (hl:PO X lo tl) (hu:PO X hi th):PE X (.Subscript e (.Slice lo hi none p2) pos) (tSl r te tl th):=by
 intro pins s σ H Q I h
 refine Subscript_ (thn (he pins s σ H _ I h) fun v s1 ⟨x,H1,I1,r1,q1⟩=>?_)
 refine wpAny_Slice (thn (hl pins s1 σ H1 _ I1 q1) fun vl s2 ⟨l,H2,I2,pl,q2⟩=>thn (hu pins s2 σ H2 _ I2 q2) fun vu s3 ⟨u,H3,I3,pu,q3⟩=>?_)
 rw [evalPart_none]
 refine wpAny_pure ?_
 have I4:Inv X pins σ H3 { s3 with heap:=s3.heap.push { cls:=.type "slice",data:=.fields #[vl,vu,.none] } }:=I3.kept (t':=s3.toks) fun b ob q=>Heap.get?_push_of_some _ q
 obtain ⟨T,id,hT,ht,hg⟩:=hr pins { s3 with heap:=s3.heap.push { cls:=.type "slice",data:=.fields #[vl,vu,.none] } } σ H3 x v vl vu l u s3.heap.objs.size Q I4 r1 (Heap.IsSliceOf.new ..) pl pu q3
 show wpAny (model X.prog X.w) X.A (subscriptTail e (.Slice lo hi none p2) v (.ref s3.heap.objs.size)) (EP X pins σ Q) X.xe { s3 with heap:=s3.heap.push { cls:=.type "slice",data:=.fields #[vl,vu,.none] } }
 exact tail_any (ops:=[.ref s3.heap.objs.size,v]) ht hT hg (by with_unfolding_all rfl)
def cutV (xs:List V) (lo hi:Option Int):List V:=(xs.drop (HT.sIx xs.length 0 lo)).take (HT.sIx xs.length xs.length hi - HT.sIx xs.length 0 lo)
theorem Zp6 (xs:List V) (lo hi:Option Int):(cutV xs lo hi).length<=xs.length:=by
 unfold cutV
 rw [Ua4,Ucn]
 omega
def rCatT (K:PySem.W.Frag):R2:=fun x y H Q=>∃ a b xs ys,x=.ref a/\y=.ref b/\SqT K H a xs/\SqT K H b ys/\xs≠[]/\xs.length + ys.length<=sizeLine/\
 (ys=[]->Q (.ref a) H)/\(ys≠[]->∀ p,H p=none->Q (.ref p) (upd H p (.tup (xs++ys))))
theorem Vals.nil_iff {xs:List V} {us:List Value} (r:Vals xs us):us=[]↔xs=[]:=by
 cases r with
 | nil=>simp
 | cons _ _=>simp
theorem Zy:OpR X (binaryOp .Add) (rCatT X.K):=by
 intro pins s σ H x y v u Q I rx ry h
 obtain ⟨a,b,xs,ys,rfl,rfl,ha,hb,hx,hz,q1,q2⟩:=h
 cases rx
 cases ry
 obtain ⟨its,r1,p1,_⟩:=I.tuple ha
 obtain ⟨its2,r2,p2,_⟩:=I.tuple hb
 refine HT.Zyl p1 p2 (fun z=>hx (r1.nil_iff.mp z)) (fun z=>⟨.ref a,H,I,rfl,q1 (r2.nil_iff.mp z)⟩) (fun z=>?_) (by rw [← r1.length,← r2.length];exact hz)
 refine ⟨.ref s.heap.objs.size,_,I.laid (t':=s.toks) (o:=.tup (xs++ys)) (fun b ob q=>Heap.get?_push_of_some _ q) (Uah _) ?_,rfl,q2 (fun w=>z (r2.nil_iff.mpr w)) _ (I.hok.fresh (Uah _))⟩
 exact ⟨by rw [Uat];exact hz,_,r1.append r2,IsTup.new _ _⟩
end
end L2
namespace L2
open PySem PySem.Spec PyProof.Rows
def ixN (n:Nat) (i:Int):Option Nat:=if 0<=i then (if i < n then some i.toNat else none) else if -(n:Int)<=i then some (i + n).toNat else none
def atI {α:Type} (xs:List α) (i:Int):Option α:=(ixN xs.length i).bind fun j=>xs[j]?
theorem Zt0 {n:Nat} {i:Int} {j:Nat} (h:ixN n i=some j):seqIndex? i n=some j/\j < n/\-(n:Int)<=i/\i < n:=by
 unfold ixN at h
 by_cases h0:0<=i
 ·rw [Uae h0] at h
  by_cases h1:i < n
  ·rw [Uae h1] at h
   have e:i.toNat=j:=Option.some.inj h
   exact ⟨by rw [seqIndex_of h0 h1,e],by omega,by omega,h1⟩
  ·rw [Uad h1] at h;cases h
 ·rw [Uad h0] at h
  by_cases h1:-(n:Int)<=i
  ·rw [Uae h1] at h
   have e:(i + n).toNat=j:=Option.some.inj h
   exact ⟨by rw [seqIndex_neg (by omega) h1,e],by omega,h1,by omega⟩
  ·rw [Uad h1] at h;cases h
theorem Zu4 {α:Type} {xs:List α} {i:Int} {v:α} (h:atI xs i=some v):∃ j,seqIndex? i xs.length=some j/\xs[j]?=some v/\j < xs.length/\-(xs.length:Int)<=i/\i < xs.length:=by
 unfold atI at h
 cases e:ixN xs.length i with
 | none=>rw [e] at h;cases h
 | some j=>
  rw [e] at h
  obtain ⟨h1,h2,h3,h4⟩:=Zt0 e
  exact ⟨j,h1,h,h2,h3,h4⟩
theorem Zfn {α:Type} {xs:List α} {j:Nat} {v:α} (h:xs[j]?=some v):atI xs (j:Int)=some v:=by
 have hj:j < xs.length:=(Uas.mp h).1
 have e:ixN xs.length (j:Int)=some j:=by
  unfold ixN
  rw [Uae (by omega),Uae (by omega)];simp
 unfold atI;rw [e];exact h
def PlainIx (b:Expr):Prop:=∀ o i,subscripted b false o i=operate [o,i] (getItem o i)
def IxR (X:Cx) (r:R2):Prop:=
 ∀ (value slice:Expr) (pins:List (Addr×Obj)) (s:Shared) (σ:St) (H:Hp) (x y:V) (v u:Value) (Q:VK),Inv X pins σ H s->RelV x v->RelV y u->r x y H Q->
  subscripted slice false v u=operate [v,u] (getItem v u)->wpAny (model X.prog X.w) X.A (subscriptTail value slice v u) (EP X pins σ Q) X.xe s
def MtR (X:Cx) (id:String) (r:V->List V->Hp->VK->Prop):Prop:=
 ∀ (pins:List (Addr×Obj)) (s:Shared) (σ:St) (H:Hp) (x:V) (xs:List V) (v:Value) (us:List Value) (Q:VK),Inv X pins σ H s->RelV x v->Vals xs us->r x xs H Q->
  wpAny (model X.prog X.w) X.A (call (.builtin id) (v :: us)) (EP X pins σ Q) X.xe s
section
variable {X:Cx} {a b:Expr} {ta tb:TE} {pos:Pos}
theorem IxR.or {r r':R2} (h:IxR X r) (h':IxR X r'):IxR X (fun x y H Q=>r x y H Q\/r' x y H Q):=by
 intro value slice pins s σ H x y v u Q I rx ry q hs
 rcases q with q | q
 ·exact h value slice pins s σ H x y v u Q I rx ry q hs
 ·exact h' value slice pins s σ H x y v u Q I rx ry q hs
theorem Za4 {r:R2} (hr:IxR X r) (ha:PE X a ta) (hb:PE X b tb) (hs:PlainIx b):PE X (.Subscript a b pos) (tOp r ta tb):=by
 intro pins s σ H Q I h
 exact Subscript_ (binT ha hb I h fun v u s2 x y H2 I2 rx ry q=>hr a b pins s2 σ H2 x y v u Q I2 rx ry q (hs _ _))
def rIxL (K:PySem.W.Frag):R2:=fun x y H Q=>∃ p xs i v,x=.ref p/\y=.int i/\SqL K H p xs/\atI xs i=some v/\Q v H
def rIxT (K:PySem.W.Frag):R2:=fun x y H Q=>∃ p xs i v,x=.ref p/\y=.int i/\SqT K H p xs/\atI xs i=some v/\Q v H
theorem ix_list:IxR X (rIxL X.K):=by
 intro value slice pins s σ H x y v u Q I rx ry h hs
 obtain ⟨p,xs,i,z,rfl,rfl,hq,he,q⟩:=h
 cases rx
 obtain ⟨t,rfl⟩:=ry
 obtain ⟨its,r,pl,hz⟩:=I.list hq
 obtain ⟨j,h1,h2,h3,h4,h5⟩:=Zu4 he
 obtain ⟨w,ew,rw'⟩:=r.get h2
 have hl:=r.length
 have hn:=line63
 have fin:EP X pins σ Q w s:=⟨z,H,I,rw',q⟩
 by_cases h0:0<=i
 ·have hj:i.toNat=j:=by
   rw [seqIndex_of h0 h5] at h1
   exact Option.some.inj h1
  exact item_listR pl.isList h0 (by omega) (by rw [hj];simpa using ew) fin hs
 ·have hj:(i + (its.toArray.size:Int)).toNat=j:=by
   rw [seqIndex_neg (by omega) h4] at h1
   rw [Uao,← hl]
   exact Option.some.inj h1
  exact subscriptTail_builtinR (x:=w) pl.isList.typeIs slot_list_getitem.lookup
   (wpAny_getItem_list_neg (Q:=fun r s'=>r=w/\EP X pins σ Q r s') pl.isList (by omega) (by rw [Uao]<;>omega) (by omega) (by rw [hj];simpa using ew) ⟨rfl,fin⟩) hs
theorem Zzg:IxR X (rIxT X.K):=by
 intro value slice pins s σ H x y v u Q I rx ry h hs
 obtain ⟨p,xs,i,z,rfl,rfl,hq,he,q⟩:=h
 cases rx
 obtain ⟨t,rfl⟩:=ry
 obtain ⟨its,r,pl,hz⟩:=I.tuple hq
 obtain ⟨j,h1,h2,h3,h4,h5⟩:=Zu4 he
 obtain ⟨w,ew,rw'⟩:=r.get h2
 have hl:=r.length
 have hn:=line63
 have fin:EP X pins σ Q w s:=⟨z,H,I,rw',q⟩
 exact subscriptTail_builtinR (x:=w) pl.typeIs slot_tuple_getitem.lookup
  (getItem_tuple (j:=j) (Q:=fun r s'=>r=w/\EP X pins σ Q r s') pl (by omega) (by omega) (by rw [Uao,← hl];exact h1) (by simpa using ew) ⟨rfl,fin⟩) hs
theorem Zsx (its:List Value) (n j:Nat) (u:Value):Obj.mapSeq (·.setIfInBounds j u) { cls:=.type "list",data:=.seq its.toArray n }={ cls:=.type "list",data:=.seq (its.set j u).toArray n }:=by
 simp [Obj.mapSeq]
theorem Inv.lst {pins:List (Addr×Obj)} {σ:St} {H:Hp} {s:Shared} {p:Addr} {xs:List V} (I:Inv X pins σ H s) (h:H p=some (.lst xs)) :
  ∃ (its:List Value) (n:Nat),Vals xs its/\s.heap.get? p=some { cls:=.type "list",data:=.seq its.toArray n }/\xs.length<=sizeLine:=by
 obtain ⟨z,its,n,r,e⟩:=I.hok p _ h
 exact ⟨its,n,r,e,z⟩
theorem Inv.lstUpd {pins:List (Addr×Obj)} {σ:St} {H:Hp} {s:Shared} {p:Addr} {xs ys:List V} {its its':List Value} {n n':Nat} {f:Obj->Obj} (I:Inv X pins σ H s) (h:H p=some (.lst xs))
  (ho:s.heap.get? p=some { cls:=.type "list",data:=.seq its.toArray n }) (hf:f { cls:=.type "list",data:=.seq its.toArray n }={ cls:=.type "list",data:=.seq its'.toArray n' }) (r:Vals ys its') (hz:ys.length<=sizeLine) (t:Nat) :
  Inv X pins σ (upd H p (.lst ys)) { s with heap:=s.heap.update p f,toks:=t }:=by
 have e:(s.heap.update p f).get? p=some { cls:=.type "list",data:=.seq its'.toArray n' }:=by
  rw [Heap.get?_update_self f ho (by rw [hf]<;>rfl),hf]
 refine I.write (x:=p) (e:=p) (by rw [h];trivial) (.inl rfl) (fun b u hb q=>(Heap.get?_update_other _ _ (Ne.symm hb)).trans q) ⟨_,e⟩ ?_
 exact ⟨hz,its',n',r,e⟩
def rSetL:V->V->V->Hp->(Hp->Prop)->Prop:=fun o i v H Q=>∃ p xs k j,o=.ref p/\i=.int k/\H p=some (.lst xs)/\ixN xs.length k=some j/\Q (upd H p (.lst (xs.set j v)))
theorem Zq7:PSet X rSetL:=by
 intro pins s σ H o i v ov iv u Q I ro ri rv h
 obtain ⟨p,xs,k,j,rfl,rfl,hp,hj,q⟩:=h
 cases ro
 obtain ⟨t,rfl⟩:=ri
 obtain ⟨its,n,r,ho,hz⟩:=I.lst hp
 obtain ⟨h1,h2,h3,h4⟩:=Zt0 hj
 have hl:=r.length
 have hn:=line63
 have I':Inv X pins σ (upd H p (.lst (xs.set j v))) { s with heap:=s.heap.update p (Obj.mapSeq (·.setIfInBounds j u)) }:=
  I.lstUpd hp ho (Zsx its n j u) (r.set rv j) (by rw [Ubw];exact hz) s.toks
 by_cases h0:0<=k
 ·have hk:k.toNat=j:=by
   rw [seqIndex_of h0 h4] at h1
   exact Option.some.inj h1
  exact PySem.W.ki_setAt ho h0 (by omega) (by rw [Uao,← hl];exact h4) (by rw [hk];exact ⟨_,I',q⟩)
 ·have hk:(k + (its.toArray.size:Int)).toNat=j:=by
   rw [seqIndex_neg (by omega) h3] at h1
   rw [Uao,← hl]
   exact Option.some.inj h1
  exact PySem.W.ki_setBack ho (by omega) (by rw [Uao,← hl];exact h3) (by omega) (by rw [hk];exact ⟨_,I',q⟩)
theorem Zos (lo hi:Option Int) (n:Nat):(sliceBounds lo hi none n).1=((HT.sIx n 0 lo:Nat):Int)/\(sliceBounds lo hi none n).2.1=((HT.sIx n n hi:Nat):Int)/\(sliceBounds lo hi none n).2.2=1:=by
 refine ⟨?_,?_,rfl⟩
 ·cases lo with
  | none=>simp [sliceBounds,HT.sIx]
  | some i=>
   simp only [sliceBounds,HT.sIx,Option.getD_none,show (1:Int) > 0 by decide,if_true]
   by_cases h:i < 0
   ·simp only [h,if_true]<;>omega
   ·simp only [h,if_false]<;>omega
 ·cases hi with
  | none=>simp [sliceBounds,HT.sIx]
  | some i=>
   simp only [sliceBounds,HT.sIx,Option.getD_none,show (1:Int) > 0 by decide,if_true]
   by_cases h:i < 0
   ·simp only [h,if_true]<;>omega
   ·simp only [h,if_false]<;>omega
theorem Zmf (its:List Value) (lo hi:Option Int):slicePick its.toArray lo hi none=((its.drop (HT.sIx its.length 0 lo)).take (HT.sIx its.length its.length hi - HT.sIx its.length 0 lo)).toArray:=by
 obtain ⟨h1,h2,h3⟩:=Zos lo hi its.toArray.size
 unfold slicePick
 rw [h1,h2,h3]
 simp only [sliceRange_one,pick_run,Uao]<;>rfl
def rSlL (K:PySem.W.Frag):V->Option Int->Option Int->Hp->VK->Prop:=fun x lo hi H Q=>∃ a xs,x=.ref a/\SqL K H a xs/\∀ p,H p=none->Q (.ref p) (upd H p (.lst (cutV xs lo hi)))
theorem Zx9:SlR X (rSlL X.K):=by
 intro pins s σ H x v vl vu lo hi sl Q I rx hs pl pu h
 obtain ⟨a,xs,rfl,hx,q⟩:=h
 cases rx
 obtain ⟨its,r,ht,hz⟩:=I.list hx
 have hlen:=r.length
 refine ⟨"list",_,slot_list_getitem.lookup,ht.isList.typeIs,?_⟩
 refine wpAny_getItem_list_slice ht.isList hs pl pu .none (by simp) ?_ (by rw [Uao]<;>omega)
 rw [Zmf,← hlen]
 refine ⟨.ref s.heap.objs.size,_,I.laid (t':=s.toks) (o:=.lst (cutV xs lo hi)) (fun b ob q=>Heap.get?_push_of_some _ q) (Uah _) ?_,rfl,q _ (I.hok.fresh (Uah _))⟩
 exact ⟨Ual (Zp6 xs lo hi) hz,_,0,(r.drop (HT.sIx xs.length 0 lo)).take (HT.sIx xs.length xs.length hi - HT.sIx xs.length 0 lo),Heap.get?_push_size _ rfl⟩
def flatV:V->Bool
 | .non=>true
 | .bl _=>true
 | .int _=>true
 | .str _=>true
 | _=>false
def eqV:V->V->Bool
 | .non,.non=>true
 | .bl a,.bl b=>a == b
 | .bl a,.int b=>(if a then 1 else 0) == b
 | .int a,.bl b=>a == (if b then 1 else 0)
 | .int a,.int b=>a == b
 | .str a,.str b=>a == b
 | _,_=>false
theorem Zxg {A:Around} {s:Shared} {y x:V} {u v:Value} (ry:RelV y u) (rx:RelV x v) (fy:flatV y=true) (fx:flatV x=true):SeqAt.EqAt A s u v (eqV y x):=by
 cases y with
 | non=>
  cases ry
  cases x with
  | non=>cases rx;exact SeqAt.EqAt.same _
  | bl b=>cases rx;exact SeqAt.EqAt.none_bool b
  | int b=>obtain ⟨t,rfl⟩:=rx;exact SeqAt.EqAt.none_int b t
  | str b=>obtain ⟨t,rfl⟩:=rx;exact SeqAt.EqAt.none_str b t
  | _=>exact absurd (show false=true from fx) Uar
 | bl a=>
  cases ry
  cases x with
  | non=>cases rx;exact SeqAt.EqAt.bool_none a
  | bl b=>cases rx;exact SeqAt.EqAt.bool_bool a b
  | int b=>obtain ⟨t,rfl⟩:=rx;exact SeqAt.EqAt.bool_int a b t
  | str b=>obtain ⟨t,rfl⟩:=rx;exact SeqAt.EqAt.bool_str a b t
  | _=>exact absurd (show false=true from fx) Uar
 | int a=>
  obtain ⟨t',rfl⟩:=ry
  cases x with
  | non=>cases rx;exact SeqAt.EqAt.int_none a t'
  | bl b=>cases rx;exact SeqAt.EqAt.int_bool a t' b
  | int b=>obtain ⟨t,rfl⟩:=rx;exact SeqAt.EqAt.int_int a t' b t
  | str b=>obtain ⟨t,rfl⟩:=rx;exact SeqAt.EqAt.int_str a t' b t
  | _=>exact absurd (show false=true from fx) Uar
 | str a=>
  obtain ⟨t',rfl⟩:=ry
  cases x with
  | non=>cases rx;exact SeqAt.EqAt.str_none a t'
  | bl b=>cases rx;exact SeqAt.EqAt.str_bool a t' b
  | int b=>obtain ⟨t,rfl⟩:=rx;exact SeqAt.EqAt.str_int a t' b t
  | str b=>obtain ⟨t,rfl⟩:=rx;exact SeqAt.EqAt.str_str a t' b t
  | _=>exact absurd (show false=true from fx) Uar
 | _=>exact absurd (show false=true from fy) Uar
def eqU (x:V) (u:Value):Bool:=match u with
 | .none=>eqV .non x
 | .bool b=>eqV (.bl b) x
 | .int i _=>eqV (.int i) x
 | .str z _=>eqV (.str z) x
 | _=>false
theorem Zxa {x y:V} {u:Value} (r:RelV y u) (f:flatV y=true):eqU x u=eqV y x:=by
 cases y with
 | non=>cases r;rfl
 | bl b=>cases r;rfl
 | int i=>obtain ⟨t,rfl⟩:=r;rfl
 | str z=>obtain ⟨t,rfl⟩:=r;rfl
 | _=>exact absurd (show false=true from f) Uar
theorem Zjt {x:V}:∀ {xs:List V} {us:List Value},Vals xs us->xs.all flatV=true->us.any (eqU x)=xs.any fun y=>eqV y x
 | _,_,.nil,_=>rfl
 | y :: xs,u :: us,.cons r t,f=>by
  rw [List.all_cons,Ubh] at f
  rw [Ucf,Ucf,Zxa r f.1,Zjt t f.2]
theorem Zg4 {A:Around} {s:Shared} {x:V} {v:Value} (rx:RelV x v) (fx:flatV x=true):∀ {xs:List V} {us:List Value},Vals xs us->xs.all flatV=true->∀ u∈us,SeqAt.EqAt A s u v (eqU x u)
 | _,_,.nil,_=>fun u hu=>by cases hu
 | y :: xs,u :: us,.cons r t,f=>fun u' hu=>by
  rw [List.all_cons,Ubh] at f
  rcases Uan.mp hu with rfl | hu
  ·rw [Zxa r f.1];exact Zxg r rx f.1 fx
  ·exact Zg4 rx fx t f.2 u' hu
def inV (x:V) (xs:List V):Bool:=xs.any fun y=>eqV y x
def rIn (K:PySem.W.Frag) (neg:Bool):R2:=fun x y H Q=>∃ p xs,y=.ref p/\(SqL K H p xs\/SqT K H p xs)/\flatV x=true/\xs.all flatV=true/\Q (.bl (if neg then !inV x xs else inV x xs)) H
theorem Zu5:OpR X (compareOp .In) (rIn X.K false):=by
 intro pins s σ H x y v u Q I rx ry h
 obtain ⟨p,xs,rfl,hq,fx,fs,q⟩:=h
 cases ry
 rcases hq with hq | hq
 ·obtain ⟨its,r,pl,hz⟩:=I.list hq
  refine SeqAt.in_listAt (eqU x) pl.isList (fun w hw=>Zg4 rx fx r fs w (by simpa using hw)) ⟨.bl _,H,I,rfl,?_⟩
  rw [show its.toArray.any (eqU x)=its.any (eqU x) by simp,Zjt r fs]
  exact q
 ·obtain ⟨its,r,pl,hz⟩:=I.tuple hq
  refine SeqAt.in_tupleAt (eqU x) pl (fun w hw=>Zg4 rx fx r fs w (by simpa using hw)) ⟨.bl _,H,I,rfl,?_⟩
  rw [show its.toArray.any (eqU x)=its.any (eqU x) by simp,Zjt r fs]
  exact q
theorem Znw:OpR X (compareOp .NotIn) (rIn X.K true):=by
 intro pins s σ H x y v u Q I rx ry h
 obtain ⟨p,xs,rfl,hq,fx,fs,q⟩:=h
 cases ry
 rcases hq with hq | hq
 ·obtain ⟨its,r,pl,hz⟩:=I.list hq
  refine SeqAt.notIn_listAt (eqU x) pl.isList (fun w hw=>Zg4 rx fx r fs w (by simpa using hw)) ⟨.bl _,H,I,rfl,?_⟩
  rw [show its.toArray.any (eqU x)=its.any (eqU x) by simp,Zjt r fs]
  exact q
 ·obtain ⟨its,r,pl,hz⟩:=I.tuple hq
  refine SeqAt.notIn_tupleAt (eqU x) pl (fun w hw=>Zg4 rx fx r fs w (by simpa using hw)) ⟨.bl _,H,I,rfl,?_⟩
  rw [show its.toArray.any (eqU x)=its.any (eqU x) by simp,Zjt r fs]
  exact q
theorem Zih:CallR X (.type "list") (fun xs H Q=>∃ p ys,xs=[.ref p]/\(SqL X.K H p ys\/SqT X.K H p ys)/\∀ l,H l=none->Q (.ref l) (upd H l (.lst ys))):=by
 intro pins s σ H xs us Q I r h
 obtain ⟨p,ys,rfl,hq,q⟩:=h
 obtain ⟨u,rfl,rx⟩:=vals1 r
 cases rx
 have fin:∀ (its:List Value),Vals ys its->ys.length<=sizeLine->∀ (h':Heap) (c':Nat),(∀ b o',s.heap.get? b=some o'->h'.get? b=some o')->
   h'.get? s.heap.objs.size=some { cls:=.type "list",dict:=none,data:=.seq its.toArray c',slots:=#[] }->EP X pins σ Q (.ref s.heap.objs.size) { s with heap:=h' }:=fun its r' hz h' c' kp e=>
  ⟨.ref s.heap.objs.size,_,I.laid (t':=s.toks) kp (Uah _) (show ObjOk X.prog X.w _ h' _ (.lst ys) from ⟨hz,its,c',r',e⟩),rfl,q _ (I.hok.fresh (Uah _))⟩
 rcases hq with hq | hq
 ·obtain ⟨its,r',pl,hz⟩:=I.list hq
  have hlen:=r'.length
  obtain ⟨o,ho,hc,n,hd⟩:=pl.isList
  exact call_list_seq p (.inl rfl) ho hc hd (fun h' c' kp e=>fin its r' hz h' c' kp e) (by simp only [Uao]<;>omega)
 ·obtain ⟨its,r',pl,hz⟩:=I.tuple hq
  have hlen:=r'.length
  obtain ⟨o,ho,hc,n,hd⟩:=pl
  exact call_list_seq p (.inr rfl) ho hc hd (fun h' c' kp e=>fin its r' hz h' c' kp e) (by simp only [Uao]<;>omega)
theorem Zm0:CallR X (.type "tuple") (fun xs H Q=>∃ p ys,xs=[.ref p]/\((SqL X.K H p ys/\∀ l,H l=none->Q (.ref l) (upd H l (.tup ys)))\/(SqT X.K H p ys/\Q (.ref p) H))):=by
 intro pins s σ H xs us Q I r h
 obtain ⟨p,ys,rfl,h⟩:=h
 obtain ⟨u,rfl,rx⟩:=vals1 r
 cases rx
 rcases h with ⟨hq,q⟩ | ⟨hq,q⟩
 ·obtain ⟨its,r',pl,hz⟩:=I.list hq
  have hlen:=r'.length
  refine call_tuple_list pl.isList (fun h' kp=>?_) (by simp only [Uao]<;>omega)
  have I1:Inv X pins σ H { s with heap:=h' }:=I.kept (t':=s.toks) kp
  have I2:Inv X pins σ (upd H h'.objs.size (.tup ys)) { s with heap:=h'.push { cls:=.type "tuple",data:=.seq its.toArray } }:=
   I1.laid (t':=s.toks) (fun b o e=>Heap.get?_push_of_some _ e) (Uah _) (show ObjOk X.prog X.w _ _ _ (.tup ys) from ⟨hz,its,r',IsTup.new _ _⟩)
  exact ⟨.ref h'.objs.size,_,I2,rfl,q _ (I1.hok.fresh (Uah _))⟩
 ·obtain ⟨its,r',pl,hz⟩:=I.tuple hq
  exact call_tuple_same pl ⟨.ref p,H,I,rfl,q⟩
def tyV (K:PySem.W.Frag) (T:String) (x:V) (H:Hp):Prop:=match x with
 | .str _=>T = "str"
 | .int _=>T = "int"
 | .ref p=>(T = "list"/\∃ xs,SqL K H p xs)\/(T = "tuple"/\∃ o,K.lookup p=some o/\o.cls=.type "tuple"/\o.dict=none)\/
   (T = "dict"/\((∃ kvs,H p=some (.dK kvs))\/∃ kvs,H p=some (.dT kvs)))\/(T = "set"/\∃ S n,H p=some (.set S n))
 | _=>False
theorem Zxe {pins:List (Addr×Obj)} {σ:St} {H:Hp} {s:Shared} {T:String} {x:V} {v:Value} (I:Inv X pins σ H s) (r:RelV x v) (ty:tyV X.K T x H) :
  s.TypeIs v T/\∀ a,v=.ref a->∃ ob,s.heap.get? a=some ob/\ob.dict=none:=by
 cases x with
 | str z=>
  obtain ⟨t,rfl⟩:=r
  cases (show T = "str" from ty)
  exact ⟨typeIs_str s z t,fun _ e=>nomatch e⟩
 | int i=>
  obtain ⟨t,rfl⟩:=r
  cases (show T = "int" from ty)
  exact ⟨typeIs_int s i t,fun _ e=>nomatch e⟩
 | ref p=>
  cases r
  rcases ty with ⟨rfl,xs,hq⟩ | ⟨rfl,o,hk,hc,hd⟩ | ⟨rfl,hk⟩ | ⟨rfl,S,n,hk⟩
  ·obtain ⟨its,_,pl,_⟩:=I.list hq
   refine ⟨pl.isList.typeIs,fun a e=>?_⟩
   cases e
   obtain ⟨o,n,e,c,hd,_⟩:=pl
   exact ⟨o,e,hd⟩
  ·refine ⟨⟨o,I.kIn p o hk,hc⟩,fun a e=>?_⟩
   cases e
   exact ⟨o,I.kIn _ o hk,hd⟩
  ·have z:∃ o,s.heap.get? p=some o/\o.ExactDict:=by
    rcases hk with ⟨kvs,hk⟩ | ⟨kvs,hk⟩
    ·obtain ⟨_,_,_,_,o,_,_,e,ex,_⟩:=I.hok p _ hk
     exact ⟨o,e,ex⟩
    ·obtain ⟨_,_,_,_,o,_,_,e,ex,_⟩:=I.hok p _ hk
     exact ⟨o,e,ex⟩
   obtain ⟨o,e,ex⟩:=z
   refine ⟨⟨o,e,ex.1⟩,fun a e2=>?_⟩
   cases e2
   exact ⟨o,e,ex.2.1⟩
  ·obtain ⟨o,_,_,_,e,ex,_⟩:=I.hok p _ hk
   refine ⟨⟨o,e,ex.1⟩,fun a e2=>?_⟩
   cases e2
   exact ⟨o,e,ex.2.1⟩
 | _=>exact False.elim ty
def tBM0 (K:PySem.W.Frag) (T:String) (r:V->List V->Hp->VK->Prop) (to:TE):TE:=fun σ H Q=>to σ H fun x H1=>tyV K T x H1/\r x [] H1 Q
def tBM (K:PySem.W.Frag) (T:String) (r:V->List V->Hp->VK->Prop) (to:TE) (t:TA):TE:=fun σ H Q=>to σ H fun x H1=>tyV K T x H1/\t σ H1 fun xs H2=>r x xs H2 Q
variable {o e:Expr} {es:List Expr} {to:TE} {t:TA} {name:Str} {apos cpos:Pos} {T id:String} {r:V->List V->Hp->VK->Prop}
theorem Zy0 (pa:PlainAttrs T) (slot:Slot T name id) (hty:typeOf (.builtin id)=pure (.type "method_descriptor")) (hm:MtR X id r) (ho:PE X o to)
  (hbase:attributeBase o name X.env (eval o X.env)=eval o X.env:=by rfl) (hline:(apos.endLine == cpos.line)=true:=by rfl):PE X (.Call (.Attribute o name apos) [] [] cpos) (tBM0 X.K T r to):=by
 intro pins s σ H Q I h
 refine wpAny_Call_method0_late hbase hline (thn (ho pins s σ H _ I h) fun v s1 ⟨x,H1,I1,r1,ty,q1⟩=>?_)
 obtain ⟨h1,h2⟩:=Zxe I1 r1 ty
 exact ⟨T,id,pa,slot,hty,h1,h2,Calls.callWith_builtin rfl (PySem.evalArgs_none (hm pins s1 σ H1 x [] v [] Q I1 r1 .nil q1))⟩
theorem Zlk (pa:PlainAttrs T) (slot:Slot T name id) (hty:typeOf (.builtin id)=pure (.type "method_descriptor")) (hm:MtR X id r) (ho:PE X o to) (ha:PA X (e :: es) t)
  (hbase:attributeBase o name X.env (eval o X.env)=eval o X.env:=by rfl)
  (hfew:((backTo cpos (starEach (e :: es) X.env)).all (fun x=>!x.1) && (backToKw cpos (keywordEach [] X.env)).all (fun x=>x.1.isSome)
   && decide ((e :: es).length + ([]:List Keyword).length + (if ([]:List Keyword).isEmpty then 0 else 1) < 30))=true:=by rfl)
  (hline:(apos.endLine == cpos.line)=true:=by rfl) (hs:starEach (e :: es) X.env=(false,eval e X.env) :: starEach es X.env:=by rfl) (hplain:(backTo cpos (starEach es X.env)).any (·.1)=false:=by rfl) :
  PE X (.Call (.Attribute o name apos) (e :: es) [] cpos) (tBM X.K T r to t):=by
 intro pins s σ H Q I h
 refine wpAny_Call_method_late hbase hfew hline rfl (thn (ho pins s σ H _ I h) fun v s1 ⟨x,H1,I1,r1,ty,q1⟩=>?_)
 obtain ⟨h1,h2⟩:=Zxe I1 r1 ty
 refine ⟨T,id,pa,slot,hty,h1,h2,?_⟩
 have hA:=ha cpos pins s1 σ H1 _ I1 q1
 rw [hs] at hA ⊢
 refine Calls.callWith_builtin (by show (false || (backTo cpos (starEach es X.env)).any (·.1))=false;rw [hplain]<;>rfl) (Calls.evalArgs_plain ?_)
 exact thn hA fun us s2 ⟨vs,H2,I2,r2,q2⟩=>hm pins s2 σ H2 x vs v us Q I2 r1 r2 q2
end
end L2
namespace L2
open PySem PySem.Spec PyProof.Rows
def MtM (X:Cx) (id:String) (r:V->List V->Hp->VK->Prop):Prop:=
 ∀ (pins:List (Addr×Obj)) (s:Shared) (σ:St) (H:Hp) (x:V) (xs:List V) (v:Value) (us:List Value) (Q:VK),Inv X pins σ H s->RelV x v->Vals xs us->r x xs H Q->
  wpAny (model X.prog X.w) X.A (call (.builtin id) (v :: us)) (EP X pins σ Q) X.xe s
theorem Vals.one:∀ {x:V} {us:List Value},Vals [x] us->∃ u,us=[u]/\RelV x u
 | _,_,.cons r .nil=>⟨_,rfl,r⟩
theorem Vals.zero:∀ {us:List Value},Vals [] us->us=[]
 | _,.nil=>rfl
section
variable {X:Cx} {pins:List (Addr×Obj)} {σ:St} {H:Hp} {s:Shared} {l b:Addr} {xs ys zs:List V}
theorem Inv.lset {its its':List Value} {n:Nat} {f:Array Value->Array Value} {t':Nat} (I:Inv X pins σ H s) (hH:H l=some (.lst xs))
  (e:s.heap.get? l=some { cls:=.type "list",data:=.seq its.toArray n }) (hf:f its.toArray=its'.toArray) (hv:Vals ys its') (hz:ys.length<=sizeLine) :
  Inv X pins σ (upd H l (.lst ys)) { s with heap:=s.heap.update l (Obj.mapSeq f),toks:=t' }:=by
 have q:=PySem.IsL.update e f
 rw [hf] at q
 refine I.write (x:=l) (e:=l) (by rw [hH];exact trivial) (.inl rfl) (fun b' u hb hu=>(Heap.get?_update_other s.heap (Obj.mapSeq f) (Ne.symm hb)).trans hu) ⟨_,q⟩ ?_
 exact ⟨hz,its',_,hv,q⟩
theorem Inv.lnew {its:List Value} {t':Nat} (I:Inv X pins σ H s) (hv:Vals ys its) (hz:ys.length<=sizeLine) :
  Inv X pins σ (upd H s.heap.objs.size (.lst ys)) { s with heap:=s.heap.push { cls:=.type "list",data:=.seq its.toArray },toks:=t' }:=
 I.laid (fun _ _ q=>Heap.get?_push_of_some _ q) (Uah _) ⟨hz,its,0,hv,Heap.get?_push_size _ rfl⟩
theorem Inv.fresh (I:Inv X pins σ H s):H s.heap.objs.size=none:=I.hok.fresh (Uah _)
theorem Inv.lstM (I:Inv X pins σ H s) (hH:H l=some (.lst xs)):xs.length<=sizeLine/\∃ (its:List Value) (n:Nat),Vals xs its/\xs.length=its.length/\s.heap.get? l=some { cls:=.type "list",data:=.seq its.toArray n }:=by
 obtain ⟨z,its,n,r,e⟩:=I.hok l _ hH
 exact ⟨z,its,n,r,r.length,e⟩
theorem notLongL {n:Nat} (h:n<=sizeLine):Builtin.List.listTooLong n=false:=by
 unfold Builtin.List.listTooLong
 exact Uam (by omega)
end
section
variable {X:Cx}
def rAppend:V->List V->Hp->VK->Prop:=fun x vs H Q=>∃ l xs y,x=.ref l/\vs=[y]/\H l=some (.lst xs)/\xs.length < sizeLine/\Q .non (upd H l (.lst (xs++[y])))
theorem Zb7:MtM X "list.append" rAppend:=by
 intro pins s σ H x vs v us Q I rx rv h
 obtain ⟨l,xs,y,rfl,rfl,hH,hz,q⟩:=h
 cases rx
 obtain ⟨u,rfl,ru⟩:=rv.one
 obtain ⟨z,its,n,r,hl,e⟩:=I.lstM hH
 refine call_meets F.slot_list_append ⟨_,e,rfl⟩ F.entry_list_append (F.args_list_append_2 _ _) (PySem.list_append l its.toArray n u (by rw [Uao];omega)) ⟨e,?_⟩
 refine ⟨.non,_,I.lset (its':=its++[u]) hH e (by simp) (r.append (.cons ru .nil)) ?_,rfl,q⟩
 rw [Uat,Ubs]
 omega
def rExtend:V->List V->Hp->VK->Prop:=fun x vs H Q=>∃ l b xs zs,x=.ref l/\vs=[.ref b]/\H l=some (.lst xs)/\H b=some (.lst zs)/\xs.length + zs.length<=sizeLine/\Q .non (upd H l (.lst (xs++zs)))
theorem Zzd:MtM X "list.extend" rExtend:=by
 intro pins s σ H x vs v us Q I rx rv h
 obtain ⟨l,b,xs,zs,rfl,rfl,hH,hB,hz,q⟩:=h
 cases rx
 obtain ⟨u,rfl,ru⟩:=rv.one
 cases ru
 obtain ⟨z,its,n,r,hl,e⟩:=I.lstM hH
 obtain ⟨z2,its2,n2,r2,hl2,e2⟩:=I.lstM hB
 have hsz:its.toArray.size + its2.toArray.size<=sizeLine:=by rw [Uao,Uao];omega
 have hlong:¬ (!its.toArray.isEmpty && Builtin.List.listTooLong (its.toArray.size + its2.toArray.size))=true:=by
  rw [notLongL hsz,Bool.and_false]
  exact Uar
 refine call_meets F.slot_list_extend ⟨_,e,rfl⟩ F.entry_list_extend (F.args_list_extend_2 _ _)
  (AutoSeq1.list_extend_list_list_0 l its.toArray n b its2.toArray n2 hlong (by rw [Uao];omega) (by omega)) ⟨e,e2,?_⟩
 refine ⟨.non,_,I.lset (its':=its++its2) hH e (by simp) (r.append r2) ?_,rfl,q⟩
 rw [Uat]
 omega
def rCat:R2:=fun x y H Q=>∃ l b xs zs,x=.ref l/\y=.ref b/\H l=some (.lst xs)/\H b=some (.lst zs)/\xs.length + zs.length<=sizeLine/\∀ p,H p=none->Q (.ref p) (upd H p (.lst (xs++zs)))
theorem Zl4:OpR X (binaryOp .Add) rCat:=by
 intro pins s σ H x y v u Q I rx ry h
 obtain ⟨l,b,xs,zs,rfl,rfl,hH,hB,hz,q⟩:=h
 cases rx
 cases ry
 obtain ⟨z,its,n,r,hl,e⟩:=I.lstM hH
 obtain ⟨z2,its2,n2,r2,hl2,e2⟩:=I.lstM hB
 refine PySem.P.add_list e e2 ?_ (by rw [Uao,Uao];omega)
 have ea:its.toArray++its2.toArray=(its++its2).toArray:=by simp
 rw [ea]
 exact ⟨.ref _,_,I.lnew (t':=s.toks) (r.append r2) (by rw [Uat];omega),rfl,q _ I.fresh⟩
end
section
variable {prog:Program} {w:World} {A:Around} {E:Value->Shared->Prop} {s:Shared}
end
section
variable {X:Cx}
end
end L2
namespace Att
open PySem PySem.W PySem.Calls PyProof.Rows
theorem Zkz {P:Params} {h:Heap}:∀ (ns:List Int) (vs:List Value),WellAll P h vs (ns.map WData.int)->IntsAre vs ns:=by
 intro ns
 induction ns with
 | nil=>
  intro vs w
  rw [Udu] at w
  cases w
  exact .nil
 | cons n ns ih=>
  intro vs w
  rw [Uai] at w
  cases w with
  | cons a b=>
   cases a
   exact .cons _ _ (ih _ b)
theorem Zt7 {l:OpenLaw} {n:Nat} (hn:l.most=some n) {P:Params} {h:Heap} {args:List WData} {vals:List Value}
  (hpre:l.row.toRowW.claim.pre args=true) (hwl:WellAll P h vals args) :
  ∃ a vs ns,vals=[Value.ref a]/\args=[WData.list (ns.map WData.int)]/\h.get? a=some { cls:=.type "list",data:=.seq vs.toArray }/\IntsAre vs ns/\ns.length<=n:=by
 have hsh:WShape.hasAll [] args [.list .int]=true:=(pre_splitW hpre).1
 have hc:l.pre.holds [] { args:=args }=true:=(pre_splitW hpre).2
 obtain ⟨d,r,rfl,h1,h2⟩:=hasAllW_cons hsh
 obtain rfl:=hasAllW_nil h2
 obtain ⟨xs,rfl,h3⟩:=hasW_list h1
 obtain ⟨ns,rfl⟩:=items_int h3
 have hlen:ns.length<=n:=by
  unfold OpenLaw.pre at hc
  have h4:(WTm.not (.lt (.lit (.int (n:Int))) (.len (.arg 0)))).holds [] { args:=[.list (ns.map .int)] }=true:=by
   have h4:=(holds_andW hc).1
   rw [hn] at h4
   exact h4
  have h5:=condW_of h4 (w_not (w_lt w_lit (w_len_list (w_arg rfl))))
  rw [Uab] at h5
  refine Nat.le_of_not_lt fun q=>?_
  have q':(n:Int) < ((ns.length:Nat):Int):=by omega
  first
   | (rw [Uaf q'] at h5;exact absurd h5 (by decide))
   | (simp at h5;omega)
 cases hwl with
 | cons w1 w2=>
  cases w2
  cases w1 with
  | list ho hall=>exact ⟨_,_,ns,rfl,rfl,ho,Zkz ns _ hall,hlen⟩
theorem Zub (l:OpenLaw) (args:List WData):l.row.toRowW.claim.post args (.bool true) args=true:=
 postW_of (r:=l.row.toRowW) (X:=(true == true))
  (show WShape.has [] (.bool true) .bool=true by first | rfl | decide | simp [WShape.has,WShape.arms,WShape.armsAll])
  (show (WTm.eq .res (.lit (.bool true))).value [] { args:=args,res:=some (.bool true),after:=args }=some (.bool (true == true)) from w_eq_bool (w_res rfl) w_lit) rfl
theorem Zpx {l:OpenLaw} {n:Nat} {q:Program} {loose:List Str} {XP:(Str->Option Value)->Heap->Prop} {YP:World->Heap->Prop} {d:DefRec}
  (hn:l.most=some n) (hdf:d.params.defaults=[])
  (call:∀ (w:World) (s₀ s₁:Shared) (mg mb:Str->Option Value) (fa:Addr) (o:Obj) (pm cd doc:Value) (a:Addr) (vs:List Value) (ns:List Int),
   Ground q loose [] XP w s₀ mg mb s₁.heap->YP w s₁.heap->
   s₁.heap.get? fa=some o->o.data=.func (docDef d.name d.params d.body d.scope pm cd doc)->s₁.heap.CodeRec cd d.name->mg d.name=some (.ref fa)->
   s₁.heap.get? a=some { cls:=.type "list",data:=.seq vs.toArray }->IntsAre vs ns->ns.length<=n->s₁.gens=#[]->
   codeAny (model l.prog w) callerA (.call (.ref fa) ⟨[.ref a],[]⟩) (fun r s'=>r=.ok (.ret (.bool true))/\OldK s₁.heap s'.heap/\s'.os=s₁.os/\AllBare s'.gens) s₁) :
  WalkO q loose XP YP l.row.toRowW d [] (fun f vs=>PySem.call f vs):=by
 intro w s₀ s₁ mg mb G Y fa o pm cd doc dV kV ho hd hcd hD hmg hg args vals as hpre hlay hrd hwl hlo
 obtain rfl:dV=.none:=Dflts.none hD hdf
 obtain rfl:kV=.none:=Dflts.noKw hD
 obtain ⟨a,vs,ns,rfl,rfl,hobj,hints,hlen⟩:=Zt7 hn hpre hwl
 refine enter_call (codeAny_mono (call w s₀ s₁ mg mb fa o pm cd doc a vs ns G Y ho (fd_plain hd) hcd hmg hobj hints hlen hg) fun r s' hq=>?_)
 obtain ⟨rfl,h2,h3,h4⟩:=hq
 exact ⟨.inl ⟨.bool true,.bool true,[],rfl,fun _=>rfl,.bool true,Zub l _,fun _=>⟨List.Pairwise.nil,fun _ hm=>(nomatch hm)⟩⟩,h2,h3,h4⟩
section
variable {prog:Program} {w:World} {A:Around} {E:Value->Shared->Prop} {s:Shared} {K:Frag}
end
end Att
namespace L2
open PySem PySem.Spec PyProof.Rows
theorem Zg1:∀ {vs:List Value} {ns:List Int},IntsAre vs ns->Vals (ns.map V.int) vs
 | _,_,.nil=>.nil
 | _,_,.cons n t h=>.cons ⟨t,rfl⟩ (Zg1 h)
def Only (H:Hp):Prop:=∀ b,H b=none\/∃ o xs,H b=some (.frz o (.lst xs))
theorem Zvy {P:Program} {w:World} {K:PySem.W.Frag} {mg mb:Str->Option Value} {CX:CXT} {k:Nat} {fa a:Addr} {fd:FuncData} {x:Str} {sp:Sp} {s₁:Shared} {vs:List Value} {ns:List Int}
  (KX:K.In s₁.heap) (hns:s₁.heap.Ns mainGlobals mg) (hb:s₁.heap.Ns builtinsNs mb) (hbb:∀ x:Str,x≠"__name__"->mb x=bootBuiltins x) (hlim:s₁.heap.NoLimit) (hg:s₁.gens=#[])
  (ha:s₁.heap.get? a=some { cls:=.type "list",data:=.seq vs.toArray }) (hi:IntsAre vs ns) (hl:ns.length<=sizeLine) (hr:Room k callerA)
  (F:∀ base:Heap,K.In base->base.Ns mainGlobals mg->FnOk P w K mg base CX k fa fd [x] sp) (hbind:∀ (s:Shared) (u:Value),BindsTo s fd ⟨[u],[]⟩ [(x,u)])
  (hsp:∀ H:Hp,Only H->SqL K H a (ns.map V.int)->sp [.ref a] H (fun v _=>v=.bl true) fun _ _ _=>False)
  (hCX:∀ H e s',CX [] H s₁ (fun _ _ _=>False) e s'->False) :
  codeAny (model P w) callerA (.call (.ref fa) ⟨[.ref a],[]⟩) (fun r s'=>r=.ok (.ret (.bool true))/\OldK s₁.heap s'.heap/\s'.os=s₁.os/\AllBare s'.gens) s₁:=by
 have rv:=Zg1 hi
 have lenV:=hi.length
 have core:∀ H:Hp,Only H->SqL K H a (ns.map V.int)->HOk P w H s₁.heap->(∀ b,H b≠none->b=a)->(H a≠none->K.lookup a=none)->
   codeAny (model P w) callerA (.call (.ref fa) ⟨[.ref a],[]⟩) (fun r s'=>r=.ok (.ret (.bool true))/\OldK s₁.heap s'.heap/\s'.os=s₁.os/\AllBare s'.gens) s₁:=by
  intro H hO hS hok hA hK
  have base_of:∀ {b:Addr} {o:Obj},s₁.heap.get? b=some o->H b=none->(hidT s₁.heap H).get? b=some o:=fun e n=>Zwu e n
  have noA:∀ {b:Addr} {o:Obj} {es:Array DictEntry} {ep:Nat},s₁.heap.get? b=some o->o.data=.dict es ep->H b=none:=fun {b o es ep} e d=>by
   cases q:H b with
   | none=>rfl
   | some u=>
    have e':b=a:=hA b (by rw [q];simp)
    subst e'
    rw [ha] at e;cases e
    have d':Data.seq vs.toArray _=Data.dict es ep:=d
    cases d'
  have nsK:∀ {b:Addr} {m:Str->Option Value},s₁.heap.Ns b m->(hidT s₁.heap H).Ns b m:=fun {b m} ⟨o,es,ep,e,d,r⟩=>⟨o,es,ep,base_of e (noA e d),d,r⟩
  have hKb:K.In (hidT s₁.heap H):=fun b o e=>base_of (KX b o e) (by
   cases q:H b with
   | none=>rfl
   | some u=>
    have e':b=a:=hA b (by rw [q];simp)
    subst e'
    rw [hK (by rw [q];simp)] at e;cases e)
  have hM:Mod K mg (hidT s₁.heap H):=⟨hKb,nsK hns,⟨mb,nsK hb,hbb⟩,let ⟨mc,h1,h2⟩:=hlim;⟨mc,nsK h1,h2⟩⟩
  have e0:Env0 P w K mg (hidT s₁.heap H) callerA [] s₁ H:=⟨rfl,hM,fun b o e=>Zxx e,Ub4 (Zt5 _ _),trivial,fun b hb=>absurd (show b∈([]:List Addr) from hb) (by simp),hok,.of_eq hg⟩
  refine codeAny_mono ((F _ hKb (nsK hns)).run callerA [] s₁ H ⟨[.ref a],[]⟩ [.ref a] [.ref a] _ _ hr e0 (hbind s₁ (.ref a)) (.cons rfl .nil) (hsp H hO hS)) fun r s' h=>?_
  cases r with
  | error e=>exact (hCX H e s' h).elim
  | ok fl=>
   cases fl with
   | next=>exact False.elim h
   | brk=>exact False.elim h
   | cont=>exact False.elim h
   | ret u=>
    obtain ⟨v,H',os,bare,un,hok',r',q⟩:=h
    have q':v=.bl true:=q
    subst q'
    obtain rfl:u=Value.bool true:=r'
    refine ⟨rfl,OldK.of_keep fun b o e=>?_,os,bare⟩
    cases q:H b with
    | none=>exact un.keep b o e q (by intro z;exact absurd (show b∈([]:List Addr) from z) (by simp)) (by simp)
    | some u=>
     rcases hO b with z | ⟨ob,xs,z⟩
     ·rw [q] at z;cases z
     ·have z2:=un.frzs b ob _ z
      obtain ⟨e1,_⟩:=hok b _ z
      obtain ⟨e2,_⟩:=hok' b _ z2
      rw [e] at e1;cases e1
      exact e2
 cases hk:K.lookup a with
 | some o=>
  have e:=KX a o hk
  rw [ha] at e
  cases e
  refine core (fun _=>none) (fun _=>.inl rfl) (.inr ⟨_,vs.toArray,_,hk,rfl,rfl,rfl,by rw [Uao,lenV];exact hl,by simpa using rv⟩) (fun b u z=>by have z':(none:Option HO)=some u:=z;cases z') (fun b z=>absurd rfl z) fun z=>absurd rfl z
 | none=>
  refine core (fun b=>if b=a then some (.frz { cls:=.type "list",data:=.seq vs.toArray } (.lst (ns.map V.int))) else none) (fun b=>?_) (.inl (.inr ⟨{ cls:=.type "list",data:=.seq vs.toArray },Uae rfl⟩)) (fun b u z=>?_) (fun b z=>?_) fun _=>hk
  ·by_cases hb:b=a
   ·exact .inr ⟨_,_,Uae hb⟩
   ·exact .inl (Uad hb)
  ·by_cases hb:b=a
   ·have z':=(Uae hb).symm.trans z
    cases z'
    subst hb
    exact ⟨ha,by rw [Uab];exact hl,vs,_,rv,ha⟩
   ·have z':=(Uad hb).symm.trans z
    cases z'
  ·by_cases hb:b=a
   ·exact hb
   ·exact absurd (Uad hb) z
end L2
namespace L2
open PySem PySem.Spec PyProof.Rows
theorem Zxu {l:PySem.W.OpenLaw} {n k:Nat} {q:Program} {loose:List Str} {XP:(Str->Option Value)->Heap->Prop} {YP:World->Heap->Prop} {d:DefRec} {K:Params->PySem.W.Frag} {CX:World->CXT} {sp:World->Sp} {x:Str}
  (hn:l.most=some n) (hn2:n<=sizeLine) (hdf:d.params.defaults=[]) (hr:Room k callerA)
  (hY:∀ (w:World) (h:Heap),YP w h->(K w.params).In h)
  (F:∀ (w:World) (mg:Str->Option Value) (fa:Addr) (h:Heap),(K w.params).In h->h.Ns mainGlobals mg->mg d.name=some (.ref fa)->
   ∃ fd:FuncData,(∀ (s:Shared) (u:Value),BindsTo s fd ⟨[u],[]⟩ [(x,u)])/\
    ∀ base:Heap,(K w.params).In base->base.Ns mainGlobals mg->FnOk l.prog w (K w.params) mg base (CX w) k fa fd [x] (sp w))
  (hsp:∀ (w:World) (H:Hp) (a:Addr) (ns:List Int),ns.length<=n->Only H->SqL (K w.params) H a (ns.map V.int)->sp w [.ref a] H (fun v _=>v=.bl true) fun _ _ _=>False)
  (hCX:∀ (w:World) (H:Hp) (s:Shared) (e:Value) (s':Shared),CX w [] H s (fun _ _ _=>False) e s'->False) :
  PySem.W.WalkO q loose XP YP l.row.toRowW d [] (fun f vs=>PySem.call f vs):=by
 refine Att.Zpx hn hdf fun w s₀ s₁ mg mb fa o pm cd doc a vs ns G Y ho hd hcd hmg hobj hints hlen hg=>?_
 have KX:=hY w _ Y
 obtain ⟨fd,hb,hF⟩:=F w mg fa _ KX G.T.g hmg
 exact Zvy KX G.T.g G.T.b G.T.builtins G.T.nolimit hg hobj hints (Ual hlen hn2) hr hF hb (fun H hO hS=>hsp w H a ns hlen hO hS) fun H e s'=>hCX w H s₁ e s'
theorem Zv4 {l:PySem.W.OpenLaw} {n k:Nat} {q:Program} {loose:List Str} {XP:(Str->Option Value)->Heap->Prop} {YP:World->Heap->Prop} {d:DefRec} {K:Params->PySem.W.Frag} {CX:CXT} {sp:PySem.W.Frag->Sp} {x:Str}
  (hn:l.most=some n) (hn2:n<=sizeLine) (hdf:d.params.defaults=[]) (hr:Room k callerA)
  (hY:∀ (w:World) (h:Heap),YP w h->(K w.params).In h)
  (F:∀ (w:World) (mg:Str->Option Value) (fa:Addr) (h:Heap),(K w.params).In h->h.Ns mainGlobals mg->mg d.name=some (.ref fa)->
   ∃ fd:FuncData,(∀ (s:Shared) (u:Value),BindsTo s fd ⟨[u],[]⟩ [(x,u)])/\
    ∀ base:Heap,(K w.params).In base->base.Ns mainGlobals mg->FnOk l.prog w (K w.params) mg base CX k fa fd [x] (sp (K w.params)))
  (hsp:∀ (K:PySem.W.Frag) (H:Hp) (a:Addr) (ns:List Int),ns.length<=n->Only H->SqL K H a (ns.map V.int)->sp K [.ref a] H (fun v _=>v=.bl true) fun _ _ _=>False)
  (hCX:∀ (H:Hp) (s:Shared) (e:Value) (s':Shared),CX [] H s (fun _ _ _=>False) e s'->False) :
  PySem.W.WalkO q loose XP YP l.row.toRowW d [] (fun f vs=>PySem.call f vs):=
 Zxu (K:=K) (CX:=fun _=>CX) (sp:=fun w=>sp (K w.params)) hn hn2 hdf hr hY F (fun w H a ns h1 h2 h3=>hsp (K w.params) H a ns h1 h2 h3) fun _ H s e s'=>hCX H s e s'
end L2
namespace L2
open PySem PySem.Spec PyProof.Rows
def inClass (s:Stmt) (j:Nat):Stmt:=match s with
 | .ClassDef _ _ _ body _ _ _ _ _ _ _=>body.getD j (.Pass ⟨0,0,0,0⟩)
 | _=>.Pass ⟨0,0,0,0⟩
def defArgs (s:Stmt):Arguments:=match s with
 | .FunctionDef _ a _ _ _ _ _ _ _ _=>a
 | _=>{ posonlyargs:=[],args:=[],vararg:=none,kwonlyargs:=[],kw_defaults:=[],kwarg:=none,defaults:=[] }
def defBody (s:Stmt):List Stmt:=match s with
 | .FunctionDef _ _ b _ _ _ _ _ _ _=>b
 | _=>[]
def defScope (s:Stmt):Scope:=match s with
 | .FunctionDef _ _ _ _ _ _ sc _ _ _=>sc
 | _=>{ kind:=.function,names:=[],isGenerator:=false,isCoroutine:=false }
abbrev CX0:CXT:=fun _ _ _ _ _ _=>False
abbrev E0:XK:=fun _ _ _=>False
theorem pass0 {X:Cx}:Passes CX0 X E0:=fun _ _ _ _ _ _ _ h=>h.elim
structure Fun (K:PySem.W.Frag) (x qual:Str) (st:Stmt) (f:Addr) (fd:FuncData):Prop where
 ex:∃ (oc:Value) (od:Option Addr) (kV doc pm:Value) (an:Option Addr) (cdv ct:Value) (osl:Array (Option Value)),
  fd=PySem.W.fnOf x qual (defArgs st) (defBody st) (defScope st) .none kV doc pm an cdv ct/\K.lookup f=some ⟨oc,od,.func fd,osl⟩/\PySem.W.codeIn K cdv qual=true
 kp:PySem.W.keepIn K (.ref f)=true
section
variable {P:Program} {w:World} {K:PySem.W.Frag} {mg:Str->Option Value} {base:Heap}
theorem Fun.ok {x qual:Str} {st:Stmt} {f:Addr} {fd:FuncData} {N ps:List Str} {k:Nat} {sp:Sp} (F:Fun K x qual st f fd) (S:FnScope N ps (defScope st)) (len:∀ vs H Q E,sp vs H Q E->vs.length=ps.length)
  (hbody:∀ (cdv:Value) (A:Around) (outer:List Env) (s:Shared) (H:Hp) (vs:List V) (Q:VK) (E:XK),Room k (A.deeper (envOfC qual (defScope st) s.heap.objs.size f cdv))->sp vs H Q E->
   ∃ t,PSs (cxOf CX0 P w K mg base N qual (defScope st) f cdv A outer s H E).nox (defBody st) t/\t { nx:=fun _ H'=>Q .non H',rt:=Q } (start N vs) H):FnOk P w K mg base CX0 (k + 1) f fd ps sp:=by
 obtain ⟨oc,od,kV,doc,pm,an,cdv,ct,osl,rfl,lk,hcd⟩:=F.ex
 refine Zx8 lk hcd S len fun A outer s H vs Q E hr hsp=>?_
 obtain ⟨t,h,q⟩:=hbody cdv A outer s H vs Q E hr hsp
 exact ⟨t,h.nox,q⟩
theorem Fun.binds {x qual:Str} {st:Stmt} {f:Addr} {fd:FuncData} {ps:List Str} (F:Fun K x qual st f fd)
  (h:∀ (kV doc pm:Value) (an:Option Addr) (cdv ct:Value) (us:List Value),us.length=ps.length->bindArgs (PySem.W.fnOf x qual (defArgs st) (defBody st) (defScope st) .none kV doc pm an cdv ct) ⟨us,[]⟩=pure (ps.zip us)):Binds K fd ps []:=by
 obtain ⟨oc,od,kV,doc,pm,an,cdv,ct,osl,rfl,lk,hcd⟩:=F.ex
 exact .all (h kV doc pm an cdv ct)
theorem Zt1 {x qual:Str} {st:Stmt} {f:Addr} {oc:Value} {od an:Option Addr} {osl:Array (Option Value)} {kV doc pm cdv ct:Value} (l:K.lookup f=some ⟨oc,od,.func (PySem.W.fnOf x qual (defArgs st) (defBody st) (defScope st) .none kV doc pm an cdv ct),osl⟩)
  (c:PySem.W.codeIn K cdv qual=true) (k:PySem.W.keepIn K (.ref f)=true):Fun K x qual st f (PySem.W.fnOf x qual (defArgs st) (defBody st) (defScope st) .none kV doc pm an cdv ct):=⟨⟨oc,od,kV,doc,pm,an,cdv,ct,osl,rfl,l,c⟩,k⟩
end
theorem Zff {A:Around} {k:Nat} (hr:Room k A):A.units + 1 < cLine:=Udn (Nat.add_le_add_left (by decide:1<=64) _) hr.units
theorem small1000 {n:Nat} (h:n<=1000):n < sizeLine:=Udn h (by decide)
section
variable {X:Cx}
theorem pv (i:Nat) {x:Str} {pos:Pos} (hN:X.N[i]?=some x:=by rfl) (hv:Vis X.env.scope x:=by first | exact Or.inl rfl | exact Or.inr (Or.inl rfl) | exact Or.inr (Or.inr rfl)) (hd:(x == ("__debug__" : Str))=false:=by decide)
  (hcd:(x == ("__classdict__" : Str))=false:=by decide):PE X (.Name x pos) (tVar i):=Zyv hN hv hd hcd
end
theorem iteF {A B:Prop} (h:B):if false=true then A else B:=by
 rw [Uad Uar]
 exact h
theorem iteT {A B:Prop} (h:A):if true=true then A else B:=by
 rw [Uae rfl]
 exact h
theorem ite2 {c A B:Prop} [Decidable c] (h1:c->A) (h2:¬ c->B):if c then A else B:=by
 by_cases h:c
 ·rw [Uae h]
  exact h1 h
 ·rw [Uad h]
  exact h2 h
theorem iteNS {c A B:Prop} [Decidable c] (hc:c) (h:B):if (!decide c)=true then A else B:=by
 rw [Uaf hc]
 exact iteF h
def Same (H H':Hp):Prop:=∀ b o,H b=some o->H' b=some o
theorem Same.refl (H:Hp):Same H H:=fun _ _ h=>h
theorem Same.trans {H H1 H2:Hp} (a:Same H H1) (b:Same H1 H2):Same H H2:=fun c o h=>b c o (a c o h)
theorem Same.free {H H':Hp} (e:Same H H') {l:Addr} (h:H' l=Option.none):H l=Option.none:=by
 cases q:H l with
 | none=>rfl
 | some o=>
  rw [e l o q] at h
  cases h
theorem Same.seq {K:PySem.W.Frag} {H H':Hp} {a:Addr} {xs:List V} (e:Same H H') (h:SqL K H a xs):SqL K H' a xs:=by
 rcases h with (h | ⟨o,h⟩) | h
 ·exact .inl (.inl (e _ _ h))
 ·exact .inl (.inr ⟨o,e _ _ h⟩)
 ·exact .inr h
end L2
set_option maxHeartbeats 4000000
namespace L2
open PySem PySem.Spec PyProof.Rows
section
variable {κ:Type} [DecidableEq κ]
def valV (kvs:List (κ×V)) (k:κ):Option V:=(kvs.find? fun kv=>decide (kv.1=k)).map (·.2)
def putK (kvs:List (κ×V)) (k:κ) (v:V):List (κ×V):=
 if (kvs.any fun kv=>decide (kv.1=k))=true then kvs.map (fun kv=>if kv.1=k then (kv.1,v) else kv) else kvs++[(k,v)]
theorem Zcf {p:κ×V} {r:List (κ×V)} {k:κ} (e:p.1=k):valV (p :: r) k=some p.2:=by simp [valV,Ucg,e]
theorem Zcd {p:κ×V} {r:List (κ×V)} {k:κ} (e:¬ p.1=k):valV (p :: r) k=valV r k:=by simp [valV,Ucg,e]
theorem Zha (k:κ):∀ kvs:List (κ×V),(kvs.any fun kv=>decide (kv.1=k))=(valV kvs k).isSome
 | []=>rfl
 | p :: r=>by
  rw [Ucf]
  by_cases e:p.1=k
  ·simp only [Zcf e,Uaf e,Bool.true_or,Option.isSome_some]
  ·rw [Zcd e,Uam e,Bool.false_or];exact Zha k r
theorem Zrl (k j:κ) (y:V):∀ kvs:List (κ×V),valV (kvs.map fun kv=>if kv.1=k then (kv.1,y) else kv) j=(valV kvs j).map fun x=>if j=k then y else x
 | []=>rfl
 | p :: r=>by
  have ih:=Zrl k j y r
  rw [Uai]
  by_cases h:p.1=k
  ·rw [Uae h]
   by_cases e:p.1=j
   ·rw [Zcf (p:=(p.1,y)) e,Zcf e,Udc,Uae (e.symm.trans h)]
   ·rw [Zcd (p:=(p.1,y)) e,Zcd e,ih]
  ·rw [Uad h]
   by_cases e:p.1=j
   ·rw [Zcf (p:=p) e,Zcf e,Udc,Uad (fun z=>h (e.trans z))]
   ·rw [Zcd (p:=p) e,Zcd e,ih]
theorem Zo7 (k j:κ) (y:V):∀ kvs:List (κ×V),valV kvs k=none->valV (kvs++[(k,y)]) j=if j=k then some y else valV kvs j
 | [],_=>by
  by_cases e:k=j
  ·rw [Uae e.symm];exact Zcf (p:=(k,y)) e
  ·rw [Uad (fun z=>e z.symm)];exact Zcd (p:=(k,y)) e
 | p :: r,hn=>by
  rw [Ubf]
  have hk:¬ p.1=k:=fun z=>by rw [Zcf z] at hn;cases hn
  rw [Zcd hk] at hn
  have ih:=Zo7 k j y r hn
  by_cases e:p.1=j
  ·rw [Zcf e,Zcf e,Uad (fun z=>hk (e.trans z))]
  ·rw [Zcd e,Zcd e,ih]
theorem Zjq (kvs:List (κ×V)) (k j:κ) (y:V):valV (putK kvs k y) j=if j=k then some y else valV kvs j:=by
 unfold putK
 by_cases a:(kvs.any fun kv=>decide (kv.1=k))=true
 ·rw [Uae a,Zrl]
  rw [Zha] at a
  by_cases e:j=k
  ·obtain ⟨x,hx⟩:=Option.isSome_iff_exists.mp a
   rw [Uae e,e,hx,Udc,Uae rfl]
  ·rw [Uad e]
   cases valV kvs j with
   | none=>rfl
   | some x=>rw [Udc,Uad e]
 ·rw [Uad a]
  refine Zo7 k j y kvs ?_
  rw [Zha] at a
  cases q:valV kvs k with
  | none=>rfl
  | some x=>rw [q] at a;exact (a rfl).elim
theorem Ze4 (kvs:List (κ×V)) (k:κ) (v:V):(putK kvs k v).length<=kvs.length + 1:=by
 unfold putK
 split
 ·rw [Uab];omega
 ·rw [Uat,Uaz,List.length_nil];omega
theorem Zv8 {kvs:List (κ×V)} {k:κ} (v:V) (h:valV kvs k=none):putK kvs k v=kvs++[(k,v)]:=by
 unfold putK
 rw [Zha,h]
 exact Uad (by decide)
theorem RelO.isSome_eq {o:Option V} {u:Option Value} (r:RelO o u):o.isSome=u.isSome:=by
 cases o with
 | none=>cases u with
  | none=>rfl
  | some _=>exact (show False from r).elim
 | some _=>cases u with
  | none=>exact (show False from r).elim
  | some _=>rfl
theorem KV.val {kvs:List (κ×V)} {vs:List (κ×Value)} (r:KV kvs vs) (k:κ):RelO (valV kvs k) (valueAt vs k):=by
 unfold KV at r
 induction r with
 | nil=>exact True.intro
 | @cons p q ps qs h t ih=>
  obtain ⟨h1,h2⟩:=h
  by_cases e:p.1=k
  ·have e':q.1=k:=h1.symm.trans e
   have b:valueAt (q :: qs) k=some q.2:=by simp [valueAt,Ucg,e']
   rw [Zcf e,b];exact h2
  ·have e':¬ q.1=k:=fun z=>e (h1.trans z)
   have b:valueAt (q :: qs) k=valueAt qs k:=by simp [valueAt,Ucg,e']
   rw [Zcd e,b];exact ih
theorem KV.any {kvs:List (κ×V)} {vs:List (κ×Value)} (r:KV kvs vs) (k:κ):(kvs.any fun kv=>decide (kv.1=k))=vs.any fun kv=>decide (kv.1=k):=by
 unfold KV at r
 induction r with
 | nil=>rfl
 | cons h t ih=>rw [Ucf,Ucf,ih,h.1]
theorem KV.repl {kvs:List (κ×V)} {vs:List (κ×Value)} (r:KV kvs vs) (k:κ) {y:V} {u:Value} (ry:RelV y u) :
  KV (kvs.map fun kv=>if kv.1=k then (kv.1,y) else kv) (vs.map fun kv=>if kv.1=k then (kv.1,u) else kv):=by
 unfold KV at r ⊢
 induction r with
 | nil=>exact .nil
 | @cons p q ps qs h t ih=>
  rw [Uai,Uai]
  refine .cons ?_ ih
  obtain ⟨h1,h2⟩:=h
  by_cases e:p.1=k
  ·rw [Uae e,Uae (h1.symm.trans e)];exact ⟨h1,ry⟩
  ·rw [Uad e,Uad (fun z=>e (h1.trans z))];exact ⟨h1,h2⟩
theorem KV.put {kvs:List (κ×V)} {vs:List (κ×Value)} (r:KV kvs vs) (k:κ) {y:V} {u:Value} (ry:RelV y u):KV (putK kvs k y) (stored vs k u):=by
 unfold putK stored
 rw [r.any k]
 by_cases e:(vs.any fun kv=>decide (kv.1=k))=true
 ·rw [Uae e,Uae e];exact r.repl k ry
 ·rw [Uad e,Uad e];exact Paired.snoc r ⟨rfl,ry⟩
theorem KV.length {kvs:List (κ×V)} {vs:List (κ×Value)} (r:KV kvs vs):kvs.length=vs.length:=Paired.length r
end
theorem Zvr {P:Program} {w:World} {k:Key} {u:Value} (r:RelV (kV k) u):(mixKind P w).is k u=true:=by
 cases k with
 | inl i=>obtain ⟨t,e⟩:=(show ∃ t,u=Value.int i t from r);subst e;exact Zp9 P w i t
 | inr x=>obtain ⟨t,e⟩:=(show ∃ t,u=Value.str x t from r);subst e;exact Zqr P w x t
theorem Zob {P:Program} {w:World}:∀ {ks:List Key} {us:List Value},Vals (ks.map kV) us->ItemsAre (mixKind P w) ks us
 | [],_,r=>by rw [Udu] at r;cases r;exact .nil
 | k :: ks,_,r=>by
  rw [Uai] at r
  cases r with
  | cons h t=>exact .cons (Zvr h) (Zob t)
abbrev KT (H:Hp):List (List Key×V)->List (List Key×Addr×Value)->Prop:=Paired fun p q=>p.1=q.1/\H q.2.1=some (.tup (p.1.map kV))/\RelV p.2 q.2.2
theorem KT.val {H:Hp} {kvs:List (List Key×V)} {xs:List (List Key×Addr×Value)} (r:KT H kvs xs) (k:List Key):RelO (valV kvs k) ((atKey xs k).map (·.2)):=by
 induction r with
 | nil=>exact True.intro
 | @cons p q ps qs h t ih=>
  obtain ⟨h1,_,h2⟩:=h
  by_cases e:p.1=k
  ·have e':q.1=k:=h1.symm.trans e
   have b:atKey (q :: qs) k=some q.2:=by simp [atKey,Ucg,e']
   rw [Zcf e,b];exact h2
  ·have e':¬ q.1=k:=fun z=>e (h1.trans z)
   have b:atKey (q :: qs) k=atKey qs k:=by simp [atKey,Ucg,e']
   rw [Zcd e,b];exact ih
theorem KT.repl {H:Hp} {kvs:List (List Key×V)} {xs:List (List Key×Addr×Value)} (r:KT H kvs xs) (k:List Key) {y:V} {u:Value} (ry:RelV y u) :
  KT H (kvs.map fun kv=>if kv.1=k then (kv.1,y) else kv) (xs.map (putAt k u)):=by
 induction r with
 | nil=>exact .nil
 | @cons p q ps qs h t ih=>
  rw [Uai,Uai]
  refine .cons ?_ ih
  obtain ⟨h1,h2,h3⟩:=h
  unfold putAt
  by_cases e:p.1=k
  ·rw [Uae e,Uae (h1.symm.trans e)];exact ⟨h1,h2,ry⟩
  ·rw [Uad e,Uad (fun z=>e (h1.trans z))];exact ⟨h1,h2,h3⟩
theorem KT.put {H:Hp} {kvs:List (List Key×V)} {xs:List (List Key×Addr×Value)} (r:KT H kvs xs) (k:List Key) {b:Addr} {y:V} {u:Value} (hb:H b=some (.tup (k.map kV))) (ry:RelV y u) :
  KT H (putK kvs k y) (storedH xs k b u):=by
 have e:(kvs.any fun kv=>decide (kv.1=k))=(atKey xs k).isSome:=by
  rw [Zha,(r.val k).isSome_eq,Option.isSome_map]
 unfold putK storedH
 rw [e]
 by_cases q:(atKey xs k).isSome=true
 ·rw [Uae q,Uae q];exact r.repl k ry
 ·rw [Uad q,Uad q];exact Paired.snoc r ⟨rfl,hb,ry⟩
theorem KT.keeps {H H':Hp} {kvs:List (List Key×V)} {xs:List (List Key×Addr×Value)} (r:KT H kvs xs) (ht:∀ b ys,H b=some (.tup ys)->H' b=some (.tup ys)):KT H' kvs xs:=
 Paired.mapP r fun _ _ z=>⟨z.1,ht _ _ z.2.1,z.2.2⟩
section
variable {P:Program} {w:World} {H:Hp} {h:Heap} {a:Addr}
theorem Zz {u:HO} (ok:HOk P w H h) (e:Rd H a u):ObjOk P w H h a u:=e.ok ok
theorem Zvw {kvs:List (Key×V)} (ok:HOk P w H h) (e:Rd H a (.dK kvs)):kvs.length<=sizeLine/\(a == sysModules)=false/\∃ vs,KV kvs vs/\h.DictOf (mixKind P w) a vs:=
 show ObjOk P w H h a (.dK kvs) from Zz ok e
theorem Zzq {kvs:List (Key×V)} (ok:HOk P w H h) (e:H a=some (.dK kvs)):kvs.length<=sizeLine/\(a == sysModules)=false/\∃ vs,KV kvs vs/\h.DictOf (mixKind P w) a vs:=Zvw ok (.inl e)
theorem Zn8 {ks:List Key} (ok:HOk P w H h) (e:H a=some (.tup (ks.map kV))):(tupleKind (mixKind P w)).is h ks a:=by
 obtain ⟨_,its,r,o,h1,h2,n,h3⟩:=(show ObjOk P w H h a (.tup (ks.map kV)) from ok a _ e)
 exact ⟨o,its.toArray,n,h1,h2,h3,by simpa using Zob r⟩
theorem Zv5 {kvs:List (List Key×V)} (ok:HOk P w H h) (e:Rd H a (.dT kvs)):kvs.length<=sizeLine/\(a == sysModules)=false/\
  ∃ xs,KT H kvs xs/\h.DictOfH (tupleKind (mixKind P w)) a xs:=by
 obtain ⟨z,y,xs,r,o,es,ep,h1,h2,h3,h4,h5⟩:=(show ObjOk P w H h a (.dT kvs) from Zz ok e)
 refine ⟨z,y,xs,r,o,es,ep,h1,h2,h3,h4,fun x hx=>?_,h5⟩
 have all:∀ {l:List (List Key×V)} {m:List (List Key×Addr×Value)},KT H l m->∀ x∈m,(tupleKind (mixKind P w)).is h x.1 x.2.1:=by
  intro l m q
  induction q with
  | nil=>intro x hx;exact nomatch hx
  | @cons p q ps qs hq t ih=>
   intro x hx
   rcases Uan.mp hx with e | hx
   ·subst e
    exact Zn8 ok (by rw [← hq.1];exact hq.2.1)
   ·exact ih x hx
 exact all r x hx
theorem Zwv {kvs:List (List Key×V)} (ok:HOk P w H h) (e:H a=some (.dT kvs)):kvs.length<=sizeLine/\(a == sysModules)=false/\
  ∃ xs,KT H kvs xs/\h.DictOfH (tupleKind (mixKind P w)) a xs:=Zv5 ok (.inl e)
end
def DGet (H:Hp) (a:Addr) (y:V) (r:Option V):Prop:=
 (∃ kvs k,Rd H a (.dK kvs)/\y=kV k/\r=valV kvs k)\/∃ kvs k b,Rd H a (.dT kvs)/\y=.ref b/\H b=some (.tup (k.map kV))/\r=valV kvs k
def DPut (H:Hp) (a:Addr) (y v:V) (H':Hp):Prop:=
 (∃ kvs k,H a=some (.dK kvs)/\y=kV k/\kvs.length < sizeLine/\H'=upd H a (.dK (putK kvs k v)))\/
 ∃ kvs k b,H a=some (.dT kvs)/\y=.ref b/\H b=some (.tup (k.map kV))/\kvs.length < sizeLine/\H'=upd H a (.dT (putK kvs k v))
theorem DGet.k {H:Hp} {a:Addr} {kvs:List (Key×V)} {k:Key} (e:H a=some (.dK kvs)):DGet H a (kV k) (valV kvs k):=.inl ⟨kvs,k,.inl e,rfl,rfl⟩
theorem DGet.t {H:Hp} {a b:Addr} {kvs:List (List Key×V)} {k:List Key} (e:H a=some (.dT kvs)) (eb:H b=some (.tup (k.map kV))):DGet H a (.ref b) (valV kvs k):=.inr ⟨kvs,k,b,.inl e,rfl,eb,rfl⟩
theorem DPut.k {H:Hp} {a:Addr} {kvs:List (Key×V)} {k:Key} {v:V} (e:H a=some (.dK kvs)) (hl:kvs.length < sizeLine):DPut H a (kV k) v (upd H a (.dK (putK kvs k v))):=.inl ⟨kvs,k,e,rfl,hl,rfl⟩
theorem DPut.t {H:Hp} {a b:Addr} {kvs:List (List Key×V)} {k:List Key} {v:V} (e:H a=some (.dT kvs)) (eb:H b=some (.tup (k.map kV))) (hl:kvs.length < sizeLine) :
  DPut H a (.ref b) v (upd H a (.dT (putK kvs k v))):=.inr ⟨kvs,k,b,e,rfl,eb,hl,rfl⟩
section
variable {X:Cx} {pins:List (Addr×Obj)} {σ:St} {H:Hp} {s:Shared} {a:Addr} {y v:V} {u r:Value} {o:Option V} {A:Around} {E:Value->Shared->Prop}
theorem Inv.big (I:Inv X pins σ H s):sysModules < s.heap.objs.size:=by
 have h:mainGlobals < s.heap.objs.size:=(I.mod.glob.keeps I.bk).lt
 exact Ucj (by decide) h
theorem Zto {Q:Value->Shared->Prop} (hu:A.units + 1 < cLine) (I:Inv X pins σ H s) (g:DGet H a y (some v)) (ry:RelV y u) (h:∀ w' s',Inv X pins σ H s'->RelV v w'->Q w' s') :
  wpAny (model X.prog X.w) A (getItem (.ref a) u) Q E s:=by
 rcases g with ⟨kvs,k,e,ey,l⟩ | ⟨kvs,k,b,e,ey,eb,l⟩
 ·subst ey
  obtain ⟨z,hd,vs,rel,dd⟩:=Zvw I.hok e
  obtain ⟨w',hw,rw'⟩:=RelO.some_of (v:=v) (o:=valueAt vs k) (by rw [l];exact rel.val k)
  exact wpAny_getItem_of (Zvr ry) dd.mapOf hw (h w' _ (I.tok _) rw')
 ·subst ey
  cases (show u=Value.ref b from ry)
  obtain ⟨z,hd,xs,rel,dd⟩:=Zv5 I.hok e
  obtain ⟨w',hw,rw'⟩:=RelO.some_of (v:=v) (o:=(atKey xs k).map (·.2)) (by rw [l];exact rel.val k)
  obtain ⟨p,hp,hp2⟩:=Option.map_eq_some_iff.mp hw
  refine wpAny_getItem_heap (tupleKind_room_in1 hu) (Zn8 I.hok eb) dd hp ?_
  rw [hp2]
  exact h w' _ (I.tok _) rw'
theorem Zya {Q:Value->Shared->Prop} (hu:A.units + 1 < cLine) (I:Inv X pins σ H s) (g:DGet H a y o) (ry:RelV y u) (h:∀ s',Inv X pins σ H s'->Q (.bool (!o.isSome)) s') :
  wpAny (model X.prog X.w) A (compareOp .NotIn u (.ref a)) Q E s:=by
 rcases g with ⟨kvs,k,e,ey,l⟩ | ⟨kvs,k,b,e,ey,eb,l⟩
 ·subst ey
  obtain ⟨z,hd,vs,rel,dd⟩:=Zvw I.hok e
  refine wpAny_notIn_of (Zvr ry) hd dd.mapOf ?_
  rw [← (rel.val k).isSome_eq,← l]
  exact h _ (I.tok _)
 ·subst ey
  cases (show u=Value.ref b from ry)
  obtain ⟨z,hd,xs,rel,dd⟩:=Zv5 I.hok e
  refine wpAny_notIn_heap (tupleKind_room_in1 hu) (Zn8 I.hok eb) hd dd ?_
  have q:=(rel.val k).isSome_eq
  rw [Option.isSome_map] at q
  rw [← q,← l]
  exact h _ (I.tok _)
theorem Zqk {h':Heap} {t':Nat} {ob:HO} (I:Inv X pins σ H s) (mu:Mut (H a)) (hs:Heap.SameBut a s.heap h') (he:∃ q,h'.get? a=some q) (new:ObjOk X.prog X.w (upd H a ob) h' a ob) :
  Inv X pins σ (upd H a ob) { s with heap:=h',toks:=t' }:=
 I.write (x:=a) (e:=a) mu (.inl rfl) (fun b q hb z=>(hs.2 b hb).trans z) he new
theorem Zzn {P:Program} {w:World} {H':Hp} {h':Heap} {kvs:List (Key×V)} {vs:List (Key×Value)} (z:kvs.length<=sizeLine) (hd:(a == sysModules)=false) (rel:KV kvs vs) (dd:h'.DictOf (mixKind P w) a vs) :
  ObjOk P w H' h' a (.dK kvs):=⟨z,hd,vs,rel,dd⟩
theorem Zti {H':Hp} {Q:Unit->Shared->Prop} (hu:A.units + 1 < cLine) (I:Inv X pins σ H s) (g:DPut H a y v H') (ry:RelV y u) (rv:RelV v r) (h:∀ s',Inv X pins σ H' s'->Q () s') :
  wpAny (model X.prog X.w) A (setItem (.ref a) u r) Q E s:=by
 rcases g with ⟨kvs,k,e,ey,l,eH⟩ | ⟨kvs,k,b,e,ey,eb,l,eH⟩
 ·subst ey eH
  obtain ⟨z,hd,vs,rel,dd⟩:=Zzq I.hok e
  have hz:vs.length<=sizeLine:=by rw [← rel.length];exact z
  have hl:(putK kvs k v).length<=sizeLine:=by have:=Ze4 kvs k v;omega
  refine wpAny_setItem_pairs (hsz:=hz) (Zvr ry) dd fun h' dd' hs=>h _ ?_
  have he:∃ q,h'.get? a=some q:=let ⟨q,_,_,hq,_⟩:=dd';⟨q,hq⟩
  exact Zqk I (by rw [e];exact True.intro) hs he (Zzn hl hd (rel.put k rv) dd')
 ·subst ey eH
  cases (show u=Value.ref b from ry)
  obtain ⟨z,hd,xs,rel,dd⟩:=Zwv I.hok e
  have hz:xs.length<=sizeLine:=by rw [← Paired.length rel];exact z
  have hl:(putK kvs k v).length<=sizeLine:=by have:=Ze4 kvs k v;omega
  refine wpAny_setItem_heap (hsz:=hz) (tupleKind_room_in1 hu) (Zn8 I.hok eb) dd fun h' dd' hs=>h _ ?_
  obtain ⟨q,es,ep,hq,h2,h3,h4,_,h5⟩:=dd'
  refine Zqk I (by rw [e];exact True.intro) hs ⟨q,hq⟩ ⟨hl,hd,_,(rel.put k eb rv).keeps fun c ys ec=>?_,q,es,ep,hq,h2,h3,h4,h5⟩
  rw [Za5 (Zzk ec e (fun z=>nomatch z))]
  exact ec
end
section
variable {X:Cx} {pins:List (Addr×Obj)} {σ:St} {H:Hp} {s:Shared} {a:Addr} {kvs:List (Key×V)} {k:Key} {u:Value} {A:Around} {E:Value->Shared->Prop}
end
def NoSl (i:Expr):Prop:=∀ ov iv,subscripted i false ov iv=operate [ov,iv] (getItem ov iv)
theorem Zxn {prog:Program} {w:World} {A:Around} {E:Value->Shared->Prop} {s:Shared} {env:Env} {value slice:Expr} {pos:Pos} {T id:String} {Q:Value->Shared->Prop}
  (hl:typeLookup (.type T) "__getitem__" = pure (some (.builtin id))) (hs:NoSl slice)
  (h:wpAny (model prog w) A (eval value env) (fun o s₁=>wpAny (model prog w) A (eval slice env) (fun i s₂=>s₂.TypeIs o T/\wpAny (model prog w) A (getItem o i) Q E s₂) E s₁) E s) :
  wpAny (model prog w) A (eval (.Subscript value slice pos) env) Q E s:=by
 refine Subscript_ (wpAny_mono h (fun o s₁ h₁=>wpAny_mono h₁ (fun i s₂ h₂=>?_) fun _ _ x=>x) fun _ _ x=>x)
 obtain ⟨hT,h₂⟩:=h₂
 unfold subscriptTail
 refine wpAny_bind ?_
 rw [getitemInPython_of_ne hT.not_modules]
 refine wpAny_bind (wpAny_specialOf hT hl ?_)
 have fin:wpAny (model prog w) A (subscripted slice false o i) (fun r s₃=>wpAny (model prog w) A (letTemporaryGo value o r >>= fun _=>pure r) Q E s₃) E s₂:=by
  rw [hs o i]
  exact wpAny_operating (wpAny_mono h₂ (fun r s₃ h₃=>wpAny_bind (wpAny_letTemporaryGo (wpAny_pure h₃))) fun _ _ x=>x)
 first
  | exact wpAny_pure (wpAny_bind fin)
  | exact wpAny_bind (wpAny_pure (wpAny_bind fin))
  | exact wpAny_bind fin
theorem Zqe {X:Cx} {pins:List (Addr×Obj)} {σ:St} {H:Hp} {s:Shared} {a:Addr} {y:V} {o:Option V} (I:Inv X pins σ H s) (g:DGet H a y o):s.TypeIs (.ref a) "dict":=by
 rcases g with ⟨kvs,k,e,_,_⟩ | ⟨kvs,k,b,e,_,_,_⟩
 ·obtain ⟨_,_,vs,_,dd⟩:=Zvw I.hok e
  exact dd.typeIs
 ·obtain ⟨_,_,xs,_,dd⟩:=Zv5 I.hok e
  exact dd.typeIs
def tDGet (td ty:TE):TE:=fun σ H Q=>td σ H fun x H1=>ty σ H1 fun y H2=>∃ a v,x=.ref a/\DGet H2 a y (some v)/\Q v H2
def tDNotIn (ty td:TE):TE:=fun σ H Q=>ty σ H fun y H1=>td σ H1 fun x H2=>∃ a o,x=.ref a/\DGet H2 a y o/\Q (.bl (!o.isSome)) H2
def sDPut (td ty tv:TE):TS:=fun D σ H=>tv σ H fun v H1=>td σ H1 fun x H2=>ty σ H2 fun y H3=>∃ a H4,x=.ref a/\DPut H3 a y v H4/\D.nx σ H4
section
variable {X:Cx} {o i e value:Expr} {pos pos' tpos:Pos} {td ty tv:TE}
theorem Zkb (hu:X.A.units + 1 < cLine) (ho:PE X o td) (hi:PE X i ty) (hs:NoSl i):PE X (.Subscript o i pos) (tDGet td ty):=by
 intro pins s σ H Q I h
 refine Zxn PySem.F.slot_dict_getitem.lookup hs (thn (ho pins s σ H _ I h) fun u s1 ⟨x,H1,I1,rx,q1⟩=>thn (hi pins s1 σ H1 _ I1 q1) fun iv s2 ⟨y,H2,I2,ry,a,v,ex,g,q2⟩=>?_)
 subst ex
 obtain rfl:u=Value.ref a:=rx
 exact ⟨Zqe I2 g,Zto hu I2 g ry fun w' s3 I3 rw'=>⟨v,H2,I3,rw',q2⟩⟩
theorem Zuh (hu:X.A.units + 1 < cLine) (hi:PE X i ty) (ho:PE X o td):PC X .NotIn i o (tDNotIn ty td):=by
 intro pins s σ H Q I h
 refine thn (hi pins s σ H _ I h) fun iv s1 ⟨y,H1,I1,ry,q1⟩=>thn (ho pins s1 σ H1 _ I1 q1) fun u s2 ⟨x,H2,I2,rx,a,ov,ex,g,q2⟩=>?_
 subst ex
 obtain rfl:u=Value.ref a:=rx
 exact Zya hu I2 g ry fun s3 I3=>⟨.bl (!ov.isSome),H2,I3,rfl,q2⟩
theorem Zq (hu:X.A.units + 1 < cLine) (ho:PE X o td) (hi:PE X i ty) (hv:PE X value tv) (hs:swapsWith value (some (.Subscript o i pos')) pos.line X.env=pure false) :
  PS X (.Assign [.Subscript o i pos'] value pos) (sDPut td ty tv):=by
 intro pins s σ H D I h
 refine wpAny_Assign_Subscript (thn (hv pins s σ H _ I h) fun r s1 ⟨v,H1,I1,rv,q1⟩=>thn (ho pins s1 σ H1 _ I1 q1) fun u s2 ⟨x,H2,I2,rx,q2⟩=>thn (hi pins s2 σ H2 _ I2 q2) fun iv s3 ⟨y,H3,I3,ry,a,H4,ex,g,q3⟩=>?_) hs
 subst ex
 obtain rfl:u=Value.ref a:=rx
 exact Zti hu I3 g ry rv fun s4 I4=>⟨σ,H4,I4,q3⟩
end
theorem Zwp {P:Program} {w:World} {H:Hp} (h:Heap) (hb:sysModules < h.objs.size):ObjOk P w H (h.push { cls:=.type "dict",data:=.dict #[] }) h.objs.size (.dK []):=
 ⟨Ubo _,beq_eq_false_iff_ne.mpr (Ne.symm (Ua6 hb)),[],.nil,Heap.DictOf.new h⟩
theorem Zrf {P:Program} {w:World} {H:Hp} (h:Heap) (hb:sysModules < h.objs.size):ObjOk P w H (h.push { cls:=.type "dict",data:=.dict #[] }) h.objs.size (.dT []):=
 ⟨Ubo _,beq_eq_false_iff_ne.mpr (Ne.symm (Ua6 hb)),[],.nil,_,#[],0,Heap.get?_push_size _ rfl,⟨rfl,rfl,rfl⟩,rfl,rfl,Ub9⟩
def tDNewK:TE:=fun _ H Q=>∀ p,H p=none->Q (.ref p) (upd H p (.dK []))
def tDNewT:TE:=fun _ H Q=>∀ p,H p=none->Q (.ref p) (upd H p (.dT []))
section
variable {X:Cx} {pos:Pos}
theorem Zv1:PE X (.Dict [] [] pos) tDNewK:=fun pins s σ H Q I h=>
 wpAny_Dict_empty ⟨.ref s.heap.objs.size,_,I.laid (a:=s.heap.objs.size) (o:=.dK []) (t':=s.toks) (fun _ _ q=>Heap.get?_push_of_some _ q) (Uah _) (Zwp s.heap I.big),rfl,h _ (I.hok.fresh (Uah _))⟩
theorem Zww:PE X (.Dict [] [] pos) tDNewT:=fun pins s σ H Q I h=>
 wpAny_Dict_empty ⟨.ref s.heap.objs.size,_,I.laid (a:=s.heap.objs.size) (o:=.dT []) (t':=s.toks) (fun _ _ q=>Heap.get?_push_of_some _ q) (Uah _) (Zrf s.heap I.big),rfl,h _ (I.hok.fresh (Uah _))⟩
end
def tPairs:List (TE×TE)->St->Hp->(List (V×V)->Hp->Prop)->Prop
 | [],_,H,Q=>Q [] H
 | (tk,tv) :: r,σ,H,Q=>tk σ H fun x H1=>tv σ H1 fun y H2=>tPairs r σ H2 fun ps H3=>Q ((x,y) :: ps) H3
abbrev VV:List (V×V)->List (Value×Value)->Prop:=Paired fun p q=>RelV p.1 q.1/\RelV p.2 q.2
def PPs (X:Cx) (pos:Pos) (keys:List (Option Expr)) (values:List Expr) (trs:List (TE×TE)):Prop:=
 ∀ (pins:List (Addr×Obj)) (s:Shared) (σ:St) (H:Hp) (Q:List (V×V)->Hp->Prop),Inv X pins σ H s->tPairs trs σ H Q->
  wpAny (model X.prog X.w) X.A (evalPairs (pairTrees keys values X.env pos)) (fun vs s'=>∃ ps H',Inv X pins σ H' s'/\VV ps vs/\Q ps H') X.xe s
theorem Zyb {X:Cx} {pos:Pos}:PPs X pos [] [] []:=fun pins s σ H Q I h=>pairTrees_nil_walk ⟨[],H,I,.nil,h⟩
theorem Zvp {X:Cx} {pos:Pos} {k v:Expr} {ks:List (Option Expr)} {vs:List Expr} {tk tv:TE} {trs:List (TE×TE)} (hk:PE X k tk) (hv:PE X v tv) (hr:PPs X pos ks vs trs) :
  PPs X pos (some k :: ks) (v :: vs) ((tk,tv) :: trs):=fun pins s σ H Q I h=>
 pairTrees_cons_walk (thn (hk pins s σ H _ I h) fun u s1 ⟨x,H1,I1,rx,q1⟩=>thn (hv pins s1 σ H1 _ I1 q1) fun w2 s2 ⟨y,H2,I2,ry,q2⟩=>
  thn (hr pins s2 σ H2 _ I2 q2) fun ws s3 ⟨ps,H3,I3,rel,q3⟩=>⟨(x,y) :: ps,H3,I3,.cons ⟨rx,ry⟩ rel,q3⟩)
end L2
set_option genInjectivity false
set_option genSizeOfSpec false
namespace Own
open PySem PySem.Spec PyProof.Rows L2
structure Def (K:PySem.W.Frag) (mg:Str->Option Value) (x:Str) (st:Stmt) (ps:List Str):Prop where
 ex:∃ f fd,Fun K x x st f fd/\mg x=some (.ref f)/\Binds K fd ps []
structure Callee (P:Program) (w:World) (K:PySem.W.Frag) (mg:Str->Option Value) (base:Heap) (CX:CXT) (k:Nat) (x:Str) (ps:List Str) (sp:Sp):Prop where
 ex:∃ f fd,FnOk P w K mg base CX k f fd ps sp/\mg x=some (.ref f)/\PySem.W.keepIn K (.ref f)=true/\(∃ o:Obj,K.lookup f=some o/\o.data=.func fd)/\Binds K fd ps []
section
variable {P:Program} {w:World} {K:PySem.W.Frag} {mg:Str->Option Value} {base:Heap}
theorem Callee.at {CX:CXT} {x:Str} {st:Stmt} {f:Addr} {fd:FuncData} {k:Nat} {ps:List Str} {sp:Sp} (C:Callee P w K mg base CX k x ps sp) (hm:mg x=some (.ref f)) (F:Fun K x x st f fd) (_:Def K mg x st ps):FnOk P w K mg base CX k f fd ps sp:=by
 obtain ⟨f',fd',Fo,hm',_,hl,_⟩:=C.ex
 rw [hm] at hm'
 cases hm'
 obtain ⟨oc,od,kV,doc,pm,an,cdv,ct,osl,_,lk,_⟩:=F.ex
 obtain ⟨o',lk',hd'⟩:=hl
 rw [lk] at lk'
 cases lk'
 cases hd'
 exact Fo
theorem Def.ok {x:Str} {st:Stmt} {N ps:List Str} {k:Nat} {sp:Sp} (D:Def K mg x st ps) (S:FnScope N ps (defScope st)) (len:∀ vs H Q E,sp vs H Q E->vs.length=ps.length)
  (hbody:∀ (f:Addr) (cdv:Value) (A:Around) (outer:List Env) (s:Shared) (H:Hp) (vs:List V) (Q:VK) (E:XK),Room k (A.deeper (envOfC x (defScope st) s.heap.objs.size f cdv))->sp vs H Q E->
   ∃ t,PSs (cxOf CX0 P w K mg base N x (defScope st) f cdv A outer s H E).nox (defBody st) t/\t { nx:=fun _ H'=>Q .non H',rt:=Q } (start N vs) H):Callee P w K mg base CX0 (k + 1) x ps sp:=by
 obtain ⟨f,fd,F,hm,hb⟩:=D.ex
 refine ⟨f,fd,F.ok S len fun cdv A outer s H vs Q E hr h=>hbody f cdv A outer s H vs Q E hr h,hm,F.kp,?_,hb⟩
 obtain ⟨oc,od,kV,doc,pm,an,cdv,ct,osl,_,lk,_⟩:=F.ex
 exact ⟨_,lk,rfl⟩
end
section
variable {X:Cx} {CX:CXT} {k:Nat} {ps:List Str} {sp:Sp} {E:XK} {x:Str} {p pos:Pos} {e:Expr} {es:List Expr} {t:TA}
theorem Zav (C:Callee X.prog X.w X.K X.mg X.base CX k x ps sp) (hr:Room k X.A) (hx:Passes CX X E) (ha:PA X (e :: es) t) (hg:Gl X x:=by rfl)
  (hdb:(x == ("__debug__" : Str))=false:=by decide) (he:starEach (e :: es) X.env=(false,eval e X.env) :: starEach es X.env:=by rfl) (hpl:(backTo pos (starEach es X.env)).any (·.1)=false:=by rfl) :
  PE X (.Call (.Name x p) (e :: es) [] pos) (tCall sp [] E t):=by
 obtain ⟨f,fd,F,hm,hk,_,hb⟩:=C.ex
 exact Zyf F hr hg hm hk hb .nil hx ha hdb he hpl
theorem Zvn:CallR X (.builtin "isinstance") (fun xs H Q=>∃ x n t b,xs=[x,.ty n]/\TyOf X.K H x t/\PySem.W.kitOne X.K t (.type n)=some b/\Q (.bl b) H):=by
 intro pins s σ H xs us Q I rv h
 obtain ⟨x,n,t,b,rfl,ty,e,q⟩:=h
 cases rv with
 | cons r rr=>
  cases rr with
  | cons r' rr'=>
   cases rr'
   obtain rfl:_=Value.type n:=r'
   exact Ztw I r ty e fun tk=>⟨.bl b,H,I.tok tk,rfl,q⟩
theorem Zqn:IxR X (fun x y H Q=>rIxL X.K x y H Q\/rIxT X.K x y H Q):=ix_list.or Zzg
end
def tJoin (t u:TS):TS:=fun D σ H=>∃ J:L2.St->Hp->Prop,t { D with nx:=J } σ H/\∀ σ' H',J σ' H'->u D σ' H'
theorem Zry {X:Cx} {st:Stmt} {rest:List Stmt} {t u:TS} (h1:PS X st t) (h2:PSs X rest u):PSs X (st :: rest) (tJoin t u):=by
 intro pins s σ H D I h
 obtain ⟨J,h,k⟩:=h
 refine wpAny_execs_cons (thn (h1 pins s σ H { D with nx:=J } I h) fun f s1 q=>?_)
 cases f with
 | next=>
  obtain ⟨σ',H',I',q⟩:=q
  exact h2 pins s1 σ' H' D I' (k σ' H' q)
 | ret v=>exact q
 | brk=>exact q
 | cont=>exact q
theorem Zwh (K:PySem.W.Frag) (n:String):PySem.W.kitOne K (.type n) (.type n)=some true:=by
 unfold PySem.W.kitOne
 rw [Uae (by simp)]
theorem Zeh {α β:Type} {f:α->β} {xs:List α} {i:Int} {v:α} (h:atI xs i=some v):atI (xs.map f) i=some (f v):=by
 unfold atI at h ⊢
 rw [Uab]
 cases e:ixN xs.length i with
 | none=>rw [e] at h;cases h
 | some j=>
  rw [e] at h
  have h':xs[j]?=some v:=h
  show (xs.map f)[j]?=some (f v)
  rw [Uaj,h']
  rfl
theorem Zps {α:Type} {xs:List α} {i:Int} {v:α} (h0:0<=i) (h:xs[i.toNat]?=some v):atI xs i=some v:=by
 have e:((i.toNat:Nat):Int)=i:=by omega
 have:=Zfn h
 rwa [e] at this
theorem Zaw {H:Hp} {a:Addr} {o:HO} (h:H a=none):Same H (upd H a o):=fun b u e=>by rw [Za5 (Zba e h)];exact e
theorem Same.upd {H H':Hp} {a:Addr} {o:HO} (S:Same H H') (h:H a=none):Same H (upd H' a o):=fun b u e=>by rw [Za5 (Zba e h)];exact S b u e
theorem Same.new {H H':Hp} {a:Addr} {o:HO} (S:Same H H') (h:H' a=none):Same H (L2.upd H' a o):=Own.Same.upd S (S.free h)
theorem Same.tup {K:PySem.W.Frag} {H H':Hp} {a:Addr} {xs:List V} (e:Same H H') (h:SqT K H a xs):SqT K H' a xs:=by
 rcases h with (h | ⟨o,h⟩) | h
 ·exact .inl (.inl (e _ _ h))
 ·exact .inl (.inr ⟨o,e _ _ h⟩)
 ·exact .inr h
end Own
namespace Own
open PySem PySem.Spec PyProof.Rows L2
theorem Zox {env:Env} (names:List (Str×NameKind)) (hall:∀ x∈names,x.2=.free->∃ c,env.cells.lookup x.1=some c):∀ cs0:List (Str×Addr),(∀ x c,cs0.lookup x=some c->env.cells.lookup x=some c)->
  ∃ cl:List (Str×Addr),(forIn names cs0 (fun (x:Str×NameKind) (cs:List (Str×Addr))=>if (x.2 == .free)=true then (do let c ← cellOf env x.1;pure (ForInStep.yield ((x.1,c) :: cs))) else pure (ForInStep.yield cs)):Sem (List (Str×Addr)))=pure cl/\
   (∀ x c,cl.lookup x=some c->env.cells.lookup x=some c)/\(∀ x,(∃ c,cs0.lookup x=some c)->∃ c,cl.lookup x=some c)/\∀ x∈names,x.2=.free->∃ c,cl.lookup x.1=some c:=by
 induction names with
 | nil=>
  intro cs0 h0
  exact ⟨cs0,rfl,h0,fun _ h=>h,fun x hx=>by cases hx⟩
 | cons y r ih=>
  intro cs0 h0
  have ih':=ih fun x hx=>hall x (Uav _ hx)
  obtain ⟨n,k⟩:=y
  by_cases hk:k=.free
  ·subst hk
   obtain ⟨c,hc⟩:=hall (n,.free) Ua1 rfl
   have h1:∀ x d,List.lookup x ((n,c) :: cs0)=some d->env.cells.lookup x=some d:=fun x d e=>by
    rw [Ubj] at e
    by_cases hx:x=n
    ·subst hx
     simp at e
     subst e
     exact hc
    ·have:(x == n)=false:=by simpa using hx
     rw [this] at e
     exact h0 x d e
   obtain ⟨cl,e,p1,p2,p3⟩:=ih' ((n,c) :: cs0) h1
   refine ⟨cl,?_,p1,fun x hx=>p2 x ?_,fun x hx hf=>?_⟩
   ·rw [Udd]
    show ((if (NameKind.free == NameKind.free)=true then (do let c ← cellOf env n;pure (ForInStep.yield ((n,c) :: cs0))) else pure (ForInStep.yield cs0)) >>= _)=_
    rw [Uae (show (NameKind.free == NameKind.free)=true by decide)]
    have ec:cellOf env n=pure c:=by unfold cellOf;rw [hc]
    rw [ec]
    exact e
   ·rw [Ubj]
    cases (x == n)
    ·exact hx
    ·exact ⟨c,rfl⟩
   ·rcases Uan.mp hx with rfl | hx
    ·exact p2 n ⟨c,by simp [Ubj]⟩
    ·exact p3 x hx hf
  ·obtain ⟨cl,e,p1,p2,p3⟩:=ih' cs0 h0
   refine ⟨cl,?_,p1,p2,fun x hx hf=>?_⟩
   ·rw [Udd]
    have hb:(k == NameKind.free)=false:=by simpa using hk
    show ((if (k == NameKind.free)=true then (do let c ← cellOf env n;pure (ForInStep.yield ((n,c) :: cs0))) else pure (ForInStep.yield cs0)) >>= _)=_
    rw [Uad (by rw [hb];decide)]
    exact e
   ·rcases Uan.mp hx with rfl | hx
    ·exact absurd hf hk
    ·exact p3 x hx hf
theorem Zsn {env:Env} {sc:Scope} (hall:∀ x∈sc.names,x.2=.free->∃ c,env.cells.lookup x.1=some c) :
  ∃ cl:List (Str×Addr),closureFor sc env=pure cl/\(∀ x c,cl.lookup x=some c->env.cells.lookup x=some c)/\∀ x∈sc.names,x.2=.free->∃ c,cl.lookup x.1=some c:=by
 obtain ⟨cl,e,p1,_,p3⟩:=Zox sc.names hall [] (fun x c h=>by cases h)
 refine ⟨cl,?_,p1,p3⟩
 unfold closureFor
 show ((forIn sc.names ([]:List (Str×Addr)) (fun (x:Str×NameKind) (cs:List (Str×Addr))=>if (x.2 == .free)=true then (do let c ← cellOf env x.1;pure (ForInStep.yield ((x.1,c) :: cs))) else pure (ForInStep.yield cs)):Sem (List (Str×Addr))) >>= fun cs=>pure cs)=pure cl
 rw [e]
 rfl
def compX (X:Cx) (N':List Str) (sc:Scope) (cl:List (Str×Addr)) (C:Addr) (s₃:Shared) (H₃:Hp) (ex:List Addr):Cx:=
 { X with N:=N',s₀:=s₃,H₀:=H₃,env:=compEnvC sc cl C X.env,outer:=X.stack,ex:=ex,fn:=fun _=>false,pn:=[],xe:=fun _ _=>False }
structure CompOk (X:Cx) (N':List Str) (φ:List (Option Nat)) (sc:Scope):Prop where
 kind:sc.kind=.function
 okind:X.env.scope.kind=.function
 nocell:∀ y∈sc.names,y.2≠.cell
 names:∀ y∈sc.names,y.2=.local->sc.names.lookup y.1=some .local
 frees:∀ y∈sc.names,y.2=.free->X.env.scope.names.lookup y.1=some .cell
 len:φ.length=N'.length
 pick:∀ (i:Nat) (x:Str) (j:Nat),N'[i]?=some x->φ[i]?=some (some j)->X.N[j]?=some x/\sc.names.lookup x=some .free
def atStart (φ:List (Option Nat)) (σ:L2.St):L2.St:=φ.map fun o=>o.bind fun j=>(σ[j]?).join
def Sub (σ σ':L2.St):Prop:=σ'.length=σ.length/\∀ (i:Nat) (v:V),σ[i]?=some (some v)->σ'[i]?=some (some v)
theorem Sub.refl {σ:L2.St}:Sub σ σ:=⟨rfl,fun _ _ h=>h⟩
theorem Sub.skip {σ σ':L2.St} {x:Option V} (h:Sub σ σ'):Sub (none :: σ) (x :: σ'):=by
 refine ⟨by simp [h.1],fun i v e=>?_⟩
 cases i with
 | zero=>simp at e
 | succ i=>simp at e ⊢;exact h.2 i v e
theorem Sub.keep {σ σ':L2.St} {x:Option V} (h:Sub σ σ'):Sub (x :: σ) (x :: σ'):=by
 refine ⟨by simp [h.1],fun i v e=>?_⟩
 cases i with
 | zero=>simpa using e
 | succ i=>simp at e ⊢;exact h.2 i v e
theorem Zin {env:Env} (hk:env.scope.kind=.function):∀ {names:List (Str×NameKind)} {x:Str},names.lookup x=some .free->env.scope.names.lookup x=some .cell->
  (names.map fun (n,k)=>if (k == NameKind.free && env.scope.kind == .function && env.kindOf n == some .cell) then (n,NameKind.cell) else (n,k)).lookup x=some .cell
 | [],_,h,_=>by simp at h
 | (n,k) :: r,x,h,hc=>by
  have ih:=@Zin env hk r x
  show List.lookup x ((if (k == NameKind.free && env.scope.kind == .function && env.kindOf n == some .cell)=true then (n,NameKind.cell) else (n,k)) :: _)=_
  cases hx:x == n with
  | true=>
   simp only [Ubj,hx] at h
   cases h
   have e:x=n:=by simpa using hx
   subst e
   have hkk:env.kindOf x=some .cell:=hc
   rw [hk,hkk]
   simp [Ubj]
  | false=>
   simp only [Ubj,hx] at h
   by_cases hcc:(k == NameKind.free && env.scope.kind == .function && env.kindOf n == some .cell)=true
   ·rw [Uae hcc];simp only [Ubj,hx];exact ih h hc
   ·rw [Uad hcc];simp only [Ubj,hx];exact ih h hc
theorem Zfp {env:Env}:∀ {names:List (Str×NameKind)} {x:Str} {q:NameKind},
  (names.map fun (n,k)=>if (k == NameKind.free && env.scope.kind == .function && env.kindOf n == some .cell) then (n,NameKind.cell) else (n,k)).lookup x=some q->∃ k,(x,k)∈names/\(q=k\/k=.free)
 | [],_,_,h=>by simp at h
 | (n,k) :: r,x,q,h=>by
  have ih:=@Zfp env r x q
  have h':List.lookup x ((if (k == NameKind.free && env.scope.kind == .function && env.kindOf n == some .cell)=true then (n,NameKind.cell) else (n,k)) :: (r.map fun (n,k)=>if (k == NameKind.free && env.scope.kind == .function && env.kindOf n == some .cell) then (n,NameKind.cell) else (n,k)))=some q:=h
  cases hx:x == n with
  | true=>
   have e:x=n:=by simpa using hx
   subst e
   by_cases hcc:(k == NameKind.free && env.scope.kind == .function && env.kindOf x == some .cell)=true
   ·refine ⟨k,Ua1,.inr ?_⟩
    have:=(Ubh _ _ ▸ (Ubh _ _ ▸ hcc).1).1
    simpa using this
   ·rw [Uad hcc] at h'
    simp [Ubj] at h'
    exact ⟨k,Ua1,.inl h'.symm⟩
  | false=>
   have h2:List.lookup x (r.map fun (n,k)=>if (k == NameKind.free && env.scope.kind == .function && env.kindOf n == some .cell) then (n,NameKind.cell) else (n,k))=some q:=by
    by_cases hcc:(k == NameKind.free && env.scope.kind == .function && env.kindOf n == some .cell)=true
    ·rw [Uae hcc] at h';simp only [Ubj,hx] at h';exact h'
    ·rw [Uad hcc] at h';simp only [Ubj,hx] at h';exact h'
   obtain ⟨k',hm,hq⟩:=ih h2
   exact ⟨k',Uav _ hm,hq⟩
theorem Zqg {prog:Program} {w:World} {A:Around} {R:Result->Shared->Prop} {s:Shared} {elt target iter:Expr} {ifs:List Expr} {scope:Scope} {pos:Pos} {it acc:Value} {env:Env} (I:Nat->Shared->Prop)
  (turn:∀ n s,I n s->wpAny (model prog w) A (pyNext it) (fun r s₁=>match r with
   | none=>R (.ok .next) s₁
   | some v=>wpAny (model prog w) A (letOwnedTupleGo target it v) (fun _ s₁'=>wpAny (model prog w) A (assign target env v) (fun _ s₂=>
     wpAny (model prog w) A (forIn ifs true fun c r=>if r=true then do let ok ← isTrue c env (eval c env);pure (ForInStep.yield ok) else pure (ForInStep.yield r)) (fun ok s₃=>
      if ok=true then wpAny (model prog w) A (eval elt env) (fun x s₄=>
       wpAny (model prog w) A (call (.builtin "list.append") [acc,x]) (fun _ s₅=>∃ m,m < n/\I m s₅) (fun _ _=>False) s₄) (fun _ _=>False) s₃
      else ∃ m,m < n/\I m s₃) (fun _ _=>False) s₂) (fun _ _=>False) s₁') (fun _ _=>False) s₁) (fun _ _=>False) s)
  (n:Nat) (h:I n s) :
  codeAny (model prog w) A (.compLoop (.ListComp elt [⟨target,iter,ifs,0⟩] scope pos) 0 it acc env) R s:=by
 refine codeAny_loop rfl I (fun n s hI=>?_) n h
 show wpAny _ A ((compTurn (.ListComp elt [⟨target,iter,ifs,0⟩] scope pos) 0 it acc env).onRaise (fun x=>do noteFrame x env;theTreesLotGoes x)) _ _ s
 refine wpAny_noted ?_
 rw [compTurn_list]
 refine wpAny_bind (wpAny_standAt (wpAny_bind (wpAny_mono (turn n s hI) (fun r s₁ h₁=>?_) fun _ _ h'=>h'.elim)))
 cases r with
 | none=>exact wpAny_pure h₁
 | some v=>
  refine wpAny_bind (wpAny_mono h₁ (fun _ s₁' h₁'=>?_) fun _ _ h'=>h'.elim)
  refine wpAny_bind (wpAny_mono h₁' (fun _ s₂ h₂=>wpAny_bind (wpAny_mono h₂ (fun ok s₃ h₃=>?_) fun _ _ h'=>h'.elim)) fun _ _ h'=>h'.elim)
  cases ok with
  | false=>exact wpAny_pure ⟨rfl,h₃⟩
  | true=>
   exact wpAny_bind (wpAny_bind (wpAny_mono h₃ (fun x s₄ h₄=>wpAny_bind (wpAny_mono h₄ (fun _ s₅ h₅=>wpAny_pure (wpAny_pure ⟨rfl,h₅⟩)) fun _ _ h'=>h'.elim)) fun _ _ h'=>h'.elim))
def PIfs (X:Cx) (ifs:List Expr) (t:TT):Prop:=
 ∀ (pins:List (Addr×Obj)) (s:Shared) (σ:L2.St) (H:Hp) (Q:Bool->Hp->Prop),Inv X pins σ H s->t σ H Q->
  wpAny (model X.prog X.w) X.A (forIn ifs true fun c r=>if r=true then do let ok ← isTrue c X.env (eval c X.env);pure (ForInStep.yield ok) else pure (ForInStep.yield r)) (TP X pins σ Q) X.xe s
def tNoIf:TT:=fun _ H Q=>Q true H
theorem Zbg {X:Cx}:PIfs X [] tNoIf:=fun _ _ _ H _ I h=>wpAny_pure ⟨H,I,h⟩
theorem Zc7 {X:Cx} {c:Expr} {t:TT} (hc:PT X c t):PIfs X [c] t:=by
 intro pins s σ H Q I h
 rw [Udd]
 refine wpAny_bind ?_
 rw [Uae rfl]
 exact wpAny_bind (thn (hc pins s σ H Q I h) fun b s1 q=>wpAny_pure (wpAny_pure q))
def tComp (φ:List (Option Nat)) (wi:TI) (g:TG) (tc:TT) (te:TE):TE:=fun σ H Q=>wi σ H fun J H1=>∀ D,H1 D=none->∃ W:Nat->Nat->List V->Hp->Prop,(∃ m,W 0 m [] (upd H1 D (.lst [])))/\
 ∀ i m ys H2,W i m ys H2->(J.stop i H2/\Q (.ref D) H2)\/(J.go i H2/\∀ x H3,J.yld i H2 x H3->g x (atStart φ σ) H3 fun σ2 H4=>Sub (atStart φ σ) σ2/\tc σ2 H4 fun b H5=>
  if b=true then te σ2 H5 fun y H6=>H6 D=some (.lst ys)/\ys.length < sizeLine/\∃ m',m' < m/\W (i + 1) m' (ys++[y]) (upd H6 D (.lst (ys++[y]))) else ∃ m',m' < m/\W (i + 1) m' ys H5)
theorem Inv.weak {X:Cx} {pins:List (Addr×Obj)} {σ σ':L2.St} {H:Hp} {s:Shared} (I:Inv X pins σ' H s) (S:Sub σ σ'):Inv X pins σ H s:=
 ⟨I.ok,I.os,I.bare,I.base,let ⟨m,hn,hl⟩:=I.loc;⟨m,hn,fun i x v h1 h2 h3=>hl i x v h1 (S.2 i v h2) h3⟩,I.cell,I.free,I.freeC,I.pin,I.hok,by rw [← S.1];exact I.len⟩
theorem Zjs {φ:List (Option Nat)} {σ:L2.St} {i:Nat} {v:V} (h:(atStart φ σ)[i]?=some (some v)):∃ j,φ[i]?=some (some j)/\σ[j]?=some (some v):=by
 unfold atStart at h
 rw [Uaj] at h
 cases e:φ[i]? with
 | none=>rw [e] at h;cases h
 | some o=>
  rw [e] at h
  cases o with
  | none=>simp at h
  | some j=>
   refine ⟨j,rfl,?_⟩
   simp at h
   cases e2:σ[j]? with
   | none=>rw [e2] at h;simp at h
   | some w=>rw [e2] at h;simp at h;rw [h]
def CompEnd (X:Cx) (pins:List (Addr×Obj)) (σ:L2.St) (Q:VK) (use:Option (Value->Sem Unit)) (QQ:Value->Shared->Prop):Prop:=
 ∀ (D C:Addr) (H5:Hp) (s6:Shared),Q (.ref D) H5->Inv X pins σ H5 s6->(∃ m,s6.heap.Ns C m)->H5 C=none->C≠X.env.locals->X.s₀.heap.objs.size<=C->(∀ x c,X.env.cells.lookup x=some c->c≠C)->(∀ p∈X.pn++pins,p.1≠C)->C∉X.fs->
  compPost (model X.prog X.w) X.A X.xe use QQ (.ref D) C (.ok .next) s6
theorem Zrs {X:Cx} {N':List Str} {φ:List (Option Nat)} {sc:Scope} {elt iter tg:Expr} {ifs:List Expr} {pos pos':Pos} {wi:TI} {g:TG} {tc:TT} {te:TE} {use:Option (Value->Sem Unit)} {QQ:Value->Shared->Prop} (hcalm:X.calm=true) (S:CompOk X N' φ sc) (hi:PI X tg iter wi)
  (hin:∀ cl C s₃ H₃ ex,PG (compX X N' sc cl C s₃ H₃ ex) tg g/\PIfs (compX X N' sc cl C s₃ H₃ ex) ifs tc/\PE (compX X N' sc cl C s₃ H₃ ex) elt te) (hs:∀ x,foldedSetIterable iter X.env x=pure x)
  {pins:List (Addr×Obj)} {s:Shared} {σ:L2.St} {H:Hp} {Q:VK} (I:Inv X pins σ H s) (h:tComp φ wi g tc te σ H Q) (fin:CompEnd X pins σ Q use QQ) :
  wpAny (model X.prog X.w) X.A (comprehension (.ListComp elt [⟨tg,iter,ifs,0⟩] sc pos) sc X.env pos' (newList []) false (eval iter X.env) use) QQ X.xe s:=by
 obtain ⟨cl,hcl,p1,p3⟩:=Zsn (env:=X.env) (sc:=sc) fun x hx hf=>I.ok.has x.1 (.inl (S.frees x hx hf))
 refine wpAny_comprehension_free (use:=use) rfl hs hcl S.kind S.names ?_
 refine thn (hi pins s σ H _ I h) fun v s1 h1=>thn h1 fun itv s2 h2=>?_
 obtain ⟨it,fp,tn,J,H2,e,I2,T,st2,f2,hR⟩:=h2
 subst e
 refine wpAny_newObj_type ?_
 have hf:H2 s2.heap.objs.size=none:=I2.hok.fresh (Uah _)
 obtain ⟨W,⟨m0,w0⟩,turn⟩:=hR s2.heap.objs.size hf
 generalize eD:s2.heap.objs.size=D at *
 have I3:Inv X pins σ (upd H2 D (.lst [])) { s2 with heap:=s2.heap.push { cls:=.type "list",dict:=none,data:=.seq ([]:List Value).toArray } }:=
  I2.laid (t':=s2.toks) (fun b u e=>Heap.get?_push_of_some _ e) (Ub4 eD) ⟨Ubo _,[],0,.nil,by rw [← eD];exact Heap.get?_push_size _ rfl⟩
 have st3:tn 0 (s2.heap.push { cls:=.type "list",dict:=none,data:=.seq ([]:List Value).toArray }):=T.keep _ _ _ st2 fun b _ o e=>Heap.get?_push_of_some _ e
 have hfpD:∀ b∈fp,b≠D:=fun b hb z=>by
  obtain ⟨o,ho,_⟩:=T.obj _ _ st2 b hb
  have:=Heap.lt_size ho
  rw [z,← eD] at this
  exact Ub2 _ this
 have f3:∀ b∈fp,FpOk X pins (upd H2 D (.lst [])) b:=fun b hb=>⟨by rw [Za5 (hfpD b hb)];exact (f2 b hb).1,(f2 b hb).2⟩
 generalize es3:({ s2 with heap:=s2.heap.push { cls:=.type "list",dict:=none,data:=.seq ([]:List Value).toArray } }:Shared)=s3 at *
 have st3':tn 0 s3.heap:=by rw [← es3];exact st3
 generalize eH3:upd H2 D (.lst [])=H3 at *
 refine wpAny_newFunctionEnv S.nocell (by intro y hy;simp at hy) (fun h₁ hns₁ hsb₁=>?_) S.kind
 have hh3:s3.heap=s2.heap.push { cls:=.type "list",dict:=none,data:=.seq ([]:List Value).toArray }:=by rw [← es3]
 rw [hh3] at hns₁ hsb₁
 rw [← hh3] at hns₁ hsb₁
 have old:∀ b o,s3.heap.get? b=some o->h₁.get? b=some o:=fun b o e=>hsb₁.extBut b o (Ua6 (Heap.lt_size e)) (Heap.get?_push_of_some _ e)
 have hC0:s3.heap.get? s3.heap.objs.size=none:=by
  cases e:s3.heap.get? s3.heap.objs.size with
  | none=>rfl
  | some o=>exact absurd (Heap.lt_size e) (Ub2 _)
 generalize eC:s3.heap.objs.size=C at *
 have hH3C:H3 C=none:=I3.hok.fresh (Ub4 eC)
 have OK:(compX X N' sc cl C s3 H3 fp).Ok:=by
  refine ⟨I.ok.mod,?_,I.ok.glob,I.ok.blt,Ub4 eC,fun x y c h1 h2=>I.ok.inj x y c (p1 x c h1) (p1 y c h2),?_,(fun x c hx=>by cases hx),I.ok.hd,I.ok.frames,.inl rfl,?_,I3.bs,Ual I.ok.bsz I3.sz,?_,?_,I3.stack,I3.stkFree⟩
  ·exact S.kind
  ·intro x hx
   have hx':(∃ k,(x,k)∈sc.names/\(NameKind.cell=k\/k=.free))\/∃ k,(x,k)∈sc.names/\(NameKind.free=k\/k=.free):=hx.imp Zfp Zfp
   have hfr:(x,NameKind.free)∈sc.names:=by
    rcases hx' with ⟨k,hm,rfl | rfl⟩ | ⟨k,hm,rfl | rfl⟩
    ·exact absurd rfl (S.nocell _ hm)
    ·exact hm
    ·exact hm
    ·exact hm
   exact p3 _ hfr rfl
  ·intro b hb
   refine ⟨fun z=>?_,fun x c hx=>(f3 b hb).2.2.2.2.1 x c (p1 x c hx)⟩
   obtain ⟨o,ho,_⟩:=T.obj _ _ st3' b hb
   have z':b=C:=z
   rw [z',hC0] at ho
   cases ho
  ·intro b o hb hx
   obtain ⟨_,_,_,q,_,_⟩:=f3 b hx
   rcases q with q | q
   ·exact I.ok.noex b o hb q
   ·have:=Ubb (Heap.lt_size hb) (Ual I.ok.bsz q)
    exact Ub2 _ this
  ·intro b hb hz
   rcases Uan.mp (I.stkSub b hz) with q | q
   ·exact (f3 b hb).2.1 q
   ·exact (f3 b hb).2.2.1 q
 have hlen0:(atStart φ σ).length=N'.length:=by unfold atStart;rw [Uab];exact S.len
 have I4:Inv (compX X N' sc cl C s3 H3 fp) [] (atStart φ σ) H3 { s3 with heap:=h₁,toks:=s3.toks + ([]:List (Str×Value)).length }:=by
  refine ⟨OK,rfl,I3.bare,Un.kept old,⟨_,hns₁,fun i x v h1 h2 h3=>?_⟩,fun x c hx=>?_,hH3C,fun x c hx=>I3.freeC x c (p1 x c hx),fun p hp=>?_,I3.hok.kept old,hlen0⟩
  ·obtain ⟨j,hj,hv⟩:=Zjs h2
   obtain ⟨hN,hfr⟩:=S.pick i x j h1 hj
   obtain ⟨m,_,hl⟩:=I3.loc
   have hm:(x,NameKind.free)∈sc.names:=PySem.mem_of_lookup hfr
   have hcell:=S.frees _ hm rfl
   obtain ⟨u,ru,lk⟩:=hl j x v hN hv (.inr (.inl hcell))
   refine ⟨u,ru,.inr ⟨.inl (Zin S.okind hfr hcell),?_⟩⟩
   obtain ⟨c,hc⟩:=p3 _ hm rfl
   rcases lk with ⟨hk,_⟩ | ⟨_,c',hc',hcl'⟩
   ·have hk':X.env.scope.names.lookup x=some .local:=hk
    rw [hcell] at hk'
    cases hk'
   ·have e:=p1 _ _ hc
    rw [hc'] at e
    cases e
    obtain ⟨o,ho,hd⟩:=hcl'
    exact ⟨_,hc,o,old _ o ho,hd⟩
  ·obtain ⟨v,hv⟩:=I3.cell x c (p1 x c hx)
   obtain ⟨o,ho,hd⟩:=hv
   exact ⟨v,o,old _ o ho,hd⟩
  ·exact absurd hp (by simp [compX])
 have st4:tn 0 h₁:=T.keep _ _ _ st3' fun b _ o e=>old b o e
 have stat:∀ {H':Hp},(∀ b∈fp,H' b=none)->∀ b∈fp,FpOk (compX X N' sc cl C s3 H3 fp) [] H' b:=fun hn b hb=>
  ⟨hn b hb,(OK.exf b hb).1,OK.exfs b hb,.inl hb,(OK.exf b hb).2,fun p hp=>absurd hp (by simp [compX])⟩
 obtain ⟨hPG,hPI,hPE⟩:=hin cl C s3 H3 fp
 have loop:codeAny (model X.prog X.w) X.A (.compLoop (.ListComp elt [⟨tg,iter,ifs,0⟩] sc pos) 0 (.ref it) (.ref D) (compEnvC sc cl C X.env)) (compPost (model X.prog X.w) X.A X.xe use QQ (.ref D) C) { s3 with heap:=h₁,toks:=s3.toks + ([]:List (Str×Value)).length }:=by
  refine Zqg (fun n s'=>∃ i ys σ' H',Inv (compX X N' sc cl C s3 H3 fp) [] σ' H' s'/\Sub (atStart φ σ) σ'/\tn i s'.heap/\(∀ b∈fp,H' b=none)/\W i n ys H') ?_ m0 ⟨0,[],_,_,I4,Sub.refl,st4,fun b hb=>(f3 b hb).1,w0⟩
  rintro n s5 ⟨i,ys,σ5,H5,I5,sub5,st5,fr5,w5⟩
  have I5':=Own.Inv.weak I5 sub5
  rcases turn i n ys H5 w5 with ⟨stop,qn⟩ | ⟨go,step⟩
  ·refine thn (T.done (compX X N' sc cl C s3 H3 fp) rfl rfl rfl hcalm i [] s5 _ H5 _ I5' (stat fr5) st5 stop) fun r s6 ⟨hr,I6⟩=>?_
   subst hr
   obtain ⟨m,hn,_⟩:=I6.loc
   obtain ⟨hh,gg,dd,tt,oo⟩:=s6
   obtain rfl:oo=s3.os:=I6.os
   have R:Inv X pins σ H5 { s3 with heap:=hh,gens:=gg,drawn:=dd,toks:=tt }:=I3.call (ch:=fp) (h':=hh) (g':=gg) (d':=dd) (t':=tt) I6.base I6.hok I6.bare fun b hb=>⟨(f3 b hb).2.2.2.1,(f3 b hb).2.1,(f3 b hb).2.2.2.2.1,(f3 b hb).2.2.2.2.2⟩
   have hC3:s3.heap.objs.size<=C:=Ub4 eC
   obtain ⟨q0,q1,q2,q3,q4,q5⟩:=I3.fpOk (b:=C) (H':=H3) hC3 hH3C
   refine fin D C H5 _ qn R ⟨m,hn⟩ I6.free q1 (Ual I3.sz hC3) q4 q5 q2
  ·refine thn (T.item (compX X N' sc cl C s3 H3 fp) rfl rfl rfl hcalm i [] s5 _ H5 _ I5' (stat fr5) st5 go) fun r s6 ⟨u,hr,h6⟩=>?_
   subst hr
   refine thn h6 fun _ s7 ⟨x,H7,I7,r7,y7,st7,fr7⟩=>?_
   have I7':=I7.pinned (stat fr7) (T.obj _ _ st7)
   refine thn (hPG _ s7 _ H7 x u _ I7' r7 (step x H7 y7)) fun _ s8 ⟨σ8,H8,I8,sub8,q8⟩=>?_
   refine thn (hPI _ s8 σ8 H8 _ I8 q8) fun ok s9 ⟨H9,I9,q9⟩=>?_
   have again:∀ {s10:Shared} {H10:Hp} {ys':List V} {m':Nat},Inv (compX X N' sc cl C s3 H3 fp) ([]++pinsAt fp s7.heap) σ8 H10 s10->W (i + 1) m' ys' H10->∃ i ys σ' H',Inv (compX X N' sc cl C s3 H3 fp) [] σ' H' s10/\Sub (atStart φ σ) σ'/\tn i s10.heap/\(∀ b∈fp,H' b=none)/\W i m' ys H':=fun {s10 H10 ys' m'} J10 w10=>by
    refine ⟨i + 1,ys',σ8,H10,J10.unpinned,sub8,T.keep _ _ _ st7 fun b hb o e=>(J10.pin (b,o) (Ua3 _ (Ua3 _ (Zga hb e)))).1,fun b hb=>?_,w10⟩
    obtain ⟨o,e,d⟩:=T.obj _ _ st7 b hb
    exact (J10.pin (b,o) (Ua3 _ (Ua3 _ (Zga hb e)))).2.1
   cases ok with
   | false=>
    obtain ⟨m',hm,w'⟩:=q9
    exact ⟨m',hm,again I9 w'⟩
   | true=>
    refine thn (hPE _ s9 σ8 H9 _ I9 q9) fun xv s10 ⟨y,H10,I10,r10,hD,hl,m',hm,w'⟩=>?_
    refine thn (Zb7 _ s10 σ8 H10 (.ref D) [y] (.ref D) [xv] (fun _ H11=>H11=upd H10 D (.lst (ys++[y]))) I10 rfl (.cons r10 .nil) ⟨D,ys,y,rfl,rfl,hD,hl,rfl⟩) fun _ s11 ⟨_,H11,I11,_,e11⟩=>?_
    subst e11
    exact ⟨m',hm,again I11 w'⟩
 refine codeAny_compStart_list loop (T.self _ 0 _ _ _ st4 loop)
theorem Zbs {X:Cx} {N':List Str} {φ:List (Option Nat)} {sc:Scope} {elt iter tg:Expr} {ifs:List Expr} {pos:Pos} {wi:TI} {g:TG} {tc:TT} {te:TE} (hcalm:X.calm=true) (S:CompOk X N' φ sc) (hi:PI X tg iter wi)
  (hin:∀ cl C s₃ H₃ ex,PG (compX X N' sc cl C s₃ H₃ ex) tg g/\PIfs (compX X N' sc cl C s₃ H₃ ex) ifs tc/\PE (compX X N' sc cl C s₃ H₃ ex) elt te)
  (hs:∀ x,foldedSetIterable iter X.env x=pure x:=by intro _;rfl):PE X (.ListComp elt [⟨tg,iter,ifs,0⟩] sc pos) (tComp φ wi g tc te):=by
 intro pins s σ H Q I h
 rw [eval_ListComp]
 refine Zrs (use:=none) hcalm S hi hin hs I h fun D C H5 s6 q R hm c0 c1 c2 c3 c4 c5=>?_
 obtain ⟨m,hn⟩:=hm
 exact ⟨m,hn,fun h' sb=>⟨.ref D,H5,R.turned (it:=C) (t':=s6.toks) (fun b o hb e=>sb.extBut b o hb e) c0 c1 (.inr c2) c3 c4,rfl,q⟩⟩
theorem Zb0 {X:Cx} {N':List Str} {φ:List (Option Nat)} {sc:Scope} {elt iter tg:Expr} {ifs:List Expr} {pos spos py:Pos} {wi:TI} {g:TG} {tc:TT} {te:TE} {i:Nat} {y:Str} (hN:X.N.Nodup) (hy:X.N[i]?=some y) (hl:X.env.scope.names.lookup y=some .local)
  (hcalm:X.calm=true) (S:CompOk X N' φ sc) (hi:PI X tg iter wi)
  (hin:∀ cl C s₃ H₃ ex,PG (compX X N' sc cl C s₃ H₃ ex) tg g/\PIfs (compX X N' sc cl C s₃ H₃ ex) ifs tc/\PE (compX X N' sc cl C s₃ H₃ ex) elt te)
  (hs:∀ x,foldedSetIterable iter X.env x=pure x:=by intro _;rfl) (hsw:swapsWith (.ListComp elt [⟨tg,iter,ifs,0⟩] sc pos) (some (.Name y py)) spos.line X.env=pure true:=by rfl) :
  PS X (.Assign [.Name y py] (.ListComp elt [⟨tg,iter,ifs,0⟩] sc pos) spos) (tAsg (tComp φ wi g tc te) (gName i)):=by
 intro pins s σ H D0 I h
 rw [exec_Assign_Name_used _ _ _ _ hsw]
 refine wpAny_bind (wpAny_standAt (wpAny_bind ?_))
 show wpAny _ X.A (do let _ ← comprehension (.ListComp elt [⟨tg,iter,ifs,0⟩] sc pos) sc X.env _ (newList []) false (eval iter X.env) (some (assign (.Name y py) X.env))) _ _ s
 refine wpAny_bind (wpAny_mono (Zrs (use:=some (assign (.Name y py) X.env)) (QQ:=fun _ s'=>SP X pins D0 .next s') hcalm S hi hin hs I h fun D C H5 s6 q R hm c0 c1 c2 c3 c4 c5=>?_) (fun _ s' z=>wpAny_pure (wpAny_pure z)) fun _ _ e=>e)
 obtain ⟨m,oC,es,ep,hoC,hdC,rC⟩:=hm
 have R2:Inv X (pins++[(C,oC)]) σ H5 s6:=R.pins_of fun p hp=>(Ua0.mp hp).elim (fun z=>R.pin p (Ua3 _ z)) fun z=>by
  rw [Uag.mp z]
  exact ⟨hoC,c0,c1,c5,fun v e=>by rw [hdC] at e;cases e⟩
 show wpAny _ X.A (assign (.Name y py) X.env (.ref D)) _ _ _
 refine wpAny_assign_Name (Zf4 R2 hN hy (.inl hl) (v:=.ref D) (u:=.ref D) rfl (fun s7 I7=>?_) (.inr hl))
 have hC7:=(I7.pin (C,oC) (Ua3 _ (Ua3 _ (Uag.mpr rfl)))).1
 refine ⟨m,⟨oC,es,ep,hC7,hdC,rC⟩,fun h' sb=>?_⟩
 have I8:Inv X pins (σ.set i (some (.ref D))) H5 s7:=I7.unpinned
 exact ⟨_,H5,I8.turned (it:=C) (t':=s7.toks) (fun b o hb e=>sb.extBut b o hb e) c0 c1 (.inr c2) c3 c4,q⟩
def compChk (sc osc:Scope) (N N':List Str) (φ:List (Option Nat)):Bool:=
 sc.kind == .function && osc.kind == .function && (sc.names.all fun y=>y.2 != .cell && (y.2 != .local || sc.names.lookup y.1 == some .local) && (y.2 != .free || osc.names.lookup y.1 == some .cell)) &&
  φ.length == N'.length && ((N'.zip φ).all fun p=>match p.2 with | none=>true | some j=>N[j]? == some p.1 && sc.names.lookup p.1 == some .free)
theorem CompOk.of {X:Cx} {N':List Str} {φ:List (Option Nat)} {sc:Scope} (h:compChk sc X.env.scope X.N N' φ=true):CompOk X N' φ sc:=by
 unfold compChk at h
 simp only [Ubh,beq_iff_eq,Uca,Bool.or_eq_true,bne_iff_ne,ne_eq] at h
 obtain ⟨⟨⟨⟨h1,h2⟩,h3⟩,h4⟩,h5⟩:=h
 refine ⟨h1,h2,fun y hy=>(h3 y hy).1.1,fun y hy hl=>?_,fun y hy hf=>?_,h4,fun i x j hi hj=>?_⟩
 ·rcases (h3 y hy).1.2 with z | z
  ·exact absurd hl z
  ·exact z
 ·rcases (h3 y hy).2 with z | z
  ·exact absurd hf z
  ·exact z
 ·have hz:(N'.zip φ)[i]?=some (x,some j):=by rw [List.getElem?_zip_eq_some];exact ⟨hi,hj⟩
  have:=h5 _ (Uax hz)
  simpa using this
end Own
namespace SetR
open PySem PySem.Spec PyProof.Rows L2
def Ris (xs:Array Nat):Prop:=∀ i j,i < j->j < xs.size->xs.getD i 0 < xs.getD j 0
theorem Zrw {xs:Array Nat} {i a b:Nat} (h:i < xs.size):xs.getD i a=xs.getD i b:=by simp [Array.getD,h]
theorem Zv3 {xs:Array Nat} (R:Ris xs) (j:Nat):∀ (fuel lo hi:Nat),hi - lo<=fuel->lo<=hi->hi<=xs.size->(∀ k,k < lo->xs.getD k 0 < j)->(∀ k,hi<=k->k < xs.size->j<=xs.getD k 0)->
  let r:=SetTable.below.go xs j fuel lo hi
  r<=xs.size/\(∀ k,k < r->xs.getD k 0 < j)/\∀ k,r<=k->k < xs.size->j<=xs.getD k 0:=by
 intro fuel
 induction fuel with
 | zero=>
  intro lo hi h1 h2 h3 h4 h5
  have e:lo=hi:=by omega
  subst e
  exact ⟨h3,h4,h5⟩
 | succ fuel ih=>
  intro lo hi h1 h2 h3 h4 h5
  show (let r:=(if lo < hi then (if xs.getD ((lo + hi) / 2) j < j then SetTable.below.go xs j fuel ((lo + hi) / 2 + 1) hi else SetTable.below.go xs j fuel lo ((lo + hi) / 2)) else lo);r<=xs.size/\(∀ k,k < r->xs.getD k 0 < j)/\∀ k,r<=k->k < xs.size->j<=xs.getD k 0)
  by_cases hl:lo < hi
  ·rw [Uae hl]
   have hm:(lo + hi) / 2 < xs.size:=by omega
   by_cases hc:xs.getD ((lo + hi) / 2) j < j
   ·rw [Uae hc]
    refine ih _ _ (by omega) (by omega) h3 (fun k hk=>?_) h5
    rw [Zrw (b:=0) hm] at hc
    by_cases e:k=(lo + hi) / 2
    ·rw [e];exact hc
    ·exact Ucj (R k _ (by omega) hm) hc
   ·rw [Uad hc]
    refine ih _ _ (by omega) (by omega) (by omega) h4 (fun k hk hk2=>?_)
    rw [Zrw (b:=0) hm] at hc
    by_cases e:k=(lo + hi) / 2
    ·rw [e];omega
    ·have:=R _ k (show (lo + hi) / 2 < k by omega) hk2
     omega
  ·rw [Uad hl]
   have e:lo=hi:=by omega
   subst e
   exact ⟨h3,h4,h5⟩
theorem Zrj {xs:Array Nat} (R:Ris xs) (j:Nat):SetTable.below xs j<=xs.size/\(∀ k,k < SetTable.below xs j->xs.getD k 0 < j)/\∀ k,SetTable.below xs j<=k->k < xs.size->j<=xs.getD k 0:=
 Zv3 R j xs.size 0 xs.size (by omega) (by omega) (by omega) (fun k hk=>by omega) (fun k h1 h2=>by omega)
theorem Zsg {xs:Array Nat} (R:Ris xs) {i:Nat} (hi:i<=xs.size) {slot:Nat} (h1:∀ k,k < i->xs.getD k 0 < slot) (h2:∀ k,i<=k->k < xs.size->slot<=xs.getD k 0):SetTable.below xs slot=i:=by
 obtain ⟨a,b,c⟩:=Zrj R slot
 rcases Nat.lt_trichotomy (SetTable.below xs slot) i with h | h | h
 ·have:=c _ (Uah _) (by omega)
  have:=h1 _ h
  omega
 ·exact h
 ·have:=b i h
  have:=h2 i (Uah _) (by omega)
  omega
def Rise (xs:Array Nat):Prop:=xs.toList.Pairwise (· < ·)
theorem Rise.ris {xs:Array Nat} (h:Rise xs):Ris xs:=by
 intro i j hij hj
 have hi:i < xs.size:=by omega
 have:=(Ubl.mp h) i j (by simpa using hi) (by simpa using hj) hij
 simpa [Array.getD,hi,hj] using this
theorem Zqc {xs:Array Nat} {j:Nat} (h:Rise xs) (hn:xs[SetTable.below xs j]?≠some j):Rise (SetTable.insertAt xs (SetTable.below xs j) j):=by
 obtain ⟨a,b,c⟩:=Zrj h.ris j
 generalize SetTable.below xs j=p at *
 unfold Rise
 rw [SetTable.toList_insertAt]
 refine Uco.mpr ⟨h.sublist (Uc2 _ _),Ub5.mpr ⟨fun y hy=>?_,h.sublist (List.drop_sublist _ _)⟩,fun x hx y hy=>?_⟩
 ·obtain ⟨k,hk,e⟩:=List.mem_drop_iff_getElem.mp hy
  have hk':p + k < xs.size:=by
   simp only [Ubc] at hk
   omega
  have h1:=c (p + k) (by omega) hk'
  have e':xs.getD (p + k) 0=y:=by simpa [Array.getD,hk'] using e
  rw [e'] at h1
  rcases Nat.lt_or_ge j y with h2 | h2
  ·exact h2
  ·have ey:y=j:=by omega
   exfalso
   rcases Nat.eq_zero_or_pos k with rfl | hk0
   ·apply hn
    rw [Ubr (by omega)]
    have:xs[p]=y:=by simpa using e
    rw [this,ey]
   ·have h3:=h.ris p (p + k) (by omega) hk'
    have h4:=c p (Uah _) (by omega)
    omega
 ·have hx':x < j:=by
   obtain ⟨k,hk,e⟩:=List.mem_take_iff_getElem.mp hx
   have hk1:k < p:=by omega
   have hk2:k < xs.size:=by omega
   have:=b k hk1
   have e':xs.getD k 0=x:=by simpa [Array.getD,hk2] using e
   omega
  rcases Uan.mp hy with rfl | hy
  ·exact hx'
  ·obtain ⟨k,hk,e⟩:=List.mem_drop_iff_getElem.mp hy
   have hk':p + k < xs.size:=by
    simp only [Ubc] at hk
    omega
   have h1:=c (p + k) (by omega) hk'
   have e':xs.getD (p + k) 0=y:=by simpa [Array.getD,hk'] using e
   omega
structure Tb (b:Bool) (t:SetTable):Prop where
 led:t.led=b
 dum:t.dummies=#[]
 ris:Rise t.place
theorem Zt8 (j:Nat):SetTable.has #[] j=false:=by
 unfold SetTable.has
 simp
theorem Tb.fresh (b:Bool):Tb b (.fresh 0 0 b):=⟨rfl,rfl,List.Pairwise.nil⟩
theorem Zsy (n:Nat):Rise (Array.range n):=by
 unfold Rise
 rw [Array.toList_range]
 exact List.pairwise_lt_range
theorem Tb.stand {b:Bool} {t:SetTable} (h:Tb b t) (n:Nat):Tb b (t.standIn n):=⟨h.led,rfl,Zsy n⟩
theorem Tb.orStand {b:Bool} {t:SetTable} (h:Tb b t) (n:Nat):Tb b (t.orStandIn n):=by
 unfold SetTable.orStandIn
 split
 ·exact h
 ·exact h.stand n
theorem Tb.plainOff {b:Bool} {t:SetTable} (h:Tb b t):Tb b { t with plain:=false }:=⟨h.led,h.dum,h.ris⟩
theorem Tb.put {b:Bool} {t:SetTable} (h:Tb b t) {j:Nat} (hn:t.place[SetTable.below t.place j]?≠some j):Tb b (t.put j).1:=by
 refine ⟨h.led,?_,Zqc h.ris hn⟩
 show (if SetTable.has t.dummies j=true then _ else t.dummies)=#[]
 rw [h.dum,Zt8]
 rfl
theorem Zp3 {b:Bool} {t:SetTable} (h:Tb b t) (f:Nat->Int) (z:Int):∀ (fuel:Nat) (p:SetTable.Probe) (j:Nat) (d:Option Nat),p.dummy=none->SetTable.probe.go t f z fuel p=some (.empty j d)->d=none/\t.place[SetTable.below t.place j]?≠some j:=by
 intro fuel
 induction fuel with
 | zero=>intro p j d _ e;cases e
 | succ fuel ih=>
  intro p j d hp e
  unfold SetTable.probe.go at e
  have hadv:∀ q:SetTable.Probe,q.dummy=none->(t.advance q).dummy=none:=fun q hq=>by
   unfold SetTable.advance
   split
   ·exact hq
   ·exact hq
  cases es:t.slot p.j with
  | empty=>
   rw [es] at e
   have e':=Option.some.inj e
   injection e' with e1 e2
   subst e1
   refine ⟨e2.symm.trans hp,fun hz=>?_⟩
   unfold SetTable.slot at es
   dsimp only at es
   rw [hz] at es
   simp at es
  | dummy=>
   exfalso
   unfold SetTable.slot at es
   dsimp only at es
   split at es
   ·cases es
   ·rw [h.dum,Zt8] at es
    simp at es
  | live i=>
   rw [es] at e
   dsimp only at e
   split at e
   ·cases e
   ·exact ih _ j d (hadv p hp) e
theorem Tb.layNew {b:Bool} {t:SetTable} (h:Tb b t) (es:Array (Int×Value)) (z:Int) (x:Value):Tb b (PySem.layNew t es z x).2.1:=by
 unfold PySem.layNew
 split
 ·rename_i slot wasDummy e
  have hn:t.place[SetTable.below t.place slot]?≠some slot:=by
   unfold SetTable.freeSlot SetTable.probe at e
   split at e
   ·rename_i j dummy e'
    obtain ⟨h1,h2⟩:=Zp3 h _ _ _ _ _ _ rfl e'
    subst h1
    have:=Option.some.inj e
    have hj:j=slot:=Ube Prod.fst this
    rw [← hj]
    exact h2
   ·cases e
  exact (h.put hn).orStand _
 ·exact h.stand _
theorem Zqo (n:Nat) (f:Nat->Option Nat):((List.range n).filterMap fun j=>(f j).map (j,·)).Pairwise (fun a b=>a.1 < b.1):=by
 refine List.Pairwise.filterMap _ ?_ List.pairwise_lt_range
 intro a a' haa b hb b' hb'
 cases e:f a with
 | none=>rw [e] at hb;cases hb
 | some v=>
  cases e':f a' with
  | none=>rw [e'] at hb';cases hb'
  | some v'=>
   rw [e] at hb
   rw [e'] at hb'
   cases hb
   cases hb'
   exact haa
theorem Tb.relayAll {b:Bool} {t:SetTable} (h:Tb b t) (es:Array (Int×Value)) (n:Nat):Tb b (PySem.relayAll t es n).2.1:=by
 unfold PySem.relayAll
 split
 ·rename_i t' order e
  dsimp only
  split
  ·unfold SetTable.relaid SetTable.laid at e
   cases e2:SetTable.layClean (SetTable.sizeAbove n - 1) (es.map (·.1)) with
   | none=>rw [e2] at e;cases e
   | some owner=>
    rw [e2] at e
    have e':=Ube Prod.fst (Option.some.inj e)
    subst e'
    refine ⟨h.led,rfl,?_⟩
    show (List.map (fun x:Nat×Nat=>x.fst) ((List.range (SetTable.sizeAbove n - 1 + 1)).filterMap fun j=>(owner.getD j none).map (j,·))).toArray.toList.Pairwise (· < ·)
    rw [List.toList_toArray,List.pairwise_map]
    exact Zqo _ _
  ·exact h.stand _
 ·exact h.stand _
def keyOf (e:Int×Value):Int:=match e.2 with
 | .int k _=>k
 | _=>0
def Ent (e:Int×Value):Prop:=∃ (k:Int) (t:Tok),e=(hashInt k,.int k t)
section
variable (prog:Program) (w:World)
def byText (w:World):Bool:=w.params.followText "set-order"
structure SetAt (h:Heap) (a:Addr) (js:List Int) (es:Array (Int×Value)) (ep:Nat) (t:SetTable):Prop where
 obj:∃ o,h.get? a=some o/\o.ExactSet/\o.data=.set es ep t
 ent:∀ e∈es.toList,Ent e
 per:(es.toList.map keyOf).Perm js
 nod:js.Nodup
 few:es.size < scanBound
 fit:t.fits es.size=true
 tab:Tb (!byText w) t
def SetB (h:Heap) (a:Addr) (js:List Int):Prop:=∃ es ep t,SetAt w h a js es ep t
end
section
variable {prog:Program} {w:World} {A:Around} {E:Value->Shared->Prop} {s:Shared}
theorem Ent.elems {l:List (Int×Value)} (h:∀ e∈l,Ent e):ElemsOf (intKind prog w) l:=fun e he=>by
 obtain ⟨k,t,rfl⟩:=h e he
 exact ⟨⟨k,intKind_is _ _ _ _,rfl⟩,rfl⟩
theorem Zw7 {e:Int×Value} (h:Ent e) (k:Int):(intKind prog w).is k e.2=decide (k=keyOf e):=by
 obtain ⟨k',t,rfl⟩:=h
 show Value.isInt k (.int k' t)=decide (k=k')
 by_cases e:k=k'
 ·subst e;simp [Value.isInt]
 ·rw [Uam e]
  simp [Value.isInt]
  exact fun z=>e z.symm
theorem SetB.len {h:Heap} {a:Addr} {js:List Int} {es:Array (Int×Value)} {ep:Nat} {t:SetTable} (S:SetAt w h a js es ep t):es.size=js.length:=by
 have:=S.per.length_eq
 simpa using this
theorem SetB.at {h h':Heap} {a:Addr} {js:List Int} (S:SetB w h a js) (k:∀ o,h.get? a=some o->h'.get? a=some o):SetB w h' a js:=by
 obtain ⟨es,ep,t,⟨o,ho,r⟩,b,c,d,e,f,g⟩:=S
 exact ⟨es,ep,t,⟨o,k o ho,r⟩,b,c,d,e,f,g⟩
theorem SetAt.store {h:Heap} {a:Addr} {js js':List Int} {es es':Array (Int×Value)} {ep:Nat} {t t':SetTable} (S:SetAt w h a js es ep t) (h1:∀ e∈es'.toList,Ent e) (h2:(es'.toList.map keyOf).Perm js') (h3:js'.Nodup) (h4:es'.size < scanBound)
  (h5:t'.fits es'.size=true) (h6:Tb (!byText w) t'):SetAt w (h.update a (Obj.putSet es' t')) a js' es' (ep + 1) t':=by
 obtain ⟨o,ho,hx,hd⟩:=S.obj
 refine ⟨⟨{ o with data:=.set es' (ep + 1) t' },?_,hx,rfl⟩,h1,h2,h3,h4,h5,h6⟩
 have q:=Heap.get?_update_self (Obj.putSet es' t') ho (by rw [putSet_of es' t' hd];rfl)
 rwa [putSet_of es' t' hd] at q
theorem Zr0 {g:Bool->Sem Unit} (hg:∀ (b:Bool) (s':Shared) (R':Unit->Shared->Prop),R' () s'->wpAny (model prog w) A (g b) R' E s') {a:Addr} {js js':List Int} {es es':Array (Int×Value)} {ep:Nat} {t t':SetTable} (S:SetAt w s.heap a js es ep t)
  (h1:∀ e∈es'.toList,Ent e) (h2:(es'.toList.map keyOf).Perm js') (h3:js'.Nodup) (h4:es'.size < scanBound) (h5:t'.fits es'.size=true) (h6:Tb (!byText w) t') {d:Bool} {R:Option Bool->Shared->Prop}
  (fin:∀ h',Heap.SameBut a s.heap h'->SetB w h' a js'->R (some true) { s with heap:=h' }) :
  wpAny (model prog w) A (do
    storeSet a es' t'
    if (!d && t'.tooFull)=true then do
      g (relayAll t' es' (SetTable.grown es'.size)).2.2
      storeSet a (relayAll t' es' (SetTable.grown es'.size)).1 (relayAll t' es' (SetTable.grown es'.size)).2.1
      pure (some true)
     else pure (some true)) R E s:=by
 obtain ⟨o,ho,hx,hd⟩:=S.obj
 have S1:=S.store h1 h2 h3 h4 h5 h6
 obtain ⟨o1,ho1,hx1,hd1⟩:=S1.obj
 have B1:=Heap.SameBut.update s.heap a (Obj.putSet es' t')
 refine wpAny_bind (wpAny_storeSet_of ho hd ?_ (fits_of_scanBound h4))
 split
 ·have pp:=relayAll_perm t' es' (SetTable.grown es'.size)
  have ff:=relayAll_fits t' es' (SetTable.grown es'.size)
  have tt:=h6.relayAll es' (SetTable.grown es'.size)
  generalize relayAll t' es' (SetTable.grown es'.size)=y at pp ff tt ⊢
  obtain ⟨es2,t2,g2⟩:=y
  dsimp only at pp ff tt ⊢
  have z:es2.size=es'.size:=by rw [← Ubc,pp.length_eq,Ubc]
  refine wpAny_bind (hg _ _ _ (wpAny_bind (wpAny_storeSet_of ho1 hd1 ?_ (fits_of_scanBound (by rw [z];exact h4)))))
  exact wpAny_pure (fin _ (B1.trans (Heap.SameBut.update _ a _)) ⟨_,_,_,S1.store (fun e he=>h1 e (pp.mem_iff.mp he)) ((pp.map keyOf).trans h2) h3 (by rw [z];exact h4) ff tt⟩)
 ·exact wpAny_pure (fin _ B1 ⟨_,_,_,S1⟩)
def addJ (js:List Int) (k:Int):List Int:=if k∈js then js else js++[k]
theorem Zy3 {a:Addr} {js:List Int} {k:Int} {tk:Tok} {R:Bool->Shared->Prop} (S:SetB w s.heap a js) (room:js.length + 1 < scanBound) (fin:∀ (r:Bool) h',Heap.SameBut a s.heap h'->SetB w h' a (addJ js k)->R r { s with heap:=h' }) :
  wpAny (model prog w) A (setAddHashed a (.int k tk) (hashInt k)) R E s:=by
 obtain ⟨es,ep,t,S⟩:=S
 obtain ⟨o,ho,hx,hd⟩:=S.obj
 have el:=Ent.elems (prog:=prog) (w:=w) S.ent
 have hz:es.size=js.length:=SetB.len S
 unfold setAddHashed setAddHashedIn
 refine wpAny_holding (wpAny_bind (wpAny_setState_of ho hd S.fit ?_))
 dsimp only
 rw [byScan_of (x:=.int k tk) rfl S.few el]
 simp only [↓reduceIte]
 unfold setAddByScan
 refine wpAny_bind (wpAny_bind (wpAny_rule (wpAny_bind (wpAny_setScan_of (knd:=intKind prog w) (k:=k) (intKind_is _ _ _ _) ho hd S.fit el ?_))))
 have mem:∀ z:Int,z∈js↔∃ e∈es.toList,keyOf e=z:=fun z=>by rw [← S.per.mem_iff,Ua5]
 cases q:List.findIdx? (fun e=>(intKind prog w).is k e.2) es.toList with
 | some j=>
  dsimp only
  obtain ⟨hj,pj,_⟩:=List.findIdx?_eq_some_iff_getElem.mp q
  have hk:k∈js:=by
   rw [Zw7 (S.ent _ (Uaw hj))] at pj
   exact (mem k).mpr ⟨_,Uaw hj,(Uap pj).symm⟩
  refine wpAny_pure (wpAny_pure ?_)
  have f:=fin false s.heap (Heap.SameBut.refl a s.heap)
  unfold addJ at f
  rw [Uae hk] at f
  exact f ⟨_,_,_,S⟩
 | none=>
  dsimp only
  have hk:¬ k∈js:=fun hz=>by
   obtain ⟨e,he,hke⟩:=(mem k).mp hz
   have:=List.findIdx?_eq_none_iff.mp q e he
   rw [Zw7 (S.ent e he),Uaf hke.symm] at this
   cases this
  have P:=layNew_perm t es (hashInt k) (.int k tk)
  have F:=layNew_fits t es (hashInt k) (.int k tk)
  have T:=S.tab.layNew es (hashInt k) (.int k tk)
  change wpAny (model prog w) A (match layNew t es (hashInt k) (.int k tk) with | (es,t,wasDummy,gave)=>_) _ _ _
  generalize layNew t es (hashInt k) (.int k tk)=y at P F T ⊢
  obtain ⟨es1,t1,d1,g1⟩:=y
  dsimp only at P F T ⊢
  rw [Array.toList_push] at P
  have e1:∀ e∈es1.toList,Ent e:=fun e he=>by
   rcases Ua0.mp (P.mem_iff.mp he) with he | he
   ·exact S.ent e he
   ·rw [Uag.mp he];exact ⟨k,tk,rfl⟩
  have e2:(es1.toList.map keyOf).Perm (js++[k]):=by
   refine (P.map keyOf).trans ?_
   rw [Uaq]
   exact S.per.append_right _
  have e3:(js++[k]).Nodup:=Ubu.mpr ⟨S.nod,by simp,fun x hx y hy=>by rw [Uag.mp hy];rintro rfl;exact hk hx⟩
  have e4:es1.size < scanBound:=by
   rw [← Ubc,P.length_eq,Uat,Ubc,hz]
   exact room
  have fin':∀ h',Heap.SameBut a s.heap h'->SetB w h' a (js++[k])->R true { s with heap:=h' }:=fun h' sb q'=>by
   have f:=fin true h' sb
   unfold addJ at f
   rw [Uad hk] at f
   exact f q'
  have gw:∀ (b:Bool) {s':Shared} {R':Unit->Shared->Prop},R' () s'->wpAny (model prog w) A (match b with | true=>rule "set.scan.the-table-gave-way" | false=>pure ()) R' E s':=fun b s' R' r'=>by cases b<;>first | exact wpAny_pure r' | exact wpAny_rule r'
  refine wpAny_bind (gw _ ?_)
  split
  ·refine wpAny_bind ?_
   rw [hashByValue_scannable 8 (x:=.int k tk) rfl]
   refine wpAny_pure (Zr0 (fun b s' R' r'=>gw b r') S e1 e2 e3 e4 ?_ ?_ fun h' sb q'=>wpAny_pure (fin' h' sb q'))
   ·split
    ·exact F
    ·exact SetTable.fits_plain_off F
   ·split
    ·exact T
    ·exact T.plainOff
  ·refine wpAny_bind (wpAny_pure ?_)
   simp only [↓reduceIte]
   exact Zr0 (fun b s' R' r'=>gw b r') S e1 e2 e3 e4 F T fun h' sb q'=>wpAny_pure (fin' h' sb q')
theorem Zwe {R:Result->Shared->Prop} {I:Addr} {fp wr:List Addr} {P:Nat->Value->Prop} {St:Nat->Heap->Prop} {ns:List Int} (W:Walks prog w A.in1 I fp wr ns.length P St) (S:Addr) (hS:S∉fp)
  (hv:∀ i v,P i v->∃ t,v=.int (ns.getD i 0) t) (room:ns.length + 1 < scanBound):∀ (k i:Nat) (s:Shared) (js:List Int),ns.length - i=k->i<=ns.length->St i s.heap->SetB w s.heap S js->js.length<=i->
   (∀ h' tk,(∀ b o,b∉S :: wr->s.heap.get? b=some o->h'.get? b=some o)->SetB w h' S ((ns.drop i).foldl addJ js)->R (.ok (.ret .none)) { s with heap:=h',toks:=tk })->
   codeAny (model prog w) A (.builtin "set.update.loop" ⟨[.ref S,.ref I],[]⟩) R s:=by
 have hSw:S∉wr:=fun z=>hS (W.sub _ z)
 intro k
 induction k with
 | zero=>
  intro i s js hk hi st B hj fin
  have ei:i=ns.length:=by omega
  refine codeAny_builtin PyProof.Rows.F.entry_set_update_loop ?_
  rw [Around.under_plainId PyProof.Rows.F.plain_set_update_loop _]
  show wpAny _ A.in1 (pyNext (.ref I) >>= _) _ _ s
  refine wpAny_bind (W.done s _ _ (ei ▸ st) fun h' tk keep=>?_)
  show wpAny _ A.in1 (ret Value.none) _ _ _
  refine wpAny_pure (fin h' tk (fun b o hb e=>keep b o (fun z=>hb (Uav _ z)) e) ?_)
  rw [ei,Udv]
  exact B.at fun o e=>keep S o hSw e
 | succ k ih=>
  intro i s js hk hi st B hj fin
  have hlt:i < ns.length:=by omega
  refine codeAny_builtin PyProof.Rows.F.entry_set_update_loop ?_
  rw [Around.under_plainId PyProof.Rows.F.plain_set_update_loop _]
  show wpAny _ A.in1 (pyNext (.ref I) >>= _) _ _ s
  refine wpAny_bind (W.item i s _ _ hlt st fun v h1 tk1 pv st1 keep1=>?_)
  obtain ⟨t,rfl⟩:=hv i v pv
  have B1:SetB w h1 S js:=B.at fun o e=>keep1 S o hSw e
  show wpAny _ A.in1 (holding [Value.int (ns.getD i 0) t] (setAdd S (.int (ns.getD i 0) t)) >>= _) _ _ _
  unfold setAdd
  refine wpAny_bind (wpAny_holding (wpAny_holding (wpAny_bind ((intKind prog w).pyHash (k:=ns.getD i 0) (intKind_is _ _ _ _) ?_))))
  refine Zy3 (k:=ns.getD i 0) B1 (by omega) fun r h2 sb B2=>?_
  have el:(addJ js (ns.getD i 0)).length<=i + 1:=by
   unfold addJ
   split
   ·omega
   ·simp;omega
  refine wpAny_pure ⟨plainId_quiet PyProof.Rows.F.plain_set_update_loop _,ih (i + 1) _ _ (by omega) hlt (W.frame _ h1 _ st1 fun b hb o e=>?_) B2 el fun h' tk keep B'=>?_⟩
  ·rw [sb.2 b (fun z:b=S=>hS (by rw [← z];exact hb))];exact e
  ·refine fin h' tk (fun b o hb e=>keep b o hb ?_) ?_
   ·rw [sb.2 b (fun z:b=S=>hb (by rw [z];exact Ua1))]
    exact keep1 b o (fun z=>hb (Uav _ z)) e
   ·have e1:ns.drop i=ns.getD i 0 :: ns.drop (i + 1):=by
     rw [Uba hlt,Uac,Uaa hlt]
     rfl
    rw [e1]
    exact B'
theorem Zvu (a:Value) {Q:Value->Shared->Prop} (fin:Q (.ref s.heap.objs.size) { s with heap:=s.heap.push { cls:=.type "set",dict:=none,data:=.set #[] 0 (.fresh 0 0 (!byText w)) } }) :
  codeAny (model prog w) A (.call (.builtin "set.__new__") ⟨[.type "set",a],[]⟩) (wants Q E) s:=by
 refine codeAny_of_tree (show wpAny _ A.in1 (do checkBuiltinCall "set.__new__" ⟨[.type "set",a],[]⟩;again (.builtin "set.__new__" ⟨[.type "set",a],[]⟩)) _ _ s from ?_)
 refine wpAny_bind (wpAny_of_eq (F.newCall_set_1 a) (wpAny_pure ⟨plainId_quiet F.plain_set_new _,codeAny_builtin F.entry_set_new ?_⟩))
 have und:=Around.under_plainId (A:=A) F.plain_set_new ⟨[.type "set",a],[]⟩
 rw [und]
 unfold Builtin.«set.__new__» Builtin.Frozenset.newClass
 have q1:=sub_set_self
 obtain ⟨hh,gg,dd,tt,oo⟩:=s
 dsimp only
 wp_walk
 refine wpAny_askSetting (wpAny_pure (show wpAny _ _ _ _ _ _ from ?_))
 dsimp only
 simp only [newObj]
 exact wpAny_bind (wpAny_alloc (wpAny_pure (wpAny_pure fin)))
set_option maxHeartbeats 4000000 in
theorem Zyq {l:Addr} {its:Array Value} {ns:List Int} {Q:Value->Shared->Prop} (hh:A.handled=none) (hl:s.heap.IsList l its) (hi:IntsAre its.toList ns) (room:ns.length + 1 < scanBound)
  (fin:∀ (h':Heap) (tk:Nat),SetB w h' s.heap.objs.size (ns.foldl addJ [])->(∀ b o,b < s.heap.objs.size->s.heap.get? b=some o->h'.get? b=some o)->Q (.ref s.heap.objs.size) { s with heap:=h',toks:=tk }) :
  wpAny (model prog w) A (call (.type "set") [.ref l]) Q E s:=by
 have hn:its.size=ns.length:=by have:=IntsAre.length hi;simpa using this
 obtain ⟨mroC,mroT,mro⟩:=F.called_set.mro
 have made:=F.called_set.made
 have subs:=F.called_set.sub
 refine wpAny_call (codeAny_of_tree (show wpAny _ _ (callAny (.type "set") _) _ _ _ from ?_))
 refine wpAny_pure ⟨Code.quiet_builtin _ (by decide +kernel),codeAny_builtin F.entry_type_call ?_⟩
 have wt:=Around.under_plain (A:=A) (weight_type_call_type "set" [.ref l] []) rfl
 rw [wt]
 have nt:=F.called_set.notType
 have cc:=F.called_set.canCreate
 have tc:=F.typeCall_set_1 (.ref l)
 repeat (any_goals (first | assumption | wp_step))
 refine codeAny_mono (Zvu (.ref l) (E:=E) (Q:=fun obj s1=>obj=.ref s.heap.objs.size/\s1={ s with heap:=s.heap.push { cls:=.type "set",dict:=none,data:=.set #[] 0 (.fresh 0 0 (!byText w)) } }) ⟨rfl,rfl⟩) fun r s1 hr=>?_
 cases r with
 | error e=>exact hr
 | ok fl=>
  cases fl with
  | next=>exact hr.elim
  | brk=>exact hr.elim
  | cont=>exact hr.elim
  | ret obj=>
   obtain ⟨rfl,rfl⟩:=hr
   generalize eH:s.heap.push { cls:=.type "set",dict:=none,data:=.set #[] 0 (.fresh 0 0 (!byText w)) }=H1
   have g1:H1.get? s.heap.objs.size=some { cls:=.type "set",dict:=none,data:=.set #[] 0 (.fresh 0 0 (!byText w)) }:=by rw [← eH];exact Heap.get?_push_size _ rfl
   have hT:Shared.TypeIs { s with heap:=H1 } (.ref s.heap.objs.size) "set":=⟨_,g1,rfl⟩
   have ini:=F.called_set.init.lookup
   have inb:=F.called_set.init.bind (.ref s.heap.objs.size)
   repeat (any_goals (first | assumption | wp_step))
   refine codeAny_mono (codeAny_call_builtin (R:=wants (fun r s2=>r=.none/\∃ h' tk,s2={ s with heap:=h',toks:=tk }/\SetB w h' s.heap.objs.size (ns.foldl addJ [])/\(∀ b o,b < s.heap.objs.size->s.heap.get? b=some o->h'.get? b=some o)) E)
    F.called_set.init.plain F.entry_set_init (check_set_init_1 hT ?_)) fun r2 s2 hr2=>?_
   ·obtain ⟨ob,hob,hcl,nl,hdl⟩:=hl
    obtain ⟨c1,d1,dt1,sl1⟩:=ob
    simp only at hcl hdl
    subst hcl
    subst hdl
    have hob1:H1.get? l=some { cls:=.type "list",dict:=d1,data:=.seq its nl,slots:=sl1 }:=by rw [← eH];exact Heap.get?_push_of_some _ hob
    have sz1:H1.objs.size=s.heap.objs.size + 1:=by rw [← eH,Heap.size_push]
    have no1:=F.sub_list_set
    have no2:=F.sub_list_frozenset
    have no3:(Value.type "list" == Value.type "dict")=false:=by decide
    have L1:H1.IsList l its:=⟨_,hob1,rfl,nl,rfl⟩
    unfold Builtin.«set.__init__» noKeywords Builtin.Frozenset.updateFrom
    generalize eP:pyIter=PI
    wp_walk
    subst eP
    refine wpAny_pyIter_list L1 (wpAny_bind (wpAny_runValue ?_))
    have lt1:l < s.heap.objs.size:=Heap.lt_size hob
    have hd3:A.in1.in1.in1.handled=none:=by simp [hh]
    have ne1:l≠H1.objs.size:=by rw [sz1];exact Ua6 (Uc3 lt1)
    have no4:s.heap.objs.size∉[H1.objs.size,l]:=by
     rw [sz1]
     simp only [Uan,Uc8,or_false,not_or]
     exact ⟨Ua6 (Uc7 _),Udt lt1⟩
    have W0:=Walks.list (prog:=prog) (w:=w) hd3 H1.objs.size l ne1 its
    rw [hn] at W0
    refine Zwe (ns:=ns) W0 s.heap.objs.size no4 (fun i v hv=>IntsAre.int_at hi i v (by rw [Ubm];exact hv)) room (ns.length - 0) 0 _ [] rfl (Ubo _) ⟨⟨_,Heap.get?_push_size _ rfl,rfl,rfl⟩,L1.push _⟩ ?_ (Ubo _) fun h' tk keep B=>?_
    ·exact ⟨#[],0,_,⟨_,Heap.get?_push_of_some _ g1,⟨rfl,rfl,rfl⟩,rfl⟩,fun e he=>by simp at he,by simp,Ub9,by show (0:Nat) < 4096;decide,rfl,Tb.fresh _⟩
    ·show wpAny _ _ _ _ _ _
     refine wpAny_pure (show wpAny _ _ (ret Value.none) _ _ _ from wpAny_pure ⟨rfl,h',tk,rfl,B,fun b o hb e=>?_⟩)
     refine keep b o ?_ (Heap.get?_push_of_some _ (by rw [← eH];exact Heap.get?_push_of_some _ e))
     rw [sz1]
     simp only [Uan,Uc8,or_false,not_or]
     exact ⟨Ua6 hb,Ua6 (Uc3 hb)⟩
   ·cases r2 with
    | error e=>exact hr2
    | ok f2=>
     cases f2 with
     | next=>exact hr2.elim
     | brk=>exact hr2.elim
     | cont=>exact hr2.elim
     | ret r=>
      obtain ⟨rfl,h',tk,rfl,B,keep⟩:=hr2
      repeat (any_goals (first | assumption | wp_step))
      exact fin _ _ B keep
end
end SetR
namespace SetR
open PySem PySem.Spec PyProof.Rows L2
theorem si_slot:Slot "set_iterator" "__next__" "set_iterator.__next__":=
 Slot.of (owner:="set_iterator") (n:="__next__") (by rw [typeLookup_type,builtinLookup_eq_fast];kernel_rfl) (by decide +kernel) (by decide +kernel) (by decide +kernel)
  (by first | exact Or.inl (by decide +kernel) | exact Or.inr (by decide +kernel)) (by rw [isSubtype_type];kernel_rfl)
theorem Zw2:entryFor table "set_iterator.__next__" = some Builtin.«set_iterator.__next__»:=entryFor_of_tree (by kernel_rfl)
theorem Zx3 (a:Value):argsOk "set_iterator.__next__" ⟨[a],[]⟩:=by unfold argsOk;kernel_rfl
theorem Zvm:entryFor table "set.__iter__" = some Builtin.«frozenset.__iter__»:=entryFor_alias (id':="frozenset.__iter__") (by kernel_rfl) rfl (by decide +kernel) (by kernel_rfl)
theorem Zik:Slot "set_iterator" "__iter__" "set_iterator.__iter__":=
 Slot.of (owner:="set_iterator") (n:="__iter__") (by rw [typeLookup_type,builtinLookup_eq_fast];kernel_rfl) (by decide +kernel) (by decide +kernel) (by decide +kernel)
  (by first | exact Or.inl (by decide +kernel) | exact Or.inr (by decide +kernel)) (by rw [isSubtype_type];kernel_rfl)
theorem Zmk:entryFor table "set_iterator.__iter__" = some Builtin.«dict_keyiterator.__iter__»:=entryFor_alias (id':="dict_keyiterator.__iter__") (by kernel_rfl) rfl (by decide +kernel) (by kernel_rfl)
theorem Zo4 (a:Value):argsOk "set_iterator.__iter__" ⟨[a],[]⟩:=by unfold argsOk;kernel_rfl
def SI (h:Heap) (I a:Addr) (first:Value) (i n ep:Nat):Prop:=∃ o,h.get? I=some o/\o.cls=.type "set_iterator"/\o.data=.fields #[first,.int i 0,.ref a,.int n 0,.int ep 0]
section
variable {prog:Program} {w:World} {A:Around} {E:Value->Shared->Prop} {s:Shared} {I a:Addr} {first:Value} {i n ep:Nat} {js:List Int} {es:Array (Int×Value)} {t:SetTable}
theorem SI.typ (h:SI s.heap I a first i n ep):s.TypeIs (.ref I) "set_iterator":=let ⟨o,ho,hc,_⟩:=h;⟨o,ho,hc⟩
theorem SI.at {h h':Heap} (x:SI h I a first i n ep) (k:∀ o,h.get? I=some o->h'.get? I=some o):SI h' I a first i n ep:=let ⟨o,ho,r⟩:=x;⟨o,k o ho,r⟩
def siStep (first:Value) (a I:Addr) (i ep:Int):Sem PySem.Fin:=
 match first with
 | Value.int slot _=>do
  match ← setNext a slot.toNat i.toNat ep.toNat with
  | some (x,next)=>
   setField (.ref I) 0 (rawInt next)
   setField (.ref I) 1 (rawInt (i + 1))
   ret x
  | none=>
   setField (.ref I) 2 .none
   raiseNew (← newExc (.type "StopIteration") [])
 | _=>do
  let some places ← seqItems? first | unsupported "internal:set_iterator"
  match places[i.toNat]? with
  | some (.int place _)=>
   let x ← setNextDrawn a place.toNat ep.toNat
   setField (.ref I) 1 (rawInt (i + 1))
   ret x
  | some _=>unsupported "internal:set_iterator"
  | none=>
   setField (.ref I) 0 (rawInt 0)
   setField (.ref I) 2 .none
   raiseNew (← newExc (.type "StopIteration") [])
theorem Zmo {Q:Option Value->Shared->Prop} (hit:SI s.heap I a first i es.size ep) (S:SetAt w s.heap a js es ep t)
  (body:wpAny (model prog w) A.in1 (siStep first a I i ep) (fun fin s'=>∃ v,fin=.done (.ret v)/\Q (some v) s')
   (fun e s'=>wpAny (model prog w) A (isInstance e (.type "StopIteration")) (fun b s''=>b=true/\Q none s'') E s') s) :
  wpAny (model prog w) A (pyNext (.ref I)) Q E s:=by
 obtain ⟨o,ho,hc,hd⟩:=id hit
 obtain ⟨ob,hob,hx,hdd⟩:=S.obj
 unfold pyNext
 refine wpAny_bind (wpAny_attempt (wpAny_callSpecial?_slot (name:=Str.ofString "__next__") hit.typ si_slot (wpAny_call_entry si_slot hit.typ Zw2 ?_ (Zx3 _))))
 unfold Builtin.«set_iterator.__next__»
 refine wpAny_bind (wpAny_pure (wpAny_bind (wpAny_fieldsOf ho hd ?_)))
 show wpAny _ _ (setEntries a >>= fun x=>if ((x.size:Int) != (es.size:Int))=true then _ else siStep first a I i ep) _ _ s
 refine wpAny_bind (wpAny_setEntries_of hob hdd S.fit ?_)
 rw [Uad (by simp)]
 refine wpAny_mono body (fun fin s' h=>?_) fun e s' h=>?_
 ·obtain ⟨v,e,q⟩:=h
  exact ⟨v,e,wpAny_pure q⟩
 ·refine wpAny_bind (wpAny_mono h (fun b s'' h2=>?_) fun _ _ z=>z)
  obtain ⟨rfl,q⟩:=h2
  exact wpAny_pure q
theorem Zul {Q:Option Value->Shared->Prop} {o:Obj} {vs:Array Value} (hh:A.handled=none) (ho:s.heap.get? I=some o) (hd:o.data=.fields vs) (h2:2 < vs.size) (fin:∀ h',Heap.ExtBut I s.heap h'->Q none { s with heap:=h' }) {R:PySem.Fin->Shared->Prop} :
  wpAny (model prog w) A.in1 (do setField (.ref I) 2 .none;raiseNew (← newExc (.type "StopIteration") [])) R (fun e s'=>wpAny (model prog w) A (isInstance e (.type "StopIteration")) (fun b s''=>b=true/\Q none s'') E s') s:=by
 refine wpAny_bind (wpAny_setField ho hd h2 (wpAny_bind ?_))
 simp only [newExc,newTuple]
 refine wpAny_bind (wpAny_newObj_type ?_ (by size_fits))
 refine wpAny_bind (m:=firstArgMember _ _) (wpAny_of_eq (a:=Value.none) (by first | rfl | (simp only [firstArgMember];rfl)) (wpAny_newObj_type ?_ (by size_fits)))
 simp only [raiseNew]
 refine wpAny_bind (wpAny_handled ?_)
 have e1:A.in1.handled=none:=hh
 rw [e1]
 refine wpAny_bind (wpAny_pure (wpAny_throw ?_))
 refine wpAny_isInstance (T:="StopIteration") (b:=true) ⟨_,Heap.get?_push_size _ rfl,rfl⟩ isSubtype_stop ?_
 exact ⟨rfl,fin _ (((Heap.SameBut.update ..).extBut.push _).push _)⟩
theorem SI.step1 {o:Obj} {x:Value} (ho:s.heap.get? I=some o) (hc:o.cls=.type "set_iterator") (hd:o.data=.fields #[first,.int i 0,.ref a,.int n 0,.int ep 0]) :
  SI (s.heap.update I (Obj.mapFields (·.setIfInBounds 1 (rawInt ((i:Int) + 1))))) I a first (i + 1) n ep:=
 ⟨_,Heap.get?_update_self _ ho (Obj.isFreed_of_fields (Obj.data_mapFields hd _)),(Obj.cls_mapFields ..).trans hc,by rw [Obj.data_mapFields hd];simp [rawInt]⟩
theorem Zmm {Q:Bool->Shared->Prop} (h:Q (byText w) s):wpAny (model prog w) A setsByText Q E s:=by
 unfold setsByText
 exact wpAny_bind (wpAny_askSetting (wpAny_pure h))
theorem Zvf {Q:Option (Value×Nat)->Shared->Prop} {slot:Nat} (S:SetAt w s.heap a js es ep t) (hb:byText w=true) (h:Q (((pickOrder (w.params.setOrder a ep) es)[i]?).map fun e=>(e.2,slot)) s) :
  wpAny (model prog w) A (setNext a slot i ep) Q E s:=by
 obtain ⟨ob,hob,hx,hdd⟩:=S.obj
 unfold setNext
 refine wpAny_bind (wpAny_setState_of hob hdd S.fit (wpAny_bind (Zmm ?_)))
 rw [hb,Uae rfl]
 dsimp only
 rw [Uad (by simp)]
 refine wpAny_bind ?_
 unfold setWalk
 refine wpAny_bind (wpAny_setState_of hob hdd S.fit (wpAny_bind (Zmm ?_)))
 rw [hb,Uae rfl]
 exact wpAny_bind (wpAny_askSetting (wpAny_pure (wpAny_pure h)))
theorem Zsp {Q:Option (Value×Nat)->Shared->Prop} {slot:Nat} (S:SetAt w s.heap a js es ep t) (hb:byText w=false) (hp:(!t.plain && decide (es.size > 1))=false)
  (h:Q (match es[SetTable.below t.place slot]?,t.place[SetTable.below t.place slot]? with | some (_,x),some j=>some (x,j + 1) | _,_=>none) s):wpAny (model prog w) A (setNext a slot i ep) Q E s:=by
 obtain ⟨ob,hob,hx,hdd⟩:=S.obj
 unfold setNext
 refine wpAny_bind (wpAny_setState_of hob hdd S.fit (wpAny_bind (Zmm ?_)))
 rw [hb,Uad (by decide)]
 dsimp only
 show wpAny _ _ (if (!t.plain && decide (es.size > 1))=true then _ else _) _ _ _
 rw [hp,Uad (by decide)]
 refine wpAny_bind (?_:wpAny _ _ (if (!t.led && !es.isEmpty)=true then unsupported "set:maker-not-led" else pure ()) _ _ _)
 have hl:t.led=true:=by rw [S.tab.led,hb];rfl
 rw [hl,Uad (by simp)]
 exact wpAny_pure (wpAny_pure h)
theorem Zs5 {Q:Value->Shared->Prop} {p:Nat} {e:Int×Value} (S:SetAt w s.heap a js es ep t) (he:es[p]?=some e) (h:Q e.2 s):wpAny (model prog w) A (setNextDrawn a p ep) Q E s:=by
 obtain ⟨ob,hob,hx,hdd⟩:=S.obj
 unfold setNextDrawn
 refine wpAny_bind (wpAny_setState_of hob hdd S.fit ?_)
 dsimp only
 rw [Uad (by simp),he]
 exact wpAny_pure h
theorem Zst {Q:Nat->Shared->Prop} {src:Source} {m:Nat} (hm:m≠0) (h:∀ k d,k < m->Q k { s with drawn:=d }):wpAny (model prog w) A (choose src m) Q E s:=by
 intro Γ p hΓ
 unfold choose
 rw [Sem.wp_choose]
 exact ⟨hm,h _ _ (Nat.mod_lt _ (Nat.pos_of_ne_zero hm))⟩
theorem Zh7 {α:Type}:∀ (xs:List α) (k:Nat) (h:k < xs.length),(xs[k] :: xs.eraseIdx k).Perm xs
 | x :: r,0,_=>List.Perm.refl _
 | x :: r,k + 1,h=>by
  have hk:k < r.length:=by simpa using h
  have ih:=Zh7 r k hk
  show (r[k] :: x :: r.eraseIdx k).Perm (x :: r)
  exact (List.Perm.swap _ _ _).trans (List.Perm.cons _ ih)
theorem Zsl {α:Type}:∀ (m:Nat) (xs:List α) (s:Shared) {Q:List α->Shared->Prop},xs.length=m->(∀ ys d,ys.Perm xs->Q ys { s with drawn:=d })->wpAny (model prog w) A (drawOrder m xs) Q E s:=by
 intro m
 induction m with
 | zero=>
  intro xs s Q hl h
  have e:xs=[]:=Ub3.mp hl
  subst e
  exact wpAny_pure (h [] s.drawn (List.Perm.refl _))
 | succ m ih=>
  intro xs s Q hl h
  cases xs with
  | nil=>simp at hl
  | cons x r=>
   unfold drawOrder
   refine wpAny_bind (Zst (by simp) fun k d hk=>?_)
   rw [Uaa hk]
   refine wpAny_bind (ih _ _ (by rw [List.length_eraseIdx_of_lt hk];simpa using hl) fun ys d2 hp=>wpAny_pure ?_)
   exact h _ d2 ((List.Perm.cons _ hp).trans (Zh7 _ _ hk))
theorem SetAt.keep {h h':Heap} (S:SetAt w h a js es ep t) (k:∀ o,h.get? a=some o->h'.get? a=some o):SetAt w h' a js es ep t:=by
 obtain ⟨⟨o,ho,r⟩,b,c,d,e,f,g⟩:=S
 exact ⟨⟨o,k o ho,r⟩,b,c,d,e,f,g⟩
theorem Ztk {Q:Value->Shared->Prop} (hit:SI s.heap I a first i n ep) (h:Q (.ref I) s):wpAny (model prog w) A (pyIter (.ref I)) Q E s:=by
 refine wpAny_pyIter_slot hit.typ Zik (wpAny_call_entry Zik hit.typ Zmk ?_ (Zo4 _))
 show wpAny _ _ (ret (.ref I)) _ _ s
 exact wpAny_pure ⟨_,rfl, "set_iterator",_,hit.typ,si_slot.lookup,h⟩
theorem Zqy (hh:A.handled=none) (I a:Addr) (hne:a≠I) (vs:List Value) (hl:vs.length=es.size) (sl:Nat->Nat)
  (nx:∀ (A:Around) (E:Value->Shared->Prop) (s:Shared) (i:Nat) (Q:Option (Value×Nat)->Shared->Prop),i<=es.size->SetAt w s.heap a js es ep t->Q ((vs[i]?).map fun v=>(v,sl (i + 1))) s->wpAny (model prog w) A (setNext a (sl i) i ep) Q E s) :
  Walks prog w A I [I,a] [I] es.size (fun i v=>vs[i]?=some v) (fun i h=>SI h I a (.int (sl i) 0) i es.size ep/\SetAt w h a js es ep t) where
 sub:=fun b hb=>by simp at hb;simp [hb]
 frame:=fun _ _ _ st k=>⟨st.1.at fun o e=>k I (by simp) o e,st.2.keep fun o e=>k a (by simp) o e⟩
 item:=fun i s Q E hi st fin=>by
  obtain ⟨o,ho,hc,hd⟩:=id st.1
  refine Zmo st.1 st.2 ?_
  unfold siStep
  dsimp only
  rw [Ua2,Ua2,Ua2]
  refine wpAny_bind (nx _ _ s i _ (Ucu hi) st.2 ?_)
  have hi2:i < vs.length:=by omega
  rw [Uaa hi2]
  show wpAny _ _ (do setField (.ref I) 0 (rawInt (sl (i + 1)));setField (.ref I) 1 (rawInt ((i:Int) + 1));ret vs[i]) _ _ s
  refine wpAny_bind (wpAny_setField ho hd (by simp) ?_)
  have g1:=Heap.get?_update_self (Obj.mapFields (·.setIfInBounds 0 (rawInt (sl (i + 1):Int)))) ho (Obj.isFreed_of_fields (Obj.data_mapFields hd _))
  have d1:(Obj.mapFields (·.setIfInBounds 0 (rawInt (sl (i + 1):Int))) o).data=.fields #[.int (sl (i + 1)) 0,.int i 0,.ref a,.int es.size 0,.int ep 0]:=by rw [Obj.data_mapFields hd];simp [rawInt]
  refine wpAny_bind (wpAny_setField g1 d1 (by simp) ?_)
  have sb:=(Heap.SameBut.update s.heap I (Obj.mapFields (·.setIfInBounds 0 (rawInt (sl (i + 1):Int))))).trans (Heap.SameBut.update _ I (Obj.mapFields (·.setIfInBounds 1 (rawInt ((i:Int) + 1)))))
  refine wpAny_pure ⟨_,rfl,fin vs[i] _ s.toks (Uaa hi2) ⟨?_,st.2.keep fun o e=>sb.extBut a o hne e⟩ fun b o hb e=>sb.extBut b o (fun z=>hb (by simp [z])) e⟩
  exact SI.step1 (s:={ s with heap:=_ }) (x:=.none) g1 ((Obj.cls_mapFields ..).trans hc) d1
 done:=fun s Q E st fin=>by
  obtain ⟨o,ho,hc,hd⟩:=id st.1
  refine Zmo st.1 st.2 ?_
  unfold siStep
  dsimp only
  rw [Ua2,Ua2,Ua2]
  refine wpAny_bind (nx _ _ s es.size _ (Uah _) st.2 ?_)
  rw [Ub6 (by omega)]
  exact Zul hh ho hd (by simp) fun h' eb=>fin h' s.toks fun b o hb e=>eb b o (fun z=>hb (by simp [z])) e
 self:=fun _ _ _ _ st fin=>Ztk st.1 fin
theorem Zs1 (hh:A.handled=none) (I a T:Addr) (hne:a≠I) (hT:T≠I) (ps:List Nat) (hl:ps.length=es.size) (hps:∀ p∈ps,p < es.size) (vs:List Value) (hvs:vs=ps.map fun p=>((es[p]?).map (·.2)).getD .none) :
  Walks prog w A I [I,a,T] [I] es.size (fun i v=>vs[i]?=some v) (fun i h=>SI h I a (.ref T) i es.size ep/\SetAt w h a js es ep t/\∃ o,h.get? T=some o/\∃ c,o.data=.seq (ps.map fun (p:Nat)=>rawInt p).toArray c) where
 sub:=fun b hb=>by simp at hb;simp [hb]
 frame:=fun _ _ _ st k=>⟨st.1.at fun o e=>k I (by simp) o e,st.2.1.keep fun o e=>k a (by simp) o e,let ⟨o,ho,c⟩:=st.2.2;⟨o,k T (by simp) o ho,c⟩⟩
 item:=fun i s Q E hi st fin=>by
  obtain ⟨o,ho,hc,hd⟩:=id st.1
  obtain ⟨oT,hoT,c,hdT⟩:=st.2.2
  refine Zmo st.1 st.2.1 ?_
  unfold siStep
  dsimp only
  refine wpAny_bind (wpAny_seqItems hoT hdT ?_)
  have hi2:i < ps.length:=by omega
  have e1:(ps.map fun (p:Nat)=>rawInt p).toArray[(i:Int).toNat]?=some (.int ps[i] 0):=by
   rw [Ua2,List.getElem?_toArray,Uaj,Uaa hi2]
   rfl
  have hp:=hps _ (Uaw hi2)
  dsimp only
  rw [e1]
  dsimp only
  have e2:es[ps[i]]?=some es[ps[i]]:=Ubr hp
  have e3:vs[i]?=some (es[ps[i]]).2:=by rw [hvs,Uaj,Uaa hi2];simp [hp]
  rw [Ua2,Ua2]
  refine wpAny_bind (Zs5 st.2.1 e2 (wpAny_bind (wpAny_setField ho hd (by simp) ?_)))
  have sb:=Heap.SameBut.update s.heap I (Obj.mapFields (·.setIfInBounds 1 (rawInt ((i:Int) + 1))))
  exact wpAny_pure ⟨_,rfl,fin _ _ s.toks e3 ⟨SI.step1 (x:=.none) ho hc hd,st.2.1.keep fun o e=>sb.extBut a o hne e,oT,sb.extBut T oT hT hoT,c,hdT⟩ fun b o hb e=>sb.extBut b o (fun z=>hb (by simp [z])) e⟩
 done:=fun s Q E st fin=>by
  obtain ⟨o,ho,hc,hd⟩:=id st.1
  obtain ⟨oT,hoT,c,hdT⟩:=st.2.2
  refine Zmo st.1 st.2.1 ?_
  unfold siStep
  dsimp only
  refine wpAny_bind (wpAny_seqItems hoT hdT ?_)
  have e1:(ps.map fun (p:Nat)=>rawInt p).toArray[(es.size:Int).toNat]?=none:=by
   rw [Ua2,List.getElem?_toArray,Uaj,Ub6 (by omega)]
   rfl
  dsimp only
  rw [e1]
  dsimp only
  refine wpAny_bind (wpAny_setField ho hd (by simp) ?_)
  have g1:=Heap.get?_update_self (Obj.mapFields (·.setIfInBounds 0 (rawInt 0))) ho (Obj.isFreed_of_fields (Obj.data_mapFields hd _))
  have sb:=Heap.SameBut.update s.heap I (Obj.mapFields (·.setIfInBounds 0 (rawInt 0)))
  refine Zul (s:={ s with heap:=_ }) hh g1 (Obj.data_mapFields hd _) (by simp) fun h' eb=>fin h' s.toks fun b o hb e=>eb b o (fun z=>hb (by simp [z])) (sb.extBut b o (fun z=>hb (by simp [z])) e)
 self:=fun _ _ _ _ st fin=>Ztk st.1 fin
theorem Zxo {α:Type} (nx:Nat->Nat):∀ (m k:Nat) (left:List α) (out:Array α),left.length=m->(pickOrder.go nx m k left out).toList.Perm (out.toList++left):=by
 intro m
 induction m with
 | zero=>
  intro k left out hl
  have e:left=[]:=Ub3.mp hl
  subst e
  show out.toList.Perm (out.toList++[])
  rw [Ubi]
 | succ m ih=>
  intro k left out hl
  have hlt:nx k % left.length < left.length:=Nat.mod_lt _ (by omega)
  unfold pickOrder.go
  rw [Uaa hlt]
  dsimp only
  refine (ih _ _ _ (by rw [List.length_eraseIdx_of_lt hlt];omega)).trans ?_
  rw [Array.toList_push,Udp]
  exact (Zh7 left _ hlt).append_left _
theorem Znx {α:Type} (nx:Nat->Nat) (xs:Array α):(pickOrder nx xs).toList.Perm xs.toList:=by
 have:=Zxo nx xs.size 0 xs.toList #[] (by simp)
 simpa [pickOrder] using this
def slotAt (t:SetTable) (i:Nat):Nat:=if i=0 then 0 else t.place.getD (i - 1) 0 + 1
theorem Zpi {m:Nat} (h:t.fits m=true):t.place.size=m:=by
 simp only [SetTable.fits,Ubh,beq_iff_eq] at h
 exact h.1
theorem Zsq (S:SetAt w s.heap a js es ep t) {i:Nat} (hi:i<=es.size):SetTable.below t.place (slotAt t i)=i:=by
 have hz:=Zpi S.fit
 have R:=S.tab.ris.ris
 refine Zsg R (by omega) (fun k hk=>?_) fun k h1 h2=>?_
 ·unfold slotAt
  rw [Uad (by omega)]
  by_cases e:k=i - 1
  ·rw [e];omega
  ·have:=R k (i - 1) (by omega) (by omega)
   omega
 ·unfold slotAt
  by_cases h0:i=0
  ·rw [Uae h0];omega
  ·rw [Uad h0]
   have:=R (i - 1) k (by omega) h2
   omega
theorem Zyk {Q:Value->Shared->Prop} {A':Around} (hh:A'.handled=none) (S:SetAt w s.heap a js es ep t)
  (fin:∀ (I:Addr) (fp:List Addr) (vs:List Value) (St:Nat->Heap->Prop) (h1:Heap) (d1:Drawn),Walks prog w A' I fp [I] es.size (fun i v=>vs[i]?=some v) St->St 0 h1->(∀ b∈fp,b=a\/s.heap.get? b=none)->vs.length=es.size->vs.Perm (es.toList.map (·.2))->
   s.heap.get? I=none->(∀ b o,s.heap.get? b=some o->h1.get? b=some o)->Q (.ref I) { s with heap:=h1,drawn:=d1 }) :
  wpAny (model prog w) A (pyIter (.ref a)) Q E s:=by
 obtain ⟨ob,hob,hx,hdd⟩:=S.obj
 have hT:s.TypeIs (.ref a) "set":=⟨ob,hob,hx.1⟩
 have ha:a < s.heap.objs.size:=Heap.lt_size hob
 have new:∀ b,s.heap.objs.size<=b->s.heap.get? b=none:=fun b hb=>by
  cases e:s.heap.get? b with
  | none=>rfl
  | some o=>exact absurd (Heap.lt_size e) (Ude.mpr hb)
 refine wpAny_pyIter_slot hT F.slot_set_iter (wpAny_call_entry F.slot_set_iter hT Zvm ?_ (F.args_set_iter_1 _))
 unfold Builtin.«frozenset.__iter__»
 show wpAny _ _ (Builtin.Frozenset.sizeOf a >>= _) _ _ s
 unfold Builtin.Frozenset.sizeOf
 refine wpAny_bind (wpAny_bind (wpAny_setEntries_of hob hdd S.fit (wpAny_pure ?_)))
 refine wpAny_bind ?_
 unfold setDrawn
 refine wpAny_bind (wpAny_setState_of hob hdd S.fit (wpAny_bind (Zmm (wpAny_pure ?_))))
 dsimp only
 change wpAny _ _ (if (!byText w && (!t.plain && decide (es.size > 1)))=true then _ else _) _ _ _
 cases hd:(!byText w && (!t.plain && decide (es.size > 1))) with
 | false=>
  rw [Uad (by decide)]
  refine wpAny_bind (wpAny_pure (wpAny_bind (wpAny_setEpoch_of hob hdd S.fit (wpAny_bind (wpAny_newObj_type (wpAny_pure ⟨_,rfl, "set_iterator",_,⟨_,Heap.get?_push_size _ rfl,rfl⟩,si_slot.lookup,?_⟩))))))
  have hne:a≠s.heap.objs.size:=Ua6 ha
  have S1:SetAt w (s.heap.push { cls:=.type "set_iterator",data:=.fields [rawInt 0,rawInt 0,.ref a,rawInt es.size,rawInt ep].toArray }) a js es ep t:=S.keep fun o e=>Heap.get?_push_of_some _ e
  have lt:∀ b∈[s.heap.objs.size,a],b=a\/s.heap.get? b=none:=fun b hb=>by
   rcases Uan.mp hb with rfl | hb
   ·exact .inr (new _ (Uah _))
   ·exact .inl (Uag.mp hb)
  cases hb:byText w with
  | true=>
   have hl:((pickOrder (w.params.setOrder a ep) es).toList.map (·.2)).length=es.size:=by
    rw [Uab,(Znx _ _).length_eq];simp
   refine fin _ _ _ _ _ s.drawn (Zqy (t:=t) (js:=js) (ep:=ep) hh s.heap.objs.size a hne ((pickOrder (w.params.setOrder a ep) es).toList.map (·.2)) hl (fun _=>0) fun A E s i Q hi S' q=>Zvf S' hb ?_) ⟨⟨_,Heap.get?_push_size _ rfl,rfl,rfl⟩,S1⟩ lt hl ((Znx _ _).map _) (new _ (Uah _)) fun b o e=>Heap.get?_push_of_some _ e
   rw [Uaj] at q
   rw [← Ubm]
   cases e:(pickOrder (w.params.setOrder a ep) es).toList[i]? with
   | none=>rw [e] at q;exact q
   | some x=>rw [e] at q;exact q
  | false=>
   have hp:(!t.plain && decide (es.size > 1))=false:=by rw [hb] at hd;simpa using hd
   refine fin _ _ _ _ _ s.drawn (Zqy (t:=t) (js:=js) (ep:=ep) hh s.heap.objs.size a hne (es.toList.map (·.2)) (by simp) (slotAt t) fun A E s i Q hi S' q=>Zsp S' hb hp ?_) ⟨⟨_,Heap.get?_push_size _ rfl,rfl,rfl⟩,S1⟩ lt (by simp) (List.Perm.refl _) (new _ (Uah _)) fun b o e=>Heap.get?_push_of_some _ e
   rw [Zsq S' hi]
   have hz:=Zpi S'.fit
   rw [Uaj] at q
   by_cases hlt:i < es.size
   ·have e1:es[i]?=some es[i]:=Ubr hlt
    have e2:t.place[i]?=some t.place[i]:=Ubr (by omega)
    have e3:es.toList[i]?=some es[i]:=by rw [Ubm];exact e1
    rw [e3] at q
    rw [e1,e2]
    have e4:slotAt t (i + 1)=t.place[i] + 1:=by
     unfold slotAt
     rw [Uad (by omega)]
     have:i < t.place.size:=by omega
     simp [Array.getD,this]
    have q':Q (some (es[i].2,slotAt t (i + 1))) s:=q
    rw [e4] at q'
    exact q'
   ·have e1:es[i]?=none:=Uc6 (by omega)
    have e3:es.toList[i]?=none:=by rw [Ubm];exact e1
    rw [e3] at q
    rw [e1]
    exact q
 | true=>
  rw [Uae rfl]
  refine wpAny_bind (Zsl _ _ s (by simp) fun ps d hp=>?_)
  have hl:ps.length=es.size:=by rw [hp.length_eq];simp
  have hps:∀ p∈ps,p < es.size:=fun p hm=>Udj.mp (hp.mem_iff.mp hm)
  refine wpAny_bind (wpAny_newObj_type ?_ (by show (ps.map fun (i:Nat)=>rawInt i).toArray.size<=sizeLine;rw [Uao,Uab,hl];exact fits_of_scanBound S.few))
  have hob1:=Heap.get?_push_of_some { cls:=.type "tuple",data:=.seq (ps.map fun (i:Nat)=>rawInt i).toArray } hob
  refine wpAny_bind (wpAny_setEpoch_of hob1 hdd S.fit (wpAny_bind (wpAny_newObj_type (wpAny_pure ⟨_,rfl, "set_iterator",_,⟨_,Heap.get?_push_size _ rfl,rfl⟩,si_slot.lookup,?_⟩))))
  have zT:(s.heap.push { cls:=.type "tuple",data:=.seq (ps.map fun (i:Nat)=>rawInt i).toArray }).objs.size=s.heap.objs.size + 1:=Heap.size_push ..
  have eq1:(List.range es.size).map (fun p=>((es[p]?).map (·.2)).getD Value.none)=es.toList.map (·.2):=by
   apply Udq
   intro k
   by_cases hk:k < es.size
   ·simp [hk]
   ·have:es.size<=k:=by omega
    simp [this]
  refine fin _ _ _ _ _ d (Zs1 (t:=t) (js:=js) (ep:=ep) hh _ a s.heap.objs.size ?_ ?_ ps hl hps _ rfl) ⟨⟨_,Heap.get?_push_size _ rfl,rfl,rfl⟩,S.keep fun o e=>Heap.get?_push_of_some _ (Heap.get?_push_of_some _ e),_,Heap.get?_push_of_some _ (Heap.get?_push_size _ rfl),0,rfl⟩ (fun b hb=>?_) (by rw [Uab];exact hl) ?_ (new _ ?_) fun b o e=>Heap.get?_push_of_some _ (Heap.get?_push_of_some _ e)
  ·show a≠_
   rw [zT]
   exact Ua6 (Uc3 ha)
  ·show s.heap.objs.size≠_
   rw [zT]
   exact Ua6 (Uc7 _)
  ·rcases Uan.mp hb with rfl | hb
   ·refine .inr (new _ ?_)
    show s.heap.objs.size<=_
    rw [zT]
    exact Ucr _
   ·rcases Uan.mp hb with rfl | hb
    ·exact .inl rfl
    ·rw [Uag.mp hb]
     exact .inr (new _ (Uah _))
  ·rw [← eq1]
   exact hp.map _
  ·show s.heap.objs.size<=_
   rw [zT]
   exact Ucr _
theorem Zv9 {Q:Bool->Shared->Prop} (hT:s.TypeIs (.ref a) "set") (h:Q false s):wpAny (model prog w) A (Builtin.List.listLengthHint (.ref a)) Q E s:=by
 unfold Builtin.List.listLengthHint
 refine wpAny_bind (wpAny_specialOf hT F.slot_set_len.lookup ?_)
 generalize eid:("set.__len__" : String)=z
 wp_delta
 have sp:splitId z=some ("set", "__len__"):=by subst eid;decide +kernel
 rw [sp]
 subst eid
 refine wpAny_bind (wpAny_isInstance (T:="set") (b:=true) hT (by rw [isSubtype_type];kernel_rfl) (wpAny_ite_split (fun z=>absurd z (by decide)) fun _=>?_))
 exact wpAny_ite_split (fun _=>wpAny_bind (wpAny_typeOf hT (wpAny_pure h))) fun z=>absurd (by decide +kernel) z
theorem Zsj {R:Result->Shared->Prop} (hh:A.handled=none) (S:SetAt w s.heap a js es ep t) (D:Addr) (c:Nat) (res:Value) (hD:s.heap.get? D=some { cls:=.type "list",data:=.seq #[] c }) (hne:D≠a)
  (fin:∀ (h':Heap) (tk:Nat) (d:Drawn) (vs:List Value) (c':Nat),vs.Perm (es.toList.map (·.2))->h'.get? D=some { cls:=.type "list",dict:=none,data:=.seq vs.toArray c',slots:=#[] }->(∀ b o,b≠D->s.heap.get? b=some o->h'.get? b=some o)->R (.ok (.ret res)) { s with heap:=h',toks:=tk,drawn:=d }) :
  wpAny (model prog w) A.in1 (Builtin.List.listExtendWith (.ref D) (.ref a) res) (fun f s'=>match f with | .done f=>R (.ok f) s' | .again c'=>c'.quiet=true/\codeAny (model prog w) A c' R s') (fun e s'=>R (.error e) s') s:=by
 obtain ⟨ob,hob,hx,hdd⟩:=S.obj
 have hT:s.TypeIs (.ref a) "set":=⟨ob,hob,hx.1⟩
 unfold Builtin.List.listExtendWith
 refine wpAny_bind (wpAny_typeOf (T:="set") hT ?_)
 have n1:Builtin.List.listSameRef (.ref D) (.ref a)=false:=by simp [Builtin.List.listSameRef,hne]
 have n2:(Value.type "set" == Value.type "list")=false:=by decide
 have n3:(Value.type "set" == Value.type "tuple")=false:=by decide
 simp only [n1,n2,n3,Bool.or_false,Ucv,if_false]
 refine wpAny_bind (Zyk (A':=A.in1) hh S fun I fp vs St h1 d1 W st0 flt hl hp hI keep=>?_)
 have hDI:D≠I:=fun z=>by rw [← z,hD] at hI;cases hI
 have loop:∀ (h:Heap) (tk c1:Nat),St 0 h->(∀ b o,b≠D->s.heap.get? b=some o->h.get? b=some o)->h.get? D=some { cls:=.type "list",data:=.seq #[] c1 }->D∉fp->
   codeAny (model prog w) A (.builtin "list.extend.loop" ⟨[.ref D,.ref I,res],[]⟩) R { s with heap:=h,toks:=tk,drawn:=d1 }:=fun h tk c1 st hk hD1 hDf=>by
  refine codeAny_extend_loopS W.toS (fits_of_scanBound S.few) D hDf res es.size 0 _ #[] c1 rfl (Ubo _) st hD1 (ItemsOf.nil _) fun s' acc c' hm hD' hacc=>?_
  have ev:acc.toList=vs:=by
   apply Udq
   intro k
   by_cases hk2:k < acc.size
   ·have e1:acc[k]?=some acc[k]:=Ubr hk2
    rw [Ubm,e1]
    exact (hacc.2 k _ e1).symm
   ·rw [Ubm,Uc6 (by omega),Ub6 (by have:=hacc.1;omega)]
  have e2:acc=vs.toArray:=by rw [← ev]
  rw [e2] at hD'
  rw [Moved.eq_with hm]
  refine fin s'.heap s'.toks d1 vs c' hp hD' fun b o hb e=>hm.heap b o (fun hmem=>?_) (hk b o hb e)
  rcases Uan.mp hmem with z | z
  ·exact hb z
  ·rw [Uag.mp z,hI] at e
   cases e
 have hDf:D∉fp:=fun hm=>by
  rcases flt D hm with z | z
  ·exact hne z
  ·rw [hD] at z;cases z
 have hT1:Shared.TypeIs { s with heap:=h1,drawn:=d1 } (.ref a) "set":=⟨ob,keep _ _ hob,hx.1⟩
 refine wpAny_bind (wpAny_holding (Zv9 hT1 ?_))
 have hD1:=keep _ _ hD
 refine wpAny_ite_split (fun _=>?_) fun _=>wpAny_pure ⟨plainId_quiet F.plain_extend_loop _,loop _ _ c st0 (fun b o _ e=>keep b o e) hD1 hDf⟩
 refine wpAny_bind (wpAny_rule (wpAny_bind (?_:wpAny _ _ (updateSeq D (·.push .none) >>= fun _=>updateSeq D (·.pop)) _ _ _)))
 refine wpAny_bind (wpAny_updateSeq hD1 rfl ?_)
 have hD2:=Heap.get?_update_self (Obj.mapSeq (·.push Value.none)) hD1 rfl
 refine wpAny_updateSeq (hz:=by seq_fits) hD2 rfl ?_
 have hD3:=Heap.get?_update_self (Obj.mapSeq (·.pop)) hD2 rfl
 have oth:∀ b o,b≠D->h1.get? b=some o->((h1.update D (Obj.mapSeq (·.push Value.none))).update D (Obj.mapSeq (·.pop))).get? b=some o:=fun b o hb e=>
  (Heap.get?_update_other _ _ (Ne.symm hb)).trans ((Heap.get?_update_other _ _ (Ne.symm hb)).trans e)
 exact wpAny_pure ⟨plainId_quiet F.plain_extend_loop _,loop _ _ _ (W.frame 0 _ _ st0 fun b hb o e=>oth b o (fun z=>hDf (z ▸ hb)) e) (fun b o hb e=>oth b o hb (keep b o e)) hD3 hDf⟩
theorem Zpy {R:List Value->Shared->Prop} (hh:A.handled=none) (S:SetAt w s.heap a js es ep t)
  (fin:∀ (h':Heap) (tk:Nat) (d:Drawn) (vs:List Value),vs.Perm (es.toList.map (·.2))->(∀ b o,s.heap.get? b=some o->h'.get? b=some o)->s.heap.objs.size < h'.objs.size->R vs { s with heap:=h',toks:=tk,drawn:=d }) :
  wpAny (model prog w) A (collect (.ref a)) R E s:=by
 obtain ⟨ob,hob,hx,hdd⟩:=S.obj
 have hne:s.heap.objs.size≠a:=Udt (Heap.lt_size hob)
 unfold collect
 refine wpAny_bind (wpAny_runValue (codeAny_builtin entry_proto_collect' ?_))
 have u1:=Around.under_plainId (A:=A) PySem.F.plain_proto_collect ⟨[.ref a],[]⟩
 rw [u1]
 refine (show wpAny _ A.in1 (newList [] >>= fun l=>again (.builtin "list.__iadd__" ⟨[l,.ref a],[]⟩)) _ _ s from wpAny_bind (wpAny_newObj_type (wpAny_pure ⟨plainId_quiet PySem.F.plain_list_iadd _,codeAny_builtin entry_list_iadd' ?_⟩)))
 have u2:=Around.under_plainId (A:=A) PySem.F.plain_list_iadd ⟨[.ref s.heap.objs.size,.ref a],[]⟩
 rw [u2]
 have g1:(s.heap.push { cls:=.type "list",data:=.seq ([]:List Value).toArray }).get? s.heap.objs.size=some { cls:=.type "list",data:=.seq #[] }:=Heap.get?_push_size _ rfl
 show wpAny _ A.in1 (Builtin.List.listExtendWith (.ref s.heap.objs.size) (.ref a) (.ref s.heap.objs.size)) _ _ _
 have key:=Zsj (prog:=prog) (A:=A) (s:={ s with heap:=s.heap.push { cls:=.type "list",data:=.seq ([]:List Value).toArray } })
  (R:=fun q s'=>∃ h' tk d vs c',q=.ok (.ret (.ref s.heap.objs.size))/\s'={ s with heap:=h',toks:=tk,drawn:=d }/\vs.Perm (es.toList.map (·.2))/\(∀ b o,s.heap.get? b=some o->h'.get? b=some o)/\
   h'.get? s.heap.objs.size=some { cls:=.type "list",dict:=none,data:=.seq vs.toArray c',slots:=#[] }) hh (S.keep fun o e=>Heap.get?_push_of_some _ e) s.heap.objs.size 0 (.ref s.heap.objs.size) g1 hne
  fun h' tk d vs c' hp hD hk=>⟨h',tk,d,vs,c',rfl,rfl,hp,fun b o e=>hk b o (Ua6 (Heap.lt_size e)) (Heap.get?_push_of_some _ e),hD⟩
 refine wpAny_mono key (fun f s' x=>?_) fun e s' x=>?_
 ·cases f with
  | done f=>
   obtain ⟨h',tk,d,vs,c',e,rfl,hp,hk,hD⟩:=x
   cases e
   refine (show wpAny _ A (load s.heap.objs.size >>= _) _ _ _ from wpAny_bind (wpAny_load hD (wpAny_pure ?_)))
   exact fin h' tk d vs hp hk (Heap.lt_size hD)
  | again c1=>
   refine ⟨x.1,codeAny_mono x.2 fun q s2 y=>?_⟩
   obtain ⟨h',tk,d,vs,c',rfl,rfl,hp,hk,hD⟩:=y
   refine (show wpAny _ A (load s.heap.objs.size >>= _) _ _ _ from wpAny_bind (wpAny_load hD (wpAny_pure ?_)))
   exact fin h' tk d vs hp hk (Heap.lt_size hD)
 ·obtain ⟨_,_,_,_,_,e',_⟩:=x
  cases e'
theorem Zij:∀ {l:List (Int×Value)},(∀ e∈l,Ent e)->IntsAre (l.map (·.2)) (l.map keyOf)
 | [],_=>.nil
 | e :: r,h=>by
  obtain ⟨k,t,rfl⟩:=h e Ua1
  exact .cons k t (Zij fun x hx=>h x (Uav _ hx))
theorem Zu0 {vs us:List Value} (p:vs.Perm us):∀ {ns:List Int},IntsAre us ns->∃ ms,IntsAre vs ms/\ms.Perm ns:=by
 induction p with
 | nil=>intro ns h;cases h;exact ⟨[],.nil,List.Perm.refl _⟩
 | cons x _ ih=>
  intro ns h
  cases h with
  | cons n t r=>
   obtain ⟨ms,h1,h2⟩:=ih r
   exact ⟨n :: ms,.cons n t h1,List.Perm.cons _ h2⟩
 | swap x y l=>
  intro ns h
  cases h with
  | cons n t r=>
   cases r with
   | cons n' t' r'=>exact ⟨n' :: n :: _,.cons n' t' (.cons n t r'),List.Perm.swap _ _ _⟩
 | trans _ _ ih1 ih2=>
  intro ns h
  obtain ⟨ms,h1,h2⟩:=ih2 h
  obtain ⟨ks,h3,h4⟩:=ih1 h1
  exact ⟨ks,h3,h4.trans h2⟩
theorem Zt {Q : Value → Shared → Prop} (hh : A.handled = none) (B : SetB w s.heap a js) (h64 : js.length < 64)
    (fin : ∀ (l : Addr) (h' : Heap) (tk : Nat) (d : Drawn) (out : List Value) (ns : List Int) (e : Nat), IntsAre out ns → ns.Perm js → ns.Pairwise (· ≤ ·) → s.heap.get? l = none → s.heap.objs.size ≤ l → h'.get? l = some { cls := .type "list", data := .seq out.toArray e } →
      (∀ b o, s.heap.get? b = some o → h'.get? b = some o) → Q (.ref l) { s with heap := h', toks := tk, drawn := d }) :
    wpAny (model prog w) A (call (.builtin "sorted") [.ref a]) Q E s := by
  obtain ⟨es, ep, t, S⟩ := B
  refine Calls.call_function_entry kind_sorted plain_sorted entry_sorted (args_sorted1 _) ?_
  unfold Builtin.«sorted»
  refine wpAny_bind (m := checkCount "sorted" 1 1 _) (wpAny_pure (wpAny_bind (Zpy (A := A.in1) hh S fun h1 tk d vs hp keep big => ?_)))
  obtain ⟨ms, hI, hms⟩ := Zu0 hp (Zij S.ent)
  have hms2 : ms.Perm js := hms.trans S.per
  have hl : vs.length < 64 := by rw [IntsAre.length hI, hms2.length_eq]; exact h64
  refine wpAny_bind (wpAny_newList ?_ (by have : (64 : Nat) ≤ sizeLine := by decide
                                          omega))
  have g1 : (h1.push (seqObj "list" vs.toArray 0)).get? h1.objs.size = some (seqObj "list" vs.toArray 0) := Heap.get?_push_size _ rfl
  refine wpAny_bind (wpAny_holding (wpAny_call_entry slot_list_sort ⟨_, g1, rfl⟩ entry_list_sort (list_sort_tree g1 hI hl fun out ns a1 a2 a3 => ⟨_, rfl, ?_⟩) (args_list_sort _)))
  obtain ⟨e, he⟩ := sortedHeap_at (out := out) g1
  have hsz : s.heap.objs.size ≤ h1.objs.size := Ucu big
  refine wpAny_pure ⟨_, rfl, fin h1.objs.size _ tk d out.toList ns e a1 (a2.trans hms2) a3 ?_ hsz (by simpa [seqObj] using he) fun b o q => ?_⟩
  · cases q : s.heap.get? h1.objs.size with
    | none => rfl
    | some o => exact absurd (Heap.lt_size (keep _ _ q)) (Ub2 _)
  · have hlt := Heap.lt_size (keep b o q)
    rw [sortedHeap_old (Ua6 hlt) (by rw [size_push']; exact Uc3 hlt)]
    exact Heap.get?_push_of_some _ (keep b o q)
end
end SetR
namespace Own
open PySem PySem.Spec PyProof.Rows L2
def SetH (w:World) (l:Addr) (js:List Int):HO:=.ext fun h=>SetR.SetB w h l js
section
variable {X:Cx}
theorem Zx5 {P:Program} {w:World} {H:Hp} {h:Heap} {l:Addr} {js:List Int} (B:SetR.SetB w h l js):ObjOk P w H h l (SetH w l js):=by
 refine ⟨B,?_,fun h1 h2 B1 k=>B1.at k⟩
 obtain ⟨es,ep,t,S⟩:=B
 obtain ⟨o,ho,_⟩:=S.obj
 exact ⟨o,ho⟩
theorem Zwb (hc:X.calm=true):CallR X (.type "set") (fun xs H Q=>∃ (p:Addr) (ns:List Int),xs=[.ref p]/\SqL X.K H p (ns.map V.int)/\ns.length + 1 < 4096/\∀ l,H l=none->Q (.ref l) (upd H l (SetH X.w l (ns.foldl SetR.addJ [])))):=by
 intro pins s σ H xs us Q I rv h
 obtain ⟨p,ns,rfl,hS,hz,q⟩:=h
 obtain ⟨u,rfl,ru⟩:=rv.one
 obtain rfl:u=Value.ref p:=ru
 obtain ⟨its,r,pl,_⟩:=I.list hS
 refine SetR.Zyq (I.ok.hd hc) pl.isList (by simpa using Zgb r) hz fun h' tk B keep=>?_
 have hf:H s.heap.objs.size=none:=I.hok.fresh (Uah _)
 exact ⟨.ref s.heap.objs.size,upd H s.heap.objs.size (SetH X.w s.heap.objs.size _),I.laid (t':=tk) (fun b o e=>keep b o (Heap.lt_size e) e) (Uah _) (Zx5 B),rfl,q _ hf⟩
theorem Zkd (hc:X.calm=true):CallR X (.builtin "sorted") (fun xs H Q=>∃ (p:Addr) (js:List Int),xs=[.ref p]/\js.length < 64/\(SqL X.K H p (js.map V.int)\/H p=some (SetH X.w p js))/\
  ∀ (l:Addr) (ns:List Int),H l=none->ns.Perm js->ns.Pairwise (·<=·)->Q (.ref l) (upd H l (.lst (ns.map V.int)))):=by
 intro pins s σ H xs us Q I rv h
 obtain ⟨p,js,rfl,hz,hS,q⟩:=h
 obtain ⟨u,rfl,ru⟩:=rv.one
 obtain rfl:u=Value.ref p:=ru
 have big:∀ {ns:List Int},ns.Perm js->(ns.map V.int).length<=sizeLine:=fun hp=>by
  rw [Uab,hp.length_eq]
  have:(64:Nat)<=sizeLine:=by decide
  omega
 rcases hS with hS | hS
 ·obtain ⟨its,r,pl,_⟩:=I.list hS
  have hI:IntsAre its js:=by simpa using Zgb r
  refine sorted_ints pl.isList hI (by rw [IntsAre.length hI];exact hz) fun out ns a1 a2 a3=>?_
  obtain ⟨e,he⟩:=sortedAll_at s.heap its out
  have hf:H (s.heap.objs.size + 1)=none:=I.hok.fresh (Ucr _)
  refine ⟨.ref (s.heap.objs.size + 1),upd H (s.heap.objs.size + 1) (.lst (ns.map V.int)),I.laid (t':=s.toks) (fun b o e=>sortedAll_old e) (Ucr _) ⟨big a2,out.toList,e,Zg1 a1,?_⟩,rfl,q _ ns hf a2 a3⟩
  simpa [seqObj] using he
 ·have B:SetR.SetB X.w s.heap p js:=(show ObjOk X.prog X.w H s.heap p (SetH X.w p js) from I.hok p _ hS).1
  refine SetR.Zt (I.ok.hd hc) B hz fun l h' tk d out ns e a1 a2 a3 nl hl he keep=>?_
  have hf:H l=none:=I.hok.fresh hl
  refine ⟨.ref l,upd H l (.lst (ns.map V.int)),?_,rfl,q l ns hf a2 a3⟩
  have ok:HOk X.prog X.w (upd H l (.lst (ns.map V.int))) h':=I.hok.laid keep hl ⟨big a2,out,e,Zg1 a1,he⟩
  exact I.call (ch:=[]) (h':=h') (g':=s.gens) (d':=d) (t':=tk) (Un.laid keep hl hf) ok I.bare (fun b z=>absurd z (by simp))
end
section
variable {X:Cx} {K:PySem.W.Frag}
theorem Zar (hK:X.K=K:=by rfl):IxR X (fun x y H Q=>rIxL K x y H Q\/rIxT K x y H Q):=by subst hK;exact Zqn
theorem Za7 (hK:X.K=K:=by rfl):CallR X (.builtin "len") (fun xs H Q=>∃ x n,xs=[x]/\LenV K x H n/\Q (.int n) H):=by subst hK;exact Zq2
theorem Zol (hK:X.K=K:=by rfl):OpR X (compareOp .In) (rIn K false):=by subst hK;exact Zu5
theorem Zvc (hK:X.K=K:=by rfl):OpR X (compareOp .NotIn) (rIn K true):=by subst hK;exact Znw
theorem Zgt {pos:Pos} {es:List Expr} {k:Nat} {t:TGs} {n:Nat} (hc:X.calm=true) (h:PGs X es t) (hK:X.K=K:=by rfl)
  (hn:(assignEach es X.env).length=n:=by rfl) (hst:(assignEach es X.env).findIdx? (·.1)=none:=by rfl):PG X (.Tuple es k pos) (gTup K n t):=by subst hK;exact Zw6 hc h hn hst
end
section
variable {α:Type} {R:Hp->V->α->Prop} {φ:List (Option Nat)} {g:TG} {tc:TT} {te:TE} {σ:L2.St} {H1:Hp} {F:Hp->Prop} {D:Addr}
theorem Zet {K:PySem.W.Frag} {a:Addr} {xs:List V} {ds:List α} (f:α->Option V) (hS:SqL K H1 a xs) (hd:xs.length=ds.length) (hD:H1 D=none) (hz:ds.length<=sizeLine)
  (turn:∀ (i:Nat) (x:V) (d:α) (H2:Hp),xs[i]?=some x->ds[i]?=some d->Same H1 H2->∀ k:Option V->Hp->Prop,k (f d) H2->g x (atStart φ σ) H2 fun σ2 H4=>Sub (atStart φ σ) σ2/\tc σ2 H4 fun b H5=>if b=true then te σ2 H5 fun y H6=>k (some y) H6 else k none H5)
  (done:F (upd H1 D (.lst (ds.filterMap f)))) :
  ∃ W:Nat->Nat->List V->Hp->Prop,(∃ m,W 0 m [] (upd H1 D (.lst [])))/\
   ∀ i m ys H2,W i m ys H2->((Itl K a).stop i H2/\F H2)\/((Itl K a).go i H2/\∀ x H3,(Itl K a).yld i H2 x H3->g x (atStart φ σ) H3 fun σ2 H4=>Sub (atStart φ σ) σ2/\tc σ2 H4 fun b H5=>
    if b=true then te σ2 H5 fun y H6=>H6 D=some (.lst ys)/\ys.length < sizeLine/\∃ m',m' < m/\W (i + 1) m' (ys++[y]) (upd H6 D (.lst (ys++[y]))) else ∃ m',m' < m/\W (i + 1) m' ys H5):=by
 refine ⟨fun i m ys H2=>m=ds.length - i/\i<=ds.length/\ys=(ds.take i).filterMap f/\H2=upd H1 D (.lst ys),⟨ds.length,by simp,Ubo _,by simp,rfl⟩,?_⟩
 rintro i m ys H2 ⟨rfl,hi,rfl,rfl⟩
 have S2:Same H1 (upd H1 D (.lst ((ds.take i).filterMap f))):=Zaw hD
 by_cases hlt:i < ds.length
 ·refine .inr ⟨⟨xs,xs[i]'(by omega),S2.seq hS,by simp [hd,hlt]⟩,fun x H3 y=>?_⟩
  obtain ⟨e,y⟩:=y
  subst e
  have hx:=y xs (S2.seq hS)
  have ed:ds[i]?=some ds[i]:=Uaa hlt
  refine turn i x ds[i] _ hx ed S2 (fun o H'=>match o with
   | some y=>H' D=some (.lst ((ds.take i).filterMap f))/\((ds.take i).filterMap f).length < sizeLine/\∃ m',m' < ds.length - i/\(m'=ds.length - (i + 1)/\i + 1<=ds.length/\(ds.take i).filterMap f++[y]=(ds.take (i + 1)).filterMap f/\upd H' D (.lst ((ds.take i).filterMap f++[y]))=upd H1 D (.lst ((ds.take i).filterMap f++[y])))
   | none=>∃ m',m' < ds.length - i/\(m'=ds.length - (i + 1)/\i + 1<=ds.length/\(ds.take i).filterMap f=(ds.take (i + 1)).filterMap f/\H'=upd H1 D (.lst ((ds.take i).filterMap f)))) ?_
  have et:ds.take (i + 1)=ds.take i++[ds[i]]:=Uau hlt
  cases ef:f ds[i] with
  | some y=>
   refine ⟨Zas,?_,ds.length - (i + 1),by omega,rfl,hlt,?_,Ztp⟩
   ·have h1:=Ucw f (ds.take i)
    rw [Ua4] at h1
    omega
   ·rw [et,Uby]
    simp [ef]
  | none=>
   refine ⟨ds.length - (i + 1),by omega,rfl,hlt,?_,rfl⟩
   rw [et,Uby]
   simp [ef]
 ·have e:i=ds.length:=by omega
  subst e
  refine .inl ⟨⟨xs,S2.seq hS,by omega⟩,?_⟩
  rw [Ubk]
  exact done
theorem Zsh {lo:Int} {n:Nat} (f:Nat->Option V) (hD:H1 D=none) (hz:n<=sizeLine)
  (turn:∀ (i:Nat) (H2:Hp),i < n->Same H1 H2->∀ k:Option V->Hp->Prop,k (f i) H2->g (.int (lo + i)) (atStart φ σ) H2 fun σ2 H4=>Sub (atStart φ σ) σ2/\tc σ2 H4 fun b H5=>if b=true then te σ2 H5 fun y H6=>k (some y) H6 else k none H5)
  (done:F (upd H1 D (.lst ((List.range n).filterMap f)))) :
  ∃ W:Nat->Nat->List V->Hp->Prop,(∃ m,W 0 m [] (upd H1 D (.lst [])))/\
   ∀ i m ys H2,W i m ys H2->((Itr lo n).stop i H2/\F H2)\/((Itr lo n).go i H2/\∀ x H3,(Itr lo n).yld i H2 x H3->g x (atStart φ σ) H3 fun σ2 H4=>Sub (atStart φ σ) σ2/\tc σ2 H4 fun b H5=>
    if b=true then te σ2 H5 fun y H6=>H6 D=some (.lst ys)/\ys.length < sizeLine/\∃ m',m' < m/\W (i + 1) m' (ys++[y]) (upd H6 D (.lst (ys++[y]))) else ∃ m',m' < m/\W (i + 1) m' ys H5):=by
 refine ⟨fun i m ys H2=>m=n - i/\i<=n/\ys=(List.range i).filterMap f/\H2=upd H1 D (.lst ys),⟨n,by simp,Ubo _,by simp,rfl⟩,?_⟩
 rintro i m ys H2 ⟨rfl,hi,rfl,rfl⟩
 have S2:Same H1 (upd H1 D (.lst ((List.range i).filterMap f))):=Zaw hD
 by_cases hlt:i < n
 ·refine .inr ⟨hlt,fun x H3 y=>?_⟩
  obtain ⟨e,rfl⟩:=y
  subst e
  refine turn i _ hlt S2 (fun o H'=>match o with
   | some y=>H' D=some (.lst ((List.range i).filterMap f))/\((List.range i).filterMap f).length < sizeLine/\∃ m',m' < n - i/\(m'=n - (i + 1)/\i + 1<=n/\(List.range i).filterMap f++[y]=(List.range (i + 1)).filterMap f/\upd H' D (.lst ((List.range i).filterMap f++[y]))=upd H1 D (.lst ((List.range i).filterMap f++[y])))
   | none=>∃ m',m' < n - i/\(m'=n - (i + 1)/\i + 1<=n/\(List.range i).filterMap f=(List.range (i + 1)).filterMap f/\H'=upd H1 D (.lst ((List.range i).filterMap f)))) ?_
  cases ef:f i with
  | some y=>
   refine ⟨Zas,?_,n - (i + 1),by omega,rfl,hlt,?_,Ztp⟩
   ·have h1:=Ucw f (List.range i)
    rw [Uc4] at h1
    omega
   ·rw [Udf,Uby]
    simp [ef]
  | none=>
   refine ⟨n - (i + 1),by omega,rfl,hlt,?_,rfl⟩
   rw [Udf,Uby]
   simp [ef]
 ·have e:i=n:=by omega
  subst e
  exact .inl ⟨Uah _,done⟩
end
end Own
namespace Own
open PySem PySem.Spec PyProof.Rows L2
def eqL (xs ys:List V):Bool:=decide (xs.length=ys.length) && (List.range xs.length).all fun j=>eqV (xs.getD j .non) (ys.getD j .non)
def rEqL (K:PySem.W.Frag) (neg:Bool):R2:=fun x y H Q=>∃ (p q:Addr) (xs ys:List V),x=.ref p/\y=.ref q/\SqL K H p xs/\SqL K H q ys/\xs.all flatV=true/\ys.all flatV=true/\Q (.bl (if neg then !eqL xs ys else eqL xs ys)) H
section
variable {X:Cx}
theorem Zxh {A:Around} {s:Shared} {xs ys:List V} {us ws:List Value} (r1:Vals xs us) (r2:Vals ys ws) (f1:xs.all flatV=true) (f2:ys.all flatV=true) (j:Nat) (h1:j < us.toArray.size) (h2:j < ws.toArray.size) :
  SeqAt.EqAt A s us.toArray[j] ws.toArray[j] (eqV (xs.getD j .non) (ys.getD j .non)):=by
 have l1:=r1.length
 have l2:=r2.length
 have g1:j < us.length:=by simpa using h1
 have g2:j < ws.length:=by simpa using h2
 have k1:xs[j]?=some (xs[j]'(by omega)):=Uaa _
 have k2:ys[j]?=some (ys[j]'(by omega)):=Uaa _
 obtain ⟨u,eu,ru⟩:=r1.get k1
 obtain ⟨w,ew,rw'⟩:=r2.get k2
 have e1:us.toArray[j]=u:=by
  have:us[j]?=some us[j]:=Uaa g1
  rw [this] at eu
  simpa using Option.some.inj eu
 have e2:ws.toArray[j]=w:=by
  have:ws[j]?=some ws[j]:=Uaa g2
  rw [this] at ew
  simpa using Option.some.inj ew
 have d1:xs.getD j .non=xs[j]'(by omega):=by rw [Uac,k1];rfl
 have d2:ys.getD j .non=ys[j]'(by omega):=by rw [Uac,k2];rfl
 rw [e1,e2,d1,d2]
 exact Zxg ru rw' (Uca.mp f1 _ (Uaw _)) (Uca.mp f2 _ (Uaw _))
theorem Zxi (hu:X.A.units < cLine):OpR X (compareOp .Eq) (rEqL X.K false):=by
 intro pins s σ H x y v u Q I rx ry h
 obtain ⟨p,q,xs,ys,rfl,rfl,hp,hq,f1,f2,k⟩:=h
 obtain rfl:v=Value.ref p:=rx
 obtain rfl:u=Value.ref q:=ry
 obtain ⟨us,r1,p1,_⟩:=I.list hp
 obtain ⟨ws,r2,p2,_⟩:=I.list hq
 have l1:=r1.length
 have l2:=r2.length
 have k':Q (.bl (eqL xs ys)) H:=k
 by_cases e:xs.length=ys.length
 ·refine SeqAt.eq_listAt p1.isList p2.isList (by simp;omega) hu (fun j h1 h2=>Zxh r1 r2 f1 f2 j h1 h2) ⟨.bl (eqL xs ys),H,I,?_,k'⟩
  show _=Value.bool (eqL xs ys)
  unfold eqL
  rw [Uaf e,Ucp,Uao,← l1]
 ·refine SeqAt.eq_list_lengthsAt p1.isList p2.isList (by simp;omega) hu ⟨.bl (eqL xs ys),H,I,?_,k'⟩
  show _=Value.bool (eqL xs ys)
  unfold eqL
  rw [Uam e]
  rfl
theorem Zyw (hu:X.A.units < cLine):OpR X (compareOp .NotEq) (rEqL X.K true):=by
 intro pins s σ H x y v u Q I rx ry h
 obtain ⟨p,q,xs,ys,rfl,rfl,hp,hq,f1,f2,k⟩:=h
 obtain rfl:v=Value.ref p:=rx
 obtain rfl:u=Value.ref q:=ry
 obtain ⟨us,r1,p1,_⟩:=I.list hp
 obtain ⟨ws,r2,p2,_⟩:=I.list hq
 have l1:=r1.length
 have l2:=r2.length
 have k':Q (.bl (!eqL xs ys)) H:=k
 by_cases e:xs.length=ys.length
 ·refine SeqAt.RcNeAt.lists p1.isList p2.isList (by simp;omega) hu (fun j h1 h2=>Zxh r1 r2 f1 f2 j h1 h2) _ _ _ _ ⟨.bl (!eqL xs ys),H,I,?_,k'⟩
  show _=Value.bool (!eqL xs ys)
  unfold eqL
  rw [Uaf e,Ucp,Uao,← l1]
 ·refine SeqAt.RcNeAt.lists_lengths p1.isList p2.isList (by simp;omega) hu _ _ _ _ ⟨.bl (!eqL xs ys),H,I,?_,k'⟩
  show _=Value.bool (!eqL xs ys)
  unfold eqL
  rw [Uam e]
  rfl
theorem Zky {xs:List Int} {us:List Value} (r:Vals (xs.map V.int) us) (z:Int):∀ (j:Nat) (h1:j < us.length) (h2:j < xs.length),Value.isInt z us[j]=(xs[j] == z):=by
 intro j h1 h2
 obtain ⟨u,eu,t,rfl⟩:=r.get (x:=V.int xs[j]) (i:=j) (by rw [Uaj,Uaa h2];rfl)
 rw [Uaa h1] at eu
 rw [Option.some.inj eu]
 simp [Value.isInt]
theorem Zzr {xs:List Int} {us:List Value} (r:Vals (xs.map V.int) us) (z:Int) (t:Tok):∀ y,y∈us.toArray->MeetsSeq.EqGives y (.int z t) (Value.isInt z y):=by
 intro y hy
 obtain ⟨j,hj,rfl⟩:=Ubd.mp (by simpa using hy:y∈us)
 have l1:=r.length
 rw [Uab] at l1
 rw [Zky r z j hj (by omega)]
 obtain ⟨u,eu,t',rfl⟩:=r.get (x:=V.int (xs[j]'(by omega))) (i:=j) (by rw [Uaj,Uaa (show j < xs.length by omega)];rfl)
 rw [Uaa hj] at eu
 rw [Option.some.inj eu]
 exact MeetsSeq.EqGives.int _ _ _ _
def rIndex (K:PySem.W.Frag):V->List V->Hp->VK->Prop:=fun x vs H Q=>∃ (l:Addr) (xs:List Int) (z:Int),x=.ref l/\vs=[.int z]/\SqL K H l (xs.map V.int)/\z∈xs/\Q (.int (xs.idxOf z:Nat)) H
theorem Zwi:MtM X "list.index" (rIndex X.K):=by
 intro pins s σ H x vs v us Q I rx rv h
 obtain ⟨l,xs,z,rfl,rfl,hS,hz,q⟩:=h
 cases rx
 obtain ⟨u,rfl,t,rfl⟩:=rv.one
 obtain ⟨its,r,p1,hsz⟩:=I.list hS
 obtain ⟨o,n,ho,hc,hdn,hd⟩:=p1
 obtain ⟨c1,d1,dt1,sl1⟩:=o
 simp only at hc hdn hd
 subst hc hdn hd
 have l1:=r.length
 rw [Uab] at l1
 have hj:xs.idxOf z < xs.length:=List.idxOf_lt_length_iff.mpr hz
 have hb:xs.length<=2 ^ 24:=by rw [Uab] at hsz;exact hsz
 refine call_meets PySem.F.slot_list_index ⟨_,ho,rfl⟩ PySem.F.entry_list_index (PySem.F.args_list_index_2 _ _)
  (SeqAt.list_indexAt l its.toArray n none sl1 (.int z t) (Value.isInt z) (xs.idxOf z) (by simpa [← l1] using hj) (by omega) ?_ ?_) ⟨ho,fun y hy=>(Zzr r z t y hy).at _ _,⟨.int (xs.idxOf z:Nat),H,I.tok _,⟨_,rfl⟩,q⟩⟩
 ·have e:=Zky r z (xs.idxOf z) (by omega) hj
  show Value.isInt z its[xs.idxOf z]=true
  rw [e]
  simpa using List.getElem_idxOf hj
 ·intro m hm hlt
  have hm':m < its.length:=by simpa using hm
  have e:=Zky r z m hm' (by omega)
  show Value.isInt z its[m]=false
  rw [e]
  have:=List.not_of_lt_findIdx (p:=(· == z)) (xs:=xs) (i:=m) hlt
  simpa using this
end
section
variable {X:Cx} {K:PySem.W.Frag}
theorem Zn2 (hK:X.K=K:=by rfl):MtM X "list.index" (rIndex K):=by subst hK;exact Zwi
theorem Zxc {o e:Expr} {es:List Expr} {to:TE} {t:TA} {name:Str} {apos cpos:Pos} {T id:String} {r:V->List V->Hp->VK->Prop} (pa:PlainAttrs T) (slot:Slot T name id) (hty:typeOf (.builtin id)=pure (.type "method_descriptor")) (hm:MtM X id r) (ho:PE X o to) (ha:PA X (e :: es) t)
  (hK:X.K=K:=by rfl) (hbase:attributeBase o name X.env (eval o X.env)=eval o X.env:=by rfl)
  (hfew:((backTo cpos (starEach (e :: es) X.env)).all (fun x=>!x.1) && (backToKw cpos (keywordEach [] X.env)).all (fun x=>x.1.isSome)
   && decide ((e :: es).length + ([]:List Keyword).length + (if ([]:List Keyword).isEmpty then 0 else 1) < 30))=true:=by rfl)
  (hline:(apos.endLine == cpos.line)=true:=by rfl) (hs:starEach (e :: es) X.env=(false,eval e X.env) :: starEach es X.env:=by rfl) (hplain:(backTo cpos (starEach es X.env)).any (·.1)=false:=by rfl) :
  PE X (.Call (.Attribute o name apos) (e :: es) [] cpos) (tBM K T r to t):=by
 subst hK
 exact Zlk pa slot hty hm ho ha hbase hfew hline hs hplain
end
theorem Zmp (xs ys:List Int):eqL (xs.map V.int) (ys.map V.int)=decide (xs=ys):=by
 unfold eqL
 rw [Uab,Uab]
 by_cases e:xs=ys
 ·subst e
  rw [Uaf rfl,Uaf rfl,Ucp,Uca]
  intro j hj
  have hj':j < xs.length:=by simpa using hj
  rw [Uac,Uaj,Uaa hj']
  show (xs[j] == xs[j])=true
  simp
 ·rw [Uam e]
  by_cases hl:xs.length=ys.length
  ·rw [Uaf hl,Ucp,Udr]
   intro hall
   apply e
   apply Udw hl
   intro j h1 h2
   have:=Uca.mp hall j (by simpa using h1)
   rw [Uac,Uaj,Uaa h1,Uac,Uaj,Uaa h2] at this
   have h3:(xs[j] == ys[j])=true:=this
   simpa using h3
  ·rw [Uam hl]
   rfl
theorem Zbx (xs:List Int):(xs.map V.int).all flatV=true:=by
 rw [List.all_map]
 exact Uca.mpr fun _ _=>rfl
end Own
namespace M
open PySem PySem.Spec PyProof.Rows L2 Own
def LV {α:Type} (R:Hp->V->α->Prop) (H:Hp) (vs:List V) (xs:List α):Prop:=
 vs.length=xs.length/\∀ (i:Nat) (x:α),xs[i]?=some x->∃ v,vs[i]?=some v/\R H v x
def LAt {α:Type} (R:Hp->V->α->Prop) (H:Hp) (l:Addr) (xs:List α):Prop:=∃ vs,H l=some (.lst vs)/\LV R H vs xs
def PairR (H:Hp) (v:V) (q:Int×Int):Prop:=∃ a,v=.ref a/\H a=some (.tup [.int q.1,.int q.2])
def Mono {α:Type} (R:Hp->V->α->Prop):Prop:=∀ H H' v x,Same H H'->R H v x->R H' v x
theorem PairR.mono:Mono PairR:=fun _ _ _ _ S ⟨a,e,h⟩=>⟨a,e,S _ _ h⟩
section
variable {α:Type} {R:Hp->V->α->Prop} {H H':Hp} {vs:List V} {xs:List α} {l:Addr}
theorem LV.mono (m:Mono R) (S:Same H H') (h:LV R H vs xs):LV R H' vs xs:=
 ⟨h.1,fun i x e=>let ⟨v,e',r⟩:=h.2 i x e;⟨v,e',m _ _ _ _ S r⟩⟩
theorem LAt.mono (m:Mono R) (S:Same H H') (h:LAt R H l xs):LAt R H' l xs:=
 let ⟨vs,e,r⟩:=h;⟨vs,S _ _ e,r.mono m S⟩
theorem LV.nil:LV R H [] ([]:List α):=⟨rfl,fun i x e=>by simp at e⟩
theorem LV.get {i:Nat} {v:V} (h:LV R H vs xs) (e:vs[i]?=some v):∃ x,xs[i]?=some x/\R H v x:=by
 have hi:i < xs.length:=by rw [← h.1];exact (Uas.mp e).1
 obtain ⟨v',e',r⟩:=h.2 i xs[i] (by simp [hi])
 rw [e] at e';cases e'
 exact ⟨_,by simp [hi],r⟩
end
def Menu (m:List Int):Prop:=∃ a b c d e:Int,m=[a,b,c,d,e]/\(1<=a/\a<=10)/\(1<=b/\b<=9/\(b=1\/b=3\/b=7\/b=9))/\(0<=c/\c<=9)/\(1<=d/\d<=1000)/\(1<=e/\e + d<=1001)
def Field (ps:List (Int×Int)):Prop:=∀ q∈ps,1<=q.1/\q.1<=10/\1<=q.2/\q.2<=1000
theorem Zwt (js:List Int) (k z:Int):z∈SetR.addJ js k↔z∈js\/z=k:=by
 unfold SetR.addJ
 split
 ·rename_i h
  constructor
  ·exact fun x=>.inl x
  ·rintro (x | rfl)
   ·exact x
   ·exact h
 ·simp
theorem Zl9:∀ (ns js:List Int) (z:Int),z∈ns.foldl SetR.addJ js↔z∈js\/z∈ns
 | [],js,z=>by simp
 | n :: r,js,z=>by
  rw [List.foldl_cons,Zl9 r,Zwt,Uan]
  constructor
  ·rintro ((h | h) | h)
   ·exact .inl h
   ·exact .inr (.inl h)
   ·exact .inr (.inr h)
  ·rintro (h | h | h)
   ·exact .inl (.inl h)
   ·exact .inl (.inr h)
   ·exact .inr h
theorem Zsa {js:List Int} (k:Int) (h:js.Nodup):(SetR.addJ js k).Nodup:=by
 unfold SetR.addJ
 split
 ·exact h
 ·rename_i hk
  exact Ubu.mpr ⟨h,by simp,fun x hx y hy=>by rw [Uag.mp hy];rintro rfl;exact hk hx⟩
theorem Zit:∀ (ns:List Int) {js:List Int},js.Nodup->(ns.foldl SetR.addJ js).Nodup
 | [],_,h=>h
 | n :: r,js,h=>Zit r (Zsa n h)
theorem Zmc:∀ (ns js:List Int),(ns.foldl SetR.addJ js).length<=js.length + ns.length
 | [],js=>by simp
 | n :: r,js=>by
  have h1:=Zmc r (SetR.addJ js n)
  have h2:(SetR.addJ js n).length<=js.length + 1:=by
   unfold SetR.addJ
   split
   ·omega
   ·simp
  rw [List.foldl_cons,Uaz]
  omega
theorem Zc2 {l:List Int} (h:l.Pairwise (·<=·)) (n:l.Nodup):l.Pairwise (· < ·):=by
 have:=h.and n
 exact this.imp fun {a b} h=>by have:=h.1;have:=h.2;omega
theorem Zj2 {l₁ l₂:List Int} (h1:l₁.Pairwise (· < ·)) (h2:l₂.Pairwise (· < ·)) (h:∀ z,z∈l₁↔z∈l₂):l₁=l₂:=by
 have n1:l₁.Nodup:=h1.imp fun {a b} h=>by omega
 have n2:l₂.Nodup:=h2.imp fun {a b} h=>by omega
 have p:l₁.Perm l₂:=(List.perm_ext_iff_of_nodup n1 n2).mpr h
 exact p.eq_of_pairwise (le:=(· < ·)) (fun a b _ _ x y=>by omega) h1 h2
def tenL:List Int:=[1,2,3,4,5,6,7,8,9,10]
theorem Zvv {z:Int}:z∈tenL↔1<=z/\z<=10:=by
 unfold tenL
 constructor
 ·intro h
  simp only [Uan,Uc8,or_false] at h
  omega
 ·rintro ⟨h1,h2⟩
  simp only [Uan,Uc8,or_false]
  omega
def holdM (ps:List (Int×Int)):List Int:=tenL.filter fun h=>decide (h∈ps.map (·.1))
theorem Za9 (ps:List (Int×Int)):(holdM ps).Pairwise (· < ·):=List.Pairwise.filter _ (by unfold tenL;decide)
theorem Zk3 {ps:List (Int×Int)} (hF:Field ps) {z:Int}:z∈holdM ps↔z∈ps.map (·.1):=by
 unfold holdM
 rw [Ua7,decide_eq_true_eq,Zvv]
 constructor
 ·exact fun h=>h.2
 ·intro h
  obtain ⟨q,hq,rfl⟩:=Ua5.mp h
  have:=hF q hq
  exact ⟨⟨this.1,this.2.1⟩,h⟩
theorem Zdd (ps:List (Int×Int)):(holdM ps).length<=10:=by
 have:=Ubn (fun h=>decide (h∈ps.map (·.1))) tenL
 exact this
theorem Zpw {ps:List (Int×Int)} {ns:List Int} (hF:Field ps) (p:ns.Perm ((ps.map (·.1)).foldl SetR.addJ [])) (h:ns.Pairwise (·<=·)):ns=holdM ps:=by
 have nd:ns.Nodup:=p.symm.nodup (Zit _ Ub9)
 refine Zj2 (Zc2 h nd) (Za9 ps) fun z=>?_
 rw [p.mem_iff,Zl9,Zk3 hF]
 simp
theorem Zhy (z:Int) (xs:List Int):inV (.int z) (xs.map V.int)=decide (z∈xs):=by
 unfold inV
 rw [List.any_map]
 induction xs with
 | nil=>simp
 | cons x r ih=>
  rw [Ucf,ih]
  show ((x == z) || _)=_
  by_cases e:x=z
  ·subst e;simp
  ·have:(x == z)=false:=by simpa using e
   rw [this]
   simp only [Bool.false_or]
   by_cases h:z∈r
   ·rw [Uaf h,Uaf (Uav _ h)]
   ·rw [Uam h,Uam]
    intro hz
    rcases Uan.mp hz with hz | hz
    ·exact e hz.symm
    ·exact h hz
theorem Zsf:tenL=(List.range 10).map fun (i:Nat)=>(1:Int) + (i:Int):=by decide
theorem Zp5 (ps:List (Int×Int)):(List.range 10).filterMap (fun (i:Nat)=>if decide ((1:Int) + (i:Int)∈ps.map (·.1))=true then some (V.int (1 + (i:Int))) else none)=(holdM ps).map V.int:=by
 unfold holdM
 rw [Zsf]
 generalize List.range 10=l
 induction l with
 | nil=>rfl
 | cons i r ih=>
  rw [Ubx,Uai,List.filter_cons]
  by_cases h:(1:Int) + (i:Int)∈ps.map (·.1)
  ·rw [Uaf h,Uae rfl,Uae rfl,Uai,← ih]
  ·rw [Uam h,Uad (by decide),Uad (by decide),← ih]
theorem Zo2 {ps:List (Int×Int)} {os ns:List Int} (hp:os.Perm (holdM ps)) (h1:ns.Perm os) (h2:ns.Pairwise (·<=·)):ns=holdM ps:=by
 have nd:(holdM ps).Nodup:=(Za9 ps).imp fun {a b} h=>by omega
 have p:=h1.trans hp
 have nd2:ns.Nodup:=p.symm.nodup nd
 exact Zj2 (Zc2 h2 nd2) (Za9 ps) fun z=>p.mem_iff
section
variable (ps:List (Int×Int))
def tpM (y:Int):Nat->Int
 | 0=>0
 | j + 1=>tpM y j + (if (ps.getD j (0,0)).1=y then (ps.getD j (0,0)).2 else 0)
def pcM (x y:Int):Nat->Int
 | 0=>0
 | k + 1=>pcM x y k + (if x≠y/\(ps.getD k (0,0)).1=x then tpM ps y k * (ps.getD k (0,0)).2 else 0)
def ordM (n:Nat):List Int->Int
 | []=>0
 | a :: r=>(r.map fun b=>pcM ps a b n).sum + ordM n r
def aftM (n:Nat) (h:Int):List Int->Int
 | []=>0
 | a :: r=>if a=h then (r.map fun b=>tpM ps b n).sum else aftM n h r
def rsM (os:List Int) (h:Int):Nat->Int
 | 0=>0
 | j + 1=>rsM os h j + (if os.idxOf h < os.idxOf (ps.getD j (0,0)).1 then (ps.getD j (0,0)).2 else 0)
def priM (os:List Int):Nat->Int
 | 0=>0
 | k + 1=>priM os k + rsM ps os (ps.getD k (0,0)).1 k * (ps.getD k (0,0)).2
end
theorem Zuw {a b:Int} {r:List Int} (h:a≠b):(a :: r).idxOf b=r.idxOf b + 1:=by
 rw [List.idxOf_cons]
 have:(a == b)=false:=by simpa using h
 rw [this]
 rfl
theorem Zk (f g:Int->Int) (l:List Int):(l.map fun b=>f b + g b).sum=(l.map f).sum + (l.map g).sum:=by
 induction l with
 | nil=>rfl
 | cons b r ih=>
  simp only [Uai,Ub7]
  rw [ih]
  omega
theorem Zf2 {f g:Int->Int} {l:List Int} (h:∀ b∈l,f b=g b):(l.map f).sum=(l.map g).sum:=by
 rw [Ucb h]
theorem Zq9 (l:List Int):(l.map fun _=>(0:Int)).sum=0:=by
 induction l with
 | nil=>rfl
 | cons b r ih=>simp only [Uai,Ub7,ih];rfl
theorem Zm3 (f:Int->Int) (w:Int) (l:List Int):(l.map fun b=>f b * w).sum=(l.map f).sum * w:=by
 induction l with
 | nil=>simp
 | cons b r ih=>
  simp only [Uai,Ub7]
  rw [ih,Ucs]
theorem Zxs {l:List Int} (h:Int) (w:Int) (nd:l.Nodup):(l.map fun b=>if h=b then w else 0).sum=if h∈l then w else 0:=by
 induction l with
 | nil=>simp
 | cons b r ih=>
  simp only [Uai,Ub7]
  have hb:=(Ua9.mp nd).1
  rw [ih (Ua9.mp nd).2]
  by_cases e:h=b
  ·subst e
   rw [Uae rfl,Uad hb,Uae Ua1]
   omega
  ·rw [Uad e]
   by_cases hm:h∈r
   ·rw [Uae hm,Uae (Uav _ hm)]
    omega
   ·rw [Uad hm,Uad]
    ·omega
    ·intro z
     rcases Uan.mp z with z | z
     ·exact e z
     ·exact hm z
section
variable {ps:List (Int×Int)}
theorem Zrq {n:Nat}:∀ {os:List Int},(ps.getD n (0,0)).1∉os->ordM ps (n + 1) os=ordM ps n os
 | [],_=>rfl
 | a :: r,h=>by
  have h1:(ps.getD n (0,0)).1≠a:=fun z=>h (by rw [z];exact Ua1)
  have h2:(ps.getD n (0,0)).1∉r:=fun z=>h (Uav _ z)
  simp only [ordM]
  rw [Zrq h2]
  congr 1
  apply Zf2
  intro b _
  simp only [pcM]
  rw [Uad (fun z=>h1 z.2)]
  omega
theorem Zuf {n:Nat}:∀ {os:List Int},os.Nodup->(ps.getD n (0,0)).1∈os->ordM ps (n + 1) os=ordM ps n os + aftM ps n (ps.getD n (0,0)).1 os * (ps.getD n (0,0)).2
 | [],_,h=>by cases h
 | a :: r,nd,h=>by
  obtain ⟨na,nr⟩:=Ua9.mp nd
  simp only [ordM,aftM]
  by_cases e:a=(ps.getD n (0,0)).1
  ·rw [Uae e]
   have hr:(ps.getD n (0,0)).1∉r:=by rw [← e];exact na
   rw [Zrq hr,← Zm3]
   have e2:(r.map fun b=>pcM ps a b (n + 1)).sum=(r.map fun b=>pcM ps a b n + tpM ps b n * (ps.getD n (0,0)).2).sum:=by
    apply Zf2
    intro b hb
    simp only [pcM]
    rw [Uae ⟨fun z=>na (by rw [z];exact hb),e.symm⟩]
   rw [e2,Zk]
   omega
  ·rw [Uad e]
   have hr:(ps.getD n (0,0)).1∈r:=by
    rcases Uan.mp h with z | z
    ·exact absurd z.symm e
    ·exact z
   rw [Zuf nr hr]
   have e2:(r.map fun b=>pcM ps a b (n + 1)).sum=(r.map fun b=>pcM ps a b n).sum:=by
    apply Zf2
    intro b _
    simp only [pcM]
    rw [Uad (fun z=>e z.2.symm)]
    omega
   rw [e2]
   omega
theorem Zr1 {n:Nat} {h:Int}:∀ {os:List Int},(ps.getD n (0,0)).1∉os->aftM ps (n + 1) h os=aftM ps n h os
 | [],_=>rfl
 | a :: r,hn=>by
  have h2:(ps.getD n (0,0)).1∉r:=fun z=>hn (Uav _ z)
  simp only [aftM]
  rw [Zr1 h2]
  have e2:(r.map fun b=>tpM ps b (n + 1)).sum=(r.map fun b=>tpM ps b n).sum:=by
   apply Zf2
   intro b hb
   simp only [tpM]
   rw [Uad (fun z=>h2 (by rw [z];exact hb))]
   omega
  rw [e2]
theorem Zot {n:Nat} {h:Int}:∀ {os:List Int},os.Nodup->h∈os->(ps.getD n (0,0)).1∈os->
  aftM ps (n + 1) h os=aftM ps n h os + (if os.idxOf h < os.idxOf (ps.getD n (0,0)).1 then (ps.getD n (0,0)).2 else 0)
 | [],_,hh,_=>by cases hh
 | a :: r,nd,hh,hm=>by
  obtain ⟨na,nr⟩:=Ua9.mp nd
  generalize eg:(ps.getD n (0,0)).1=g at hm ⊢
  generalize ew:(ps.getD n (0,0)).2=w at ⊢
  simp only [aftM]
  by_cases e:a=h
  ·subst e
   rw [Uae rfl,Uae rfl]
   have e2:(r.map fun b=>tpM ps b (n + 1)).sum=(r.map fun b=>tpM ps b n + (if g=b then w else 0)).sum:=by
    apply Zf2
    intro b _
    simp only [tpM]
    rw [eg,ew]
   rw [e2,Zk,Zxs g w nr]
   have i0:(a :: r).idxOf a=0:=by simp
   rw [i0]
   by_cases eq:g=a
   ·subst eq
    rw [i0,Uad na,Uad (by omega)]
   ·have gr:g∈r:=by
     rcases Uan.mp hm with z | z
     ·exact absurd z eq
     ·exact z
    have:(a :: r).idxOf g=r.idxOf g + 1:=Zuw (Ne.symm eq)
    rw [this,Uae gr,Uae (by omega)]
  ·rw [Uad e,Uad e]
   have hr:h∈r:=by
    rcases Uan.mp hh with z | z
    ·exact absurd z.symm e
    ·exact z
   have ih1:(a :: r).idxOf h=r.idxOf h + 1:=Zuw e
   by_cases eq:g=a
   ·subst eq
    have i0:(g :: r).idxOf g=0:=by simp
    rw [Zr1 (by rw [eg];exact na),i0,Uad (by omega)]
    omega
   ·have gr:g∈r:=by
     rcases Uan.mp hm with z | z
     ·exact absurd z eq
     ·exact z
    have ih2:(a :: r).idxOf g=r.idxOf g + 1:=Zuw (Ne.symm eq)
    rw [Zot nr hr (by rw [eg];exact gr),eg,ew,ih1,ih2]
    congr 1
    by_cases hlt:r.idxOf h < r.idxOf g
    ·rw [Uae hlt,Uae (by omega)]
    ·rw [Uad hlt,Uad (by omega)]
theorem Zty {os:List Int} {h:Int} (nd:os.Nodup) (hh:h∈os):∀ (n:Nat),(∀ j,j < n->(ps.getD j (0,0)).1∈os)->aftM ps n h os=rsM ps os h n
 | 0,_=>by
  have:∀ l:List Int,aftM ps 0 h l=0:=by
   intro l
   induction l with
   | nil=>rfl
   | cons a r ih=>
    simp only [aftM,tpM]
    rw [Zq9,ih]
    split<;>rfl
  rw [this]
  rfl
 | n + 1,hm=>by
  rw [Zot nd hh (hm n (by omega)),Zty nd hh n fun j hj=>hm j (by omega)]
  rfl
theorem Zuu {os:List Int} (nd:os.Nodup):∀ (n:Nat),(∀ j,j < n->(ps.getD j (0,0)).1∈os)->ordM ps n os=priM ps os n
 | 0,_=>by
  have:∀ l:List Int,ordM ps 0 l=0:=by
   intro l
   induction l with
   | nil=>rfl
   | cons a r ih=>
    simp only [ordM,pcM]
    rw [Zq9,ih]
    rfl
  rw [this]
  rfl
 | n + 1,hm=>by
  rw [Zuf nd (hm n (by omega)),Zuu nd n (fun j hj=>hm j (by omega)),Zty nd (hm n (by omega)) n fun j hj=>hm j (by omega)]
  rfl
end
end M
namespace ExcR
open PySem PySem.Spec PyProof.Rows L2
structure KeepX (fs ex:List Addr) (h h':Heap):Prop where
 keep:∀ b o,h.get? b=some o->b∉fs->b∉ex->h'.get? b=some o
 slot:∀ b o,h.get? b=some o->b∉ex->∃ sl,h'.get? b=some { o with slots:=sl }
 size:h.objs.size<=h'.objs.size
theorem KeepX.trans {fs ex:List Addr} {h1 h2 h3:Heap} (a:KeepX fs ex h1 h2) (b:KeepX fs ex h2 h3):KeepX fs ex h1 h3:=
 ⟨fun c o e n m=>b.keep c o (a.keep c o e n m) n m,fun c o e m=>by
  obtain ⟨s1,e1⟩:=a.slot c o e m
  obtain ⟨s2,e2⟩:=b.slot c _ e1 m
  exact ⟨s2,e2⟩,Ual a.size b.size⟩
theorem KeepX.mono {fs fs' ex ex':List Addr} {h1 h2:Heap} (a:KeepX fs ex h1 h2) (hf:∀ b∈fs,b∈fs') (hx:∀ b∈ex,b∈ex'):KeepX fs' ex' h1 h2:=
 ⟨fun c o e n m=>a.keep c o e (fun z=>n (hf c z)) (fun z=>m (hx c z)),fun c o e m=>a.slot c o e fun z=>m (hx c z),a.size⟩
structure Trc (h:Heap) (e T:Addr) (cls fl:Value):Prop where
 ne:T≠e
 exc:∃ oe vs,h.get? e=some oe/\oe.cls=cls/\oe.data=.fields vs/\vs[1]?=some (.ref T)
 ent:∃ oT ts,h.get? T=some oT/\oT.data=.fields ts/\ts[3]?=some fl
section
variable {M:Model} {A:Around} {E:Value->Shared->Prop} {s:Shared} {base:Heap} {env:Env} {outer:List Env} {L e:Addr}
theorem Zoi {oe:Obj} {vs:Array Value} {head:Value} {hadNext:Bool} {Q:Unit->Shared->Prop} (hfr:A.frames=some (env :: outer)) (hl:s.heap.FunFrames base (env :: outer)) (hf:env.frame=some L)
  (he:s.heap.get? e=some oe) (hd:oe.data=.fields vs) (hsz:1 < vs.size)
  (h:∀ h' T,s.heap.objs.size<=T->Trc h' e T oe.cls (rawInt L)->KeepX (frs (env :: outer)) [e] s.heap h'->Q () { s with heap:=h' }) :
  wpAny M A (do let a ← frameOf env;let pl ← entryPlaceOf L hadNext;let b ← EntryCells.newEntry head a .none (rawInt L) .none pl;setField (.ref e) 1 b) Q E s:=by
 have hene:e∉frs (env :: outer):=fun hm=>by
  obtain ⟨_,o,ho,hnf⟩:=hl.mem hm
  rw [he] at ho
  cases ho
  exact hnf vs hd
 refine wpAny_bind (wpAny_frameOf_fun hfr hl hf fun h1 s1=>wpAny_bind (wpAny_entryPlaceOf fun pl hpl=>?_))
 unfold EntryCells.newEntry newFields
 refine wpAny_bind (wpAny_newObj_type ?_ (hpl.sizeOk5 _ _ _ _ _))
 have he1:h1.get? e=some oe:=(s1.2.1 e hene).trans he
 generalize eo:({ cls:=.type "traceback",dict:=none,data:=.fields ([head,.ref L,.none,rawInt L,.none]++(if pl.isEmpty then List.replicate 6 Value.none else pl)).toArray }:Obj)=ot
 have he2:=Heap.get?_push_of_some (h:=h1) ot he1
 refine wpAny_setField he2 hd hsz (h _ h1.objs.size (Ub4 s1.1.symm) ?_ ?_)
 ·have ne1:h1.objs.size≠e:=Udt (Heap.lt_size he1)
  have d3:=Obj.data_mapFields hd (·.setIfInBounds 1 (Value.ref h1.objs.size))
  refine ⟨ne1,⟨_,_,Heap.get?_update_self _ he2 (Obj.isFreed_of_fields d3),Obj.cls_mapFields _ _,d3,by simp [hsz]⟩,ot,_,?_,by rw [← eo],?_⟩
  ·exact (Heap.get?_update_other _ _ (Ne.symm ne1)).trans (Heap.get?_push_size h1 (by rw [← eo];rfl))
  ·first
    | (simp;done)
    | (rcases hpl with rfl | ⟨_,_,_,_,_,_,_,rfl⟩<;>simp)
 ·refine ⟨fun b o q nb nx=>?_,fun b o q nx=>?_,?_⟩
  ·have hbe:b≠e:=fun z=>nx (by simp [z])
   rw [Heap.get?_update_other _ _ (Ne.symm hbe)]
   exact Heap.get?_push_of_some _ ((s1.2.1 b nb).trans q)
  ·have hbe:b≠e:=fun z=>nx (by simp [z])
   obtain ⟨sl,q1⟩:=s1.2.2 b o q
   exact ⟨sl,by rw [Heap.get?_update_other _ _ (Ne.symm hbe)];exact Heap.get?_push_of_some _ q1⟩
  ·rw [Heap.size_update,Heap.size_push,s1.1]
   exact Ucr _
theorem Zsm {oe:Obj} {vs:Array Value} {Q:Unit->Shared->Prop} (hfr:A.frames=some (env :: outer)) (hl:s.heap.FunFrames base (env :: outer)) (hf:env.frame=some L)
  (he:s.heap.get? e=some oe) (hd:oe.data=.fields vs) (h1:vs[1]?=some .none)
  (h:∀ h' T,s.heap.objs.size<=T->Trc h' e T oe.cls (rawInt L)->KeepX (frs (env :: outer)) [e] s.heap h'->Q () { s with heap:=h' }):wpAny M A (noteFrame (.ref e) env) Q E s:=by
 unfold noteFrame
 simp only [hf]
 refine wpAny_bind (wpAny_field he hd h1 ?_)
 rw [Uad (by decide)]
 exact Zoi hfr hl hf he hd (Ucq.mp h1).1 h
theorem Zo5 {T:Addr} {cls fl:Value} {Q:Unit->Shared->Prop} (x:Trc s.heap e T cls fl) (h:∀ h',Trc h' e T cls .none->KeepX [] [T] s.heap h'->Q () { s with heap:=h' }) :
  wpAny M A (setField (.ref T) 3 .none) Q E s:=by
 obtain ⟨ne,⟨oe,vs,g1,g2,g3,g4⟩,oT,ts,k1,k2,k3⟩:=x
 have hz:=(Ucq.mp k3).1
 refine wpAny_setField k1 k2 hz (h _ ?_ ?_)
 ·have d3:=Obj.data_mapFields k2 (·.setIfInBounds 3 Value.none)
  exact ⟨ne,⟨oe,vs,(Heap.get?_update_other _ _ ne).trans g1,g2,g3,g4⟩,_,_,Heap.get?_update_self _ k1 (Obj.isFreed_of_fields d3),d3,by simp [hz]⟩
 ·have ot:∀ b,b≠T->(s.heap.update T (Obj.mapFields (·.setIfInBounds 3 Value.none))).get? b=s.heap.get? b:=fun b hb=>Heap.get?_update_other _ _ (Ne.symm hb)
  exact ⟨fun b o q _ nx=>(ot b fun z=>nx (by simp [z])).trans q,fun b o q nx=>⟨o.slots,(ot b fun z=>nx (by simp [z])).trans q⟩,Ub4 (Heap.size_update ..).symm⟩
theorem Zuj {T:Addr} {cls:Value} {Q:Unit->Shared->Prop} (hfr:A.frames=some (env :: outer)) (hl:s.heap.FunFrames base (env :: outer)) (hf:env.frame=some L) (x:Trc s.heap e T cls .none)
  (h:∀ h' T',s.heap.objs.size<=T'->Trc h' e T' cls (rawInt L)->KeepX (frs (env :: outer)) [e,T] s.heap h'->Q () { s with heap:=h' }):wpAny M A (noteFrame (.ref e) env) Q E s:=by
 obtain ⟨ne,⟨oe,vs,g1,g2,g3,g4⟩,oT,ts,k1,k2,k3⟩:=id x
 unfold noteFrame
 simp only [hf]
 refine wpAny_bind (wpAny_field g1 g3 g4 ?_)
 rw [Uae (show (Value.ref T != Value.none)=true from by simp)]
 refine wpAny_bind (wpAny_field k1 k2 k3 ?_)
 rw [Uad (show ¬ ((Value.none == rawInt L)=true) from by simp [rawInt])]
 refine wpAny_bind (Zo5 x fun h1 x1 K1=>?_)
 have hTf:T∉frs (env :: outer):=fun hm=>by
  obtain ⟨_,o,ho,hnf⟩:=hl.mem hm
  rw [k1] at ho
  cases ho
  exact hnf ts k2
 have hl1:h1.FunFrames base (env :: outer):=hl.of_keeps fun b o q hnf=>⟨o,K1.keep b o q (by simp) (fun z=>by
  rw [Uag.mp z,k1] at q
  cases q
  exact hnf ts k2),rfl⟩
 obtain ⟨_,⟨oe1,vs1,p1,p2,p3,p4⟩,_⟩:=id x1
 refine Zoi (s:={ s with heap:=h1 }) hfr hl1 hf p1 p3 (Ucq.mp p4).1 fun h2 T' hT' x2 K2=>h h2 T' (Ual K1.size hT') (by rw [← p2];exact x2) ?_
 exact (K1.mono (by simp) (by simp)).trans (K2.mono (fun _ z=>z) (by simp))
theorem Zl3 {T:Addr} {cls fl:Value} {Q:Unit->Shared->Prop} (x:Trc s.heap e T cls fl) (h:∀ h',Trc h' e T cls .none->KeepX [] [T] s.heap h'->Q () { s with heap:=h' }) :
  wpAny M A (setFlight (.ref e) none) Q E s:=by
 obtain ⟨ne,⟨oe,vs,g1,g2,g3,g4⟩,_⟩:=id x
 unfold setFlight
 refine wpAny_bind (wpAny_field g1 g3 g4 ?_)
 rw [Uae (show (Value.ref T != Value.none)=true from by simp)]
 exact Zo5 x h
theorem Zp4 {oe:Obj} {vs:Array Value} {Q:Unit->Shared->Prop} (hfr:A.frames=some (env :: outer)) (hl:s.heap.FunFrames base (env :: outer)) (hf:env.frame=some L)
  (he:s.heap.get? e=some oe) (hd:oe.data=.fields vs) (h1:vs[1]?=some .none)
  (h:∀ h' T,s.heap.objs.size<=T->Trc h' e T oe.cls .none->KeepX (frs (env :: outer)) [e] s.heap h'->Q () { s with heap:=h' }):wpAny M A (leaving env (.ref e)) Q E s:=by
 unfold leaving
 refine wpAny_bind (Zsm hfr hl hf he hd h1 fun h2 T hT x K=>Zl3 x fun h3 x3 K3=>h h3 T hT x3 ?_)
 refine ⟨fun b o q nb nx=>K3.keep b o (K.keep b o q nb nx) (by simp) (fun z=>?_),fun b o q nx=>?_,Ual K.size K3.size⟩
 ·rw [Uag.mp z] at q
  exact absurd (Heap.lt_size q) (Ude.mpr hT)
 ·obtain ⟨sl,q2⟩:=K.slot b o q nx
  exact ⟨sl,K3.keep b _ q2 (by simp) (fun z=>by rw [Uag.mp z] at q;exact absurd (Heap.lt_size q) (Ude.mpr hT))⟩
theorem Zr2 {T:Addr} {cls:Value} {Q:Unit->Shared->Prop} (hfr:A.frames=some (env :: outer)) (hl:s.heap.FunFrames base (env :: outer)) (hf:env.frame=some L) (x:Trc s.heap e T cls .none)
  (h:∀ h' T',s.heap.objs.size<=T'->Trc h' e T' cls .none->KeepX (frs (env :: outer)) [e,T] s.heap h'->Q () { s with heap:=h' }):wpAny M A (leaving env (.ref e)) Q E s:=by
 unfold leaving
 refine wpAny_bind (Zuj hfr hl hf x fun h2 T' hT x2 K=>Zl3 x2 fun h3 x3 K3=>h h3 T' hT x3 ?_)
 refine ⟨fun b o q nb nx=>K3.keep b o (K.keep b o q nb nx) (by simp) (fun z=>?_),fun b o q nx=>?_,Ual K.size K3.size⟩
 ·rw [Uag.mp z] at q
  exact absurd (Heap.lt_size q) (Ude.mpr hT)
 ·obtain ⟨sl,q2⟩:=K.slot b o q nx
  exact ⟨sl,K3.keep b _ q2 (by simp) (fun z=>by rw [Uag.mp z] at q;exact absurd (Heap.lt_size q) (Ude.mpr hT))⟩
end
end ExcR
namespace ExcR
open PySem PySem.Spec PyProof.Rows L2
section
variable {P:Program} {w:World} {H H':Hp} {h h':Heap} {a:Addr} {o:HO} {fs ex:List Addr}
theorem has (x:ObjOk P w H h a o):∃ u,h.get? a=some u:=by
 cases o with
 | lst xs=>exact let ⟨_,_,_,_,e⟩:=x;⟨_,e⟩
 | tup xs=>exact let ⟨_,_,_,u,e,_⟩:=x;⟨u,e⟩
 | dK kvs=>exact let ⟨_,_,_,_,u,_,_,e,_⟩:=x;⟨u,e⟩
 | dT kvs=>exact let ⟨_,_,_,_,u,_,_,e,_⟩:=x;⟨u,e⟩
 | set S n=>exact let ⟨u,_,_,_,e,_⟩:=x;⟨u,e⟩
 | ins C dx fs=>exact let ⟨_,_,_,e,_⟩:=x;⟨_,e⟩
 | own y=>exact x
 | xd fs=>exact let ⟨_,⟨u,_,_,e,_⟩,_⟩:=x;⟨u,e⟩
 | rng lo hi=>exact let ⟨_,_,_,e⟩:=x;⟨_,e⟩
 | frz ob u=>exact ⟨_,x.1⟩
 | tbl ps=>exact ⟨_,x⟩
 | met f y=>exact ⟨_,x⟩
 | ext φ=>exact x.2.1
theorem Zxm (ok:HOk P w H h) (e:h.get? a=none):H a=none:=by
 cases q:H a with
 | none=>rfl
 | some o=>
  obtain ⟨u,z⟩:=has (ok a o q)
  rw [e] at z
  cases z
theorem Zrr (ok:HOk P w H h) (k:KeepX fs ex h h') (hf:∀ b∈fs,H b=none) (hx:∀ b∈ex,H b=none):HOk P w H h':=fun a o e=>by
 refine (ok a o e).stay (fun b u hb q=>?_) (fun _ q=>q) (fun _ _ q=>q)
 have hn:H b≠none:=by
  rcases hb with rfl | hb
  ·rw [e];simp
  ·rw [hb];simp
 exact k.keep b u q (fun z=>hn (hf b z)) fun z=>hn (hx b z)
end
structure XAt (P:Program) (w:World) (outer:List Env) (H H':Hp) (s s':Shared) (a T C:Addr):Prop where
 os:s'.os=s.os
 bare:AllBare s'.gens
 un:Un (frs outer) [] H H' s.heap s'.heap
 hok:HOk P w H' s'.heap
 na:s.heap.get? a=none
 nT:s.heap.get? T=none
 fa:H' a=none
 fT:H' T=none
 tr:Trc s'.heap a T (.ref C) .none
def CXe (P:Program) (w:World):CXT:=fun outer H s E e s'=>∃ a T C H',e=.ref a/\XAt P w outer H H' s s' a T C/\E (.ref C) none H'
section
variable {X:Cx} {pins:List (Addr×Obj)} {σ:L2.St} {H H':Hp} {s s':Shared} {a T C:Addr}
theorem Ztf {ex:List Addr} {h':Heap} (I:Inv X pins σ H s) (hex:X.ex=[]) (k:KeepX (frs X.stack) ex s.heap h') (hx:∀ b∈ex,X.s₀.heap.get? b=none):Un X.fs [] X.H₀ H X.s₀.heap h':=by
 have B:=I.base
 rw [hex] at B
 have out:∀ b o,X.s₀.heap.get? b=some o->b∉ex:=fun b o q z=>by rw [hx b z] at q;cases q
 have nl:∀ b o,X.s₀.heap.get? b=some o->b∉X.fs->b∉frs X.stack:=fun b o q nf z=>by
  rcases Uan.mp (I.stkSub b z) with e | e
  ·have h1:=Heap.lt_size q
   have h2:=I.ok.above
   rw [e] at h1
   exact absurd h1 (Ude.mpr h2)
  ·exact nf e
 refine ⟨fun b o q n nf ne=>k.keep b o (B.keep b o q n nf ne) (nl b o q nf) (out b o q),fun b o q n hf ne=>?_,fun b o q n ne=>B.free b o q n ne,fun b o q ne=>?_,B.tups,B.frzs,B.tbls⟩
 ·obtain ⟨sl,q1⟩:=B.slot b o q n hf ne
  obtain ⟨sl2,q2⟩:=k.slot b _ q1 (out b o q)
  exact ⟨sl2,q2⟩
 ·obtain ⟨o1,q1⟩:=B.there b o q ne
  obtain ⟨sl2,q2⟩:=k.slot b _ q1 (out b o q)
  exact ⟨_,q2⟩
theorem Zg2 {b:Addr} (I:Inv X pins σ H s) (hex:X.ex=[]) (e:s.heap.get? b=none):X.s₀.heap.get? b=none:=by
 cases q:X.s₀.heap.get? b with
 | none=>rfl
 | some o=>
  obtain ⟨u,z⟩:=I.base.there b o q (by rw [hex];simp)
  rw [e] at z
  cases z
variable {E:Value->Shared->Prop}
theorem Zr7 (I:Inv X pins σ H s) (hex:X.ex=[]) (hst:X.stack=X.env :: X.outer) (hfr:X.env.frame=some X.env.locals) (x:XAt X.prog X.w X.stack H H' s s' a T C) :
  wpAny (model X.prog X.w) X.A (leaving X.env (.ref a)) (fun _ s2=>∃ T2,XAt X.prog X.w X.outer X.H₀ H' X.s₀ s2 a T2 C) E s':=by
 have J:Inv X pins σ H' s':=I.call' (ch:=[]) x.os x.un x.hok x.bare fun b z=>absurd z (by simp)
 have hF:=J.stack
 have hA:=J.ok.frames
 rw [hst] at hF hA
 refine Zr2 hA hF hfr x.tr fun h2 T2 hT2 tr k=>⟨T2,J.os,J.bare,?_,?_,Zg2 I hex x.na,?_,x.fa,x.hok.fresh hT2,tr⟩
 ·exact Ztf J hex (by rw [hst];exact k) fun b hb=>by
   rcases Uan.mp hb with rfl | hb
   ·exact Zg2 I hex x.na
   ·rw [Uag.mp hb];exact Zg2 I hex x.nT
 ·refine Zrr x.hok k (fun b hb=>J.stkFree b (by rw [hst];exact hb)) fun b hb=>?_
  rcases Uan.mp hb with rfl | hb
  ·exact x.fa
  ·rw [Uag.mp hb];exact x.fT
 ·exact Heap.get?_none_of_le (Ual J.sz hT2)
theorem Ztx {h':Heap} {oe:Obj} {vs:Array Value} (I:Inv X pins σ H s) (hex:X.ex=[]) (hst:X.stack=X.env :: X.outer) (hfr:X.env.frame=some X.env.locals) (keeps:∀ b o,s.heap.get? b=some o->h'.get? b=some o)
  (new:s.heap.get? a=none) (he:h'.get? a=some oe) (hc:oe.cls=.ref C) (hd:oe.data=.fields vs) (h1:vs[1]?=some .none) :
  wpAny (model X.prog X.w) X.A (leaving X.env (.ref a)) (fun _ s2=>∃ T2,XAt X.prog X.w X.outer X.H₀ H X.s₀ s2 a T2 C) E { s with heap:=h' }:=by
 have J:Inv X pins σ H { s with heap:=h' }:=I.call' (s':={ s with heap:=h' }) (ch:=[]) rfl (Un.kept keeps) (I.hok.kept keeps) I.bare fun b z=>absurd z (by simp)
 have hF:=J.stack
 have hA:=J.ok.frames
 rw [hst] at hF hA
 have fa:=Zxm I.hok new
 refine Zp4 (s:={ s with heap:=h' }) hA hF hfr he hd h1 fun h2 T2 hT2 tr k=>⟨T2,J.os,J.bare,?_,?_,Zg2 I hex new,?_,fa,J.hok.fresh hT2,by rw [← hc];exact tr⟩
 ·exact Ztf J hex (by rw [hst];exact k) fun b hb=>by rw [Uag.mp hb];exact Zg2 I hex new
 ·exact Zrr J.hok k (fun b hb=>J.stkFree b (by rw [hst];exact hb)) fun b hb=>by rw [Uag.mp hb];exact fa
 ·exact Heap.get?_none_of_le (Ual J.sz hT2)
end
structure ErrCls (K:PySem.W.Frag) (C:Addr):Prop where
 q:PySem.W.excIn K C [.type "ValueError",.type "Exception",.type "BaseException",.type "object"] "ValueError.__new__" = true
theorem ErrCls.obj {K:PySem.W.Frag} {C:Addr} {h:Heap} (c:ErrCls K C) (k:K.In h):∃ bm N nm q bs hdct sn sub ab col dd k0 k1 k2 k3 k5 mN,h.get? C=some (excClassObj nm q C N bs bm hdct sn sub ab col dd k0 k1 k2 k3 k5 "ValueError.__new__")/\h.Ns N mN/\mN "__init__" = none/\
  OwnTail h [.type "ValueError",.type "Exception",.type "BaseException",.type "object"] bm:=by
 have e:=c.q
 unfold PySem.W.excIn at e
 split at e
 next dd cd sl ho=>
  split at e
  next C1 bm k0 k1 k2 k3 n k5 hm hs=>
   simp only [Ubh,beq_iff_eq,Uds] at e
   obtain ⟨⟨⟨⟨⟨e1,e2⟩,e3⟩,e4⟩,e5⟩,e6⟩:=e
   subst e1 e2
   have hg:=k _ _ ho
   cases cd with
   | mk nm bs mro ns qn hd sn sub ab col del=>
    simp only at hm e3 e5 e6
    have hsl:sl=#[k0,k1,k2,k3,some (.builtin "ValueError.__new__"),k5]:=by
     cases sl with
     | mk l=>simp only at hs;rw [hs]
    rw [hm,e3,hsl] at hg
    exact ⟨bm,ns,nm,qn,bs,hd,sn,sub,ab,col,dd,k0,k1,k2,k3,k5,_,hg,.of_isNs (PySem.W.isNs_of_in k e5),PySem.W.nsMap_none_of_in k e5 e6,PySem.W.tail_of_in k e4⟩
  next=>cases e
 next=>cases e
end ExcR
namespace ExcR
open PySem PySem.Spec PyProof.Rows L2
abbrev TF:=L2.St->Hp->Str->(Str->Hp->Prop)->Prop
def PF (X:Cx) (es:List Expr) (t:TF):Prop:=
 ∀ (pins:List (Addr×Obj)) (s:Shared) (σ:L2.St) (H:Hp) (out:Str) (Q:Str->Hp->Prop),Inv X pins σ H s->t σ H out Q->
  wpAny (model X.prog X.w) X.A (joinParts out (evalEach es X.env)) (fun u s'=>∃ x H',Inv X pins σ H' s'/\RelV (.str x) u/\Q x H') X.xe s
section
variable {X:Cx} {e e1 e2:Expr} {es:List Expr} {t:TF} {tv:TE} {pos:Pos}
def fNil:TF:=fun _ H out Q=>out.length<=sizeLine/\Q out H
def fStr (x:Str) (t:TF):TF:=fun σ H out Q=>(out++x).length<=sizeLine/\t σ H (out++x) Q
def fVal (tv:TE) (t:TF):TF:=fun σ H out Q=>tv σ H fun v H1=>(∃ i:Int,v=.int i/\i.natAbs.log2 < 1920/\(out++(Str.ofString (toString i))).length<=sizeLine/\t σ H1 (out++Str.ofString (toString i)) Q)\/
 ∃ x:Str,v=.str x/\x.length<=sizeLine/\(out++x).length<=sizeLine/\t σ H1 (out++x) Q
theorem Zn1:PF X [] fNil:=fun pins s σ H out Q I h=>joinParts_nilE (joinParts_nil ⟨out,H,I.tok _,⟨_,rfl⟩,h.2⟩ h.1)
theorem Ziu {x:Str} {j} (h:PF X es t):PF X (.Constant (.str x) j pos :: es) (fStr x t):=fun pins s σ H out Q I q=>
 joinParts_consE (joinParts_cons (Calls.Constant_str ⟨q.1,h pins _ σ H _ Q (I.tok _) q.2⟩))
theorem Zo0 (hv:PE X e tv) (h:PF X es t):PF X (.FormattedValue e (-1) none pos :: es) (fVal tv t):=fun pins s σ H out Q I q=>by
 refine joinParts_consE (joinParts_cons (FormattedValue_plain (thn (hv pins s σ H _ I q) fun u s1 ⟨v,H1,I1,r,q1⟩=>?_)))
 rcases q1 with ⟨i,rfl,hs,hz,q2⟩ | ⟨x,rfl,hx,hz,q2⟩
 ·obtain ⟨tk,rfl⟩:=r
  exact formatField_int_small hs ⟨hz,h pins _ σ H1 _ Q (I1.tok _) q2⟩
 ·obtain ⟨tk,rfl⟩:=r
  exact formatField_str (fun t' tk'=>⟨hz,h pins _ σ H1 _ Q (I1.tok _) q2⟩) hx
def tF (t:TF):TE:=fun σ H Q=>t σ H Str.empty fun x H'=>Q (.str x) H'
theorem pe_f (h:PF X (e1 :: e2 :: es) t):PE X (.JoinedStr (e1 :: e2 :: es) pos) (tF t):=fun pins s σ H Q I q=>
 JoinedStr_many (thn (h pins s σ H _ _ I q) fun u s1 ⟨x,H1,I1,r,q1⟩=>⟨.str x,H1,I1,r,q1⟩)
end
def Raises (X:Cx) (E:XK):Prop:=∀ (pins:List (Addr×Obj)) (σ:L2.St) (H:Hp) (s:Shared) (C a:Addr) (h':Heap) (args:List Value),Inv X pins σ H s->Heap.MadeExcOf s.heap h' a (.ref C) args->E (.ref C) none H->X.xe (.ref a) { s with heap:=h' }
def tRaise (C:Addr) (E:XK) (t:TA):TS:=fun _ σ H=>t σ H fun vs H1=>vs.length<=sizeLine/\E (.ref C) none H1
section
variable {X:Cx} {x:Str} {C:Addr} {E:XK} {e:Expr} {es:List Expr} {t:TA} {p cpos pos:Pos}
theorem Zdv (c:ErrCls X.K C) (hm:X.mg x=some (.ref C)) (hR:Raises X E) (hc:X.calm=true) (ha:PA X (e :: es) t) (hg:Gl X x:=by rfl) (hdb:(x == ("__debug__" : Str))=false:=by decide)
  (he:starEach (e :: es) X.env=(false,eval e X.env) :: starEach es X.env:=by rfl) (hpl:(backTo cpos (starEach es X.env)).any (·.1)=false:=by rfl):PS X (.Raise (some (.Call (.Name x p) (e :: es) [] cpos)) none pos) (tRaise C E t):=by
 intro pins s σ H D I h
 obtain ⟨bm,N,nm,q,bs,hdct,sn,sub,ab,col,dd,k0,k1,k2,k3,k5,mN,hC,hN,hni,hT⟩:=c.obj I.ok.mod.kin
 have hpl':(backTo cpos (starEach (e :: es) X.env)).any (·.1)=false:=by
  rw [he]
  show (false || (backTo cpos (starEach es X.env)).any (·.1))=false
  rw [hpl]
  rfl
 refine wpAny_Raise_call_subU (C:=C) (nm:=nm) (q:=q) (N:=N) (bs:=bs) (bm:=bm) (hdct:=hdct) (sn:=sn) (sub:=sub) (ab:=ab) (col:=col) (dd:=dd) (k0:=k0) (k1:=k1) (k2:=k2) (k3:=k3) (k5:=k5)
  PySem.F.excBase_ValueError (by decide +kernel) PySem.F.excBase_ValueError (hT.hasType (by decide +kernel)) (I.ok.hd hc) hpl' hni (Zml I hg hm ⟨rfl,?_⟩ hdb)
 have hA:=ha cpos pins s σ H _ I h
 rw [he] at hA ⊢
 refine Calls.evalArgs_plain (thn hA fun us s2 ⟨vs,H2,I2,r2,q1,q2⟩=>⟨rfl,by rw [← r2.length];exact q1,I2.bk _ _ hC,hN.keeps I2.bk,hT.keeps I2.bk,fun h' a hm'=>?_⟩)
 exact hR pins σ H2 s2 C a h' us I2 hm' q2
end
section
variable {P:Program} {w:World} {K:PySem.W.Frag} {mg:Str->Option Value} {base:Heap} {N ps:List Str} {qual x:Str} {scope:Scope} {f:Addr} {cd:Value} {A:Around} {outer:List Env} {s:Shared} {H:Hp} {E:XK}
theorem Zdq:Raises (cxOf (CXe P w) P w K mg base N qual scope f cd A outer s H E) E:=by
 intro pins σ H1 s1 C a h' args I m q
 obtain ⟨t,ht,_,_⟩:=m.there
 exact wpAny_mono (Ztx I rfl rfl rfl m.keeps m.new ht rfl rfl rfl) (fun _ s3 ⟨T2,y⟩=>⟨a,T2,C,H1,rfl,y,q⟩) fun _ _ z=>z
theorem Zeb:Passes (CXe P w) (cxOf (CXe P w) P w K mg base N qual scope f cd A outer s H E) E:=by
 rintro pins σ H1 s1 e s2 I ⟨a,T,C,H',rfl,y,q⟩
 exact wpAny_mono (Zr7 I rfl rfl rfl y) (fun _ s3 ⟨T2,z⟩=>⟨a,T2,C,H',rfl,z,q⟩) fun _ _ z=>z
theorem Zuk:PassesOwn (model P w) (cxOf (CXe P w) P w K mg base N qual scope f cd A outer s H E).A (cxOf (CXe P w) P w K mg base N qual scope f cd A outer s H E).env (cxOf (CXe P w) P w K mg base N qual scope f cd A outer s H E).xe:=PassesOwn.leaving
theorem Def.okX {st:Stmt} {k:Nat} {sp:Sp} (D:Own.Def K mg x st ps) (S:FnScope N ps (defScope st)) (len:∀ vs H Q E,sp vs H Q E->vs.length=ps.length)
  (hbody:∀ (f:Addr) (cdv:Value) (A:Around) (outer:List Env) (s:Shared) (H:Hp) (vs:List V) (Q:VK) (E:XK),Room k (A.deeper (envOfC x (defScope st) s.heap.objs.size f cdv))->sp vs H Q E->
   ∃ t,PSs (cxOf (CXe P w) P w K mg base N x (defScope st) f cdv A outer s H E) (defBody st) t/\t { nx:=fun _ H'=>Q .non H',rt:=Q } (start N vs) H):Own.Callee P w K mg base (CXe P w) (k + 1) x ps sp:=by
 obtain ⟨f,fd,F,hm,hb⟩:=D.ex
 have kp:=F.kp
 obtain ⟨oc,od,kV,doc,pm,an,cdv,ct,osl,rfl,lk,hcd⟩:=F.ex
 exact ⟨f,_,Zx8 lk hcd S len fun A outer s H vs Q E hr hsp=>hbody f cdv A outer s H vs Q E hr hsp,hm,kp,⟨_,lk,rfl⟩,hb⟩
end
end ExcR
namespace ExcR
open PySem PySem.Spec PyProof.Rows L2
open Sem (wp)
structure ErrGet (K:PySem.W.Frag) (C:Addr):Prop where
 c:ErrCls K C
 ga:PySem.W.findIn K (.ref C) "__getattribute__" = some (some (.builtin "BaseException.__getattribute__"))
 gt:PySem.W.findIn K (.ref C) "__getattr__" = some none
 cl:PySem.W.findIn K (.ref C) "__class__" = some (some (.builtin "object.__class__"))
 is:(PySem.W.clsIn K C).isSome=true
section
variable {prog:Program} {w:World} {A:Around} {E:Value->Shared->Prop} {h:Heap} {g:Array GenState} {d:Drawn} {t:Nat} {os:OsState} {a C:Addr} {o:Obj} {K:PySem.W.Frag}
end
end ExcR
namespace ExcR
open PySem PySem.Spec PyProof.Rows L2
def ErrH (a C:Addr):HO:=.ext fun h=>∃ o,h.get? a=some o/\o.cls=.ref C/\∃ vs,o.data=.fields vs
section
variable {X:Cx}
end
section
variable {X:Cx} {pins pins1:List (Addr×Obj)} {σ:L2.St} {H H':Hp} {s s':Shared} {a T C:Addr} {D:Ends} {h0:ExceptHandler}
end
def sufD (i:Nat) (D:Ends):Ends:={ nx:=fun σ H=>D.nx (σ.set i none) H,rt:=D.rt,bk:=fun σ H=>D.bk (σ.set i none) H,ct:=fun σ H=>D.ct (σ.set i none) H }
def hx (K:PySem.W.Frag) (C0:Addr) (i:Nat) (ts:TS) (D:Ends):L2.St->XK:=fun σ c _ H=>∃ C,c=.ref C/\ErrGet K C/\PySem.W.exmOne K (.ref C) (.ref C0)=some true/\
 ∀ a,H a=none->ts (sufD i D) (σ.set i (some (.ref a))) (upd H a (ErrH a C))
section
variable {X:Cx} {CX:CXT} {k:Nat} {ps:List Str} {sp:Sp} {E:L2.St->XK} {x:Str} {p pos:Pos} {e:Expr} {es:List Expr} {t:TA}
end
section
variable {X:Cx} {pins:List (Addr×Obj)} {D:Ends} {x n:Str} {np hpos pos:Pos} {b0:Stmt} {suite body:List Stmt} {C0:Addr} {i:Nat} {ts:TS}
end
def clsOf (mg:Str->Option Value) (x:Str):Addr:=match mg x with
 | some (.ref C)=>C
 | _=>0
theorem Zcz {mg:Str->Option Value} {x:Str} {C:Addr} (h:mg x=some (.ref C)):clsOf mg x=C:=by unfold clsOf;rw [h]
theorem Zcx {X:Cx} {x:Str} {v:V} {pos:Pos} (h:∃ u,X.mg x=some u/\RelV v u) (hg:Gl X x:=by rfl) (hd:(x == ("__debug__" : Str))=false:=by decide):PE X (.Name x pos) (tC v):=by
 obtain ⟨u,h1,h2⟩:=h
 exact Zx6 hg h1 h2 hd
end ExcR
namespace Own
open PySem PySem.Spec PyProof.Rows L2 M
section
variable {X:Cx} {pins:List (Addr×Obj)} {σ:L2.St} {H:Hp} {s:Shared}
theorem Zoq {p:Int×Int} {its:List Value} (r:Vals [V.int p.1,V.int p.2] its):∃ t1 t2,its=[.int p.1 t1,.int p.2 t2]:=by
 cases r with
 | cons r1 rr=>
  cases rr with
  | cons r2 r3=>
   cases r3
   obtain ⟨t1,rfl⟩:=r1
   obtain ⟨t2,rfl⟩:=r2
   exact ⟨t1,t2,rfl⟩
theorem Znp {A:Around} {x y:V} {p q:Int×Int} {u v:Value} (I:Inv X pins σ H s) (hu:A.units < cLine) (rx:RelV x u) (ry:RelV y v) (hp:PairR H x p) (hq:PairR H y q):SeqAt.EqAt A s u v (decide (p=q)):=by
 obtain ⟨a,rfl,ha⟩:=hp
 obtain ⟨b,rfl,hb⟩:=hq
 obtain rfl:u=Value.ref a:=rx
 obtain rfl:v=Value.ref b:=ry
 by_cases hab:a=b
 ·subst hab
  rw [ha] at hb
  have e:p=q:=by
   injection hb with hb
   injection hb with hb
   injection hb with h1 h2
   injection h2 with h2 _
   exact Prod.ext (V.int.inj h1) (V.int.inj h2)
  rw [Uaf e]
  exact SeqAt.EqAt.same _
 ·obtain ⟨_,its,r1,t1⟩:=(show ObjOk X.prog X.w H s.heap a (.tup [.int p.1,.int p.2]) from I.hok a _ ha)
  obtain ⟨_,jts,r2,t2⟩:=(show ObjOk X.prog X.w H s.heap b (.tup [.int q.1,.int q.2]) from I.hok b _ hb)
  obtain ⟨k1,k2,rfl⟩:=Zoq r1
  obtain ⟨k3,k4,rfl⟩:=Zoq r2
  have h:=SeqAt.RcAt.tuples (A:=A) (s:=s) (e:=fun j=>if j=0 then p.1 == q.1 else p.2 == q.2) t1 t2 hu (fun j h1 h2=>by
   have hj:j=0\/j=1:=by
    have h1':j < 2:=h1
    omega
   rcases hj with rfl | rfl
   ·exact SeqAt.EqAt.int_int _ _ _ _
   ·exact SeqAt.EqAt.int_int _ _ _ _)
  have e:((List.range (min ([Value.int p.1 k1,Value.int p.2 k2].toArray).size ([Value.int q.1 k3,Value.int q.2 k4].toArray).size)).all (fun j=>if j=0 then p.1 == q.1 else p.2 == q.2) && ([Value.int p.1 k1,Value.int p.2 k2].toArray).size == ([Value.int q.1 k3,Value.int q.2 k4].toArray).size)=decide (p=q):=by
   show ((List.range 2).all (fun j=>if j=0 then p.1 == q.1 else p.2 == q.2) && true)=decide (p=q)
   rw [Bool.and_true]
   have e2:(List.range 2).all (fun j=>if j=0 then p.1 == q.1 else p.2 == q.2)=((p.1 == q.1) && (p.2 == q.2)):=by simp [List.range,List.range.loop]
   rw [e2]
   by_cases h1:p.1=q.1
   ·by_cases h2:p.2=q.2
    ·rw [Uaf (Prod.ext h1 h2)];simp [h1,h2]
    ·rw [Uam (fun z=>h2 (by rw [z]))];simp [h2]
   ·rw [Uam (fun z=>h1 (by rw [z]))];simp [h1]
  rw [e] at h
  exact SeqAt.EqAt.of_refs hab h
def eP (H:Hp) (q:Int×Int) (u:Value):Bool:=match u with
 | .ref a=>(match H a with
  | some (.tup [.int i,.int j])=>decide ((i,j)=q)
  | _=>false)
 | _=>false
theorem Zzf {v:V} {u:Value} {p q:Int×Int} (h:PairR H v p) (r:RelV v u):eP H q u=decide (p=q):=by
 obtain ⟨a,rfl,ha⟩:=h
 obtain rfl:u=Value.ref a:=r
 unfold eP
 simp only [ha]
theorem Zvk {q:Int×Int}:∀ {vs:List V} {us:List Value} {ps:List (Int×Int)},Vals vs us->LV PairR H vs ps->us.any (eP H q)=decide (q∈ps)
 | _,_,[],.nil,_=>rfl
 | _,_,_ :: _,.nil,h=>absurd h.1 (by simp)
 | v :: vs,u :: us,[],.cons _ _,h=>absurd h.1 (by simp)
 | v :: vs,u :: us,p :: ps,.cons r t,h=>by
  obtain ⟨v',e,hv⟩:=h.2 0 p rfl
  cases e
  have ht:LV PairR H vs ps:=⟨by simpa using h.1,fun i x e=>h.2 (i + 1) x e⟩
  rw [Ucf,Zzf hv r,Zvk t ht]
  by_cases e1:p=q
  ·subst e1;simp
  ·by_cases e2:q∈ps
   ·simp [e1,e2]
   ·have:¬ q=p:=fun z=>e1 z.symm
    simp [e1,e2,this]
def rInP (neg:Bool):R2:=fun x y H Q=>∃ (l:Addr) (ps:List (Int×Int)) (q:Int×Int),y=.ref l/\PairR H x q/\LAt PairR H l ps/\Q (.bl (if neg then !decide (q∈ps) else decide (q∈ps))) H
theorem Ztb {A:Around} {x:V} {v:Value} {q:Int×Int} (I:Inv X pins σ H s) (hu:A.units < cLine) (rx:RelV x v) (hx:PairR H x q):∀ {vs:List V} {us:List Value} {ps:List (Int×Int)},Vals vs us->LV PairR H vs ps->∀ u∈us,SeqAt.EqAt A s u v (eP H q u)
 | _,_,_,.nil,_,u,hu'=>by cases hu'
 | w :: vs,u :: us,[],.cons _ _,h,_,_=>absurd h.1 (by simp)
 | w :: vs,u :: us,p :: ps,.cons r t,h,u',hu'=>by
  obtain ⟨w',e,hw⟩:=h.2 0 p rfl
  cases e
  have ht:LV PairR H vs ps:=⟨by simpa using h.1,fun i x e=>h.2 (i + 1) x e⟩
  rcases Uan.mp hu' with rfl | hu'
  ·rw [Zzf hw r]
   exact Znp I hu r rx hw hx
  ·exact Ztb I hu rx hx t ht u' hu'
theorem Zyp (hu:X.A.in1.units < cLine):OpR X (compareOp .In) (rInP false):=by
 intro pins s σ H x y v u Q I rx ry h
 obtain ⟨l,ps,q,rfl,hx,⟨vs,hl,hv⟩,k⟩:=h
 cases ry
 obtain ⟨its,r,pl,hz⟩:=I.list (SqL.of hl)
 refine SeqAt.in_listAt (eP H q) pl.isList (fun w hw=>Ztb I hu rx hx r hv w (by simpa using hw)) ⟨.bl _,H,I,rfl,?_⟩
 rw [show its.toArray.any (eP H q)=its.any (eP H q) by simp,Zvk r hv]
 exact k
theorem Zuv (hu:X.A.in1.units < cLine):OpR X (compareOp .NotIn) (rInP true):=by
 intro pins s σ H x y v u Q I rx ry h
 obtain ⟨l,ps,q,rfl,hx,⟨vs,hl,hv⟩,k⟩:=h
 cases ry
 obtain ⟨its,r,pl,hz⟩:=I.list (SqL.of hl)
 refine SeqAt.notIn_listAt (eP H q) pl.isList (fun w hw=>Ztb I hu rx hx r hv w (by simpa using hw)) ⟨.bl _,H,I,rfl,?_⟩
 rw [show its.toArray.any (eP H q)=its.any (eP H q) by simp,Zvk r hv]
 exact k
end
end Own
namespace M
open PySem PySem.Spec PyProof.Rows L2 Own
section
variable {α:Type} {R:Hp->V->α->Prop} {H:Hp}
theorem LV.cons_iff {v:V} {vs:List V} {x:α} {xs:List α}:LV R H (v :: vs) (x :: xs)↔R H v x/\LV R H vs xs:=by
 constructor
 ·intro h
  obtain ⟨v',e,r⟩:=h.2 0 x rfl
  cases e
  exact ⟨r,by simpa using h.1,fun i y e=>h.2 (i + 1) y e⟩
 ·rintro ⟨r,h⟩
  refine ⟨by simp [h.1],fun i y e=>?_⟩
  cases i with
  | zero=>cases e;exact ⟨v,rfl,r⟩
  | succ i=>exact h.2 i y e
def pick (c:α->Bool) (d:V×α):Option V:=if c d.2=true then some d.1 else none
theorem LV.pick (c:α->Bool):∀ {vs:List V} {xs:List α},LV R H vs xs->LV R H ((vs.zip xs).filterMap (pick c)) (xs.filter c)
 | [],[],_=>LV.nil
 | [],_ :: _,h=>absurd h.1 (by simp)
 | _ :: _,[],h=>absurd h.1 (by simp)
 | v :: vs,x :: xs,h=>by
  obtain ⟨r,h⟩:=LV.cons_iff.mp h
  have ih:=LV.pick c h
  rw [Uak]
  by_cases e:c x=true
  ·rw [Ucx (show M.pick c (v,x)=some v from Uae e),Ucc e]
   exact LV.cons_iff.mpr ⟨r,ih⟩
  ·rw [Ucy (show M.pick c (v,x)=none from Uad e),Ucd e]
   exact ih
theorem LV.zip_get {vs:List V} {xs:List α} (h:LV R H vs xs) {i:Nat} {v:V} {d:V×α} (e1:vs[i]?=some v) (e2:(vs.zip xs)[i]?=some d):d.1=v/\R H v d.2:=by
 obtain ⟨x,ex,r⟩:=h.get e1
 rw [List.getElem?_zip_eq_some] at e2
 rw [e1] at e2
 rw [ex] at e2
 obtain ⟨a,b⟩:=e2
 cases a
 cases b
 exact ⟨rfl,r⟩
theorem LV.zip_len {vs:List V} {xs:List α} (h:LV R H vs xs):(vs.zip xs).length=xs.length:=by
 rw [List.length_zip,h.1,Nat.min_self]
end
end M
namespace Own
open PySem PySem.Spec PyProof.Rows L2 M
section
variable {X:Cx}
theorem Zpu:CallR X (.type "range") (fun xs H Q=>∃ i j:Int,xs=[.int i,.int j]/\∀ r,H r=none->Q (.ref r) (upd H r (.rng i j))):=by
 intro pins s σ H xs us Q I rv h
 obtain ⟨i,j,rfl,q⟩:=h
 cases rv with
 | cons r rr=>
  cases rr with
  | cons r' rr=>
   cases rr
   obtain ⟨t,rfl⟩:=r
   obtain ⟨t',rfl⟩:=r'
   refine call_range_2 ⟨.ref s.heap.objs.size,upd H s.heap.objs.size (.rng i j),?_,rfl,q _ (I.hok.fresh (Uah _))⟩
   exact I.laid (t':=s.toks + 1) (fun b o e=>Heap.get?_push_of_some _ e) (Uah _) ⟨t,t',s.toks,Heap.get?_push_size _ rfl⟩
def runI (i:Int) (n:Nat):List Int:=(List.range n).map fun (k:Nat)=>i + (k:Int)
theorem Zwf {i:Int}:∀ (n:Nat) (us:List Value),us.length=n->(∀ (j:Nat) (v:Value),us[j]?=some v->∃ t,v=Value.int (i + (j:Int) * 1) t)->Vals ((runI i n).map V.int) us:=by
 intro n us hl h
 have key:∀ (us:List Value) (o:Nat),(∀ (j:Nat) (v:Value),us[j]?=some v->∃ t,v=Value.int (i + ((o + j:Nat):Int)) t)->Vals (((List.range' o us.length).map fun (k:Nat)=>i + (k:Int)).map V.int) us:=by
  intro us
  induction us with
  | nil=>intro o _;exact .nil
  | cons u us ih=>
   intro o h
   obtain ⟨t,e⟩:=h 0 u rfl
   show Vals (((List.range' o (us.length + 1)).map fun (k:Nat)=>i + (k:Int)).map V.int) (u :: us)
   rw [List.range'_succ,Uai,Uai]
   refine .cons ⟨t,by rw [e];simp⟩ (ih (o + 1) fun j v hv=>?_)
   obtain ⟨t',e'⟩:=h (j + 1) v hv
   exact ⟨t',by rw [e'];congr 1<;>omega⟩
 have:=key us 0 (fun j v hv=>by obtain ⟨t,e⟩:=h j v hv;exact ⟨t,by rw [e];congr 1<;>omega⟩)
 unfold runI
 rw [List.range_eq_range',← hl]
 exact this
theorem Zs3 (hc:X.calm=true):CallR X (.type "list") (fun xs H Q=>∃ (r:Addr) (i j:Int),xs=[.ref r]/\H r=some (.rng i j)/\(-(2 ^ 62)<=i/\i < 2 ^ 62/\-(2 ^ 62)<=j/\j < 2 ^ 62)/\(j - i).toNat<=1000000/\
  ∀ l,H l=none->Q (.ref l) (upd H l (.lst ((runI i (j - i).toNat).map V.int)))):=by
 intro pins s σ H xs us Q I rv h
 obtain ⟨r,i,j,rfl,hr,⟨b1,b2,b3,b4⟩,hn,q⟩:=h
 obtain ⟨u,rfl,ru⟩:=rv.one
 obtain rfl:u=Value.ref r:=ru
 obtain ⟨t,u,v,e⟩:=(show ObjOk X.prog X.w H s.heap r (.rng i j) from I.hok r _ hr)
 refine call_list_range (I.ok.hd hc) (show IsRange s.heap r i j 1 t u v from e) (small_one b1 b2 b3 b4) (rangeSize_nat i j) (Ual hn (by decide)) fun h' tk acc c hk hD hI=>?_
 refine ⟨.ref s.heap.objs.size,upd H s.heap.objs.size (.lst ((runI i (j - i).toNat).map V.int)),?_,rfl,q _ (I.hok.fresh (Uah _))⟩
 have hv:Vals ((runI i (j - i).toNat).map V.int) acc.toList:=Zwf _ _ (by rw [Ubc];exact hI.1) fun k w hw=>hI.2 k w (by rw [← hw,Ubm])
 refine I.laid (t':=tk) hk (Uah _) ⟨?_,acc.toList,c,hv,by simpa using hD⟩
 rw [Uab]
 unfold runI
 rw [Uab,Uc4]
 exact Ual hn (by decide)
end
end Own
namespace M
open PySem PySem.Spec PyProof.Rows L2 Own
end M
namespace Own
open PySem PySem.Spec PyProof.Rows L2
section
variable {X:Cx} {K:PySem.W.Frag}
theorem Zpd (hc:X.calm=true) (hK:X.K=K:=by rfl):CallR X (.builtin "sum") (fun xs H Q=>∃ (p:Addr) (ns:List Int),xs=[.ref p]/\SqL K H p (ns.map V.int)/\Q (.int ns.sum) H):=by
 subst hK
 intro pins s σ H xs us Q I rv h
 obtain ⟨p,ns,rfl,hS,q⟩:=h
 obtain ⟨u,rfl,ru⟩:=rv.one
 obtain rfl:u=Value.ref p:=ru
 obtain ⟨its,r,pl,_⟩:=I.list hS
 have hi:IntsAre its ns:=by simpa using Zgb r
 obtain ⟨ys,hx⟩:=hi.allInts.items
 have hl:=pl.isList
 rw [hx] at hl
 refine sum_intListG (I.ok.hd hc) hl fun h' tk t' hk=>?_
 have e1:ns=ys.toList.map (·.1):=by
  rw [← nums_intItems,← hx]
  exact (show numsOf its.toArray.toList=ns from hi.numsOf).symm
 have e2:preSum (numAt ys) ys.size=ns.sum:=by
  rw [preSum_eq,Uci (by simp),e1]
 rw [e2]
 exact ⟨.int ns.sum,H,I.kept (t':=tk) hk,⟨_,rfl⟩,q⟩
theorem Zuq (hc:X.calm=true) (hK:X.K=K:=by rfl):CallR X (.builtin "min") (fun xs H Q=>∃ (p:Addr) (ns:List Int),xs=[.ref p]/\SqL K H p (ns.map V.int)/\0 < ns.length/\∀ M,M∈ns->(∀ a∈ns,M<=a)->Q (.int M) H):=by
 subst hK
 intro pins s σ H xs us Q I rv h
 obtain ⟨p,ns,rfl,hS,hne,q⟩:=h
 obtain ⟨u,rfl,ru⟩:=rv.one
 obtain rfl:u=Value.ref p:=ru
 obtain ⟨its,r,pl,_⟩:=I.list hS
 have hi:IntsAre its ns:=by simpa using Zgb r
 obtain ⟨ys,e⟩:=hi.allInts.items
 have hl:=pl.isList
 rw [e] at hl
 have hns:ns=ys.toList.map (·.1):=by rw [← hi.numsOf,← nums_intItems,← e]
 have hsz:0 < ys.size:=by
  have h3:=hne;rw [hns,Uab,Ubc] at h3;exact h3
 refine min_intList (I.ok.hd hc) hl hsz fun v h' tk hv hk=>?_
 obtain ⟨t,rfl⟩:=intItems_at hv
 obtain ⟨h1,h2⟩:=argBest_lt (numAt ys) (ys.size - 1)
 refine ⟨.int _,H,I.kept (t':=tk) hk,⟨_,rfl⟩,q _ ?_ fun a ha=>?_⟩
 ·rw [hns,numAt_eq];exact getD_mem (by rw [Uab,Ubc];omega)
 ·rw [hns] at ha
  obtain ⟨j,hj,rfl⟩:=Ubd.mp ha
  rw [Uab,Ubc] at hj
  have:=h2 j (by omega)
  rw [numAt_eq ys j] at this
  rw [Uac,Uaa (by rw [Uab,Ubc];exact hj)] at this
  exact this
theorem Zrd:∀ {bs:List Bool} {us:List Value},Vals (bs.map V.bl) us->LSm.BoolsAre us bs
 | [],_,.nil=>.nil
 | b :: r,_,.cons h t=>by
  cases (show _=Value.bool b from h)
  exact .cons b (Zrd t)
theorem Znq (hc:X.calm=true) (hK:X.K=K:=by rfl):CallR X (.builtin "any") (fun xs H Q=>∃ (p:Addr) (bs:List Bool),xs=[.ref p]/\SqL K H p (bs.map V.bl)/\Q (.bl (bs.any id)) H):=by
 subst hK
 intro pins s σ H xs us Q I rv h
 obtain ⟨p,bs,rfl,hS,q⟩:=h
 obtain ⟨u,rfl,ru⟩:=rv.one
 obtain rfl:u=Value.ref p:=ru
 obtain ⟨its,r,pl,_⟩:=I.list hS
 have hb:=Zrd r
 have hl:=pl.isList
 have hlt:p < s.heap.objs.size:=by obtain ⟨_,e,_⟩:=hl;exact Heap.lt_size e
 refine call_any_walk (wpAny_pyIter_list hl ?_)
 refine ⟨s.heap.objs.size,[s.heap.objs.size,p],[s.heap.objs.size],its.toArray.size,_,_,fun i=>(bs[i]?).getD false,rfl,Walks.list (A:=X.A.in1) (I.ok.hd hc) _ p (Ua6 hlt) its.toArray,
  ⟨⟨_,Heap.get?_push_size _ rfl,rfl,rfl⟩,hl.push _⟩,fun i v s' Q' E' hP hQ=>?_,fun h' tk hk=>?_⟩
 ·obtain ⟨b,e,rfl⟩:=hb.get i v (by simpa using hP)
  simp only [e,Option.getD_some] at hQ
  exact wpAny_truthy_bool hQ
 ·have e:((List.range its.toArray.size).any fun i=>(bs[i]?).getD false)=bs.any id:=by
   rw [Uao,hb.length];exact LSm.range_any bs
  rw [e]
  exact ⟨.bl (bs.any id),H,I.kept (t':=tk) (LSm.kept_iter hk),rfl,q⟩
end
end Own
namespace M
open PySem PySem.Spec PyProof.Rows L2 Own
def insideM (ws:List (Int×Int)) (ls:List Int):List (Int×Int):=ws.filter fun q=>decide (q.1∈ls) && decide (q.2∈ls)
def peelM (ws:List (Int×Int)) (ls:List Int):List Int:=ls.filter fun h=>decide (h∈(insideM ws ls).map (·.2))
def peelsM (ws:List (Int×Int)) (ls:List Int):Nat->List Int
 | 0=>ls
 | n + 1=>peelM ws (peelsM ws ls n)
def Chain (ws:List (Int×Int)) (r:List Int):Prop:=∀ (i:Nat) (x y:Int),r[i]?=some x->r[i + 1]?=some y->(x,y)∈ws
structure Ring (hs:List Int) (ws:List (Int×Int)) (r:List Int):Prop where
 two:2<=r.length
 nodup:r.Nodup
 sub:∀ x∈r,x∈hs
 chain:Chain ws r
 last:∀ x y,r[0]?=some x->r[r.length - 1]?=some y->(y,x)∈ws
theorem Ring.ahead {hs:List Int} {ws:List (Int×Int)} {r:List Int} (R:Ring hs ws r) {x:Int} (hx:x∈r):∃ y∈r,(y,x)∈ws:=by
 obtain ⟨i,hi,e⟩:=Ubd.mp hx
 have two:=R.two
 cases i with
 | zero=>
  have hl:r.length - 1 < r.length:=by omega
  exact ⟨r[r.length - 1],Uaw hl,R.last x _ (by rw [Uaa hi,e]) (Uaa hl)⟩
 | succ i=>
  have hl:i < r.length:=by omega
  exact ⟨r[i],Uaw hl,R.chain i _ x (Uaa hl) (by rw [Uaa hi,e])⟩
theorem mem_peel {ws:List (Int×Int)} {ls:List Int} {x:Int}:x∈peelM ws ls↔x∈ls/\∃ y∈ls,(y,x)∈ws:=by
 unfold peelM insideM
 rw [Ua7]
 constructor
 ·rintro ⟨h1,h2⟩
  obtain ⟨q,hq,e⟩:=Ua5.mp (Uap h2)
  obtain ⟨h3,h4⟩:=Ua7.mp hq
  rw [Ubh] at h4
  refine ⟨h1,q.1,Uap h4.1,?_⟩
  rw [← e]
  exact h3
 ·rintro ⟨h1,y,h2,h3⟩
  refine ⟨h1,Uaf (Ua5.mpr ⟨(y,x),Ua7.mpr ⟨h3,?_⟩,rfl⟩)⟩
  rw [Uaf h2,Uaf h1]
  rfl
theorem Zhw {hs:List Int} {ws:List (Int×Int)} {r:List Int} (R:Ring hs ws r):∀ (n:Nat) (x:Int),x∈r->x∈peelsM ws hs n
 | 0,x,hx=>R.sub x hx
 | n + 1,x,hx=>by
  obtain ⟨y,hy,h⟩:=R.ahead hx
  exact mem_peel.mpr ⟨Zhw R n x hx,y,Zhw R n y hy,h⟩
theorem Znn (ws:List (Int×Int)) (ls:List Int):(peelM ws ls).Sublist ls:=Udg
theorem Zpg (ws:List (Int×Int)) (hs:List Int):∀ n,(peelsM ws hs n).Sublist hs
 | 0=>List.Sublist.refl _
 | n + 1=>(Znn ws _).trans (Zpg ws hs n)
theorem Zoh (ws:List (Int×Int)) (hs:List Int):∀ n,(∃ k,k < n/\peelM ws (peelsM ws hs k)=peelsM ws hs k)\/(peelsM ws hs n).length + n<=hs.length
 | 0=>.inr (Uah _)
 | n + 1=>by
  rcases Zoh ws hs n with ⟨k,hk,e⟩ | h
  ·exact .inl ⟨k,by omega,e⟩
  ·by_cases e:peelM ws (peelsM ws hs n)=peelsM ws hs n
   ·exact .inl ⟨n,by omega,e⟩
   ·have hl:(peelM ws (peelsM ws hs n)).length < (peelsM ws hs n).length:=by
     have h1:=(Znn ws (peelsM ws hs n)).length_le
     rcases Nat.lt_or_ge (peelM ws (peelsM ws hs n)).length (peelsM ws hs n).length with h2 | h2
     ·exact h2
     ·exact absurd ((Znn ws (peelsM ws hs n)).eq_of_length (by omega)) e
    refine .inr ?_
    show (peelM ws (peelsM ws hs n)).length + (n + 1)<=hs.length
    omega
theorem Zl6 (ws:List (Int×Int)) (hs:List Int) {k:Nat} (e:peelM ws (peelsM ws hs k)=peelsM ws hs k):∀ n,peelsM ws hs (k + n)=peelsM ws hs k
 | 0=>rfl
 | n + 1=>by
  show peelM ws (peelsM ws hs (k + n))=_
  rw [Zl6 ws hs e n,e]
theorem Zh9:∀ {xs ys:List Int},xs.Nodup->(∀ x∈xs,x∈ys)->xs.length<=ys.length
 | [],_,_,_=>Ubo _
 | x :: xs,ys,nd,h=>by
  obtain ⟨h1,h2⟩:=Ua9.mp nd
  have hx:x∈ys:=h x (Ua1 ..)
  have ih:=Zh9 (ys:=ys.erase x) h2 fun z hz=>(List.mem_erase_of_ne (fun e:z=x=>h1 (e ▸ hz))).mpr (h z (Uav _ hz))
  rw [List.length_erase_of_mem hx] at ih
  have:0 < ys.length:=List.length_pos_of_mem hx
  rw [Uaz]
  omega
theorem Zvd {ws:List (Int×Int)} {ls:List Int} (hu:∀ q∈ws,q.1≠q.2) (hne:ls≠[]) (h:∀ x∈ls,∃ y∈ls,(y,x)∈ws):∃ r,Ring ls ws r:=by
 have grow:∀ (n:Nat) (r:List Int),r≠[]->r.Nodup->(∀ x∈r,x∈ls)->Chain ws r->ls.length < r.length + n->∃ r,Ring ls ws r:=by
  intro n
  induction n with
  | zero=>
   intro r hr nd sub ch hl
   have:=Zh9 nd sub
   omega
  | succ n ih=>
   intro r hr nd sub ch hl
   cases r with
   | nil=>exact absurd rfl hr
   | cons x t=>
    obtain ⟨y,hy,hw⟩:=h x (sub x (Ua1 ..))
    by_cases hm:y∈x :: t
    ·obtain ⟨i,hi,e⟩:=Ubd.mp hm
     have hi0:i≠0:=fun z=>by
      subst z
      have e':x=y:=e
      exact hu _ hw e'.symm
     have hlen:((x :: t).take (i + 1)).length=i + 1:=by
      rw [Ua4]
      omega
     refine ⟨(x :: t).take (i + 1),by omega,nd.sublist (Uc2 _ _),fun z hz=>sub z (List.mem_of_mem_take hz),fun k a b h1 h2=>?_,fun a b h1 h2=>?_⟩
     ·have hk:k + 1 < i + 1:=by
       have:=(Uas.mp h2).1
       omega
      rw [Ubt (by omega)] at h1
      rw [Ubt hk] at h2
      exact ch k a b h1 h2
     ·rw [hlen,Ucz,Ubt (by omega),Uaa hi,e] at h2
      rw [Ubt (by omega)] at h1
      cases h1
      cases h2
      exact hw
    ·refine ih (y :: x :: t) (by simp) (Ua9.mpr ⟨hm,nd⟩) (fun z hz=>?_) (fun k a b h1 h2=>?_) (by rw [Uaz];omega)
     ·rcases Uan.mp hz with rfl | hz
      ·exact hy
      ·exact sub z hz
     ·cases k with
      | zero=>
       cases h1
       cases h2
       exact hw
      | succ k=>exact ch k a b h1 h2
 obtain ⟨x,hx⟩:=List.exists_mem_of_ne_nil ls hne
 exact grow (ls.length + 1) [x] (by simp) (by simp) (fun y hy=>by rw [Uag.mp hy];exact hx) (fun i a b h1 h2=>by simp at h2) (by show ls.length < 1 + (ls.length + 1);omega)
theorem Zvx {ws:List (Int×Int)} {hs:List Int} (hu:∀ q∈ws,q.1≠q.2):peelsM ws hs hs.length=[]↔¬ ∃ r,Ring hs ws r:=by
 constructor
 ·rintro h ⟨r,R⟩
  have two:=R.two
  have h0:0 < r.length:=by omega
  have:=Zhw R hs.length r[0] (Uaw h0)
  rw [h] at this
  cases this
 ·intro h
  rcases Zoh ws hs hs.length with ⟨k,hk,e⟩ | hl
  ·have e2:=Zl6 ws hs e (hs.length - k)
   rw [show k + (hs.length - k)=hs.length by omega] at e2
   rw [e2]
   by_cases hne:peelsM ws hs k=[]
   ·exact hne
   ·obtain ⟨r,R⟩:=Zvd hu hne (fun x hx=>by
     rw [← e] at hx
     exact (mem_peel.mp hx).2)
    exact absurd ⟨r,R.two,R.nodup,fun x hx=>(Zpg ws hs k).subset (R.sub x hx),R.chain,R.last⟩ h
  ·exact Ub3.mp (by omega)
end M
namespace M
def sl:List Int->List Int->Prop
 | x :: xs,y :: ys=>x < y\/(x=y/\sl xs ys)
 | _,_=>False
theorem sl_cons {l:Int} {a b:List Int}:sl (l :: a) (l :: b)↔sl a b:=by
 show (l < l\/(l=l/\sl a b))↔sl a b
 constructor
 ·rintro (h | ⟨_,h⟩)
  ·omega
  ·exact h
 ·exact fun h=>.inr ⟨rfl,h⟩
theorem Zqb:∀ {a b:List Int} (x y:Int),sl a b->sl (a++[x]) (b++[y])
 | [],[],_,_,h=>by unfold sl at h;exact h.elim
 | [],_ :: _,_,_,h=>by unfold sl at h;exact h.elim
 | _ :: _,[],_,_,h=>by unfold sl at h;exact h.elim
 | p :: a,q :: b,x,y,h=>by
  rw [Ubf,Ubf]
  unfold sl at h ⊢
  rcases h with h | ⟨h1,h2⟩
  ·exact .inl h
  ·exact .inr ⟨h1,Zqb x y h2⟩
theorem Zu6:∀ {a:List Int} {x y:Int},x < y->sl (a++[x]) (a++[y])
 | [],x,y,h=>.inl h
 | p :: a,x,y,h=>by
  rw [Ubf,Ubf]
  exact .inr ⟨rfl,Zu6 h⟩
theorem Zmj:∀ {a b c:List Int},sl a b->sl b c->sl a c
 | [],b,c,h,_=>by unfold sl at h;exact h.elim
 | _ :: _,[],_,h,_=>by unfold sl at h;exact h.elim
 | _ :: _,_ :: _,[],_,h=>by unfold sl at h;exact h.elim
 | x :: a,y :: b,z :: c,h1,h2=>by
  unfold sl at h1 h2 ⊢
  rcases h1 with h1 | ⟨h1,k1⟩
  ·rcases h2 with h2 | ⟨h2,k2⟩
   ·exact .inl (by omega)
   ·exact .inl (by omega)
  ·rcases h2 with h2 | ⟨h2,k2⟩
   ·exact .inl (by omega)
   ·exact .inr ⟨by omega,Zmj k1 k2⟩
def lastI (g:Int):List Int->Int
 | []=>g
 | x :: t=>lastI x t
theorem Zbo (g:Int):∀ (a b:List Int),lastI g (a++b)=lastI (lastI g a) b
 | [],b=>rfl
 | x :: a,b=>Zbo x a b
theorem Zjl (g:Int):∀ (t:List Int),(g :: t)[t.length]?=some (lastI g t)
 | []=>rfl
 | x :: t=>by
  rw [Uaz,Uce]
  exact Zjl x t
def Path (C:Int->Prop) (ws:List (Int×Int)):Int->List Int->Prop
 | _,[]=>True
 | g,x :: t=>C x/\(g,x)∈ws/\Path C ws x t
section
variable {C:Int->Prop} {ws:List (Int×Int)}
theorem path_app:∀ {g:Int} {a b:List Int},Path C ws g (a++b)↔Path C ws g a/\Path C ws (lastI g a) b
 | g,[],b=>⟨fun h=>⟨trivial,h⟩,fun h=>h.2⟩
 | g,x :: a,b=>by
  rw [Ubf]
  constructor
  ·rintro ⟨h1,h2,h3⟩
   have:=path_app.mp h3
   exact ⟨⟨h1,h2,this.1⟩,this.2⟩
  ·rintro ⟨⟨h1,h2,h3⟩,h4⟩
   exact ⟨h1,h2,path_app.mpr ⟨h3,h4⟩⟩
theorem Zri:∀ {g:Int} {t:List Int},Path C ws g t->∀ x∈t,C x
 | g,[],_,x,h=>by cases h
 | g,y :: t,⟨h1,_,h3⟩,x,h=>by
  rcases Uan.mp h with rfl | h
  ·exact h1
  ·exact Zri h3 x h
theorem Zmd:∀ {g:Int} {t:List Int},Path C ws g t->Chain ws (g :: t)
 | g,[],_=>fun i x y h1 h2=>by simp at h2
 | g,z :: t,⟨h1,h2,h3⟩=>fun i x y k1 k2=>by
  cases i with
  | zero=>
   cases k1
   cases k2
   exact h2
  | succ i=>exact Zmd h3 i x y k1 k2
theorem Zme:∀ {g:Int} {t:List Int},Chain ws (g :: t)->(∀ x∈t,C x)->Path C ws g t
 | g,[],_,_=>trivial
 | g,z :: t,h,hc=>⟨hc z Ua1,h 0 g z rfl rfl,Zme (fun i x y k1 k2=>h (i + 1) x y k1 k2) fun x hx=>hc x (Uav _ hx)⟩
end
def Gr (hs:List Int) (l:Int):Int->Prop:=fun x=>x∈hs/\l < x
def Closed (hs:List Int) (ws:List (Int×Int)) (l:Int) (t:List Int):Prop:=Path (Gr hs l) ws l t/\(lastI l t,l)∈ws
def RF (hs:List Int) (ws:List (Int×Int)) (l:Int) (r:List Int):Prop:=
 (r=[]/\∀ t,¬ Closed hs ws l t)\/∃ t,r=l :: t/\Closed hs ws l t/\∀ u,Closed hs ws l u->t.length < u.length\/(t.length=u.length/\(t=u\/sl t u))
structure Lev (hs:List Int) (ws:List (Int×Int)) (l:Int) (k:Nat) (ps:List (List Int)) (ls:List Int):Prop where
 way:∀ p∈ps,p.length=k/\Path (Gr hs l) ws l p
 srt:ps.Pairwise sl
 lin:∀ h∈ls,Gr hs l h
 lsrt:ls.Pairwise (· < ·)
 cover:∀ t,t.length<=k->Path (Gr hs l) ws l t->lastI l t∉ls
 first:∀ t,t.length=k->Path (Gr hs l) ws l t->(∃ p∈ps,lastI l p=lastI l t/\(p=t\/sl p t))\/∃ u,u.length < k/\Path (Gr hs l) ws l u/\lastI l u=lastI l t
 none:∀ t,t.length < k->¬ Closed hs ws l t
 comp:∀ h,Gr hs l h->h∉ls->∃ t,t.length<=k/\Path (Gr hs l) ws l t/\lastI l t=h
section
variable {hs:List Int} {ws:List (Int×Int)} {l:Int} {k:Nat} {ps:List (List Int)} {ls:List Int}
theorem Lev.start (hl:ls.Pairwise (· < ·)) (hm:∀ h,h∈ls↔Gr hs l h):Lev hs ws l 0 [[]] ls:=by
 have nil:∀ t:List Int,t.length=0->t=[]:=fun t h=>Ub3.mp h
 refine ⟨fun p hp=>?_,by simp,fun h hh=>(hm h).mp hh,hl,fun t ht _ h=>?_,fun t ht _=>.inl ⟨[],by simp,by rw [nil t ht],.inl (nil t ht).symm⟩,fun t ht=>by omega,fun h hh hn=>absurd ((hm h).mpr hh) hn⟩
 ·rw [Uag.mp hp]
  exact ⟨rfl,trivial⟩
 ·rw [nil t (by omega)] at h
  have:=((hm _).mp h).2
  exact absurd this (by show ¬ l < l;omega)
theorem Lev.found (L:Lev hs ws l k ps ls) {p:List Int} {i:Nat} (hi:i < ps.length) (ep:ps[i]=p) (hc:(lastI l p,l)∈ws) (hf:∀ j (hj:j < ps.length),j < i->(lastI l ps[j],l)∉ws):RF hs ws l (l :: p):=by
 have hp:p∈ps:=by rw [← ep];exact Uaw hi
 obtain ⟨w1,w2⟩:=L.way p hp
 refine .inr ⟨p,rfl,⟨w2,hc⟩,fun u hu=>?_⟩
 by_cases h1:u.length < k
 ·exact absurd hu (L.none u h1)
 ·by_cases h2:u.length=k
  ·rcases L.first u h2 hu.1 with ⟨q,hq,e1,e2⟩ | ⟨v,v1,v2,v3⟩
   ·refine .inr ⟨by omega,?_⟩
    obtain ⟨j,hj,ej⟩:=Ubd.mp hq
    have hcq:(lastI l ps[j],l)∈ws:=by rw [ej,e1];exact hu.2
    have hij:i<=j:=Nat.le_of_not_lt fun z=>hf j hj z hcq
    have hpq:p=q\/sl p q:=by
     by_cases e:i=j
     ·subst e
      exact .inl (ep.symm.trans ej)
     ·have:=Ubl.mp L.srt i j hi hj (by omega)
      rw [ep,ej] at this
      exact .inr this
    rcases hpq with rfl | hpq
    ·exact e2
    ·rcases e2 with rfl | e2
     ·exact .inr hpq
     ·exact .inr (Zmj hpq e2)
   ·exact absurd ⟨v2,by rw [v3];exact hu.2⟩ (L.none v v1)
  ·exact .inl (by omega)
theorem Lev.none_here (L:Lev hs ws l k ps ls) (h:∀ p∈ps,(lastI l p,l)∉ws):∀ t,t.length < k + 1->¬ Closed hs ws l t:=fun t ht hc=>by
 by_cases h1:t.length < k
 ·exact L.none t h1 hc
 ·rcases L.first t (by omega) hc.1 with ⟨q,hq,e1,e2⟩ | ⟨v,v1,v2,v3⟩
  ·exact h q hq (by rw [e1];exact hc.2)
  ·exact L.none v v1 ⟨v2,by rw [v3];exact hc.2⟩
theorem Lev.over (L:Lev hs ws l k [] ls):RF hs ws l []:=by
 refine .inl ⟨rfl,?_⟩
 have early:∀ (n:Nat) (t:List Int),t.length=n->Path (Gr hs l) ws l t->∃ u,u.length < k/\Path (Gr hs l) ws l u/\lastI l u=lastI l t:=by
  intro n
  induction n with
  | zero=>
   intro t ht hp
   by_cases hk:0 < k
   ·exact ⟨t,by omega,hp,rfl⟩
   ·rcases L.first t (by omega) hp with ⟨q,hq,_⟩ | ⟨v,v1,_⟩
    ·cases hq
    ·omega
  | succ n ih=>
   intro t ht hp
   have ne:t≠[]:=fun z=>by rw [z] at ht;cases ht
   have et:t=t.dropLast++[t.getLast ne]:=(Uck ne).symm
   generalize t.getLast ne=x at et
   generalize t.dropLast=s at et
   subst et
   obtain ⟨p1,p2⟩:=path_app.mp hp
   obtain ⟨u,u1,u2,u3⟩:=ih s (by simpa using ht) p1
   have pu:Path (Gr hs l) ws l (u++[x]):=path_app.mpr ⟨u2,by rw [u3];exact p2⟩
   have lu:lastI l (u++[x])=lastI l (s++[x]):=by rw [Zbo,Zbo];rfl
   by_cases h1:(u++[x]).length < k
   ·exact ⟨_,h1,pu,lu⟩
   ·rcases L.first (u++[x]) (by rw [Uat] at h1 ⊢;simp at h1 ⊢;omega) pu with ⟨q,hq,_⟩ | ⟨v,v1,v2,v3⟩
    ·cases hq
    ·exact ⟨v,v1,v2,v3.trans lu⟩
 intro t hc
 obtain ⟨u,u1,u2,u3⟩:=early t.length t rfl hc.1
 exact L.none u u1 ⟨u2,by rw [u3];exact hc.2⟩
structure LG (ws:List (Int×Int)) (l:Int) (P:List Int->Int->Prop) (lg:List (List Int)):Prop where
 mem:∀ q∈lg,∃ p h,P p h/\q=p++[h]/\(lastI l p,h)∈ws
 srt:lg.Pairwise sl
 has:∀ p h,P p h->(lastI l p,h)∈ws->∃ p',p'++[h]∈lg/\(p'=p\/sl p' p)
theorem Lev.next {lg:List (List Int)} {ls':List Int} (L:Lev hs ws l k ps ls) (hn:∀ p∈ps,(lastI l p,l)∉ws) (G:LG ws l (fun p h=>p∈ps/\h∈ls) lg)
  (e:ls'=ls.filter fun h=>decide (¬ h∈lg.map (lastI l))):Lev hs ws l (k + 1) lg ls':=by
 have mem':∀ h,h∈ls'↔h∈ls/\¬ h∈lg.map (lastI l):=fun h=>by rw [e,Ua7,decide_eq_true_eq]
 have way':∀ q∈lg,q.length=k + 1/\Path (Gr hs l) ws l q:=fun q hq=>by
  obtain ⟨p,h,⟨h1,h2⟩,rfl,h3⟩:=G.mem q hq
  obtain ⟨w1,w2⟩:=L.way p h1
  exact ⟨by simp [w1],path_app.mpr ⟨w2,L.lin h h2,h3,trivial⟩⟩
 have reach:∀ (s:List Int) (x:Int),s.length=k->Path (Gr hs l) ws l s->Gr hs l x->(lastI l s,x)∈ws->x∈ls->∃ p∈ps,lastI l p=lastI l s/\(p=s\/sl p s):=fun s x h1 h2 h3 h4 h5=>by
  rcases L.first s h1 h2 with z | ⟨v,v1,v2,v3⟩
  ·exact z
  ·have:=L.cover (v++[x]) (by simp;omega) (path_app.mpr ⟨v2,h3,by rw [v3];exact h4,trivial⟩)
   rw [Zbo] at this
   exact absurd h5 this
 refine ⟨way',G.srt,fun h hh=>L.lin h ((mem' h).mp hh).1,?_,fun t ht hp hl=>?_,fun t ht hp=>?_,L.none_here hn,fun h hg hnl=>?_⟩
 ·rw [e]
  exact L.lsrt.filter _
 ·obtain ⟨m1,m2⟩:=(mem' _).mp hl
  by_cases h1:t.length<=k
  ·exact L.cover t h1 hp m1
  ·have ne:t≠[]:=fun z=>by rw [z] at h1;simp at h1
   have et:t=t.dropLast++[t.getLast ne]:=(Uck ne).symm
   generalize t.getLast ne=x at et
   generalize t.dropLast=s at et
   subst et
   obtain ⟨p1,p2,p3,_⟩:=path_app.mp hp
   rw [Zbo] at m1 m2
   obtain ⟨p,hp',e1,_⟩:=reach s x (by simp at ht h1;omega) p1 p2 p3 m1
   obtain ⟨p',k1,_⟩:=G.has p x ⟨hp',m1⟩ (by rw [e1];exact p3)
   exact m2 (Ua5.mpr ⟨_,k1,by rw [Zbo];rfl⟩)
 ·have ne:t≠[]:=fun z=>by rw [z] at ht;simp at ht
  have et:t=t.dropLast++[t.getLast ne]:=(Uck ne).symm
  generalize t.getLast ne=x at et
  generalize t.dropLast=s at et
  subst et
  obtain ⟨p1,p2,p3,_⟩:=path_app.mp hp
  have hs':s.length=k:=by simpa using ht
  by_cases hx:x∈ls
  ·obtain ⟨p,hp',e1,e2⟩:=reach s x hs' p1 p2 p3 hx
   obtain ⟨p',k1,k2⟩:=G.has p x ⟨hp',hx⟩ (by rw [e1];exact p3)
   refine .inl ⟨_,k1,by rw [Zbo,Zbo];rfl,?_⟩
   have:p'=s\/sl p' s:=by
    rcases k2 with rfl | k2
    ·exact e2
    ·rcases e2 with rfl | e2
     ·exact .inr k2
     ·exact .inr (Zmj k2 e2)
   rcases this with rfl | h
   ·exact .inl rfl
   ·exact .inr (Zqb x x h)
  ·obtain ⟨u,u1,u2,u3⟩:=L.comp x p2 hx
   exact .inr ⟨u,by omega,u2,by rw [u3,Zbo];rfl⟩
 ·by_cases hx:h∈ls
  ·have:h∈lg.map (lastI l):=Classical.byContradiction fun z=>hnl ((mem' h).mpr ⟨hx,z⟩)
   obtain ⟨q,hq,e1⟩:=Ua5.mp this
   obtain ⟨w1,w2⟩:=way' q hq
   exact ⟨q,by omega,w2,e1⟩
  ·obtain ⟨u,u1,u2,u3⟩:=L.comp h hg hx
   exact ⟨u,by omega,u2,u3⟩
end
end M
namespace M
def FR (hs:List Int) (ws:List (Int×Int)) (r:List Int):Prop:=
 (r=[]/\∀ l∈hs,∀ t,¬ Closed hs ws l t)\/∃ l t,r=l :: t/\l∈hs/\Closed hs ws l t/\∀ m∈hs,∀ u,Closed hs ws m u->t.length < u.length\/(t.length=u.length/\(l < m\/(l=m/\(t=u\/sl t u))))
theorem Zrv:∀ (r:List Int),r≠[]->∃ i,∃ h:i < r.length,∀ x∈r,r[i]<=x
 | [],h=>absurd rfl h
 | [a],_=>⟨0,by simp,fun x hx=>by rw [Uag.mp hx];exact Ub0 _⟩
 | a :: b :: r,_=>by
  obtain ⟨i,hi,h⟩:=Zrv (b :: r) (by simp)
  by_cases c:a<=(b :: r)[i]
  ·refine ⟨0,by simp,fun x hx=>?_⟩
   rcases Uan.mp hx with rfl | hx
   ·exact Ub0 _
   ·exact Int.le_trans c (h x hx)
  ·refine ⟨i + 1,by simpa using hi,fun x hx=>?_⟩
   have e:(a :: b :: r)[i + 1]'(by simpa using hi)=(b :: r)[i]:=rfl
   rw [e]
   rcases Uan.mp hx with rfl | hx
   ·omega
   ·exact h x hx
theorem Zux (r:List Int) {i j:Nat} (hi:i<=r.length):(r.drop i++r.take i)[j]?=if i + j < r.length then r[i + j]? else if j < r.length then r[i + j - r.length]? else none:=by
 rw [List.getElem?_append,Ucn,List.getElem?_drop]
 by_cases h:i + j < r.length
 ·rw [Uae (by omega),Uae h]
 ·rw [Uad (by omega),Uad h,List.getElem?_take]
  by_cases h2:j < r.length
  ·rw [Uae (by omega),Uae h2]
   congr 1
   omega
  ·rw [Uad (by omega),Uad h2]
theorem Zqv {hs:List Int} {ws:List (Int×Int)} {r:List Int} (R:Ring hs ws r):∃ l∈hs,∃ t,Closed hs ws l t/\t.length + 1=r.length:=by
 have two:=R.two
 obtain ⟨i,hi,hmin⟩:=Zrv r (fun z=>by rw [z] at two;simp at two)
 have erot:r.drop i++r.take i=r[i] :: (r.drop (i + 1)++r.take i):=by rw [Uba hi];rfl
 have hlen:(r.drop (i + 1)++r.take i).length + 1=r.length:=by rw [Uat,Ucn,Ua4];omega
 have ch:Chain ws (r[i] :: (r.drop (i + 1)++r.take i)):=by
  rw [← erot]
  intro j x y h1 h2
  rw [Zux r (by omega)] at h1 h2
  by_cases c1:i + (j + 1) < r.length
  ·rw [Uae c1] at h2
   rw [Uae (by omega)] at h1
   exact R.chain (i + j) x y h1 h2
  ·rw [Uad c1] at h2
   by_cases c2:j + 1 < r.length
   ·rw [Uae c2] at h2
    by_cases c3:i + j < r.length
    ·rw [Uae c3] at h1
     have e1:i + j=r.length - 1:=by omega
     have e2:i + (j + 1) - r.length=0:=by omega
     rw [e1] at h1
     rw [e2] at h2
     exact R.last y x h2 h1
    ·rw [Uad c3,Uae (by omega)] at h1
     have e:i + (j + 1) - r.length=(i + j - r.length) + 1:=by omega
     rw [e] at h2
     exact R.chain _ x y h1 h2
   ·rw [Uad c2] at h2
    cases h2
 refine ⟨r[i],R.sub _ (Uaw hi),r.drop (i + 1)++r.take i,⟨Zme ch fun x hx=>?_,?_⟩,hlen⟩
 ·have hxr:x∈r:=(Ua0.mp hx).elim List.mem_of_mem_drop List.mem_of_mem_take
  refine ⟨R.sub x hxr,Int.lt_iff_le_and_ne.mpr ⟨hmin x hxr,fun z=>?_⟩⟩
  have nd:(r.drop i++r.take i).Nodup:=by
   have:(r.take i++r.drop i).Perm (r.drop i++r.take i):=List.perm_append_comm
   rw [← this.nodup_iff,Ucl]
   exact R.nodup
  rw [erot] at nd
  exact (Ua9.mp nd).1 (by rw [z];exact hx)
 ·have e1:=Zjl r[i] (r.drop (i + 1)++r.take i)
  rw [← erot,Zux r (by omega)] at e1
  have e2:(r.drop (i + 1)++r.take i).length=r.length - 1:=by omega
  rw [e2] at e1
  by_cases c:i=0
  ·subst c
   rw [Uae (by omega)] at e1
   exact R.last _ _ (Uaa hi) (by simpa using e1)
  ·rw [Uad (by omega),Uae (by omega)] at e1
   have e3:i + (r.length - 1) - r.length=i - 1:=by omega
   rw [e3] at e1
   exact R.chain (i - 1) _ _ e1 (by rw [show i - 1 + 1=i by omega];exact Uaa hi)
theorem Zn0:∀ {t:List Int},¬ t.Nodup->∃ a x b c,t=a++x :: (b++x :: c)
 | [],h=>absurd Ub9 h
 | y :: t,h=>by
  by_cases hy:y∈t
  ·obtain ⟨b,c,e⟩:=List.append_of_mem hy
   exact ⟨[],y,b,c,by rw [e];rfl⟩
  ·obtain ⟨a,x,b,c,e⟩:=Zn0 (t:=t) fun z=>h (Ua9.mpr ⟨hy,z⟩)
   exact ⟨y :: a,x,b,c,by rw [e];rfl⟩
theorem Zqa {hs:List Int} {ws:List (Int×Int)} {l:Int} {t:List Int} (hu:∀ q∈ws,q.1≠q.2) (hl:l∈hs) (hc:Closed hs ws l t) (hmin:∀ u,Closed hs ws l u->t.length<=u.length):Ring hs ws (l :: t):=by
 have hne:t≠[]:=fun z=>by
  have h2:=hc.2
  rw [z] at h2
  exact hu _ h2 rfl
 have hg:=Zri hc.1
 refine ⟨by have:=List.length_pos_iff.mpr hne;simp;omega,Ua9.mpr ⟨fun z=>absurd (hg l z).2 (by omega),?_⟩,fun x hx=>?_,Zmd hc.1,fun x y h1 h2=>?_⟩
 ·refine Classical.byContradiction fun z=>?_
  obtain ⟨a,x,b,c,e⟩:=Zn0 z
  have h1:=hc.1
  rw [e] at h1
  obtain ⟨p1,p2⟩:=path_app.mp h1
  have p3:=(path_app (a:=x :: b) (b:=x :: c) (g:=lastI l a)).mp p2
  have cl:Closed hs ws l (a++x :: c):=by
   refine ⟨path_app.mpr ⟨p1,p2.1,p2.2.1,p3.2.2.2⟩,?_⟩
   have e2:lastI l (a++x :: c)=lastI l t:=by
    rw [e,Zbo,Zbo]
    show lastI x c=lastI x (b++x :: c)
    rw [Zbo]
    rfl
   rw [e2]
   exact hc.2
  have:=hmin _ cl
  rw [e] at this
  simp at this
  omega
 ·rcases Uan.mp hx with rfl | hx
  ·exact hl
  ·exact (hg x hx).1
 ·cases h1
  have e:=Zjl l t
  simp only [Uaz,Ucz] at h2
  rw [e] at h2
  cases h2
  exact hc.2
theorem FR.none_iff {hs:List Int} {ws:List (Int×Int)} {r:List Int} (hu:∀ q∈ws,q.1≠q.2) (F:FR hs ws r):r=[]↔¬ ∃ r,Ring hs ws r:=by
 constructor
 ·rintro rfl ⟨r,R⟩
  obtain ⟨l,hl,t,hc,_⟩:=Zqv R
  rcases F with ⟨_,F⟩ | ⟨_,_,e,_⟩
  ·exact F l hl t hc
  ·cases e
 ·intro h
  rcases F with ⟨e,_⟩ | ⟨l,t,rfl,hl,hc,hm⟩
  ·exact e
  ·refine absurd ⟨_,Zqa hu hl hc fun u hu'=>?_⟩ h
   rcases hm l hl u hu' with z | ⟨z,_⟩<;>omega
def Wishes (ws:List (Int×Int)):Prop:=ws.length<=20/\ws.Nodup/\∀ q∈ws,(1<=q.1/\q.1<=10/\1<=q.2/\q.2<=10)/\q.1≠q.2
end M
namespace M
open Own
def exM (ps:List (Int×Int)) (ns:List Int) (p:Nat):Int:=(ps.getD (ns.getD (p - 1) 0 - 1).toNat (0,0)).2 * (ps.getD (ns.getD p 0 - 1).toNat (0,0)).2
def swapM (ns:List Int) (p:Nat):List Int:=ns.take (p - 1)++[ns.getD p 0,ns.getD (p - 1) 0]++ns.drop (p + 1)
def walkM (ps:List (Int×Int)):List Int->List Int×Int->Option (List Int×Int)
 | [],st=>some st
 | p :: r,st=>if p < 1\/(ps.length:Int)<=p then none else walkM ps r (swapM st.1 p.toNat,st.2 + exM ps st.1 p.toNat)
theorem Zfq {ns:List Int} {p:Nat} (h1:1<=p) (h2:p < ns.length):(swapM ns p).Perm ns:=by
 unfold swapM
 have e1:ns.getD p 0=ns[p]:=by rw [Uac,Uaa h2];rfl
 have e2:ns.getD (p - 1) 0=ns[p - 1]'(by omega):=by rw [Uac,Uaa (by omega)];rfl
 rw [e1,e2]
 have e:ns=ns.take (p - 1)++[ns[p - 1]'(by omega),ns[p]]++ns.drop (p + 1):=by
  have h3:ns.drop (p - 1)=ns[p - 1]'(by omega) :: ns.drop (p - 1 + 1):=Uba (by omega)
  have h4:ns.drop p=ns[p] :: ns.drop (p + 1):=Uba h2
  have h5:p - 1 + 1=p:=by omega
  rw [h5,h4] at h3
  calc ns=ns.take (p - 1)++ns.drop (p - 1):=(Ucl _ _).symm
   _=_:=by rw [h3];simp
 refine List.Perm.trans ?_ (List.Perm.of_eq e.symm)
 exact List.Perm.append_right _ (List.Perm.append_left _ (List.Perm.swap _ _ _))
theorem runI_mem {n:Nat} {x:Int}:x∈runI 1 n↔1<=x/\x<=n:=by
 unfold runI
 rw [Ua5]
 constructor
 ·rintro ⟨k,hk,rfl⟩
  have:=Udj.mp hk
  omega
 ·intro h
  exact ⟨(x - 1).toNat,Udj.mpr (by omega),by omega⟩
theorem Zc0 (n:Nat):(runI 1 n).length=n:=by unfold runI;rw [Uab,Uc4]
theorem Zhn (ps:List (Int×Int)) (st:List Int×Int):walkM ps [] st=some st:=rfl
theorem Zct (ps:List (Int×Int)) (p:Int) (r:List Int) (st:List Int×Int):walkM ps (p :: r) st=if p < 1\/(ps.length:Int)<=p then none else walkM ps r (swapM st.1 p.toNat,st.2 + exM ps st.1 p.toNat):=rfl
theorem Zwl {α:Type} (a b:List α) (x y:α):((a++x :: y :: b).set a.length y).set (a.length + 1) x=a++y :: x :: b:=by
 rw [List.set_append_right _ _ (Uah _),Nat.sub_self,List.set_cons_zero,List.set_append_right _ _ (Ucr _)]
 have:a.length + 1 - a.length=1:=by omega
 rw [this]
 rfl
theorem Zu1 {ns:List Int} {p:Nat} (h1:1<=p) (h2:p < ns.length):(ns.set (p - 1) ns[p]).set p (ns[p - 1]'(by omega))=swapM ns p:=by
 have h3:ns.drop (p - 1)=ns[p - 1]'(by omega) :: ns.drop (p - 1 + 1):=Uba (by omega)
 have h4:ns.drop p=ns[p] :: ns.drop (p + 1):=Uba h2
 have h5:p - 1 + 1=p:=by omega
 rw [h5,h4] at h3
 have e:ns=ns.take (p - 1)++ns[p - 1]'(by omega) :: ns[p] :: ns.drop (p + 1):=by rw [← h3,Ucl]
 have e1:ns.getD p 0=ns[p]:=by rw [Uac,Uaa h2];rfl
 have e2:ns.getD (p - 1) 0=ns[p - 1]'(by omega):=by rw [Uac,Uaa (by omega)];rfl
 have hl:(ns.take (p - 1)).length=p - 1:=by rw [Ua4];omega
 unfold swapM
 rw [e1,e2]
 generalize ns[p - 1]'(by omega)=x at e
 generalize ns[p]=y at e
 generalize ns.take (p - 1)=a at e hl
 generalize ns.drop (p + 1)=b at e
 have:=Zwl a b x y
 rw [hl,h5,← e] at this
 rw [this]
 simp
end M
namespace Pu
open PySem PySem.Spec PyProof.Rows L2 Own
inductive D where
 | int (i:Int) | bl (b:Bool) | non | str (x:Str) | ty (n:String) | tup (ds:List D) | lst (ds:List D) | scr (ns:List Int) | dK (kvs:List (Key×V)) | dT (kvs:List (List Key×V)) | loc (a:Addr) (d:D) | err (C:Addr) | ref (a:Addr) | ins (C:Addr) (xs:List Str) (ds:List D)
mutual
inductive Rp (K:PySem.W.Frag) (H:Hp):D->V->Prop
 | int (i:Int):Rp K H (.int i) (.int i)
 | bl (b:Bool):Rp K H (.bl b) (.bl b)
 | non:Rp K H .non .non
 | str (x:Str):Rp K H (.str x) (.str x)
 | ty (n:String):Rp K H (.ty n) (.ty n)
 | tup {ds:List D} {vs:List V} {a:Addr}:H a=some (.tup vs)->Rps K H ds vs->Rp K H (.tup ds) (.ref a)
 | lst {ds:List D} {vs:List V} {a:Addr}:H a=some (.lst vs)->Rps K H ds vs->Rp K H (.lst ds) (.ref a)
 | scr {ns:List Int} {a:Addr}:SqL K H a (ns.map V.int)->Rp K H (.scr ns) (.ref a)
 | dK {kvs:List (Key×V)} {a:Addr}:H a=some (.dK kvs)->Rp K H (.dK kvs) (.ref a)
 | dT {kvs:List (List Key×V)} {a:Addr}:H a=some (.dT kvs)->Rp K H (.dT kvs) (.ref a)
 | loc {d:D} {a:Addr}:Rp K H d (.ref a)->Rp K H (.loc a d) (.ref a)
 | err {C a:Addr}:H a=some (ExcR.ErrH a C)->Rp K H (.err C) (.ref a)
 | ref (a:Addr):Rp K H (.ref a) (.ref a)
 | ins {C a dx:Addr} {xs:List Str} {ds:List D} {vs:List V}:H a=some (.ins C dx (xs.zip vs))->xs.length=vs.length->Rps K H ds vs->Rp K H (.ins C xs ds) (.ref a)
inductive Rps (K:PySem.W.Frag) (H:Hp):List D->List V->Prop
 | nil:Rps K H [] []
 | cons {d:D} {v:V} {ds:List D} {vs:List V}:Rp K H d v->Rps K H ds vs->Rps K H (d :: ds) (v :: vs)
end
section
variable {K:PySem.W.Frag} {H H':Hp}
mutual
theorem Rp.mono (S:Same H H'):∀ {d:D} {v:V},Rp K H d v->Rp K H' d v
 | _,_,.int i=>.int i
 | _,_,.bl b=>.bl b
 | _,_,.non=>.non
 | _,_,.str x=>.str x
 | _,_,.ty n=>.ty n
 | _,_,.tup h r=>.tup (S _ _ h) (Rps.mono S r)
 | _,_,.lst h r=>.lst (S _ _ h) (Rps.mono S r)
 | _,_,.scr h=>.scr (S.seq h)
 | _,_,.dK h=>.dK (S _ _ h)
 | _,_,.dT h=>.dT (S _ _ h)
 | _,_,.loc h=>.loc (Rp.mono S h)
 | _,_,.err h=>.err (S _ _ h)
 | _,_,.ref a=>.ref a
 | _,_,.ins h e r=>.ins (S _ _ h) e (Rps.mono S r)
theorem Rps.mono (S:Same H H'):∀ {ds:List D} {vs:List V},Rps K H ds vs->Rps K H' ds vs
 | _,_,.nil=>.nil
 | _,_,.cons h r=>.cons (Rp.mono S h) (Rps.mono S r)
end
theorem Rps.len:∀ {ds:List D} {vs:List V},Rps K H ds vs->vs.length=ds.length
 | _,_,.nil=>rfl
 | _,_,.cons _ r=>Ube (· + 1) (Rps.len r)
theorem Rps.get:∀ {ds:List D} {vs:List V} {i:Nat} {d:D},Rps K H ds vs->ds[i]?=some d->∃ v,vs[i]?=some v/\Rp K H d v
 | _,_,_,_,.nil,e=>by simp at e
 | _,_,0,_,.cons h _,e=>by simp at e;subst e;exact ⟨_,rfl,h⟩
 | _,_,i + 1,d,.cons _ r,e=>by
  obtain ⟨v,h1,h2⟩:=Rps.get (i:=i) (d:=d) r (by simpa using e)
  exact ⟨v,by simpa using h1,h2⟩
theorem Rps.append:∀ {ds es:List D} {vs us:List V},Rps K H ds vs->Rps K H es us->Rps K H (ds++es) (vs++us)
 | _,_,_,_,.nil,s=>s
 | _,_,_,_,.cons h r,s=>.cons h (Rps.append r s)
theorem Rps.drop:∀ {ds:List D} {vs:List V} (n:Nat),Rps K H ds vs->Rps K H (ds.drop n) (vs.drop n)
 | _,_,0,r=>r
 | _,_,_ + 1,.nil=>.nil
 | _,_,n + 1,.cons _ r=>Rps.drop n r
theorem Rps.take:∀ {ds:List D} {vs:List V} (n:Nat),Rps K H ds vs->Rps K H (ds.take n) (vs.take n)
 | _,_,0,_=>.nil
 | _,_,_ + 1,.nil=>.nil
 | _,_,n + 1,.cons h r=>.cons h (Rps.take n r)
end
mutual
def imm:D->Bool
 | .tup ds=>imms ds
 | .lst _=>false
 | .scr _=>false
 | .dK _=>false
 | .dT _=>false
 | .loc _ _=>false
 | .err _=>false
 | .ins _ _ _=>false
 | _=>true
def imms:List D->Bool
 | []=>true
 | d :: r=>imm d && imms r
end
open Classical in
noncomputable def off (Z:Addr->Prop) (H:Hp):Hp:=fun b=>if Z b then none else H b
section
variable {K:PySem.W.Frag} {H H':Hp} {Z Z':Addr->Prop}
theorem Zgl {b:Addr} {o:HO} (h:off Z H b=some o):H b=some o/\¬ Z b:=by
 unfold off at h
 by_cases z:Z b
 ·rw [Uae z] at h;cases h
 ·rw [Uad z] at h;exact ⟨h,z⟩
theorem Zc {b:Addr} {o:HO} (h:H b=some o) (z:¬ Z b):off Z H b=some o:=by
 unfold off
 rw [Uad z]
 exact h
theorem Zal (S:Same H H') (hz:∀ b o,H b=some o->¬ Z b->¬ Z' b):Same (off Z H) (off Z' H'):=fun b o h=>by
 obtain ⟨h1,h2⟩:=Zgl h
 exact Zc (S b o h1) (hz b o h1 h2)
theorem off_sub:Same (off Z H) H:=fun _ _ h=>(Zgl h).1
mutual
theorem Rp.off (hm:∀ b,Z b->Mut (H b)):∀ {d:D} {v:V},Rp K H d v->imm d=true->Rp K (off Z H) d v
 | _,_,.int i,_=>.int i
 | _,_,.bl b,_=>.bl b
 | _,_,.non,_=>.non
 | _,_,.str x,_=>.str x
 | _,_,.ty n,_=>.ty n
 | _,_,.tup h r,e=>.tup (Zc h fun z=>by have:=hm _ z;rw [h] at this;exact this) (Rps.off hm r (by unfold imm at e;exact e))
 | _,_,.lst _ _,e=>by unfold imm at e;cases e
 | _,_,.scr _,e=>by unfold imm at e;cases e
 | _,_,.dK _,e=>by unfold imm at e;cases e
 | _,_,.dT _,e=>by unfold imm at e;cases e
 | _,_,.loc _,e=>by unfold imm at e;cases e
 | _,_,.err _,e=>by unfold imm at e;cases e
 | _,_,.ref a,_=>.ref a
 | _,_,.ins _ _ _,e=>by unfold imm at e;cases e
theorem Rps.off (hm:∀ b,Z b->Mut (H b)):∀ {ds:List D} {vs:List V},Rps K H ds vs->imms ds=true->Rps K (off Z H) ds vs
 | _,_,.nil,_=>.nil
 | _,_,.cons h r,e=>by
  unfold imms at e
  rw [Ubh] at e
  exact .cons (Rp.off hm h e.1) (Rps.off hm r e.2)
end
end
inductive O where
 | lst (ds:List D) | dK (kvs:List (Key×V)) | dT (kvs:List (List Key×V)) | ins (a C:Addr) (xs:List Str) (cs:List (Addr×List D)) | lsA (a:Addr) (ds:List D)
instance:Coe (List D) O:=⟨O.lst⟩
def O.d:O->D
 | .lst ds=>.lst ds | .dK kvs=>.dK kvs | .dT kvs=>.dT kvs | .ins _ C xs cs=>.ins C xs (cs.map fun c=>.lst c.2) | .lsA _ ds=>.lst ds
def O.adr (a:Addr):O->Addr->Prop
 | .lst _=>fun b=>b=a
 | .dK _=>fun b=>b=a
 | .dT _=>fun b=>b=a
 | .ins x _ _ cs=>fun b=>b=x\/∃ c∈cs,b=c.1
 | .lsA x _=>fun b=>b=x
def OR (K:PySem.W.Frag) (F H:Hp) (a:Addr):O->Prop
 | .lst ds=>∃ vs,H a=some (.lst vs)/\Rps K F ds vs
 | .dK kvs=>H a=some (.dK kvs)
 | .dT kvs=>H a=some (.dT kvs)
 | .lsA x ds=>a=x/\∃ vs,H a=some (.lst vs)/\Rps K F ds vs
 | .ins x C xs cs=>a=x/\xs.length=cs.length/\(∃ dx,H a=some (.ins C dx (xs.zip (cs.map fun c=>V.ref c.1))))/\(∀ c∈cs,∃ vs,H c.1=some (.lst vs)/\Rps K F c.2 vs)/\(cs.map (·.1)).Nodup
theorem OR.mono {K:PySem.W.Frag} {F F' H H':Hp} {a:Addr} {o:O} (S1:Same F F') (S2:∀ b,o.adr a b->∀ x,H b=some x->H' b=some x) (h:OR K F H a o):OR K F' H' a o:=by
 cases o with
 | lst ds=>obtain ⟨vs,h1,h2⟩:=h;exact ⟨vs,S2 _ rfl _ h1,Rps.mono S1 h2⟩
 | dK kvs=>exact S2 _ rfl _ h
 | dT kvs=>exact S2 _ rfl _ h
 | lsA x ds=>obtain ⟨rfl,vs,h1,h2⟩:=h;exact ⟨rfl,vs,S2 _ rfl _ h1,Rps.mono S1 h2⟩
 | ins x C xs cs=>
  obtain ⟨e,l,⟨dx,h1⟩,h2,h3⟩:=h
  exact ⟨e,l,⟨dx,S2 _ (.inl e) _ h1⟩,fun c hc=>let ⟨vs,q1,q2⟩:=h2 c hc;⟨vs,S2 _ (.inr ⟨c,hc,rfl⟩) _ q1,Rps.mono S1 q2⟩,h3⟩
theorem Zn9 {K:PySem.W.Frag} {F:Hp}:∀ {cs:List (Addr×List D)},(∀ c∈cs,∃ vs,F c.1=some (.lst vs)/\Rps K F c.2 vs)->Rps K F (cs.map fun c=>.lst c.2) (cs.map fun c=>V.ref c.1)
 | [],_=>.nil
 | c :: cs,h=>let ⟨_,q1,q2⟩:=h c Ua1;.cons (.lst q1 q2) (Zn9 fun c' hc=>h c' (Uav _ hc))
theorem OR.rpIn {K:PySem.W.Frag} {F F' H:Hp} {a:Addr} {o:O} (S1:Same F F') (S2:∀ b,o.adr a b->∀ x,H b=some x->F' b=some x) (h:OR K F H a o):Rp K F' o.d (.ref a):=by
 cases o with
 | lst ds=>obtain ⟨vs,h1,h2⟩:=h;exact .lst (S2 _ rfl _ h1) (Rps.mono S1 h2)
 | dK kvs=>exact .dK (S2 _ rfl _ h)
 | dT kvs=>exact .dT (S2 _ rfl _ h)
 | lsA x ds=>obtain ⟨rfl,vs,h1,h2⟩:=h;exact .lst (S2 _ rfl _ h1) (Rps.mono S1 h2)
 | ins x C xs cs=>
  obtain ⟨e,l,⟨dx,h1⟩,h2,h3⟩:=h
  exact .ins (S2 _ (.inl e) _ h1) (by rw [Uab];exact l) (Zn9 fun c hc=>let ⟨vs,q1,q2⟩:=h2 c hc;⟨vs,S2 _ (.inr ⟨c,hc,rfl⟩) _ q1,Rps.mono S1 q2⟩)
theorem OR.rp {K:PySem.W.Frag} {F H:Hp} {a:Addr} {o:O} (S1:Same F H) (h:OR K F H a o):Rp K H o.d (.ref a):=h.rpIn S1 fun _ _ _ e=>e
theorem OR.mut {K:PySem.W.Frag} {F H:Hp} {a:Addr} {o:O} (h:OR K F H a o):∀ b,o.adr a b->Mut (H b):=by
 cases o with
 | lst ds=>obtain ⟨vs,h1,h2⟩:=h;intro b e;rw [show b=a from e,h1];trivial
 | dK kvs=>intro b e;rw [show b=a from e,show H a=some (.dK kvs) from h];trivial
 | dT kvs=>intro b e;rw [show b=a from e,show H a=some (.dT kvs) from h];trivial
 | lsA x ds=>obtain ⟨rfl,vs,h1,h2⟩:=h;intro b e;rw [show b=a from e,h1];trivial
 | ins x C xs cs=>
  obtain ⟨e,l,⟨dx,h1⟩,h2,h3⟩:=h
  intro b hb
  rcases hb with hb | ⟨c,hc,hb⟩
  ·rw [show b=a from hb.trans e.symm,h1];trivial
  ·obtain ⟨vs,q1,_⟩:=h2 c hc
   rw [hb,q1];trivial
inductive S where
 | bor (d:D) | sh (d:D) | own (o:O) | view (o:O) | tmp (d:D)
abbrev Γ:=List (Option S)
def D.strip:D->D
 | .loc _ d=>d | d=>d
theorem Rp.strip {K:PySem.W.Frag} {H:Hp} {d:D} {v:V} (h:Rp K H d v):Rp K H d.strip v:=by
 cases h with
 | loc h=>exact h
 | int i=>exact .int i
 | bl b=>exact .bl b
 | non=>exact .non
 | str x=>exact .str x
 | ty n=>exact .ty n
 | tup h r=>exact .tup h r
 | lst h r=>exact .lst h r
 | scr h=>exact .scr h
 | dK h=>exact .dK h
 | dT h=>exact .dT h
 | err h=>exact .err h
 | ref a=>exact .ref a
 | ins h e r=>exact .ins h e r
def S.d:S->D
 | .bor d=>d.strip | .sh d=>d | .own o=>o.d | .view o=>o.d | .tmp d=>d
def arg (d:D):S:=match imm d with | true=>.sh d | false=>.bor d
def argT (d:D):S:=match imm d with | true=>.sh d | false=>.tmp d
def S.sub:S->D->S
 | .bor _,e=>arg e | .tmp _,e=>argT e | _,e=>.sh e
def S.shd:S->Option D
 | .sh d=>some d | .own o=>some o.d
 | .bor d=>match imm d with | true=>some d | false=>none
 | .tmp d=>match imm d with | true=>some d | false=>none
 | .view _=>none
def S.slot:S->Option S
 | .view _=>none | .bor d=>some (.bor d) | .sh d=>some (.sh d) | .own ds=>some (.own ds)
 | .tmp d=>match imm d with | true=>some (.sh d) | false=>none
def isOwn (γ:Γ) (σ:L2.St) (b:Addr):Prop:=∃ (i:Nat) (ds:O) (a:Addr),γ[i]?=some (some (.own ds))/\σ[i]?=some (some (.ref a))/\ds.adr a b
def zof (B:Addr->Prop) (γ:Γ) (σ:L2.St):Addr->Prop:=fun b=>B b\/isOwn γ σ b
def SV (K:PySem.W.Frag) (Z:Addr->Prop) (H0 H:Hp):S->V->Prop
 | .bor d,v=>Rp K H0 d v
 | .sh d,v=>Rp K (off Z H) d v
 | .own o,v=>∃ a,v=.ref a/\(∀ b,o.adr a b->H0 b=none)/\OR K (off Z H) H a o
 | _,_=>False
def TV (K:PySem.W.Frag) (Z:Addr->Prop) (H0 H H':Hp):S->V->Prop
 | .bor d,v=>Rp K H0 d v
 | .sh d,v=>Rp K (off Z H') d v
 | .own o,v=>∃ a,v=.ref a/\(∀ b,o.adr a b->H b=none)/\OR K (off (fun b=>Z b\/o.adr a b) H') H' a o
 | .view o,v=>∃ a,v=.ref a/\OR K (off Z H') H' a o
 | .tmp d,v=>Rp K H' d v
structure EnvR (K:PySem.W.Frag) (H0:Hp) (B:Addr->Prop) (H:Hp) (σ:L2.St) (γ:Γ):Prop where
 same:Same H0 H
 len:σ.length=γ.length
 bm:∀ b,B b->Mut (H b)
 own:∀ (i j:Nat) (a a':Addr) (ds es:O) (b:Addr),γ[i]?=some (some (.own ds))->γ[j]?=some (some (.own es))->σ[i]?=some (some (.ref a))->σ[j]?=some (some (.ref a'))->ds.adr a b->es.adr a' b->i=j
 slot:∀ (i:Nat) (s:S),γ[i]?=some (some s)->∃ v,σ[i]?=some (some v)/\SV K (zof B γ σ) H0 H s v
section
variable {K:PySem.W.Frag} {H0 H H1 H':Hp} {B Z Z':Addr->Prop} {σ:L2.St} {γ:Γ}
theorem Zc4 (S:Same H H') {b:Addr} (h:Mut (H b)):Mut (H' b):=by
 cases e:H b with
 | none=>rw [e] at h;exact h.elim
 | some o=>rw [S b o e,← e];exact h
theorem Zhj {b:Addr} (h:Mut (H b)):∃ o,H b=some o:=by
 cases e:H b with
 | none=>rw [e] at h;exact h.elim
 | some o=>exact ⟨o,rfl⟩
theorem EnvR.grow (E:EnvR K H0 B H σ γ) (S:Same H H'):EnvR K H0 B H' σ γ where
 same:=E.same.trans S
 len:=E.len
 bm b h:=Zc4 S (E.bm b h)
 own:=E.own
 slot i s h:=by
  obtain ⟨v,h1,h2⟩:=E.slot i s h
  refine ⟨v,h1,?_⟩
  cases s with
  | bor d=>exact h2
  | sh d=>exact Rp.mono (Zal S fun _ _ _ z=>z) h2
  | own ds=>
   obtain ⟨a,e1,e3,e4⟩:=h2
   exact ⟨a,e1,e3,e4.mono (Zal S fun _ _ _ z=>z) fun b _ x=>S b x⟩
  | view ds=>exact h2
  | tmp d=>exact h2
theorem EnvR.zm (E:EnvR K H0 B H σ γ):∀ b,zof B γ σ b->Mut (H b):=fun b h=>by
 rcases h with h | ⟨i,ds,x,h1,h2,hb⟩
 ·exact E.bm b h
 ·obtain ⟨v,e1,a,e2,e3,e4⟩:=E.slot i _ h1
  rw [h2] at e1
  cases e1
  cases e2
  exact e4.mut b hb
theorem TV.rp {s:S} {v:V} (h0:Same H0 H') (h:TV K Z H0 H H' s v):Rp K H' s.d v:=by
 cases s with
 | bor d=>exact (Rp.mono h0 h).strip
 | sh d=>exact Rp.mono off_sub h
 | own ds=>
  obtain ⟨a,rfl,_,r⟩:=h
  exact r.rp off_sub
 | view ds=>
  obtain ⟨a,rfl,r⟩:=h
  exact r.rp off_sub
 | tmp d=>exact h
theorem TV.grow {s:S} {v:V} (S1:Same H' H1) (h:TV K Z H0 H H' s v):TV K Z H0 H H1 s v:=by
 cases s with
 | bor d=>exact h
 | sh d=>exact Rp.mono (Zal S1 fun _ _ _ z=>z) h
 | own ds=>
  obtain ⟨a,rfl,e0,r⟩:=h
  exact ⟨a,rfl,e0,r.mono (Zal S1 fun _ _ _ z=>z) fun b _ x=>S1 b x⟩
 | view ds=>
  obtain ⟨a,rfl,r⟩:=h
  exact ⟨a,rfl,r.mono (Zal S1 fun _ _ _ z=>z) fun b _ x=>S1 b x⟩
 | tmp d=>exact Rp.mono S1 h
theorem TV.weak {s:S} {v:V} (S1:Same H H1) (hz:∀ b,Z b->Z' b) (h:TV K Z' H0 H1 H' s v):TV K Z H0 H H' s v:=by
 cases s with
 | bor d=>exact h
 | sh d=>exact Rp.mono (Zal (Same.refl _) fun b _ _ z y=>z (hz b y)) h
 | own ds=>
  obtain ⟨a,rfl,e0,r⟩:=h
  exact ⟨a,rfl,fun b hb=>S1.free (e0 b hb),r.mono (Zal (Same.refl _) fun b _ _ z y=>z (y.imp (hz b) id)) fun _ _ _ q=>q⟩
 | view ds=>
  obtain ⟨a,rfl,r⟩:=h
  exact ⟨a,rfl,r.mono (Zal (Same.refl _) fun b _ _ z y=>z (hz b y)) fun _ _ _ q=>q⟩
 | tmp d=>exact h
theorem TV.shd {s:S} {v:V} {d:D} (h0:Same H0 H') (hm:∀ b,Z b->Mut (H b)) (S1:Same H H') (h:TV K Z H0 H H' s v) (e:s.shd=some d):Rp K (off Z H') d v:=by
 have hm':∀ b,Z b->Mut (H' b):=fun b z=>Zc4 S1 (hm b z)
 cases s with
 | bor d'=>
  unfold S.shd at e
  cases q:imm d' with
  | false=>simp [q] at e
  | true=>
   simp [q] at e
   subst e
   exact Rp.off hm' (Rp.mono h0 h) q
 | sh d'=>cases e;exact h
 | own ds=>
  cases e
  obtain ⟨a,rfl,e0,r⟩:=h
  exact r.rpIn (Zal (Same.refl _) fun b _ _ z y=>z (.inl y)) fun b hb x e=>Zc e fun z=>by have:=hm _ z;rw [e0 b hb] at this;exact this
 | view ds=>cases e
 | tmp d'=>
  unfold S.shd at e
  cases q:imm d' with
  | false=>simp [q] at e
  | true=>
   simp [q] at e
   subst e
   exact Rp.off hm' h q
theorem argR {d:D} {v:V} (hm:∀ b,Z b->Mut (H' b)) (h0:Same H0 H') (h:Rp K H0 d v):TV K Z H0 H H' (arg d) v:=by
 unfold arg
 cases q:imm d with
 | true=>exact Rp.off hm (Rp.mono h0 h) q
 | false=>exact h
theorem argTR {d:D} {v:V} (hm:∀ b,Z b->Mut (H' b)) (h:Rp K H' d v):TV K Z H0 H H' (argT d) v:=by
 unfold argT
 cases q:imm d with
 | true=>exact Rp.off hm h q
 | false=>exact h
theorem Rp.lst_inv {ds:List D} {v:V} (h:Rp K H (.lst ds) v):∃ a vs,v=.ref a/\H a=some (.lst vs)/\Rps K H ds vs:=by
 cases h with
 | lst h r=>exact ⟨_,_,rfl,h,r⟩
theorem Rp.tup_inv {ds:List D} {v:V} (h:Rp K H (.tup ds) v):∃ a vs,v=.ref a/\H a=some (.tup vs)/\Rps K H ds vs:=by
 cases h with
 | tup h r=>exact ⟨_,_,rfl,h,r⟩
theorem TV.part {s:S} {v:V} (h0:Same H0 H') (hm:∀ b,Z b->Mut (H b)) (S1:Same H H') (h:TV K Z H0 H H' s v) :
  (∀ ds,s.d=.lst ds->∃ a vs,v=.ref a/\H' a=some (.lst vs)/\vs.length=ds.length/\∀ (i:Nat) d,ds[i]?=some d->∃ u,vs[i]?=some u/\TV K Z H0 H H' (s.sub d) u)/\
  (∀ ds,s.d=.tup ds->∃ a vs,v=.ref a/\H' a=some (.tup vs)/\vs.length=ds.length/\∀ (i:Nat) d,ds[i]?=some d->∃ u,vs[i]?=some u/\TV K Z H0 H H' (s.sub d) u):=by
 have hm':∀ b,Z b->Mut (H' b):=fun b z=>Zc4 S1 (hm b z)
 cases s with
 | bor d=>
  have h:=Rp.strip h
  refine ⟨fun ds e=>?_,fun ds e=>?_⟩<;>rw [show d.strip=_ from e] at h
  ·obtain ⟨a,vs,rfl,h,r⟩:=Rp.lst_inv h
   exact ⟨_,_,rfl,h0 _ _ h,r.len,fun i d e=>let ⟨u,h1,h2⟩:=r.get e;⟨u,h1,argR hm' h0 h2⟩⟩
  ·obtain ⟨a,vs,rfl,h,r⟩:=Rp.tup_inv h
   exact ⟨_,_,rfl,h0 _ _ h,r.len,fun i d e=>let ⟨u,h1,h2⟩:=r.get e;⟨u,h1,argR hm' h0 h2⟩⟩
 | sh d=>
  refine ⟨fun ds e=>?_,fun ds e=>?_⟩<;>(have e':d=_:=e;subst e')
  ·obtain ⟨a,vs,rfl,h,r⟩:=Rp.lst_inv h
   exact ⟨_,_,rfl,off_sub _ _ h,r.len,fun i d e=>r.get e⟩
  ·obtain ⟨a,vs,rfl,h,r⟩:=Rp.tup_inv h
   exact ⟨_,_,rfl,off_sub _ _ h,r.len,fun i d e=>r.get e⟩
 | own es=>
  cases es with
  | lst es=>
   refine ⟨fun ds e=>?_,fun ds e=>by cases e⟩
   cases e
   obtain ⟨a,rfl,e0,vs,e,r⟩:=h
   exact ⟨a,vs,rfl,e,r.len,fun i d e=>let ⟨u,h1,h2⟩:=r.get e;⟨u,h1,Rp.mono (Zal (Same.refl _) fun b _ _ z y=>z (.inl y)) h2⟩⟩
  | lsA x es=>
   refine ⟨fun ds e=>?_,fun ds e=>by cases e⟩
   cases e
   obtain ⟨a,rfl,e0,_,vs,e,r⟩:=h
   exact ⟨a,vs,rfl,e,r.len,fun i d e=>let ⟨u,h1,h2⟩:=r.get e;⟨u,h1,Rp.mono (Zal (Same.refl _) fun b _ _ z y=>z (.inl y)) h2⟩⟩
  | dK es=>exact ⟨(fun ds e=>by cases e),(fun ds e=>by cases e)⟩
  | dT es=>exact ⟨(fun ds e=>by cases e),(fun ds e=>by cases e)⟩
  | ins x C xs cs=>exact ⟨(fun ds e=>by cases e),(fun ds e=>by cases e)⟩
 | view es=>
  cases es with
  | lst es=>
   refine ⟨fun ds e=>?_,fun ds e=>by cases e⟩
   cases e
   obtain ⟨a,rfl,vs,e,r⟩:=h
   exact ⟨a,vs,rfl,e,r.len,fun i d e=>r.get e⟩
  | lsA x es=>
   refine ⟨fun ds e=>?_,fun ds e=>by cases e⟩
   cases e
   obtain ⟨a,rfl,_,vs,e,r⟩:=h
   exact ⟨a,vs,rfl,e,r.len,fun i d e=>r.get e⟩
  | dK es=>exact ⟨(fun ds e=>by cases e),(fun ds e=>by cases e)⟩
  | dT es=>exact ⟨(fun ds e=>by cases e),(fun ds e=>by cases e)⟩
  | ins x C xs cs=>exact ⟨(fun ds e=>by cases e),(fun ds e=>by cases e)⟩
 | tmp d=>
  refine ⟨fun ds e=>?_,fun ds e=>?_⟩<;>(have e':d=_:=e;subst e')
  ·obtain ⟨a,vs,rfl,h,r⟩:=Rp.lst_inv h
   exact ⟨_,_,rfl,h,r.len,fun i d e=>let ⟨u,h1,h2⟩:=r.get e;⟨u,h1,argTR hm' h2⟩⟩
  ·obtain ⟨a,vs,rfl,h,r⟩:=Rp.tup_inv h
   exact ⟨_,_,rfl,h,r.len,fun i d e=>let ⟨u,h1,h2⟩:=r.get e;⟨u,h1,argTR hm' h2⟩⟩
def Fr (B:Addr->Prop) (H:Hp) (σ:L2.St) (γ:Γ) (H':Hp) (σ':L2.St) (γ':Γ):Prop:=∀ b o,H b=some o->¬ zof B γ σ b->H' b=some o/\¬ zof B γ' σ' b
theorem Fr.refl:Fr B H σ γ H σ γ:=fun _ _ h z=>⟨h,z⟩
theorem Fr.trans {H1 H2:Hp} {σ1 σ2:L2.St} {γ1 γ2:Γ} (a:Fr B H σ γ H1 σ1 γ1) (b:Fr B H1 σ1 γ1 H2 σ2 γ2):Fr B H σ γ H2 σ2 γ2:=fun x o h z=>let ⟨h1,z1⟩:=a x o h z;b x o h1 z1
theorem Fr.grow (S1:Same H H'):Fr B H σ γ H' σ γ:=fun _ _ h z=>⟨S1 _ _ h,z⟩
theorem Fr.off {H':Hp} {σ':L2.St} {γ':Γ} (f:Fr B H σ γ H' σ' γ'):Same (off (zof B γ σ) H) (Pu.off (zof B γ' σ') H'):=fun b o h=>by
 obtain ⟨h1,h2⟩:=Zgl h
 obtain ⟨h3,h4⟩:=f b o h1 h2
 exact Zc h3 h4
theorem Za8 {α:Type} {l:List α} {i j:Nat} {x y:α} (h:(l.set i x)[j]?=some y):(j=i/\x=y/\i < l.length)\/(j≠i/\l[j]?=some y):=by
 rw [List.getElem?_set] at h
 by_cases e:i=j
 ·subst e
  rw [Uae rfl] at h
  by_cases e2:i < l.length
  ·rw [Uae e2] at h
   exact .inl ⟨rfl,Option.some.inj h,e2⟩
  ·rw [Uad e2] at h;cases h
 ·rw [Uad e] at h
  exact .inr ⟨fun z=>e z.symm,h⟩
theorem Zro {α:Type} {l:List α} {i:Nat} {x:α} (h:i < l.length):(l.set i x)[i]?=some x:=by rw [Uc5 h]
theorem Zip {α:Type} {l:List α} {i j:Nat} {x:α} (h:j≠i):(l.set i x)[j]?=l[j]?:=Uda fun z=>h z.symm
theorem EnvR.drop (E:EnvR K H0 B H σ γ) (i:Nat):EnvR K H0 B H σ (γ.set i none)/\Fr B H σ γ H σ (γ.set i none):=by
 have hz:∀ b,zof B (γ.set i none) σ b->zof B γ σ b:=fun b z=>z.imp id fun ⟨j,ds,a,h1,h2,h3⟩=>by
  rcases Za8 h1 with ⟨_,e,_⟩ | ⟨_,e⟩
  ·cases e
  ·exact ⟨j,ds,a,e,h2,h3⟩
 refine ⟨⟨E.same,by rw [Ubw];exact E.len,E.bm,fun k j a a' ds es b h1 h2=>?_,fun k s h=>?_⟩,fun b o h z=>⟨h,fun y=>z (hz b y)⟩⟩
 ·rcases Za8 h1 with ⟨_,e,_⟩ | ⟨_,e1⟩
  ·cases e
  ·rcases Za8 h2 with ⟨_,e,_⟩ | ⟨_,e2⟩
   ·cases e
   ·exact E.own k j a a' ds es b e1 e2
 ·rcases Za8 h with ⟨_,e,_⟩ | ⟨_,e⟩
  ·cases e
  ·obtain ⟨v,h1,h2⟩:=E.slot k s e
   refine ⟨v,h1,?_⟩
   have S1:Same (Pu.off (zof B γ σ) H) (Pu.off (zof B (γ.set i none) σ) H):=Zal (Same.refl _) fun b _ _ z y=>z (hz b y)
   cases s with
   | bor d=>exact h2
   | sh d=>exact Rp.mono S1 h2
   | own ds=>
    obtain ⟨a,e1,e3,e4⟩:=h2
    exact ⟨a,e1,e3,e4.mono S1 fun _ _ _ q=>q⟩
   | view ds=>exact h2
   | tmp d=>exact h2
theorem EnvR.put {i:Nat} {s s':S} {v:V} (E:EnvR K H0 B H σ γ) (S1:Same H H') (h:TV K (zof B γ σ) H0 H H' s v) (e:s.slot=some s') (hi:i < γ.length) :
  EnvR K H0 B H' (σ.set i (some v)) (γ.set i (some s'))/\Fr B H σ γ H' (σ.set i (some v)) (γ.set i (some s')):=by
 have hiσ:i < σ.length:=by rw [E.len];exact hi
 have E':=E.grow S1
 have isown:∀ ds,s'=.own ds->s=.own ds:=fun ds q=>by
  subst q
  cases s with
  | own es=>cases e;rfl
  | bor d=>cases e
  | sh d=>cases e
  | view d=>cases e
  | tmp d=>unfold S.slot at e;cases q:imm d<;>simp [q] at e
 have hown:∀ b,zof B (γ.set i (some s')) (σ.set i (some v)) b->zof B γ σ b\/∃ ds a,s=.own ds/\v=.ref a/\ds.adr a b:=fun b z=>by
  rcases z with z | ⟨j,ds,a,h1,h2,h3⟩
  ·exact .inl (.inl z)
  ·rcases Za8 h1 with ⟨ej,e1,_⟩ | ⟨nj,e1⟩
   ·subst ej
    rw [Zro hiσ] at h2
    have:s'=.own ds:=Option.some.inj e1
    exact .inr ⟨ds,a,isown ds this,Option.some.inj (Option.some.inj h2),h3⟩
   ·rw [Zip nj] at h2
    exact .inl (.inr ⟨j,ds,a,e1,h2,h3⟩)
 have fresh:∀ ds a b,s=.own ds->v=.ref a->ds.adr a b->H b=none:=fun ds a b es ev hb=>by
  subst es
  obtain ⟨a',e1,e0,_⟩:=h
  rw [ev] at e1
  cases e1
  exact e0 b hb
 have hz:∀ b o,H b=some o->¬ zof B γ σ b->¬ zof B (γ.set i (some s')) (σ.set i (some v)) b:=fun b o hb z y=>by
  rcases hown b y with y | ⟨ds,a,y1,y2,y3⟩
  ·exact z y
  ·rw [fresh ds a b y1 y2 y3] at hb
   cases hb
 have So:Same (off (zof B γ σ) H) (Pu.off (zof B (γ.set i (some s')) (σ.set i (some v))) H'):=Zal S1 hz
 refine ⟨⟨E'.same,by rw [Ubw,Ubw];exact E.len,E'.bm,fun k j a a' ds es b h1 h2 h3 h4 h5 h6=>?_,fun k u hk=>?_⟩,fun b o hb z=>⟨S1 b o hb,hz b o hb z⟩⟩
 ·have old:∀ (k:Nat) (ds:O) (a b:Addr),γ[k]?=some (some (.own ds))->σ[k]?=some (some (.ref a))->ds.adr a b->∃ o,H b=some o:=fun k ds a b e1 e2 e3=>by
   obtain ⟨u,q1,a',q2,_,q3⟩:=E.slot k _ e1
   rw [e2] at q1
   cases q1
   cases q2
   exact Zhj (q3.mut b e3)
  rcases Za8 h1 with ⟨ek,e1,_⟩ | ⟨nk,e1⟩
  ·rcases Za8 h2 with ⟨ej,e2,_⟩ | ⟨nj,e2⟩
   ·rw [ek,ej]
   ·subst ek
    rw [Zro hiσ] at h3
    rw [Zip nj] at h4
    obtain ⟨o,ho⟩:=old j es a' b e2 h4 h6
    rw [fresh ds a b (isown ds (Option.some.inj e1)) (Option.some.inj (Option.some.inj h3)) h5] at ho
    cases ho
  ·rcases Za8 h2 with ⟨ej,e2,_⟩ | ⟨nj,e2⟩
   ·subst ej
    rw [Zro hiσ] at h4
    rw [Zip nk] at h3
    obtain ⟨o,ho⟩:=old k ds a b e1 h3 h5
    rw [fresh es a' b (isown es (Option.some.inj e2)) (Option.some.inj (Option.some.inj h4)) h6] at ho
    cases ho
   ·rw [Zip nk] at h3
    rw [Zip nj] at h4
    exact E.own k j a a' ds es b e1 e2 h3 h4 h5 h6
 ·rcases Za8 hk with ⟨ek,e1,_⟩ | ⟨nk,e1⟩
  ·subst ek
   have:u=s':=(Option.some.inj e1).symm
   subst this
   refine ⟨v,Zro hiσ,?_⟩
   cases s with
   | own ds=>
    cases e
    obtain ⟨a,rfl,e0,r⟩:=h
    refine ⟨a,rfl,fun b hb=>E.same.free (e0 b hb),r.mono (Zal (Same.refl _) fun b o _ z y=>?_) fun _ _ _ q=>q⟩
    rcases hown b y with y | ⟨_,_,y1,y,y2⟩
    ·exact z (.inl y)
    ·cases y;cases y1;exact z (.inr y2)
   | sh d=>
    cases e
    refine Rp.mono (Zal (Same.refl _) fun b o _ z y=>?_) h
    rcases hown b y with y | ⟨_,_,y,_⟩
    ·exact z y
    ·cases y
   | bor d=>cases e;exact h
   | view d=>cases e
   | tmp d=>
    unfold S.slot at e
    cases q:imm d with
    | false=>simp [q] at e
    | true=>
     simp [q] at e
     subst e
     refine Rp.off (fun b y=>?_) h q
     rcases hown b y with y | ⟨_,_,y,_⟩
     ·exact Zc4 S1 (E.zm b y)
     ·cases y
  ·obtain ⟨w,q1,q2⟩:=E.slot k u e1
   refine ⟨w,by rw [Zip nk];exact q1,?_⟩
   cases u with
   | bor d=>exact q2
   | sh d=>exact Rp.mono So q2
   | own ds=>
    obtain ⟨a,e1,e3,e4⟩:=q2
    exact ⟨a,e1,e3,e4.mono So fun b _ x=>S1 b x⟩
   | view ds=>exact q2
   | tmp d=>exact q2
def frz (i:Nat) (γ:Γ):Γ:=match γ[i]? with
 | some (some (.own o))=>γ.set i (some (.sh o.d))
 | _=>γ
theorem EnvR.frz (E:EnvR K H0 B H σ γ) (hB:∀ b,B b->∃ o,H0 b=some o) (i:Nat):EnvR K H0 B H σ (frz i γ)/\Fr B H σ γ H σ (Pu.frz i γ):=by
 unfold Pu.frz
 split
 ·rename_i ds hi
  have hlt:i < γ.length:=(Uas.mp hi).1
  have hz:∀ b,zof B (γ.set i (some (.sh ds.d))) σ b->zof B γ σ b:=fun b z=>z.imp id fun ⟨j,es,a,h1,h2,h3⟩=>by
   rcases Za8 h1 with ⟨_,e,_⟩ | ⟨_,e⟩
   ·cases e
   ·exact ⟨j,es,a,e,h2,h3⟩
  have S1:Same (Pu.off (zof B γ σ) H) (Pu.off (zof B (γ.set i (some (.sh ds.d))) σ) H):=Zal (Same.refl _) fun b _ _ z y=>z (hz b y)
  refine ⟨⟨E.same,by rw [Ubw];exact E.len,E.bm,fun k j a a' es es' b h1 h2=>?_,fun k s h=>?_⟩,fun b o h z=>⟨h,fun y=>z (hz b y)⟩⟩
  ·rcases Za8 h1 with ⟨_,e,_⟩ | ⟨_,e1⟩
   ·cases e
   ·rcases Za8 h2 with ⟨_,e,_⟩ | ⟨_,e2⟩
    ·cases e
    ·exact E.own k j a a' es es' b e1 e2
  ·rcases Za8 h with ⟨ek,e,_⟩ | ⟨nk,e⟩
   ·subst ek
    have:=Option.some.inj e
    subst this
    obtain ⟨v,h1,a,rfl,h3,h4⟩:=E.slot k _ hi
    refine ⟨_,h1,h4.rpIn S1 fun b hb x h2=>Zc h2 fun z=>?_⟩
    rcases z with z | ⟨j,es,a',e1,e2,e3⟩
    ·obtain ⟨o,ho⟩:=hB b z
     rw [h3 b hb] at ho
     cases ho
    ·rcases Za8 e1 with ⟨_,q,_⟩ | ⟨nj,q⟩
     ·cases q
     ·exact nj (E.own j k a' a es ds b q hi e2 h1 e3 hb)
   ·obtain ⟨v,h1,h2⟩:=E.slot k s e
    refine ⟨v,h1,?_⟩
    cases s with
    | bor d=>exact h2
    | sh d=>exact Rp.mono S1 h2
    | own ds=>
     obtain ⟨a,e1,e3,e4⟩:=h2
     exact ⟨a,e1,e3,e4.mono S1 fun _ _ _ q=>q⟩
    | view ds=>exact h2
    | tmp d=>exact h2
 ·exact ⟨E,Fr.refl⟩
theorem EnvR.change {i:Nat} {a:Addr} {o o':O} (E:EnvR K H0 B H σ γ) (hi:γ[i]?=some (some (.own o))) (ha:σ[i]?=some (some (.ref a)))
  (hH:∀ b x,H b=some x->¬ o.adr a b->H' b=some x) (hm:∀ b,o.adr a b->Mut (H' b)) (hadr:∀ b,o'.adr a b->o.adr a b\/H b=none) (r:OR K (Pu.off (zof B (γ.set i (some (.own o'))) σ) H') H' a o') :
  EnvR K H0 B H' σ (γ.set i (some (.own o')))/\Fr B H σ γ H' σ (γ.set i (some (.own o'))):=by
 have hlt:i < γ.length:=(Uas.mp hi).1
 obtain ⟨v,h1,a',rfl,h3,h4⟩:=E.slot i _ hi
 rw [ha] at h1
 cases h1
 have za:∀ b,o.adr a b->zof B γ σ b:=fun b hb=>.inr ⟨i,o,a,hi,ha,hb⟩
 have hz:∀ b x,H b=some x->zof B (γ.set i (some (.own o'))) σ b->zof B γ σ b:=fun b x hx z=>by
  rcases z with z | ⟨j,fs,a',e1,e2,e3⟩
  ·exact .inl z
  ·rcases Za8 e1 with ⟨ej,q,_⟩ | ⟨_,e⟩
   ·subst ej
    cases q
    rw [ha] at e2
    cases e2
    rcases hadr b e3 with k | k
    ·exact za b k
    ·rw [k] at hx;cases hx
   ·exact .inr ⟨j,fs,a',e,e2,e3⟩
 have S1:Same (Pu.off (zof B γ σ) H) (Pu.off (zof B (γ.set i (some (.own o'))) σ) H'):=fun b x h=>by
  obtain ⟨q1,q2⟩:=Zgl h
  exact Zc (hH b x q1 fun k=>q2 (za b k)) fun z=>q2 (hz b x q1 z)
 have old:∀ (k:Nat) (ds:O) (a b:Addr),γ[k]?=some (some (.own ds))->σ[k]?=some (some (.ref a))->ds.adr a b->∃ o,H b=some o:=fun k ds a b e1 e2 e3=>by
  obtain ⟨u,q1,a',q2,_,q3⟩:=E.slot k _ e1
  rw [e2] at q1
  cases q1
  cases q2
  exact Zhj (q3.mut b e3)
 refine ⟨⟨fun b x h=>?_,by rw [Ubw];exact E.len,fun b hb=>?_,fun k j x x' fs fs' b e1 e2 e3 e4 e5 e6=>?_,fun k s h=>?_⟩,fun b x h z=>⟨?_,fun y=>z (hz b x h y)⟩⟩
 ·exact hH b x (E.same b x h) fun k=>by rw [h3 b k] at h;cases h
 ·by_cases k:o.adr a b
  ·exact hm b k
  ·have:=E.bm b hb
   obtain ⟨x,hx⟩:=Zhj this
   rw [hH b x hx k,← hx]
   exact this
 ·rcases Za8 e1 with ⟨ek,q1,_⟩ | ⟨nk,q1⟩
  ·rcases Za8 e2 with ⟨ej,_,_⟩ | ⟨nj,q2⟩
   ·rw [ek,ej]
   ·subst ek
    cases q1
    rw [ha] at e3
    cases e3
    rcases hadr b e5 with w | w
    ·exact E.own k j _ _ _ _ b hi q2 ha e4 w e6
    ·obtain ⟨u,hu⟩:=old j fs' x' b q2 e4 e6
     rw [w] at hu;cases hu
  ·rcases Za8 e2 with ⟨ej,q2,_⟩ | ⟨nj,q2⟩
   ·subst ej
    cases q2
    rw [ha] at e4
    cases e4
    rcases hadr b e6 with w | w
    ·exact E.own k j _ _ _ _ b q1 hi e3 ha e5 w
    ·obtain ⟨u,hu⟩:=old k fs x b q1 e3 e5
     rw [w] at hu;cases hu
   ·exact E.own k j x x' fs fs' b q1 q2 e3 e4 e5 e6
 ·rcases Za8 h with ⟨ek,e,_⟩ | ⟨nk,e⟩
  ·subst ek
   have:=Option.some.inj e
   subst this
   exact ⟨_,ha,a,rfl,fun b hb=>(hadr b hb).elim (h3 b) fun w=>E.same.free w,r⟩
  ·obtain ⟨v,q1,q2⟩:=E.slot k s e
   refine ⟨v,q1,?_⟩
   cases s with
   | bor d=>exact q2
   | sh d=>exact Rp.mono S1 q2
   | own fs=>
    obtain ⟨x,rfl,e3,e4⟩:=q2
    exact ⟨x,rfl,e3,e4.mono S1 fun b hb y e2=>hH b y e2 fun w=>nk (E.own k i x a fs o b e hi q1 ha hb w)⟩
   | view ds=>exact q2
   | tmp d=>exact q2
 ·exact hH b x h fun k=>z (za b k)
theorem EnvR.mutate {i:Nat} {a:Addr} {ds es:O} {us:HO} (E:EnvR K H0 B H σ γ) (hi:γ[i]?=some (some (.own ds))) (ha:σ[i]?=some (some (.ref a))) (hu:Mut (some us)) (r:∀ F H':Hp,Same (Pu.off (zof B γ σ) H) F->H' a=some us->OR K F H' a es)
  (k1:ds.adr a=fun b=>b=a:=by rfl) (k2:es.adr a=fun b=>b=a:=by rfl) :
  EnvR K H0 B (upd H a us) σ (γ.set i (some (.own es)))/\Fr B H σ γ (upd H a us) σ (γ.set i (some (.own es))):=by
 refine E.change (o:=ds) (o':=es) hi ha (fun b x h n=>by rw [Za5 (fun z=>n (by rw [k1];exact z))];exact h) (fun b h=>by rw [k1] at h;rw [show b=a from h,Zas];exact hu) (fun b h=>.inl (by rw [k1];rw [k2] at h;exact h)) (r _ _ ?_ Zas)
 intro b x h
 obtain ⟨q1,q2⟩:=Zgl h
 have nb:b≠a:=fun z=>q2 (.inr ⟨i,ds,a,hi,ha,by rw [k1];exact z⟩)
 refine Zc (by rw [Za5 nb];exact q1) fun z=>q2 ?_
 rcases z with z | ⟨j,fs,a',e1,e2,e3⟩
 ·exact .inl z
 ·rcases Za8 e1 with ⟨ej,q,_⟩ | ⟨_,e⟩
  ·subst ej
   cases q
   rw [ha] at e2
   cases e2
   rw [k2] at e3
   exact absurd e3 nb
  ·exact .inr ⟨j,fs,a',e,e2,e3⟩
end
end Pu
namespace Pu
open PySem PySem.Spec PyProof.Rows L2 Own
abbrev XR:=Str->Prop
abbrev PTE:=Γ->(S->Prop)->XR->Prop
abbrev PTT:=Γ->(Bool->Prop)->XR->Prop
abbrev PTA:=Γ->(List S->Prop)->XR->Prop
abbrev PTO:=Γ->(Option Int->Prop)->XR->Prop
structure PEnds where
 nx:Γ->Prop
 rt:S->Prop
 ex:Γ->Str->Prop
 bk:Γ->Prop:=fun _=>False
 ct:Γ->Prop:=fun _=>False
 rv:Γ->D->Prop:=fun _ _=>False
abbrev PTS:=PEnds->Γ->Prop
abbrev PTG:=S->Γ->(Γ->Prop)->Prop
abbrev PTGs:=List S->Γ->(Γ->Prop)->Prop
inductive TVs (K:PySem.W.Frag) (Z:Addr->Prop) (H0 H H':Hp):List S->List V->Prop
 | nil:TVs K Z H0 H H' [] []
 | cons {s:S} {v:V} {ss:List S} {vs:List V}:TV K Z H0 H H' s v->TVs K Z H0 H H' ss vs->TVs K Z H0 H H' (s :: ss) (v :: vs)
section
variable (K:PySem.W.Frag) (mg:Str->Option Value) (E:L2.St->XK)
def SndE (t:TE) (p:PTE):Prop:=∀ (H0:Hp) (B:Addr->Prop) (H:Hp) (σ:L2.St) (γ:Γ) (R:S->Prop) (X:XR) (Q:VK),EnvR K H0 B H σ γ->p γ R X->
 (∀ s v H',R s->Same H H'->TV K (zof B γ σ) H0 H H' s v->Q v H')->(∀ c H',X c->Same H H'->E σ (.ref (ExcR.clsOf mg c)) none H')->t σ H Q
def SndT (t:TT) (p:PTT):Prop:=∀ (H0:Hp) (B:Addr->Prop) (H:Hp) (σ:L2.St) (γ:Γ) (R:Bool->Prop) (X:XR) (Q:Bool->Hp->Prop),EnvR K H0 B H σ γ->p γ R X->
 (∀ b H',R b->Same H H'->Q b H')->(∀ c H',X c->Same H H'->E σ (.ref (ExcR.clsOf mg c)) none H')->t σ H Q
def SndA (t:TA) (p:PTA):Prop:=∀ (H0:Hp) (B:Addr->Prop) (H:Hp) (σ:L2.St) (γ:Γ) (R:List S->Prop) (X:XR) (Q:List V->Hp->Prop),EnvR K H0 B H σ γ->p γ R X->
 (∀ ss vs H',R ss->Same H H'->TVs K (zof B γ σ) H0 H H' ss vs->Q vs H')->(∀ c H',X c->Same H H'->E σ (.ref (ExcR.clsOf mg c)) none H')->t σ H Q
def SndO (t:TO) (p:PTO):Prop:=∀ (H0:Hp) (B:Addr->Prop) (H:Hp) (σ:L2.St) (γ:Γ) (R:Option Int->Prop) (X:XR) (Q:Option Int->Hp->Prop),EnvR K H0 B H σ γ->p γ R X->
 (∀ o H',R o->Same H H'->Q o H')->(∀ c H',X c->Same H H'->E σ (.ref (ExcR.clsOf mg c)) none H')->t σ H Q
structure EndR (H0:Hp) (B:Addr->Prop) (H:Hp) (σ:L2.St) (γ:Γ) (R:PEnds) (D:Ends):Prop where
 nx:∀ σ' γ' H',R.nx γ'->EnvR K H0 B H' σ' γ'->Fr B H σ γ H' σ' γ'->D.nx σ' H'
 rt:∀ s v H',R.rt s->Same H0 H'->TV K B H0 H0 H' s v->D.rt v H'
 ex:∀ σ' γ' c H',R.ex γ' c->EnvR K H0 B H' σ' γ'->Fr B H σ γ H' σ' γ'->E σ' (.ref (ExcR.clsOf mg c)) none H'
 bk:∀ σ' γ' H',R.bk γ'->EnvR K H0 B H' σ' γ'->Fr B H σ γ H' σ' γ'->D.bk σ' H'
 ct:∀ σ' γ' H',R.ct γ'->EnvR K H0 B H' σ' γ'->Fr B H σ γ H' σ' γ'->D.ct σ' H'
 rv:∀ σ' γ' d v H',R.rv γ' d->EnvR K H0 B H' σ' γ'->Fr B H σ γ H' σ' γ'->Rp K (off (zof B γ' σ') H') d v->D.rt v H'
def SndS (t:TS) (p:PTS):Prop:=∀ (H0:Hp) (B:Addr->Prop) (H:Hp) (σ:L2.St) (γ:Γ) (R:PEnds) (D:Ends),(∀ b,B b->∃ o,H0 b=some o)->EnvR K H0 B H σ γ->p R γ->EndR K mg E H0 B H σ γ R D->t D σ H
end
section
variable {K:PySem.W.Frag} {mg:Str->Option Value} {E:L2.St->XK} {H0 H H1 H':Hp} {B Z Z':Addr->Prop} {σ:L2.St} {γ:Γ}
theorem TVs.weakG {H1 H2:Hp}:∀ {ss:List S} {vs:List V},Same H H1->TVs K Z H0 H1 H2 ss vs->TVs K Z H0 H H2 ss vs
 | _,_,_,.nil=>.nil
 | _,_,S1,.cons h r=>.cons (TV.weak S1 (fun _ z=>z) h) (TVs.weakG S1 r)
theorem TVs.rps (h0:Same H0 H'):∀ {ss:List S} {vs:List V},TVs K Z H0 H H' ss vs->Rps K H' (ss.map S.d) vs
 | _,_,.nil=>.nil
 | _,_,.cons h r=>.cons (h.rp h0) (TVs.rps h0 r)
theorem TVs.shd {ds:List D} (h0:Same H0 H') (hm:∀ b,Z b->Mut (H b)) (S1:Same H H'):∀ {ss:List S} {vs:List V} {ds:List D},TVs K Z H0 H H' ss vs->ss.map S.shd=ds.map some->Rps K (off Z H') ds vs
 | _,_,[],.nil,_=>.nil
 | _,_,_ :: _,.nil,e=>by cases e
 | _,_,[],.cons _ _,e=>by cases e
 | _,_,d :: ds,.cons h r,e=>by
  rw [Uai,Uai,List.cons.injEq] at e
  exact .cons (h.shd h0 hm S1 e.1) (TVs.shd (ds:=ds) h0 hm S1 r e.2)
theorem Rp.int_inv {i:Int} {v:V} (h:Rp K H (.int i) v):v=.int i:=by cases h;rfl
theorem Rp.bl_inv {b:Bool} {v:V} (h:Rp K H (.bl b) v):v=.bl b:=by cases h;rfl
theorem Rp.str_inv {x:Str} {v:V} (h:Rp K H (.str x) v):v=.str x:=by cases h;rfl
theorem Rp.non_inv {v:V} (h:Rp K H .non v):v=.non:=by cases h;rfl
theorem Rp.ty_inv {n:String} {v:V} (h:Rp K H (.ty n) v):v=.ty n:=by cases h;rfl
def pVar (i:Nat):PTE:=fun γ R _=>match γ[i]? with
 | some (some (.own ds))=>R (.view ds)
 | some (some s)=>R s
 | _=>False
theorem Zab (i:Nat):SndE K mg E (tVar i) (pVar i):=by
 intro H0 B H σ γ R X Q env h q _
 unfold pVar at h
 split at h
 ·rename_i ds e
  obtain ⟨v,h1,a,rfl,h3,h4⟩:=env.slot i _ e
  exact ⟨_,h1,q _ _ H h (Same.refl _) ⟨a,rfl,h4⟩⟩
 ·rename_i s ns e
  obtain ⟨v,h1,h2⟩:=env.slot i _ e
  refine ⟨v,h1,q _ _ H h (Same.refl _) ?_⟩
  cases s with
  | bor d=>exact h2
  | sh d=>exact h2
  | own ds=>exact absurd rfl (ns ds)
  | view ds=>exact h2.elim
  | tmp d=>exact h2.elim
 ·exact h.elim
def pC (d:D):PTE:=fun _ R _=>R (.sh d)
theorem se_c {d:D} {v:V} (h:∀ H,Rp K H d v):SndE K mg E (tC v) (pC d):=by
 intro H0 B H σ γ R X Q env p q _
 exact q _ _ H p (Same.refl _) (h _)
theorem Zai {i:Int}:SndE K mg E (tC (.int i)) (pC (.int i)):=se_c fun _=>.int i
theorem Zhl {b:Bool}:SndE K mg E (tC (.bl b)) (pC (.bl b)):=se_c fun _=>.bl b
theorem Zxf:SndE K mg E (tC .non) (pC .non):=se_c fun _=>.non
theorem Zoa {x:Str}:SndE K mg E (tC (.str x)) (pC (.str x)):=se_c fun _=>.str x
theorem Zqs {n:String}:SndE K mg E (tC (.ty n)) (pC (.ty n)):=se_c fun _=>.ty n
def p2 (a b:PTE) (f:S->S->(S->Prop)->Prop):PTE:=fun γ R X=>a γ (fun x=>b γ (fun y=>f x y R) X) X
theorem se_2 {r:R2} {ta tb:TE} {a b:PTE} {f:S->S->(S->Prop)->Prop} (ha:SndE K mg E ta a) (hb:SndE K mg E tb b)
  (hr:∀ (H0 H H2:Hp) (Z:Addr->Prop) (x y:S) (v u:V) (R:S->Prop) (Q:VK),Same H0 H2->Same H H2->(∀ b,Z b->Mut (H b))->TV K Z H0 H H2 x v->TV K Z H0 H H2 y u->f x y R->(∀ s z H',R s->Same H2 H'->TV K Z H0 H H' s z->Q z H')->r v u H2 Q) :
  SndE K mg E (tOp r ta tb) (p2 a b f):=by
 intro H0 B H σ γ R X Q env p q qx
 refine ha H0 B H σ γ _ X _ env p (fun x v H1 h1 S1 t1=>?_) qx
 have env1:=env.grow S1
 refine hb H0 B H1 σ γ _ X _ env1 h1 (fun y u H2 h2 S2 t2=>?_) fun c H' hc S'=>qx c H' hc (S1.trans S')
 exact hr H0 H H2 _ x y v u R Q (env1.same.trans S2) (S1.trans S2) env.zm (t1.grow S2) (TV.weak S1 (fun _ z=>z) t2) h2 fun s z H' hs S3 t3=>q s z H' hs ((S1.trans S2).trans S3) t3
def fI0 (g:Int->Int->D):S->S->(S->Prop)->Prop:=fun x y R=>match x.d,y.d with
 | .int i,.int j=>R (.sh (g i j))
 | _,_=>False
def fI (C:Int->Int->Prop) (g:Int->Int->D):S->S->(S->Prop)->Prop:=fun x y R=>match x.d,y.d with
 | .int i,.int j=>C i j/\R (.sh (g i j))
 | _,_=>False
theorem Ztu {g:Int->Int->V} {g':Int->Int->D} {ta tb:TE} {a b:PTE} (hg:∀ H i j,Rp K H (g' i j) (g i j)) (ha:SndE K mg E ta a) (hb:SndE K mg E tb b):SndE K mg E (tOp (rI0 g) ta tb) (p2 a b (fI0 g')):=by
 refine se_2 ha hb fun H0 H H2 Z x y v u R Q s0 s1 hm tx ty h q=>?_
 unfold fI0 at h
 have rx:=tx.rp s0
 have ry:=ty.rp s0
 split at h
 ·rename_i i j e1 e2
  rw [e1] at rx
  rw [e2] at ry
  exact ⟨i,j,rx.int_inv,ry.int_inv,q _ _ H2 h (Same.refl _) (hg _ i j)⟩
 ·exact h.elim
theorem se_I {C:Int->Int->Prop} {g:Int->Int->V} {g':Int->Int->D} {ta tb:TE} {a b:PTE} (hg:∀ H i j,Rp K H (g' i j) (g i j)) (ha:SndE K mg E ta a) (hb:SndE K mg E tb b):SndE K mg E (tOp (rI C g) ta tb) (p2 a b (fI C g')):=by
 refine se_2 ha hb fun H0 H H2 Z x y v u R Q s0 s1 hm tx ty h q=>?_
 unfold fI at h
 have rx:=tx.rp s0
 have ry:=ty.rp s0
 split at h
 ·rename_i i j e1 e2
  rw [e1] at rx
  rw [e2] at ry
  exact ⟨i,j,rx.int_inv,ry.int_inv,h.1,q _ _ H2 h.2 (Same.refl _) (hg _ i j)⟩
 ·exact h.elim
section
variable {ta tb tc:TE} {a b c:PTE}
theorem Zci (ha:SndE K mg E ta a) (hb:SndE K mg E tb b):SndE K mg E (tOp (rI0 fun i j=>.int (i + j)) ta tb) (p2 a b (fI0 fun i j=>.int (i + j))):=Ztu (fun _ _ _=>.int _) ha hb
theorem Zdn (ha:SndE K mg E ta a) (hb:SndE K mg E tb b):SndE K mg E (tOp (rI0 fun i j=>.int (i - j)) ta tb) (p2 a b (fI0 fun i j=>.int (i - j))):=Ztu (fun _ _ _=>.int _) ha hb
theorem Zkq (ha:SndE K mg E ta a) (hb:SndE K mg E tb b):SndE K mg E (tOp (rI CMul fun i j=>.int (i * j)) ta tb) (p2 a b (fI CMul fun i j=>.int (i * j))):=se_I (fun _ _ _=>.int _) ha hb
theorem Zeg (ha:SndE K mg E ta a) (hb:SndE K mg E tb b):SndE K mg E (tOp (rI CDiv fun i j=>.int (i / j)) ta tb) (p2 a b (fI CDiv fun i j=>.int (i / j))):=se_I (fun _ _ _=>.int _) ha hb
theorem Zcb (ha:SndE K mg E ta a) (hb:SndE K mg E tb b):SndE K mg E (tOp (rI (fun _ j=>0 < j) fun i j=>.int (i % j)) ta tb) (p2 a b (fI (fun _ j=>0 < j) fun i j=>.int (i % j))):=se_I (fun _ _ _=>.int _) ha hb
theorem Zsw (ha:SndE K mg E ta a) (hb:SndE K mg E tb b):SndE K mg E (tOp (rI0 fun i j=>.bl (decide (i < j))) ta tb) (p2 a b (fI0 fun i j=>.bl (decide (i < j)))):=Ztu (fun _ _ _=>.bl _) ha hb
theorem Zo3 (ha:SndE K mg E ta a) (hb:SndE K mg E tb b):SndE K mg E (tOp (rI0 fun i j=>.bl (decide (j < i))) ta tb) (p2 a b (fI0 fun i j=>.bl (decide (j < i)))):=Ztu (fun _ _ _=>.bl _) ha hb
theorem Zwz (ha:SndE K mg E ta a) (hb:SndE K mg E tb b):SndE K mg E (tOp (rI0 fun i j=>.bl (decide (j<=i))) ta tb) (p2 a b (fI0 fun i j=>.bl (decide (j<=i)))):=Ztu (fun _ _ _=>.bl _) ha hb
def fEq (neg:Bool):S->S->(S->Prop)->Prop:=fun x y R=>match x.d,y.d with
 | .int i,.int j=>R (.sh (.bl (if neg then !decide (i=j) else decide (i=j))))
 | .str i,.str j=>R (.sh (.bl (if neg then !decide (i=j) else decide (i=j))))
 | .bl i,.bl j=>R (.sh (.bl (if neg then !decide (i=j) else decide (i=j))))
 | _,_=>False
theorem Zh0 {α β:Type} [DecidableEq α] [DecidableEq β] {f:α->β} (hf:∀ a b,f a=f b->a=b) (a b:α):decide (f a=f b)=decide (a=b):=by
 by_cases e:a=b
 ·rw [Uaf e,Uaf (Ube f e)]
 ·rw [Uam e,Uam fun z=>e (hf a b z)]
def fIx:S->S->(S->Prop)->Prop:=fun x y R=>match x.d,y.d with
 | .lst ds,.int k=>∃ d,atI ds k=some d/\R (x.sub d)
 | .tup ds,.int k=>∃ d,atI ds k=some d/\R (x.sub d)
 | .scr ns,.int k=>∃ i,atI ns k=some i/\R (.sh (.int i))
 | _,_=>False
theorem Zu7 {ds:List D} {vs:List V} {k:Int} {d:D} {P:D->V->Prop} (hl:vs.length=ds.length) (h:∀ (i:Nat) d,ds[i]?=some d->∃ u,vs[i]?=some u/\P d u) (e:atI ds k=some d):∃ u,atI vs k=some u/\P d u:=by
 unfold atI at e ⊢
 rw [hl]
 cases q:ixN ds.length k with
 | none=>rw [q] at e;cases e
 | some j=>
  rw [q] at e
  exact h j d e
theorem Za6 (ha:SndE K mg E ta a) (hb:SndE K mg E tb b):SndE K mg E (tOp (fun x y H Q=>rIxL K x y H Q\/rIxT K x y H Q) ta tb) (p2 a b fIx):=by
 refine se_2 ha hb fun H0 H H2 Z x y v u R Q s0 s1 hm tx ty h q=>?_
 unfold fIx at h
 have ry:=ty.rp s0
 obtain ⟨pl,pt⟩:=tx.part s0 hm s1
 split at h
 ·rename_i ds k e1 e2
  rw [e2] at ry
  obtain ⟨d,hd,hR⟩:=h
  obtain ⟨l,vs,rfl,hl,hn,hp⟩:=pl ds e1
  obtain ⟨z,hz,tz⟩:=Zu7 hn hp hd
  exact .inl ⟨l,vs,k,z,rfl,ry.int_inv,SqL.of hl,hz,q _ _ H2 hR (Same.refl _) tz⟩
 ·rename_i ds k e1 e2
  rw [e2] at ry
  obtain ⟨d,hd,hR⟩:=h
  obtain ⟨l,vs,rfl,hl,hn,hp⟩:=pt ds e1
  obtain ⟨z,hz,tz⟩:=Zu7 hn hp hd
  exact .inr ⟨l,vs,k,z,rfl,ry.int_inv,SqT.of hl,hz,q _ _ H2 hR (Same.refl _) tz⟩
 ·rename_i ns k e1 e2
  rw [e2] at ry
  obtain ⟨i,hi,hR⟩:=h
  have rx:=tx.rp s0
  rw [e1] at rx
  cases rx with
  | scr hs=>exact .inl ⟨_,_,k,.int i,rfl,ry.int_inv,hs,Zeh hi,q _ _ H2 hR (Same.refl _) (.int i)⟩
 ·exact h.elim
def pAndV (a b:PTE):PTE:=fun γ R X=>a γ (fun x=>match x.d with | .bl c=>if c=true then b γ R X else R (.sh (.bl false)) | _=>False) X
def pNotV (a:PTE):PTE:=fun γ R X=>a γ (fun x=>match x.d with | .bl c=>R (.sh (.bl (!c))) | _=>False) X
theorem Zqd (ha:SndE K mg E ta a) (hb:SndE K mg E tb b):SndE K mg E (tAndV ta tb) (pAndV a b):=by
 intro H0 B H σ γ R X Q env p q qx
 refine ha H0 B H σ γ _ X _ env p (fun x v H1 h1 S1 t1=>?_) qx
 have env1:=env.grow S1
 have rx:=t1.rp env1.same
 split at h1
 ·rename_i c e1
  rw [e1] at rx
  refine ⟨c,rx.bl_inv,?_⟩
  split at h1
  ·rename_i hc
   rw [Uae hc]
   exact hb H0 B H1 σ γ _ X _ env1 h1 (fun y u H2 h2 S2 t2=>q y u H2 h2 (S1.trans S2) (TV.weak S1 (fun _ z=>z) t2)) fun c H' hc S'=>qx c H' hc (S1.trans S')
  ·rename_i hc
   rw [Uad hc]
   exact q _ _ H1 h1 S1 (.bl _)
 ·exact h1.elim
theorem Zqp (ha:SndE K mg E ta a):SndE K mg E (tNotV ta) (pNotV a):=by
 intro H0 B H σ γ R X Q env p q qx
 refine ha H0 B H σ γ _ X _ env p (fun x v H1 h1 S1 t1=>?_) qx
 have rx:=t1.rp (env.grow S1).same
 split at h1
 ·rename_i c e1
  rw [e1] at rx
  exact ⟨c,rx.bl_inv,q _ _ H1 h1 S1 (.bl _)⟩
 ·exact h1.elim
def pNeg (a:PTE):PTE:=fun γ R X=>a γ (fun x=>match x.d with | .int i=>R (.sh (.int (-i))) | _=>False) X
theorem Zlz (ha:SndE K mg E ta a):SndE K mg E (tUn (rU fun i=>.int (-i)) ta) (pNeg a):=by
 intro H0 B H σ γ R X Q env p q qx
 refine ha H0 B H σ γ _ X _ env p (fun x v H1 h1 S1 t1=>?_) qx
 have rx:=t1.rp (env.grow S1).same
 split at h1
 ·rename_i c e1
  rw [e1] at rx
  exact ⟨c,rx.int_inv,q _ _ H1 h1 S1 (.int _)⟩
 ·exact h1.elim
def pTest (a:PTE):PTT:=fun γ R X=>a γ (fun x=>match x.d with | .bl c=>R c | _=>False) X
theorem Zay (ha:SndE K mg E ta a):SndT K mg E (tTest ta) (pTest a):=by
 intro H0 B H σ γ R X Q env p q qx
 refine ha H0 B H σ γ _ X _ env p (fun x v H1 h1 S1 t1=>?_) qx
 have rx:=t1.rp (env.grow S1).same
 split at h1
 ·rename_i c e1
  rw [e1] at rx
  exact ⟨c,rx.bl_inv,q _ H1 h1 S1⟩
 ·exact h1.elim
theorem st_b (ha:SndE K mg E ta a):SndT K mg E (tB ta) (pTest a):=Zay ha
variable {sa sb:TT} {pa pb:PTT}
def pAnd (a b:PTT):PTT:=fun γ R X=>a γ (fun c=>if c=true then b γ R X else R false) X
def pOr (a b:PTT):PTT:=fun γ R X=>a γ (fun c=>if c=true then R true else b γ R X) X
def pNot (a:PTT):PTT:=fun γ R X=>a γ (fun c=>R (!c)) X
theorem Zuo (ha:SndT K mg E sa pa) (hb:SndT K mg E sb pb):SndT K mg E (tAnd sa sb) (pAnd pa pb):=by
 intro H0 B H σ γ R X Q env p q qx
 refine ha H0 B H σ γ _ X _ env p (fun c H1 h1 S1=>?_) qx
 split at h1
 ·rename_i hc
  rw [Uae hc]
  exact hb H0 B H1 σ γ _ X _ (env.grow S1) h1 (fun y H2 h2 S2=>q y H2 h2 (S1.trans S2)) fun c H' hc S'=>qx c H' hc (S1.trans S')
 ·rename_i hc
  rw [Uad hc]
  exact q _ H1 h1 S1
theorem Zhf (ha:SndT K mg E sa pa) (hb:SndT K mg E sb pb):SndT K mg E (tOr sa sb) (pOr pa pb):=by
 intro H0 B H σ γ R X Q env p q qx
 refine ha H0 B H σ γ _ X _ env p (fun c H1 h1 S1=>?_) qx
 split at h1
 ·rename_i hc
  rw [Uae hc]
  exact q _ H1 h1 S1
 ·rename_i hc
  rw [Uad hc]
  exact hb H0 B H1 σ γ _ X _ (env.grow S1) h1 (fun y H2 h2 S2=>q y H2 h2 (S1.trans S2)) fun c H' hc S'=>qx c H' hc (S1.trans S')
theorem Zed (ha:SndT K mg E sa pa):SndT K mg E (tNot sa) (pNot pa):=by
 intro H0 B H σ γ R X Q env p q qx
 exact ha H0 B H σ γ _ X _ env p (fun c H1 h1 S1=>q _ H1 h1 S1) qx
end
def pNil:PTA:=fun _ R _=>R []
def pCons (a:PTE) (r:PTA):PTA:=fun γ R X=>a γ (fun s=>r γ (fun ss=>R (s :: ss)) X) X
theorem Zae:SndA K mg E tNil pNil:=by
 intro H0 B H σ γ R X Q env p q _
 exact q _ _ H p (Same.refl _) .nil
theorem Zaa {te:TE} {ta:TA} {a:PTE} {r:PTA} (ha:SndE K mg E te a) (hr:SndA K mg E ta r):SndA K mg E (tCons te ta) (pCons a r):=by
 intro H0 B H σ γ R X Q env p q qx
 refine ha H0 B H σ γ _ X _ env p (fun s v H1 h1 S1 t1=>?_) qx
 refine hr H0 B H1 σ γ _ X _ (env.grow S1) h1 (fun ss vs H2 h2 S2 t2=>?_) fun c H' hc S'=>qx c H' hc (S1.trans S')
 exact q _ _ H2 h2 (S1.trans S2) (.cons (t1.grow S2) (TVs.weakG S1 t2))
def shds:List S->Option (List D)
 | []=>some []
 | s :: r=>match s.shd,shds r with
  | some d,some ds=>some (d :: ds)
  | _,_=>none
theorem Znh:∀ {ss:List S} {ds:List D},shds ss=some ds->ss.map S.shd=ds.map some
 | [],ds,h=>by cases h;rfl
 | s :: r,ds,h=>by
  unfold shds at h
  split at h
  ·rename_i d es e1 e2
   cases h
   rw [Uai,Uai,e1,Znh e2]
  ·cases h
def pTup (r:PTA):PTE:=fun γ R X=>r γ (fun ss=>match shds ss with | some ds=>ds.length<=1000/\R (.sh (.tup ds)) | none=>False) X
def pLst (r:PTA):PTE:=fun γ R X=>r γ (fun ss=>match shds ss with | some ds=>ds.length<=1000/\R (.own ds) | none=>False) X
theorem big1000 {n:Nat} (h:n<=1000):n<=sizeLine:=Ucu (small1000 h)
theorem Zdb {ta:TA} {r:PTA} (hr:SndA K mg E ta r):SndE K mg E (tTup ta) (pTup r):=by
 intro H0 B H σ γ R X Q env p q qx
 refine hr H0 B H σ γ _ X _ env p (fun ss vs H1 h1 S1 t1=>?_) qx
 split at h1
 ·rename_i ds e
  have env1:=env.grow S1
  have rp:=t1.shd (ds:=ds) env1.same env.zm S1 (Znh e)
  refine ⟨by rw [rp.len];exact big1000 h1.1,fun l nl=>?_⟩
  have S2:=Zaw (o:=.tup vs) nl
  refine q _ _ _ h1.2 (S1.trans S2) (.tup (Zc Zas fun z=>?_) (Rps.mono (Zal S2 fun _ _ _ z=>z) rp))
  have:=env1.zm l z
  rw [nl] at this
  exact this
 ·exact h1.elim
theorem Zgq {H H1:Hp} {l:Addr} {vs:List V} {ds:List D} (S1:Same H H1) (nl:H1 l=none) (rp:Rps K (off Z H1) ds vs):TV K Z H0 H (upd H1 l (.lst vs)) (.own ds) (.ref l):=
 ⟨l,rfl,(fun _ e=>e ▸ S1.free nl),vs,Zas,Rps.mono (Zal (Zaw nl) fun b o hb z y=>y.elim z fun e=>by rw [e,nl] at hb;cases hb) rp⟩
theorem Zbf {ta:TA} {r:PTA} (hr:SndA K mg E ta r):SndE K mg E (tLst ta) (pLst r):=by
 intro H0 B H σ γ R X Q env p q qx
 refine hr H0 B H σ γ _ X _ env p (fun ss vs H1 h1 S1 t1=>?_) qx
 split at h1
 ·rename_i ds e
  have env1:=env.grow S1
  have rp:=t1.shd (ds:=ds) env1.same env.zm S1 (Znh e)
  refine ⟨by rw [rp.len];exact big1000 h1.1,fun l nl=>?_⟩
  exact q _ _ _ h1.2 (S1.trans (Zaw nl)) (Zgq S1 nl rp)
 ·exact h1.elim
abbrev Pc:=List D->(S->Prop)->XR->Prop
def spOf (mg:Str->Option Value) (c:Pc) (K:PySem.W.Frag):Sp:=fun vs H Q E=>∃ ds R X,Rps K H ds vs/\c ds R X/\(∀ s v H',R s->Same H H'->TV K (fun b=>Mut (H b)) H H H' s v->Q v H')/\∀ e H',X e->Same H H'->E (.ref (ExcR.clsOf mg e)) none H'
def S.back:S->S
 | .bor d=>argT d | .view o=>.tmp o.d | s=>s
theorem TV.back {s:S} {v:V} (env:EnvR K H0 B H1 σ γ) (S1:Same H H1) (S2:Same H1 H') (h:TV K (fun b=>Mut (H1 b)) H1 H1 H' s v):TV K (zof B γ σ) H0 H H' s.back v:=by
 cases s with
 | bor d=>exact argTR (fun b z=>Zc4 S2 (env.zm b z)) (Rp.mono S2 h)
 | sh d=>exact Rp.mono (Zal (Same.refl _) fun b _ _ z y=>z (env.zm b y)) h
 | own ds=>
  obtain ⟨a,rfl,e0,r⟩:=h
  exact ⟨a,rfl,(fun b hb=>S1.free (e0 b hb)),r.mono (Zal (Same.refl _) fun b _ _ z y=>z (y.imp (env.zm b) id)) fun _ _ _ q=>q⟩
 | view ds=>
  obtain ⟨a,rfl,r⟩:=h
  exact r.rp off_sub
 | tmp d=>exact h
def pCall (c:Pc) (r:PTA):PTE:=fun γ R X=>r γ (fun ss=>c (ss.map S.d) (fun s=>R s.back) fun _=>False) X
def pCallX (c:Pc) (r:PTA):PTE:=fun γ R X=>r γ (fun ss=>c (ss.map S.d) (fun s=>R s.back) X) X
theorem Zak {c:Pc} {ta:TA} {r:PTA} (hr:SndA K mg E ta r):SndE K mg E (tCall (spOf mg c K) [] E0 ta) (pCall c r):=by
 intro H0 B H σ γ R X Q env p q qx
 refine hr H0 B H σ γ _ X _ env p (fun ss vs H1 h1 S1 t1=>?_) qx
 rw [Ubi]
 have env1:=env.grow S1
 exact ⟨_,_,_,t1.rps env1.same,h1,fun s v H' hs S2 tv=>q _ _ H' hs (S1.trans S2) (tv.back env1 S1 S2),fun _ _ z=>z.elim⟩
theorem Ze8 {c:Pc} {ta:TA} {r:PTA} {Ec:XK} (hr:SndA K mg (fun _=>Ec) ta r):SndE K mg (fun _=>Ec) (tCall (spOf mg c K) [] Ec ta) (pCallX c r):=by
 intro H0 B H σ γ R X Q env p q qx
 refine hr H0 B H σ γ _ X _ env p (fun ss vs H1 h1 S1 t1=>?_) qx
 rw [Ubi]
 have env1:=env.grow S1
 exact ⟨_,_,X,t1.rps env1.same,h1,fun s v H' hs S2 tv=>q _ _ H' hs (S1.trans S2) (tv.back env1 S1 S2),fun e H' he S2=>qx e H' he (S1.trans S2)⟩
end
end Pu
namespace Pu
open PySem PySem.Spec PyProof.Rows L2 Own
section
variable {K:PySem.W.Frag} {mg:Str->Option Value} {E:L2.St->XK} {H0 H H1 H':Hp} {B Z Z':Addr->Prop} {σ:L2.St} {γ:Γ}
theorem EnvR.set {i:Nat} {s s':S} {v:V} (Ev:EnvR K H0 B H σ γ) (S1:Same H H') (h:TV K (zof B γ σ) H0 H H' s v) (e:s.slot=some s') :
  EnvR K H0 B H' (σ.set i (some v)) (γ.set i (some s'))/\Fr B H σ γ H' (σ.set i (some v)) (γ.set i (some s')):=by
 by_cases hi:i < γ.length
 ·exact Ev.put S1 h e hi
 ·rw [List.set_eq_of_length_le (by rw [Ev.len];omega),List.set_eq_of_length_le (by omega)]
  exact ⟨Ev.grow S1,Fr.grow S1⟩
def Upd (is:List Nat) (σ σ':L2.St):Prop:=(∀ j,j∉is->σ'[j]?=σ[j]?)/\σ'.length=σ.length
def SndGi (K:PySem.W.Frag) (is:List Nat) (t:TG) (p:PTG):Prop:=∀ (H0:Hp) (B:Addr->Prop) (H H':Hp) (σ:L2.St) (γ:Γ) (s:S) (v:V) (R:Γ->Prop) (Q:L2.St->Hp->Prop),EnvR K H0 B H σ γ->Same H H'->TV K (zof B γ σ) H0 H H' s v->p s γ R->
 (∀ σ' γ',R γ'->EnvR K H0 B H' σ' γ'->Fr B H σ γ H' σ' γ'->Upd is σ σ'->Q σ' H')->t v σ H' Q
def pName (i:Nat):PTG:=fun s γ R=>match s.slot with | some s'=>R (γ.set i (some s')) | none=>False
theorem Zag (i:Nat):SndGi K [i] (gName i) (pName i):=by
 intro H0 B H H' σ γ s v R Q env S1 tv p q
 unfold pName at p
 split at p
 ·rename_i s' e
  obtain ⟨e1,f1⟩:=env.set (i:=i) S1 tv e
  exact q _ _ p e1 f1 ⟨fun j hj=>Zip fun z=>hj (by rw [z];exact Uag.mpr rfl),Ubw⟩
 ·exact p.elim
def pGNil:PTGs:=fun ss γ R=>match ss with | []=>R γ | _=>False
def pGCons (g:PTG) (r:PTGs):PTGs:=fun ss γ R=>match ss with | s :: t=>g s γ fun γ'=>r t γ' R | []=>False
theorem TV.notown {s:S} {v:V} {σ':L2.St} {γ':Γ} {Hb:Hp} (f:Fr B H σ γ H' σ' γ') (hb:Same H H') (n:∀ ds,s≠.own ds) (nv:∀ ds,s≠.view ds) (h:TV K (zof B γ σ) H0 Hb H s v):TV K (zof B γ' σ') H0 H' H' s v:=by
 cases s with
 | bor d=>exact h
 | sh d=>exact Rp.mono f.off h
 | own ds=>exact absurd rfl (n ds)
 | view ds=>exact absurd rfl (nv ds)
 | tmp d=>exact Rp.mono hb h
theorem TVs.notown {σ':L2.St} {γ':Γ} {Hb:Hp} (f:Fr B H σ γ H σ' γ'):∀ {ss:List S} {vs:List V},(∀ s∈ss,∀ ds,s≠.own ds/\s≠.view ds)->TVs K (zof B γ σ) H0 Hb H ss vs->TVs K (zof B γ' σ') H0 H H ss vs
 | _,_,_,.nil=>.nil
 | _,_,n,.cons h r=>.cons (h.notown f (Same.refl _) (fun ds=>(n _ Ua1 ds).1) fun ds=>(n _ Ua1 ds).2) (TVs.notown f (fun s hs=>n s (Uav _ hs)) r)
theorem Zkg (d:D):arg d=.sh d\/arg d=.bor d:=by unfold arg;cases imm d<;>simp
theorem Zsv (d:D):argT d=.sh d\/argT d=.tmp d:=by unfold argT;cases imm d<;>simp
theorem Zok (s:S) (d:D):∀ ds,s.sub d≠.own ds/\s.sub d≠.view ds:=fun ds=>by
 cases s with
 | bor b=>rcases Zkg d with e | e<;>(show arg d≠_/\arg d≠_;rw [e];exact ⟨(fun z=>by cases z),(fun z=>by cases z)⟩)
 | tmp b=>rcases Zsv d with e | e<;>(show argT d≠_/\argT d≠_;rw [e];exact ⟨(fun z=>by cases z),(fun z=>by cases z)⟩)
 | sh b=>exact ⟨(fun z=>by cases z),(fun z=>by cases z)⟩
 | own b=>exact ⟨(fun z=>by cases z),(fun z=>by cases z)⟩
 | view b=>exact ⟨(fun z=>by cases z),(fun z=>by cases z)⟩
def SndGsj (K:PySem.W.Frag) (is:List Nat) (t:TGs) (p:PTGs):Prop:=∀ (H0:Hp) (B:Addr->Prop) (H:Hp) (σ:L2.St) (γ:Γ) (ss:List S) (vs:List V) (R:Γ->Prop) (Q:L2.St->Hp->Prop),EnvR K H0 B H σ γ->TVs K (zof B γ σ) H0 H H ss vs->(∀ s∈ss,∀ ds,s≠.own ds/\s≠.view ds)->p ss γ R->
 (∀ σ' γ',R γ'->EnvR K H0 B H σ' γ'->Fr B H σ γ H σ' γ'->Upd is σ σ'->Q σ' H)->t vs σ H Q
theorem Zib:SndGsj K [] gNil pGNil:=by
 intro H0 B H σ γ ss vs R Q env tv no p q
 cases tv with
 | nil=>exact ⟨rfl,q _ _ p env Fr.refl ⟨fun _ _=>rfl,rfl⟩⟩
 | cons _ _=>exact p.elim
theorem Zbt {is js:List Nat} {g:TG} {r:TGs} {pg:PTG} {pr:PTGs} (hg:SndGi K is g pg) (hr:SndGsj K js r pr):SndGsj K (is++js) (gCons g r) (pGCons pg pr):=by
 intro H0 B H σ γ ss vs R Q env tv no p q
 cases tv with
 | nil=>exact p.elim
 | cons h t=>
  refine ⟨_,_,rfl,hg H0 B H H σ γ _ _ _ _ env (Same.refl _) h p fun σ1 γ1 p1 e1 f1 k1=>?_⟩
  refine hr H0 B H σ1 γ1 _ _ _ _ e1 (TVs.notown f1 (fun s hs=>no s (Uav _ hs)) t) (fun s hs=>no s (Uav _ hs)) p1 fun σ2 γ2 p2 e2 f2 k2=>?_
  exact q σ2 γ2 p2 e2 (f1.trans f2) ⟨fun j hj=>(k2.1 j fun z=>hj (Ua3 _ z)).trans (k1.1 j fun z=>hj (Ub8 _ z)),k2.2.trans k1.2⟩
def pTupG (n:Nat) (r:PTGs):PTG:=fun s γ R=>match s.d with | .tup ds=>ds.length=n/\r (ds.map s.sub) γ R | _=>False
theorem TVs.of_part {ds:List D} {s:S}:∀ {vs:List V} {ds:List D},vs.length=ds.length->(∀ (i:Nat) d,ds[i]?=some d->∃ u,vs[i]?=some u/\TV K Z H0 H H' (s.sub d) u)->TVs K Z H0 H H' (ds.map s.sub) vs
 | [],[],_,_=>.nil
 | [],_ :: _,e,_=>by cases e
 | _ :: _,[],e,_=>by cases e
 | v :: vs,d :: ds,e,h=>by
  obtain ⟨u,h1,h2⟩:=h 0 d rfl
  cases h1
  exact .cons h2 (TVs.of_part (ds:=ds) (by simpa using e) fun i d' hd=>by simpa using h (i + 1) d' (by simpa using hd))
theorem Zma {n:Nat} {is:List Nat} {r:TGs} {pr:PTGs} (hr:SndGsj K is r pr):SndGi K is (gTup K n r) (pTupG n pr):=by
 intro H0 B H H' σ γ s v R Q env S1 tv p q
 unfold pTupG at p
 have env1:=env.grow S1
 obtain ⟨_,pt⟩:=tv.part env1.same env.zm S1
 split at p
 ·rename_i ds e
  obtain ⟨a,vs,rfl,ha,hn,hp⟩:=pt ds e
  refine ⟨a,vs,rfl,SqT.of ha,hn.trans p.1,?_⟩
  have tvs:=TVs.of_part (ds:=ds) hn hp
  refine hr H0 B H' σ γ _ vs R Q env1 (TVs.notown (Fr.refl) (fun s' hs ds=>?_) tvs) (fun s' hs ds=>?_) p.2 fun σ' γ' hR e1 f1 k1=>q σ' γ' hR e1 (Fr.trans (Fr.grow S1) f1) k1
  ·obtain ⟨d,_,rfl⟩:=Ua5.mp hs
   exact Zok s d ds
  ·obtain ⟨d,_,rfl⟩:=Ua5.mp hs
   exact Zok s d ds
 ·exact p.elim
theorem EndR.from {R:PEnds} {D:Ends} {σ1:L2.St} {γ1:Γ} (e:EndR K mg E H0 B H σ γ R D) (f:Fr B H σ γ H1 σ1 γ1):EndR K mg E H0 B H1 σ1 γ1 R D:=
 ⟨fun σ' γ' H' h1 h2 h3=>e.nx σ' γ' H' h1 h2 (f.trans h3),e.rt,fun σ' γ' c H' h1 h2 h3=>e.ex σ' γ' c H' h1 h2 (f.trans h3),fun σ' γ' H' h1 h2 h3=>e.bk σ' γ' H' h1 h2 (f.trans h3),fun σ' γ' H' h1 h2 h3=>e.ct σ' γ' H' h1 h2 (f.trans h3),fun σ' γ' d v H' h1 h2 h3=>e.rv σ' γ' d v H' h1 h2 (f.trans h3)⟩
variable {te:TE} {a:PTE} {tt:TT} {c:PTT} {t u:TS} {p q:PTS}
def pNext:PTS:=fun R γ=>R.nx γ
theorem Za3:SndS K mg E tNext pNext:=fun _ _ _ _ _ _ _ _ env h e=>e.nx _ _ _ h env Fr.refl
def pSeq (p q:PTS):PTS:=fun R γ=>p { R with nx:=q R } γ
theorem Zaj (hp:SndS K mg E t p) (hq:SndS K mg E u q):SndS K mg E (tSeq t u) (pSeq p q):=by
 intro H0 B H σ γ R D hB env h e
 refine hp H0 B H σ γ _ _ hB env h ⟨fun σ' γ' H' h1 e1 f1=>?_,e.rt,e.ex,e.bk,e.ct,e.rv⟩
 exact hq H0 B H' σ' γ' R D hB e1 h1 (e.from f1)
structure JoinW (p q:PTS) (R:PEnds) (γ:Γ):Prop where
 w:∃ J:Γ->Prop,p { R with nx:=J } γ/\∀ γ',J γ'->q R γ'
def pJoin (p q:PTS):PTS:=fun R γ=>JoinW p q R γ
theorem Zu8 (hp:SndS K mg E t p) (hq:SndS K mg E u q):SndS K mg E (Own.tJoin t u) (pJoin p q):=by
 intro H0 B H σ γ R D hB env h e
 obtain ⟨J,h,k⟩:=h.w
 refine ⟨fun σ' H'=>∃ γ',J γ'/\EnvR K H0 B H' σ' γ'/\Fr B H σ γ H' σ' γ',hp H0 B H σ γ _ _ hB env h ⟨fun σ' γ' H' h1 e1 f1=>⟨γ',h1,e1,f1⟩,e.rt,e.ex,e.bk,e.ct,e.rv⟩,?_⟩
 rintro σ' H' ⟨γ',h1,e1,f1⟩
 exact hq H0 B H' σ' γ' R D hB e1 (k γ' h1) (e.from f1)
def pFrz (i:Nat) (p:PTS):PTS:=fun R γ=>p R (frz i γ)
theorem Za2 (i:Nat) (hp:SndS K mg E t p):SndS K mg E t (pFrz i p):=by
 intro H0 B H σ γ R D hB env h e
 obtain ⟨e1,f1⟩:=env.frz hB i
 exact hp H0 B H σ _ R D hB e1 h (e.from f1)
def pAsg (a:PTE) (g:PTG):PTS:=fun R γ=>a γ (fun s=>g s γ R.nx) (R.ex γ)
theorem Zao {is:List Nat} {g:TG} {pg:PTG} (ha:SndE K mg E te a) (hg:SndGi K is g pg):SndS K mg E (tAsg te g) (pAsg a pg):=by
 intro H0 B H σ γ R D hB env h e
 refine ha H0 B H σ γ _ _ _ env h (fun s v H1 h1 S1 t1=>?_) fun c H' hc S'=>e.ex σ γ c H' hc (env.grow S') (Fr.grow S')
 exact hg H0 B H H1 σ γ s v _ _ env S1 t1 h1 fun σ' γ' h2 e2 f2 _=>e.nx σ' γ' H1 h2 e2 f2
def pAug (i:Nat) (f:Int->Int->Int) (a:PTE):PTS:=fun R γ=>match γ[i]? with
 | some (some (.sh (.int x)))=>a γ (fun y=>match y.d with | .int j=>R.nx (γ.set i (some (.sh (.int (f x j))))) | _=>False) (R.ex γ)
 | _=>False
theorem Zyx {i:Nat} {f:Int->Int->Int} (ha:SndE K mg E te a):SndS K mg E (tAug i te (ipI f)) (pAug i f a):=by
 intro H0 B H σ γ R D hB env h e
 unfold pAug at h
 split at h
 ·rename_i x hx
  obtain ⟨v,h1,h2⟩:=env.slot i _ hx
  refine ⟨v,h1,ha H0 B H σ γ _ _ _ env h (fun y u H1 h3 S1 t1=>?_) fun c H' hc S'=>e.ex σ γ c H' hc (env.grow S') (Fr.grow S')⟩
  have rx:=t1.rp (env.grow S1).same
  split at h3
  ·rename_i j ej
   rw [ej] at rx
   refine ⟨x,j,Rp.int_inv h2,rx.int_inv,?_⟩
   obtain ⟨e1,f1⟩:=env.set (i:=i) (s:=.sh (.int (f x j))) (v:=.int (f x j)) S1 (.int _) rfl
   exact e.nx _ _ H1 h3 e1 f1
  ·exact h3.elim
 ·exact h.elim
def pRet (a:PTE):PTS:=fun R γ=>a γ R.rt (R.ex γ)
theorem Za0 (ha:SndE K mg E te a):SndS K mg E (tRet te) (pRet a):=by
 intro H0 B H σ γ R D hB env h e
 refine ha H0 B H σ γ _ _ _ env h (fun s v H1 h1 S1 t1=>?_) fun c H' hc S'=>e.ex σ γ c H' hc (env.grow S') (Fr.grow S')
 exact e.rt s v H1 h1 (env.same.trans S1) (TV.weak env.same (fun b z=>.inl z) t1)
def pRetV (i:Nat):PTS:=fun R γ=>match γ[i]? with | some (some s)=>R.rt s | _=>False
theorem Zdh (i:Nat):SndS K mg E (tRet (tVar i)) (pRetV i):=by
 intro H0 B H σ γ R D hB env h e
 unfold pRetV at h
 split at h
 ·rename_i s hs
  obtain ⟨v,h1,h2⟩:=env.slot i _ hs
  refine ⟨v,h1,e.rt s v H h env.same ?_⟩
  cases s with
  | bor d=>exact h2
  | sh d=>exact Rp.mono (Zal (Same.refl _) fun b _ _ z y=>z (.inl y)) h2
  | own ds=>
   obtain ⟨l,rfl,e2,e3⟩:=h2
   exact ⟨l,rfl,e2,e3.mono (Zal (Same.refl _) fun b _ _ z y=>z (y.elim .inl fun w=>.inr ⟨i,ds,l,hs,h1,w⟩)) fun _ _ _ q=>q⟩
  | view ds=>exact h2.elim
  | tmp d=>exact h2.elim
 ·exact h.elim
def pIfS (c:PTT) (p q:PTS):PTS:=fun R γ=>c γ (fun b=>if b=true then p R γ else q R γ) (R.ex γ)
theorem Zb6 (hc:SndT K mg E tt c) (hp:SndS K mg E t p) (hq:SndS K mg E u q):SndS K mg E (tIfS tt t u) (pIfS c p q):=by
 intro H0 B H σ γ R D hB env h e
 refine hc H0 B H σ γ _ _ _ env h (fun b H1 h1 S1=>?_) fun c H' hc S'=>e.ex σ γ c H' hc (env.grow S') (Fr.grow S')
 split at h1
 ·rename_i hb
  rw [Uae hb]
  exact hp H0 B H1 σ γ R D hB (env.grow S1) h1 (e.from (Fr.grow S1))
 ·rename_i hb
  rw [Uad hb]
  exact hq H0 B H1 σ γ R D hB (env.grow S1) h1 (e.from (Fr.grow S1))
def pDrop (a:PTE):PTS:=fun R γ=>a γ (fun _=>R.nx γ) (R.ex γ)
theorem Zei (ha:SndE K mg E te a):SndS K mg E (tDrop te) (pDrop a):=by
 intro H0 B H σ γ R D hB env h e
 exact ha H0 B H σ γ _ _ _ env h (fun s v H1 h1 S1 t1=>e.nx σ γ H1 h1 (env.grow S1) (Fr.grow S1)) fun c H' hc S'=>e.ex σ γ c H' hc (env.grow S') (Fr.grow S')
def pNever:PTS:=fun _ _=>False
theorem Zwo:SndS K mg E tNever pNever:=fun _ _ _ _ _ _ _ _ _ h _=>h
def pRaise (x:Str) (r:PTA):PTS:=fun R γ=>r γ (fun ss=>ss.length<=1000/\R.ex γ x) (R.ex γ)
theorem TVs.len:∀ {ss:List S} {vs:List V},TVs K Z H0 H H' ss vs->vs.length=ss.length
 | _,_,.nil=>rfl
 | _,_,.cons _ r=>Ube (· + 1) (TVs.len r)
theorem Zdt {x:Str} {ta:TA} {r:PTA} {Ec:XK} (hr:SndA K mg (fun _=>Ec) ta r):SndS K mg (fun _=>Ec) (ExcR.tRaise (ExcR.clsOf mg x) Ec ta) (pRaise x r):=by
 intro H0 B H σ γ R D hB env h e
 refine hr H0 B H σ γ _ _ _ env h (fun ss vs H1 h1 S1 t1=>⟨?_,?_⟩) fun c H' hc S'=>e.ex σ γ c H' hc (env.grow S') (Fr.grow S')
 ·rw [t1.len]
  exact big1000 h1.1
 ·exact e.ex σ γ x H1 h1.2 (env.grow S1) (Fr.grow S1)
def fPar (i j:Nat) (γ:Γ) (R:Γ->Prop):List S->Prop
 | [.sh d,.sh e]=>R ((γ.set i (some (.sh d))).set j (some (.sh e)))
 | _=>False
def pPar (i j:Nat) (r:PTA):PTS:=fun R γ=>r γ (fPar i j γ R.nx) (R.ex γ)
theorem Zzj {i j:Nat} {ta:TA} {r:PTA} (hr:SndA K mg E ta r):SndS K mg E (tPar i j ta) (pPar i j r):=by
 intro H0 B H σ γ R D hB env h e
 refine hr H0 B H σ γ _ _ _ env h (fun ss vs H1 h1 S1 t1=>?_) fun c H' hc S'=>e.ex σ γ c H' hc (env.grow S') (Fr.grow S')
 unfold fPar at h1
 split at h1
 ·rename_i d e'
  cases t1 with
  | cons tx t1=>
   cases t1 with
   | cons ty t1=>
    cases t1
    rename_i vx vy
    refine ⟨_,_,rfl,?_⟩
    obtain ⟨e1,f1⟩:=env.set (i:=i) S1 tx rfl
    have ty1:TV K (zof B (γ.set i (some (.sh d))) (σ.set i (some vx))) H0 H1 H1 (.sh e') vy:=by
     refine Rp.mono (Zal (Same.refl _) fun b _ _ hz z=>hz ?_) ty
     rcases z with z | ⟨k,ds,x,k1,k2,k3⟩
     ·exact .inl z
     ·rcases Za8 k1 with ⟨_,q,_⟩ | ⟨nk,q⟩
      ·cases q
      ·rw [Zip nk] at k2
       exact .inr ⟨k,ds,x,q,k2,k3⟩
    obtain ⟨e2,f2⟩:=e1.set (i:=j) (Same.refl _) ty1 rfl
    exact e.nx _ _ H1 h1 e2 (f1.trans f2)
 ·exact h1.elim
def clr:List Nat->Γ->Γ
 | [],γ=>γ
 | i :: r,γ=>clr r (γ.set i none)
theorem EnvR.clr:∀ (is:List Nat) {γ:Γ},EnvR K H0 B H σ γ->EnvR K H0 B H σ (clr is γ)/\Fr B H σ γ H σ (Pu.clr is γ)
 | [],_,e=>⟨e,Fr.refl⟩
 | i :: r,γ,e=>by
  obtain ⟨e1,f1⟩:=e.drop i
  obtain ⟨e2,f2⟩:=EnvR.clr r e1
  exact ⟨e2,f1.trans f2⟩
def Later (H0:Hp) (Z:Addr->Prop) (H1:Hp) (Z':Addr->Prop) (H':Hp):Prop:=Same H0 H'/\(∀ b,Z' b->Mut (H' b))/\∀ b o,H1 b=some o->¬ Z b->H' b=some o/\¬ Z' b
theorem Later.of {σ':L2.St} {γ':Γ} (e:EnvR K H0 B H' σ' γ') (f:Fr B H1 σ γ H' σ' γ'):Later H0 (zof B γ σ) H1 (zof B γ' σ') H':=⟨e.same,e.zm,f⟩
theorem Later.off (l:Later H0 Z H1 Z' H'):Same (off Z H1) (Pu.off Z' H'):=fun b o h=>by
 obtain ⟨h1,h2⟩:=Zgl h
 obtain ⟨h3,h4⟩:=l.2.2 b o h1 h2
 exact Zc h3 h4
structure ItOk (K:PySem.W.Frag) (H0:Hp) (B:Addr->Prop) (H1:Hp) (σ:L2.St) (γ:Γ) (J:It) (n:Nat) (item:Nat->S):Prop where
 go:∀ (i:Nat) (H':Hp) (Z':Addr->Prop),i < n->Later H0 (zof B γ σ) H1 Z' H'->J.go i H'/\∀ x H'',J.yld i H' x H''->Same H' H''/\TV K Z' H0 H' H'' (item i) x
 stop:∀ (H':Hp) (Z':Addr->Prop),Later H0 (zof B γ σ) H1 Z' H'->J.stop n H'
abbrev PTI:=Γ->(Nat->(Nat->S)->Prop)->XR->Prop
def SndI (K:PySem.W.Frag) (mg:Str->Option Value) (E:L2.St->XK) (wi:TI) (it:PTI):Prop:=∀ (H0:Hp) (B:Addr->Prop) (H:Hp) (σ:L2.St) (γ:Γ) (R:Nat->(Nat->S)->Prop) (X:XR) (Q:It->Hp->Prop),EnvR K H0 B H σ γ->it γ R X->
 (∀ n item J H1,R n item->Same H H1->ItOk K H0 B H1 σ γ J n item->Q J H1)->(∀ c H',X c->Same H H'->E σ (.ref (ExcR.clsOf mg c)) none H')->wi σ H Q
structure ForW (js:List Nat) (γ:Γ) (g:PTG) (body:PTS) (R:PEnds) (n:Nat) (item:Nat->S):Prop where
 w:∃ inv:Nat->Γ->Prop,inv 0 (clr js γ)/\
 (∀ i γ',i < n->inv i γ'->g (item i) γ' fun γ2=>body { R with nx:=fun γ3=>inv (i + 1) (clr js γ3),ct:=fun γ3=>inv (i + 1) (clr js γ3),bk:=R.nx } γ2)/\∀ γ',inv n γ'->R.nx γ'
def pFor (js:List Nat) (it:PTI) (g:PTG) (body:PTS):PTS:=fun R γ=>it γ (fun n item=>ForW js γ g body R n item) (R.ex γ)
theorem Zde {is:List Nat} {wi:TI} {g:TG} {it:PTI} {pg:PTG} (js:List Nat) (hi:SndI K mg E wi it) (hg:SndGi K is g pg) (hb:SndS K mg E t p):SndS K mg E (tFor wi g t) (pFor js it pg p):=by
 intro H0 B H σ γ R D hB env h e
 refine hi H0 B H σ γ _ _ _ env h (fun n item J H1 h1 S1 ok=>?_) fun c H' hc S'=>e.ex σ γ c H' hc (env.grow S') (Fr.grow S')
 obtain ⟨inv,h0,hs,hd⟩:=h1.w
 have env1:=env.grow S1
 refine ⟨fun i m σ' H'=>m=n - i/\i<=n/\∃ γ',inv i γ'/\EnvR K H0 B H' σ' γ'/\Fr B H1 σ γ H' σ' γ',⟨n,by simp,Ubo _,_,h0,(env1.clr js).1,(env1.clr js).2⟩,?_⟩
 rintro i m σ' H' ⟨rfl,hin,γ',hi',e',f'⟩
 by_cases hlt:i < n
 ·obtain ⟨go,yl⟩:=ok.go i H' _ hlt (Later.of e' f')
  refine .inr ⟨go,fun σ2 H2=>∃ γ2,inv (i + 1) γ2/\EnvR K H0 B H2 σ2 γ2/\Fr B H1 σ γ H2 σ2 γ2,fun σ2 H2 ⟨γ2,a1,a2,a3⟩=>⟨n - (i + 1),by omega,rfl,hlt,γ2,a1,a2,a3⟩,fun x H'' y=>?_⟩
  obtain ⟨S2,tv⟩:=yl x H'' y
  refine hg H0 B H' H'' σ' γ' _ _ _ _ e' S2 tv (hs i γ' hlt hi') fun σ2 γ2 q2 e2 f2 _=>?_
  have fall:=f'.trans f2
  refine hb H0 B H'' σ2 γ2 _ _ hB e2 q2 ⟨fun σ3 γ3 H3 q3 e3 f3=>?_,e.rt,fun σ3 γ3 c H3 q3 e3 f3=>e.ex σ3 γ3 c H3 q3 e3 ((Fr.grow S1).trans (fall.trans f3)),fun σ3 γ3 H3 q3 e3 f3=>e.nx σ3 γ3 H3 q3 e3 ((Fr.grow S1).trans (fall.trans f3)),fun σ3 γ3 H3 q3 e3 f3=>?_,fun σ3 γ3 d v H3 q3 e3 f3=>e.rv σ3 γ3 d v H3 q3 e3 ((Fr.grow S1).trans (fall.trans f3))⟩
  ·exact ⟨_,q3,(e3.clr js).1,(fall.trans f3).trans (e3.clr js).2⟩
  ·exact ⟨_,q3,(e3.clr js).1,(fall.trans f3).trans (e3.clr js).2⟩
 ·have:i=n:=by omega
  subst this
  exact .inl ⟨ok.stop H' _ (Later.of e' f'),e.nx σ' γ' H' (hd γ' hi') e' ((Fr.grow S1).trans f')⟩
def S.fix:S->Bool
 | .bor _=>true | .sh _=>true | .own _=>true | _=>false
def pIL (a:PTE):PTI:=fun γ R X=>a γ (fun s=>match s.d with
 | .lst ds=>s.fix=true/\R ds.length fun i=>s.sub (ds.getD i .non)
 | .scr ns=>s.fix=true/\R ns.length fun i=>.sh (.int (ns.getD i 0))
 | _=>False) X
theorem TV.last {s:S} {v:V} {ds:List D} (env:EnvR K H0 B H σ γ) (S1:Same H H1) (tv:TV K (zof B γ σ) H0 H H1 s v) (hf:s.fix=true) (hd:s.d=.lst ds):∃ l vs,v=.ref l/\vs.length=ds.length/\
  ∀ (H':Hp) (Z':Addr->Prop),Later H0 (zof B γ σ) H1 Z' H'->H' l=some (.lst vs)/\∀ (i:Nat) d,ds[i]?=some d->∃ u,vs[i]?=some u/\TV K Z' H0 H' H' (s.sub d) u:=by
 have env1:=env.grow S1
 have key:∀ {s:S},(∀ d,s.sub d=.sh d)->Rp K (Pu.off (zof B γ σ) H1) (.lst ds) v->∃ l vs,v=.ref l/\vs.length=ds.length/\
   ∀ (H':Hp) (Z':Addr->Prop),Later H0 (zof B γ σ) H1 Z' H'->H' l=some (.lst vs)/\∀ (i:Nat) d,ds[i]?=some d->∃ u,vs[i]?=some u/\TV K Z' H0 H' H' (s.sub d) u:=fun hs h=>by
  obtain ⟨l,vs,rfl,h1,h2⟩:=Rp.lst_inv h
  refine ⟨l,vs,rfl,h2.len,fun H' Z' lt=>⟨off_sub _ _ (lt.off _ _ h1),fun i d hi=>?_⟩⟩
  obtain ⟨u,h3,h4⟩:=h2.get hi
  refine ⟨u,h3,?_⟩
  rw [hs]
  exact Rp.mono lt.off h4
 cases s with
 | bor d=>
  have tv:=Rp.strip tv
  rw [show d.strip=.lst ds from hd] at tv
  obtain ⟨l,vs,rfl,h1,h2⟩:=Rp.lst_inv tv
  refine ⟨l,vs,rfl,h2.len,fun H' Z' lt=>⟨lt.1 _ _ h1,fun i d hi=>?_⟩⟩
  obtain ⟨u,h3,h4⟩:=h2.get hi
  exact ⟨u,h3,argR lt.2.1 lt.1 h4⟩
 | sh d=>
  have:d=.lst ds:=hd
  subst this
  exact key (fun _=>rfl) tv
 | own es=>
  cases es with
  | lst es=>
   cases hd
   exact key (fun _=>rfl) (tv.shd env1.same env.zm S1 rfl)
  | lsA x es=>
   cases hd
   exact key (fun _=>rfl) (tv.shd env1.same env.zm S1 rfl)
  | dK es=>cases hd
  | dT es=>cases hd
  | ins x C xs cs=>cases hd
 | view es=>cases hf
 | tmp d=>cases hf
theorem Zcv {te:TE} {a:PTE} (ha:SndE K mg E te a):SndI K mg E (iList K te) (pIL a):=by
 intro H0 B H σ γ R X Q env h q qx
 refine ha H0 B H σ γ _ X _ env h (fun s v H1 h1 S1 t1=>?_) qx
 have env1:=env.grow S1
 split at h1
 ·rename_i ds ed
  obtain ⟨l,vs,rfl,hn,hl⟩:=t1.last env S1 h1.1 ed
  obtain ⟨hl1,_⟩:=hl H1 _ (Later.of env1 Fr.refl)
  refine ⟨l,rfl,⟨vs,SqL.of hl1⟩,q _ _ _ H1 h1.2 S1 ⟨fun i H' Z' hi lt=>?_,fun H' Z' lt=>?_⟩⟩
  ·obtain ⟨k1,k2⟩:=hl H' Z' lt
   have hd:ds[i]?=some (ds.getD i .non):=by rw [Uac,Uaa hi];rfl
   obtain ⟨u,hu,tu⟩:=k2 i _ hd
   refine ⟨⟨vs,u,SqL.of k1,hu⟩,fun x H'' y=>?_⟩
   obtain ⟨rfl,y⟩:=y
   have:=y vs (SqL.of k1)
   rw [hu] at this
   cases this
   exact ⟨Same.refl _,tu⟩
  ·exact ⟨vs,SqL.of (hl H' Z' lt).1,by omega⟩
 ·rename_i ns ed
  have hs:∃ l,v=.ref l/\∀ (H':Hp) (Z':Addr->Prop),Later H0 (zof B γ σ) H1 Z' H'->SqL K H' l (ns.map V.int):=by
   cases s with
   | bor d=>
    have t1:=Rp.strip t1
    rw [show d.strip=.scr ns from ed] at t1
    cases t1 with
    | scr hs=>exact ⟨_,rfl,fun H' Z' lt=>lt.1.seq hs⟩
   | sh d=>
    have:d=.scr ns:=ed
    subst this
    cases t1 with
    | scr hs=>exact ⟨_,rfl,fun H' Z' lt=>off_sub.seq (lt.off.seq hs)⟩
   | own es=>cases es<;>cases ed
   | view es=>cases es<;>cases ed
   | tmp d=>cases h1.1
  obtain ⟨l,rfl,hl⟩:=hs
  refine ⟨l,rfl,⟨_,hl H1 _ (Later.of env1 Fr.refl)⟩,q _ _ _ H1 h1.2 S1 ⟨fun i H' Z' hi lt=>?_,fun H' Z' lt=>?_⟩⟩
  ·have k1:=hl H' Z' lt
   have hu:(ns.map V.int)[i]?=some (.int (ns.getD i 0)):=by
    rw [Uaj,Uaa hi,Uac,Uaa hi]
    rfl
   refine ⟨⟨_,_,k1,hu⟩,fun x H'' y=>?_⟩
   obtain ⟨rfl,y⟩:=y
   have:=y _ k1
   rw [hu] at this
   cases this
   exact ⟨Same.refl _,.int _⟩
  ·exact ⟨_,hl H' Z' lt,by rw [Uab];exact Uah _⟩
 ·exact h1.elim
def fR1 (R:Nat->(Nat->S)->Prop):List D->Prop
 | [.int j]=>(-(2 ^ 62)<=j/\j < 2 ^ 62)/\R j.toNat fun i=>.sh (.int (0 + (i:Int)))
 | _=>False
def fR2 (R:Nat->(Nat->S)->Prop):List D->Prop
 | [.int i,.int j]=>(-(2 ^ 62)<=i/\i < 2 ^ 62/\-(2 ^ 62)<=j/\j < 2 ^ 62)/\R (j - i).toNat fun k=>.sh (.int (i + (k:Int)))
 | _=>False
def pIR1 (r:PTA):PTI:=fun γ R X=>r γ (fun ss=>fR1 R (ss.map S.d)) X
def pIR2 (r:PTA):PTI:=fun γ R X=>r γ (fun ss=>fR2 R (ss.map S.d)) X
theorem Rps.one_inv {d:D} {vs:List V} (h:Rps K H [d] vs):∃ v,vs=[v]/\Rp K H d v:=by
 cases h with
 | cons h r=>cases r;exact ⟨_,rfl,h⟩
theorem Rps.two_inv {d e:D} {vs:List V} (h:Rps K H [d,e] vs):∃ v u,vs=[v,u]/\Rp K H d v/\Rp K H e u:=by
 cases h with
 | cons h r=>cases r with | cons h2 r=>cases r;exact ⟨_,_,rfl,h,h2⟩
theorem Zw5 {lo:Int} {n:Nat}:ItOk K H0 B H1 σ γ (Itr lo n) n fun i=>.sh (.int (lo + (i:Int))):=by
 refine ⟨fun i H' Z' hi lt=>⟨hi,fun x H'' y=>?_⟩,fun H' Z' lt=>Uah _⟩
 obtain ⟨e,y⟩:=y
 subst e y
 exact ⟨Same.refl _,.int _⟩
theorem Zhd {ta:TA} {r:PTA} (hr:SndA K mg E ta r):SndI K mg E (iRng1 ta) (pIR1 r):=by
 intro H0 B H σ γ R X Q env h q qx
 refine hr H0 B H σ γ _ X _ env h (fun ss vs H1 h1 S1 t1=>?_) qx
 have rv:=t1.rps (env.grow S1).same
 unfold fR1 at h1
 split at h1
 ·rename_i j ej
  rw [ej] at rv
  obtain ⟨v,rfl,r1⟩:=rv.one_inv
  rw [r1.int_inv]
  exact ⟨j,rfl,h1.1.1,h1.1.2,q _ _ _ H1 h1.2 S1 Zw5⟩
 ·exact h1.elim
theorem Zuz {ta:TA} {r:PTA} (hr:SndA K mg E ta r):SndI K mg E (iRng2 ta) (pIR2 r):=by
 intro H0 B H σ γ R X Q env h q qx
 refine hr H0 B H σ γ _ X _ env h (fun ss vs H1 h1 S1 t1=>?_) qx
 have rv:=t1.rps (env.grow S1).same
 unfold fR2 at h1
 split at h1
 ·rename_i i j ej
  rw [ej] at rv
  obtain ⟨v,u,rfl,r1,r2⟩:=rv.two_inv
  rw [r1.int_inv,r2.int_inv]
  exact ⟨i,j,rfl,h1.1,q _ _ _ H1 h1.2 S1 Zw5⟩
 ·exact h1.elim
structure WhileW (js:List Nat) (γ:Γ) (c:PTT) (body:PTS) (R:PEnds):Prop where
 w:∃ (inv:Γ->Prop) (μ:Γ->Nat),inv (clr js γ)/\∀ γ',inv γ'->c γ' (fun b=>if b=true then
  body { R with nx:=fun γ3=>inv (clr js γ3)/\μ (clr js γ3) < μ γ',ct:=fun γ3=>inv (clr js γ3)/\μ (clr js γ3) < μ γ',bk:=R.nx } γ' else R.nx γ') (R.ex γ')
def pWhile (js:List Nat) (c:PTT) (body:PTS):PTS:=fun R γ=>WhileW js γ c body R
theorem Zne (js:List Nat) (hc:SndT K mg E tt c) (hb:SndS K mg E t p):SndS K mg E (tWhile tt t) (pWhile js c p):=by
 intro H0 B H σ γ R D hB env h e
 obtain ⟨inv,μ,h0,hs⟩:=h.w
 refine ⟨fun m σ' H'=>∃ γ',m=μ γ'/\inv γ'/\EnvR K H0 B H' σ' γ'/\Fr B H σ γ H' σ' γ',⟨_,_,rfl,h0,(env.clr js).1,(env.clr js).2⟩,?_⟩
 rintro m σ' H' ⟨γ',rfl,hi,e',f'⟩
 refine hc H0 B H' σ' γ' _ _ _ e' (hs γ' hi) (fun b H1 h1 S1=>?_) fun c H'' hc S'=>e.ex σ' γ' c H'' hc (e'.grow S') (f'.trans (Fr.grow S'))
 have e1:=e'.grow S1
 have f1:=f'.trans (Fr.grow S1)
 cases b with
 | false=>
  rw [Uad Uar] at h1 ⊢
  exact e.nx σ' γ' H1 h1 e1 f1
 | true=>
  rw [Uae rfl] at h1 ⊢
  refine ⟨fun σ2 H2=>∃ γ2,μ γ2 < μ γ'/\inv γ2/\EnvR K H0 B H2 σ2 γ2/\Fr B H σ γ H2 σ2 γ2,fun σ2 H2 ⟨γ2,k,a1,a2,a3⟩=>⟨_,k,γ2,rfl,a1,a2,a3⟩,?_⟩
  refine hb H0 B H1 σ' γ' _ _ hB e1 h1 ⟨fun σ3 γ3 H3 q3 e3 f3=>?_,e.rt,fun σ3 γ3 c H3 q3 e3 f3=>e.ex σ3 γ3 c H3 q3 e3 (f1.trans f3),fun σ3 γ3 H3 q3 e3 f3=>e.nx σ3 γ3 H3 q3 e3 (f1.trans f3),fun σ3 γ3 H3 q3 e3 f3=>?_,fun σ3 γ3 d v H3 q3 e3 f3=>e.rv σ3 γ3 d v H3 q3 e3 (f1.trans f3)⟩
  ·exact ⟨_,q3.2,q3.1,(e3.clr js).1,(f1.trans f3).trans (e3.clr js).2⟩
  ·exact ⟨_,q3.2,q3.1,(e3.clr js).1,(f1.trans f3).trans (e3.clr js).2⟩
end
end Pu
namespace Pu
open PySem PySem.Spec PyProof.Rows L2 Own
section
variable {K:PySem.W.Frag} {mg:Str->Option Value} {E:L2.St->XK} {H0 H H1 H':Hp} {B Z Z':Addr->Prop} {σ:L2.St} {γ:Γ}
def startP (N:List Str) (ds:List D):Γ:=ds.map (fun d=>some (arg d))++List.replicate (N.length - ds.length) none
theorem Ztz {N:List Str} {ds:List D} {vs:List V} (r:Rps K H ds vs) (hn:ds.length<=N.length):EnvR K H (fun b=>Mut (H b)) H (start N vs) (startP N ds):=by
 have hlen:=r.len
 have get:∀ (i:Nat) (s:S),(startP N ds)[i]?=some (some s)->∃ d,ds[i]?=some d/\s=arg d:=fun i s h=>by
  unfold startP at h
  by_cases hi:i < ds.length
  ·rw [Ubg (by rw [Uab];exact hi),Uaj,Uaa hi] at h
   exact ⟨_,Uaa hi,(Option.some.inj (Option.some.inj h)).symm⟩
  ·rw [Ubp (by rw [Uab];omega),Uc1] at h
   split at h<;>cases h
 have noown:∀ (i:Nat) (es:O),(startP N ds)[i]?≠some (some (.own es)):=fun i es h=>by
  obtain ⟨d,_,e⟩:=get i _ h
  rcases Zkg d with q | q<;>rw [q] at e<;>cases e
 refine ⟨Same.refl _,?_,fun b h=>h,fun i j a a' es es' b h=>absurd h (noown i es),fun i s h=>?_⟩
 ·unfold L2.start startP
  simp [hlen]
 ·obtain ⟨d,hd,rfl⟩:=get i s h
  obtain ⟨v,hv,rv⟩:=r.get hd
  refine ⟨v,?_,?_⟩
  ·unfold L2.start
   rw [Ubg (by rw [Uab];exact (Uas.mp hv).1),Uaj,hv]
   rfl
  ·have tv:=argR (K:=K) (Z:=zof (fun b=>Mut (H b)) (startP N ds) (start N vs)) (H0:=H) (H:=H) (H':=H) (fun b z=>z.elim id fun ⟨k,es,_,k1,_⟩=>absurd k1 (noown k es)) (Same.refl _) rv
   rcases Zkg d with q | q<;>rw [q] at tv ⊢<;>exact tv
theorem Zax {c:Pc} {N:List Str} {t:TS} {p:PTS} {vs:List V} {Q:VK} {Ec:XK} {n:Nat} (h:spOf mg c K vs H Q Ec) (snd:SndS K mg (fun _=>Ec) t p) (hn:n<=N.length)
  (hp:∀ ds R X,c ds R X->ds.length=n/\p { nx:=fun _=>R (.sh .non),rt:=R,ex:=fun _ e=>X e } (startP N ds)):t { nx:=fun _ H'=>Q .non H',rt:=Q } (start N vs) H:=by
 obtain ⟨ds,R,X,r,hc,hQ,hX⟩:=h
 obtain ⟨e,hp⟩:=hp ds R X hc
 refine snd H (fun b=>Mut (H b)) H _ _ _ _ (fun b z=>Zhj z) (Ztz r (by rw [e];exact hn)) hp ⟨fun σ' γ' H' h1 e1 f1=>hQ _ _ H' h1 e1.same .non,fun s v H' h1 S1 tv=>hQ s v H' h1 S1 tv,fun σ' γ' c H' h1 e1 f1=>hX c H' h1 e1.same,fun _ _ _ z=>z.elim,fun _ _ _ z=>z.elim,fun _ _ _ _ _ z=>z.elim⟩
theorem Zam {c:Pc} {vs:List V} {Q:VK} {Ec:XK} {n:Nat} (h:spOf mg c K vs H Q Ec) (hn:∀ ds R X,c ds R X->ds.length=n):vs.length=n:=by
 obtain ⟨ds,R,X,r,hc,_⟩:=h
 rw [r.len]
 exact hn ds R X hc
def atP (φ:List (Option Nat)) (γ:Γ):Γ:=φ.map fun o=>o.bind fun j=>(γ[j]?).join
structure CompW (φ:List (Option Nat)) (γ:Γ) (g:PTG) (c:PTT) (e:PTE) (n:Nat) (item:Nat->S) (R:S->Prop):Prop where
 w:n<=100000/\∃ f:Nat->Option D,(∀ i,i < n->g (item i) (atP φ γ) fun γ2=>c γ2 (fun b=>if b=true then e γ2 (fun s=>∃ d,s.shd=some d/\f i=some d) (fun _=>False) else f i=none) (fun _=>False))/\R (.own ((List.range n).filterMap f))
def pComp (φ:List (Option Nat)) (it:PTI) (g:PTG) (c:PTT) (e:PTE):PTE:=fun γ R X=>it γ (fun n item=>CompW φ γ g c e n item R) X
theorem Znb {φ:List (Option Nat)} {i:Nat} {s:S} (h:(atP φ γ)[i]?=some (some s)):∃ j,φ[i]?=some (some j)/\γ[j]?=some (some s):=by
 unfold atP at h
 rw [Uaj] at h
 cases e:φ[i]? with
 | none=>rw [e] at h;cases h
 | some o=>
  rw [e] at h
  cases o with
  | none=>simp at h
  | some j=>
   refine ⟨j,rfl,?_⟩
   simp at h
   cases e2:γ[j]? with
   | none=>rw [e2] at h;simp at h
   | some w=>rw [e2] at h;simp at h;rw [h]
theorem Zu3:∀ {φ:List (Option Nat)},(φ.filterMap id).Nodup->∀ (i j k:Nat),φ[i]?=some (some k)->φ[j]?=some (some k)->i=j
 | [],_,i,_,_,h,_=>by simp at h
 | none :: r,hn,i,j,k,h1,h2=>by
  cases i with
  | zero=>simp at h1
  | succ i=>
   cases j with
   | zero=>simp at h2
   | succ j=>exact Ube (· + 1) (Zu3 (φ:=r) (by simpa using hn) i j k (by simpa using h1) (by simpa using h2))
 | some m :: r,hn,i,j,k,h1,h2=>by
  have hn':m∉r.filterMap id/\(r.filterMap id).Nodup:=by simpa using hn
  have mem:∀ {j:Nat},r[j]?=some (some k)->k∈r.filterMap id:=fun h=>Udm.mpr ⟨some k,Uax h,rfl⟩
  cases i with
  | zero=>
   cases j with
   | zero=>rfl
   | succ j=>
    have e:m=k:=by simpa using h1
    subst e
    exact absurd (mem (by simpa using h2)) hn'.1
  | succ i=>
   cases j with
   | zero=>
    have e:m=k:=by simpa using h2
    subst e
    exact absurd (mem (by simpa using h1)) hn'.1
   | succ j=>exact Ube (· + 1) (Zu3 (φ:=r) hn'.2 i j k (by simpa using h1) (by simpa using h2))
theorem Zew {φ:List (Option Nat)} {i j:Nat} (h1:φ[i]?=some (some j)) {v:V} (h2:σ[j]?=some (some v)):(atStart φ σ)[i]?=some (some v):=by
 unfold atStart
 rw [Uaj,h1]
 simp [h2]
theorem Zn3 {φ:List (Option Nat)} {L:Addr} (env:EnvR K H0 B H σ γ) (nL:H L=none):∀ b o,H b=some o->¬ zof B γ σ b->¬ zof (fun b=>zof B γ σ b\/b=L) (atP φ γ) (atStart φ σ) b:=fun b o hb z y=>by
 rcases y with (y | y) | ⟨i',ds,x,y1,y2,y3⟩
 ·exact z y
 ·rw [y,nL] at hb;cases hb
 ·obtain ⟨m,m1,m2⟩:=Znb y1
  obtain ⟨w,w1,_⟩:=env.slot m _ m2
  rw [Zew m1 w1] at y2
  exact z (.inr ⟨m,ds,x,m2,by rw [w1];exact Ube some (Option.some.inj y2),y3⟩)
theorem Zp2 {φ:List (Option Nat)} {L:Addr} (env:EnvR K H0 B H σ γ) (S1:Same H H') (nL:H L=none) (hL:∃ ys,H' L=some (.lst ys)) (hφ:(φ.filterMap id).Nodup) :
  EnvR K H0 (fun b=>zof B γ σ b\/b=L) H' (atStart φ σ) (atP φ γ):=by
 refine ⟨env.same.trans S1,by unfold atStart atP;simp,fun b z=>?_,fun i j a a' ds es b h1 h2 h3 h4 h5 h6=>?_,fun i s h=>?_⟩
 ·rcases z with z | rfl
  ·exact Zc4 S1 (env.zm b z)
  ·obtain ⟨ys,e⟩:=hL
   rw [e]
   trivial
 ·obtain ⟨k,k1,k2⟩:=Znb h1
  obtain ⟨l,l1,l2⟩:=Znb h2
  obtain ⟨v,v1,_⟩:=env.slot k _ k2
  obtain ⟨u,u1,_⟩:=env.slot l _ l2
  rw [Zew k1 v1] at h3
  rw [Zew l1 u1] at h4
  have:=env.own k l a a' ds es b k2 l2 (by rw [v1];exact Ube some (Option.some.inj h3)) (by rw [u1];exact Ube some (Option.some.inj h4)) h5 h6
  subst this
  exact Zu3 hφ i j k k1 l1
 ·obtain ⟨k,k1,k2⟩:=Znb h
  obtain ⟨v,v1,v2⟩:=env.slot k _ k2
  have So:Same (off (zof B γ σ) H) (off (zof (fun b=>zof B γ σ b\/b=L) (atP φ γ) (atStart φ σ)) H'):=Zal S1 (Zn3 env nL)
  refine ⟨v,Zew k1 v1,?_⟩
  cases s with
  | bor d=>exact v2
  | sh d=>exact Rp.mono So v2
  | own ds=>
   obtain ⟨a,e1,e3,e4⟩:=v2
   exact ⟨a,e1,e3,e4.mono So fun b _ x=>S1 b x⟩
  | view ds=>exact v2
  | tmp d=>exact v2
theorem Sub.of {σ σ':L2.St} {is:List Nat} (hl:σ'.length=σ.length) (h1:∀ j,j∉is->σ'[j]?=σ[j]?) (h2:∀ j∈is,∀ v,σ[j]?≠some (some v)):Sub σ σ':=⟨hl,fun i v e=>by
 by_cases hi:i∈is
 ·exact absurd e (h2 i hi v)
 ·rw [h1 i hi];exact e⟩
structure ItOkC (K:PySem.W.Frag) (H0:Hp) (B:Addr->Prop) (H1:Hp) (σ:L2.St) (γ:Γ) (J:It) (n:Nat) (item:Nat->S):Prop where
 go:∀ (i:Nat) (H':Hp) (Z':Addr->Prop),i < n->Same H1 H'->Later H0 (zof B γ σ) H1 Z' H'->J.go i H'/\∀ x H'',J.yld i H' x H''->Same H' H''/\TV K Z' H0 H' H'' (item i) x
 stop:∀ (H':Hp) (Z':Addr->Prop),Same H1 H'->Later H0 (zof B γ σ) H1 Z' H'->J.stop n H'
def SndIc (K:PySem.W.Frag) (mg:Str->Option Value) (E:L2.St->XK) (wi:TI) (it:PTI):Prop:=∀ (H0:Hp) (B:Addr->Prop) (H:Hp) (σ:L2.St) (γ:Γ) (R:Nat->(Nat->S)->Prop) (X:XR) (Q:It->Hp->Prop),EnvR K H0 B H σ γ->it γ R X->
 (∀ n item J H1,R n item->Same H H1->ItOkC K H0 B H1 σ γ J n item->Q J H1)->(∀ c H',X c->Same H H'->E σ (.ref (ExcR.clsOf mg c)) none H')->wi σ H Q
theorem SndI.c {wi:TI} {it:PTI} (h:SndI K mg E wi it):SndIc K mg E wi it:=fun H0 B H σ γ R X Q env p q qx=>
 h H0 B H σ γ R X Q env p (fun n item J H1 hR S1 ok=>q n item J H1 hR S1 ⟨fun i H' Z' hi _ lt=>ok.go i H' Z' hi lt,fun H' Z' _ lt=>ok.stop H' Z' lt⟩) qx
def pILc (a:PTE):PTI:=fun γ R X=>a γ (fun s=>match s.d with
 | .lst ds=>R ds.length fun i=>s.sub (ds.getD i .non)
 | .tup ds=>False
 | .scr ns=>R ns.length fun i=>.sh (.int (ns.getD i 0))
 | _=>False) X
theorem Zbu {te:TE} {a:PTE} (ha:SndE K mg E te a):SndIc K mg E (iList K te) (pILc a):=by
 intro H0 B H σ γ R X Q env h q qx
 refine ha H0 B H σ γ _ X _ env h (fun s v H1 h1 S1 t1=>?_) qx
 have env1:=env.grow S1
 split at h1
 ·rename_i ds ed
  have rv:=t1.rp env1.same
  rw [ed] at rv
  obtain ⟨l,vs,rfl,hl1,r1⟩:=rv.lst_inv
  refine ⟨l,rfl,⟨vs,SqL.of hl1⟩,q _ _ _ H1 h1 S1 ⟨fun i H' Z' hi S2 lt=>?_,fun H' Z' S2 lt=>⟨vs,SqL.of (S2 _ _ hl1),by rw [r1.len];exact Uah _⟩⟩⟩
  have hd:ds[i]?=some (ds.getD i .non):=by rw [Uac,Uaa hi];rfl
  have hi':∃ u,vs[i]?=some u/\TV K Z' H0 H' H' (s.sub (ds.getD i .non)) u:=by
   cases s with
   | bor d=>
    have t1:=Rp.strip t1
    rw [show d.strip=.lst ds from ed] at t1
    obtain ⟨l',vs',e',h3,r3⟩:=Rp.lst_inv t1
    cases e'
    rw [env1.same _ _ h3] at hl1
    cases hl1
    obtain ⟨u,h4,h5⟩:=r3.get hd
    exact ⟨u,h4,argR lt.2.1 lt.1 h5⟩
   | sh d=>
    have:d=.lst ds:=ed
    subst this
    obtain ⟨l',vs',e',h3,r3⟩:=Rp.lst_inv t1
    cases e'
    rw [off_sub _ _ h3] at hl1
    cases hl1
    obtain ⟨u,h4,h5⟩:=r3.get hd
    exact ⟨u,h4,Rp.mono lt.off h5⟩
   | own es=>
    cases es with
    | dK es=>cases ed
    | dT es=>cases ed
    | ins x C xs cs=>cases ed
    | lsA x es=>
     cases ed
     obtain ⟨l',e',h0,_,vs',h3,r3⟩:=t1
     cases e'
     rw [h3] at hl1
     cases hl1
     obtain ⟨u,h4,h5⟩:=r3.get hd
     exact ⟨u,h4,Rp.mono lt.off (Rp.mono (Zal (Same.refl _) fun b _ _ z y=>z (.inl y)) h5)⟩
    | lst es=>
    cases ed
    obtain ⟨l',e',h0,vs',h3,r3⟩:=t1
    cases e'
    rw [h3] at hl1
    cases hl1
    obtain ⟨u,h4,h5⟩:=r3.get hd
    exact ⟨u,h4,Rp.mono lt.off (Rp.mono (Zal (Same.refl _) fun b _ _ z y=>z (.inl y)) h5)⟩
   | view es=>
    cases es with
    | dK es=>cases ed
    | dT es=>cases ed
    | ins x C xs cs=>cases ed
    | lsA x es=>
     cases ed
     obtain ⟨l',e',_,vs',h3,r3⟩:=t1
     cases e'
     rw [h3] at hl1
     cases hl1
     obtain ⟨u,h4,h5⟩:=r3.get hd
     exact ⟨u,h4,Rp.mono lt.off h5⟩
    | lst es=>
    cases ed
    obtain ⟨l',e',vs',h3,r3⟩:=t1
    cases e'
    rw [h3] at hl1
    cases hl1
    obtain ⟨u,h4,h5⟩:=r3.get hd
    exact ⟨u,h4,Rp.mono lt.off h5⟩
   | tmp d=>
    have:d=.lst ds:=ed
    subst this
    obtain ⟨l',vs',e',h3,r3⟩:=Rp.lst_inv t1
    cases e'
    rw [h3] at hl1
    cases hl1
    obtain ⟨u,h4,h5⟩:=r3.get hd
    exact ⟨u,h4,argTR lt.2.1 (Rp.mono S2 h5)⟩
  obtain ⟨u,hu,tu⟩:=hi'
  refine ⟨⟨vs,u,SqL.of (S2 _ _ hl1),hu⟩,fun x H'' y=>?_⟩
  obtain ⟨rfl,y⟩:=y
  have:=y vs (SqL.of (S2 _ _ hl1))
  rw [hu] at this
  cases this
  exact ⟨Same.refl _,tu⟩
 ·exact h1.elim
 ·rename_i ns ed
  have rv:=t1.rp env1.same
  rw [ed] at rv
  cases rv with
  | scr hs=>
   refine ⟨_,rfl,⟨_,hs⟩,q _ _ _ H1 h1 S1 ⟨fun i H' Z' hi S2 lt=>?_,fun H' Z' S2 lt=>⟨_,S2.seq hs,by rw [Uab];exact Uah _⟩⟩⟩
   have hu:(ns.map V.int)[i]?=some (.int (ns.getD i 0)):=by
    rw [Uaj,Uaa hi,Uac,Uaa hi]
    rfl
   refine ⟨⟨_,_,S2.seq hs,hu⟩,fun x H'' y=>?_⟩
   obtain ⟨rfl,y⟩:=y
   have:=y _ (S2.seq hs)
   rw [hu] at this
   cases this
   exact ⟨Same.refl _,.int _⟩
 ·exact h1.elim
theorem Zbm {φ:List (Option Nat)} {is:List Nat} {wi:TI} {g:TG} {tc:TT} {te:TE} {it:PTI} {pg:PTG} {c:PTT} {a:PTE} (hi:SndIc K mg E wi it) (hg:SndGi K is g pg) (hc:SndT K mg E tc c) (he:SndE K mg E te a)
  (h1:(φ.filterMap id).Nodup:=by decide) (h2:∀ j∈is,φ[j]?=some none:=by decide):SndE K mg E (tComp φ wi g tc te) (pComp φ it pg c a):=by
 intro H0 B H σ γ R X Q env h q qx
 refine hi H0 B H σ γ _ X _ env h (fun n item J H1 h1' S1 ok=>?_) qx
 obtain ⟨hn,f,hf,hR⟩:=h1'.w
 have env1:=env.grow S1
 have hbig:n<=sizeLine:=Ual hn (by decide)
 intro L nL
 refine ⟨fun i m ys H2=>m=n - i/\i<=n/\Same H1 H2/\H2 L=some (.lst ys)/\Rps K (off (fun b=>zof B γ σ b\/b=L) H2) ((List.range i).filterMap f) ys,⟨n,by simp,Ubo _,Zaw nL,Zas,.nil⟩,?_⟩
 rintro i m ys H2 ⟨rfl,hin,S2,hL,hys⟩
 have env2:=env1.grow S2
 by_cases hlt:i < n
 ·have envI2:=Zp2 (φ:=φ) env1 S2 nL ⟨ys,hL⟩ h1
  obtain ⟨go,yl⟩:=ok.go i H2 _ hlt S2 ⟨env2.same,envI2.zm,fun b o hb z=>⟨S2 _ _ hb,Zn3 env1 nL b o hb z⟩⟩
  refine .inr ⟨go,fun x H3 y=>?_⟩
  obtain ⟨S3,tv⟩:=yl x H3 y
  refine hg H0 _ H2 H3 _ _ _ _ _ _ envI2 S3 tv (hf i hlt) fun σ2 γ2 p2 e2 f2 k2=>⟨?_,?_⟩
  ·refine Sub.of (is:=is) k2.2 k2.1 fun j hj v z=>?_
   obtain ⟨k,k1,_⟩:=Own.Zjs z
   rw [h2 j hj] at k1
   cases k1
  ·refine hc H0 _ H3 σ2 γ2 _ _ _ e2 p2 (fun b H5 q5 S5=>?_) fun _ _ z=>z.elim
   have e5:=e2.grow S5
   cases b with
   | false=>
    rw [Uad Uar] at q5 ⊢
    refine ⟨n - (i + 1),by omega,rfl,hlt,(S2.trans S3).trans S5,(S3.trans S5) _ _ hL,?_⟩
    rw [Udf,Uby]
    simp only [Ubx,q5,List.filterMap_nil,Ubi]
    exact Rps.mono (Zal (S3.trans S5) fun _ _ _ z=>z) hys
   | true=>
    rw [Uae rfl] at q5 ⊢
    refine he H0 _ H5 σ2 γ2 _ _ _ e5 q5 (fun s v H6 q6 S6 t6=>?_) fun _ _ z=>z.elim
    obtain ⟨d,hd,hfd⟩:=q6
    have S26:=(S3.trans S5).trans S6
    have hr:=t6.shd (e5.grow S6).same e5.zm S6 hd
    have hlen:ys.length<=i:=by
     rw [hys.len]
     exact Ual (Ucw _ _) (by rw [Uc4];exact Uah _)
    refine ⟨S26 _ _ hL,by omega,n - (i + 1),by omega,rfl,hlt,fun b o hb=>?_,Zas,?_⟩
    ·rw [Za5 (Zba hb nL)]
     exact S26 _ _ (S2 _ _ hb)
    ·rw [Udf,Uby]
     have ef:[i].filterMap f=[d]:=by simp [hfd]
     rw [ef]
     have So:Same (off (fun b=>zof B γ σ b\/b=L) H6) (off (fun b=>zof B γ σ b\/b=L) (upd H6 L (.lst (ys++[v])))):=fun b o h=>by
      obtain ⟨a1,a2⟩:=Zgl h
      refine Zc ?_ a2
      rw [Za5 fun z=>a2 (.inr z)]
      exact a1
     refine Rps.append (Rps.mono So (Rps.mono (Zal S26 fun _ _ _ z=>z) hys)) (.cons (Rp.mono So (Rp.mono (Zal (Same.refl _) fun b _ _ z y=>z (.inl y)) hr)) .nil)
 ·have:i=n:=by omega
  subst this
  exact .inl ⟨ok.stop H2 _ S2 (Later.of env2 (Fr.grow S2)),q _ _ H2 hR (S1.trans S2) ⟨L,rfl,(fun _ e=>e ▸ S1.free nL),ys,hL,hys⟩⟩
def pYes:PTT:=fun _ R _=>R true
theorem Zep:SndT K mg E tNoIf pYes:=fun _ _ H _ _ _ _ _ _ p q _=>q _ H p (Same.refl _)
theorem Zk1 {α β:Type} (xs:List α) (f:α->Option β):(List.range xs.length).filterMap (fun i=>(xs[i]?).bind f)=xs.filterMap f:=by
 induction xs with
 | nil=>rfl
 | cons x r ih=>
  rw [Uaz,List.range_succ_eq_map,Ubx,List.filterMap_map,Ubx]
  have e:(fun i=>((x :: r)[i]?).bind f)∘Nat.succ=fun i=>(r[i]?).bind f:=by
   funext i
   simp
  rw [e,ih]
  rfl
end
end Pu
namespace Pu
open PySem PySem.Spec PyProof.Rows L2 Own M
section
variable {K:PySem.W.Frag} {mg:Str->Option Value} {E:L2.St->XK} {H0 H H1 H':Hp} {B Z Z':Addr->Prop} {σ:L2.St} {γ:Γ}
def pCB (f:List S->(S->Prop)->Prop) (r:PTA):PTE:=fun γ R X=>r γ (fun ss=>f ss R) X
theorem Zmi {rr:List V->Hp->VK->Prop} {f:List S->(S->Prop)->Prop} {ta:TA} {r:PTA} (hr:SndA K mg E ta r)
  (h:∀ (H0 H H1:Hp) (Z:Addr->Prop) (ss:List S) (vs:List V) (R:S->Prop) (Q:VK),Same H0 H1->Same H H1->(∀ b,Z b->Mut (H b))->TVs K Z H0 H H1 ss vs->f ss R->(∀ s z H',R s->Same H1 H'->TV K Z H0 H H' s z->Q z H')->rr vs H1 Q) :
  SndE K mg E (tCB rr ta) (pCB f r):=by
 intro H0 B H σ γ R X Q env p q qx
 refine hr H0 B H σ γ _ X _ env p (fun ss vs H1 h1 S1 t1=>?_) qx
 exact h H0 H H1 _ ss vs R Q (env.grow S1).same S1 env.zm t1 h1 fun s z H' hs S2 tv=>q s z H' hs (S1.trans S2) tv
def S.free:S->List D->Bool
 | .bor _,ds=>imms ds | .tmp _,ds=>imms ds | _,_=>true
theorem TVs.one_inv {s:S} {vs:List V} (h:TVs K Z H0 H H' [s] vs):∃ v,vs=[v]/\TV K Z H0 H H' s v:=by
 cases h with
 | cons h r=>cases r;exact ⟨_,rfl,h⟩
theorem TVs.two_inv {s t:S} {vs:List V} (h:TVs K Z H0 H H' [s,t] vs):∃ v u,vs=[v,u]/\TV K Z H0 H H' s v/\TV K Z H0 H H' t u:=by
 cases h with
 | cons h r=>cases r with | cons h2 r=>cases r;exact ⟨_,_,rfl,h,h2⟩
theorem TV.items {s:S} {v:V} {ds:List D} (h0:Same H0 H') (hm:∀ b,Z b->Mut (H b)) (S1:Same H H') (h:TV K Z H0 H H' s v) (hf:s.free ds=true) :
  (s.d=.lst ds->∃ a vs,v=.ref a/\H' a=some (.lst vs)/\Rps K (off Z H') ds vs)/\(s.d=.tup ds->∃ a vs,v=.ref a/\H' a=some (.tup vs)/\Rps K (off Z H') ds vs):=by
 have hm':∀ b,Z b->Mut (H' b):=fun b z=>Zc4 S1 (hm b z)
 cases s with
 | bor d=>
  have h:=Rp.strip h
  refine ⟨fun e=>?_,fun e=>?_⟩<;>rw [show d.strip=_ from e] at h
  ·obtain ⟨a,vs,rfl,h1,r⟩:=Rp.lst_inv h
   exact ⟨a,vs,rfl,h0 _ _ h1,Rps.off hm' (Rps.mono h0 r) hf⟩
  ·obtain ⟨a,vs,rfl,h1,r⟩:=Rp.tup_inv h
   exact ⟨a,vs,rfl,h0 _ _ h1,Rps.off hm' (Rps.mono h0 r) hf⟩
 | sh d=>
  refine ⟨fun e=>?_,fun e=>?_⟩<;>(have e':d=_:=e;subst e')
  ·obtain ⟨a,vs,rfl,h1,r⟩:=Rp.lst_inv h
   exact ⟨a,vs,rfl,off_sub _ _ h1,r⟩
  ·obtain ⟨a,vs,rfl,h1,r⟩:=Rp.tup_inv h
   exact ⟨a,vs,rfl,off_sub _ _ h1,r⟩
 | own es=>
  cases es with
  | dK es=>exact ⟨(fun e=>by cases e),(fun e=>by cases e)⟩
  | dT es=>exact ⟨(fun e=>by cases e),(fun e=>by cases e)⟩
  | ins x C xs cs=>exact ⟨(fun e=>by cases e),(fun e=>by cases e)⟩
  | lst es=>
   refine ⟨fun e=>?_,fun e=>by cases e⟩
   cases e
   obtain ⟨a,rfl,e0,vs,e,r⟩:=h
   exact ⟨a,vs,rfl,e,Rps.mono (Zal (Same.refl _) fun b _ _ z y=>z (.inl y)) r⟩
  | lsA x es=>
   refine ⟨fun e=>?_,fun e=>by cases e⟩
   cases e
   obtain ⟨a,rfl,e0,_,vs,e,r⟩:=h
   exact ⟨a,vs,rfl,e,Rps.mono (Zal (Same.refl _) fun b _ _ z y=>z (.inl y)) r⟩
 | view es=>
  cases es with
  | dK es=>exact ⟨(fun e=>by cases e),(fun e=>by cases e)⟩
  | dT es=>exact ⟨(fun e=>by cases e),(fun e=>by cases e)⟩
  | ins x C xs cs=>exact ⟨(fun e=>by cases e),(fun e=>by cases e)⟩
  | lst es=>
   refine ⟨fun e=>?_,fun e=>by cases e⟩
   cases e
   obtain ⟨a,rfl,vs,e,r⟩:=h
   exact ⟨a,vs,rfl,e,r⟩
  | lsA x es=>
   refine ⟨fun e=>?_,fun e=>by cases e⟩
   cases e
   obtain ⟨a,rfl,_,vs,e,r⟩:=h
   exact ⟨a,vs,rfl,e,r⟩
 | tmp d=>
  refine ⟨fun e=>?_,fun e=>?_⟩<;>(have e':d=_:=e;subst e')
  ·obtain ⟨a,vs,rfl,h1,r⟩:=Rp.lst_inv h
   exact ⟨a,vs,rfl,h1,Rps.off hm' r hf⟩
  ·obtain ⟨a,vs,rfl,h1,r⟩:=Rp.tup_inv h
   exact ⟨a,vs,rfl,h1,Rps.off hm' r hf⟩
def fLen:List S->(S->Prop)->Prop
 | [s],R=>(match s.d with
  | .lst ds=>R (.sh (.int ds.length)) | .tup ds=>R (.sh (.int ds.length)) | .scr ns=>R (.sh (.int ns.length)) | .str x=>x.length<=sizeLine/\R (.sh (.int x.length)) | _=>False)
 | _,_=>False
theorem Zcs {ta:TA} {r:PTA} (hr:SndA K mg E ta r):SndE K mg E (tCB (fun xs H Q=>∃ x n,xs=[x]/\LenV K x H n/\Q (.int n) H) ta) (pCB fLen r):=by
 refine Zmi hr fun H0 H H1 Z ss vs R Q s0 s1 hm tv h q=>?_
 unfold fLen at h
 split at h
 ·rename_i s
  obtain ⟨v,rfl,t1⟩:=tv.one_inv
  have rv:=t1.rp s0
  split at h
  ·rename_i ds e
   rw [e] at rv
   obtain ⟨a,us,rfl,h1,r1⟩:=rv.lst_inv
   exact ⟨_,_,rfl,.inl ⟨us,SqL.of h1,rfl⟩,by rw [r1.len];exact q _ _ H1 h (Same.refl _) (.int _)⟩
  ·rename_i ds e
   rw [e] at rv
   obtain ⟨a,us,rfl,h1,r1⟩:=rv.tup_inv
   exact ⟨_,_,rfl,.inr ⟨us,SqT.of h1,rfl⟩,by rw [r1.len];exact q _ _ H1 h (Same.refl _) (.int _)⟩
  ·rename_i ns e
   rw [e] at rv
   cases rv with
   | scr hs=>exact ⟨_,_,rfl,.inl ⟨_,hs,rfl⟩,by rw [Uab];exact q _ _ H1 h (Same.refl _) (.int _)⟩
  ·rename_i x e
   rw [e] at rv
   rw [rv.str_inv]
   exact ⟨_,_,rfl,⟨h.1,rfl⟩,q _ _ H1 h.2 (Same.refl _) (.int _)⟩
  ·exact h.elim
 ·exact h.elim
def fList:List S->(S->Prop)->Prop
 | [s],R=>(match s.d with
  | .lst ds=>s.free ds=true/\R (.own ds) | .tup ds=>s.free ds=true/\R (.own ds) | _=>False)
 | _,_=>False
theorem Zf1 {ta:TA} {r:PTA} (hr:SndA K mg E ta r):SndE K mg E (tCB (fun xs H Q=>∃ p ys,xs=[.ref p]/\(SqL K H p ys\/SqT K H p ys)/\∀ l,H l=none->Q (.ref l) (upd H l (.lst ys))) ta) (pCB fList r):=by
 refine Zmi hr fun H0 H H1 Z ss vs R Q s0 s1 hm tv h q=>?_
 unfold fList at h
 split at h
 ·rename_i s
  obtain ⟨v,rfl,t1⟩:=tv.one_inv
  split at h
  ·rename_i ds e
   obtain ⟨a,us,rfl,h1,r1⟩:=(t1.items s0 hm s1 h.1).1 e
   exact ⟨a,us,rfl,.inl (SqL.of h1),fun l nl=>q _ _ _ h.2 (Zaw nl) (Zgq s1 nl r1)⟩
  ·rename_i ds e
   obtain ⟨a,us,rfl,h1,r1⟩:=(t1.items s0 hm s1 h.1).2 e
   exact ⟨a,us,rfl,.inr (SqT.of h1),fun l nl=>q _ _ _ h.2 (Zaw nl) (Zgq s1 nl r1)⟩
  ·exact h.elim
 ·exact h.elim
def fTuple:List S->(S->Prop)->Prop
 | [s],R=>(match s.d with
  | .lst ds=>s.free ds=true/\R (.sh (.tup ds)) | .tup ds=>s.free ds=true/\R (.sh (.tup ds)) | _=>False)
 | _,_=>False
theorem Zrn {ta:TA} {r:PTA} (hr:SndA K mg E ta r):SndE K mg E (tCB (fun xs H Q=>∃ p ys,xs=[.ref p]/\((SqL K H p ys/\∀ l,H l=none->Q (.ref l) (upd H l (.tup ys)))\/(SqT K H p ys/\Q (.ref p) H))) ta) (pCB fTuple r):=by
 refine Zmi hr fun H0 H H1 Z ss vs R Q s0 s1 hm tv h q=>?_
 have hm':∀ b,Z b->Mut (H1 b):=fun b z=>Zc4 s1 (hm b z)
 unfold fTuple at h
 split at h
 ·rename_i s
  obtain ⟨v,rfl,t1⟩:=tv.one_inv
  split at h
  ·rename_i ds e
   obtain ⟨a,us,rfl,h1,r1⟩:=(t1.items s0 hm s1 h.1).1 e
   refine ⟨a,us,rfl,.inl ⟨SqL.of h1,fun l nl=>q _ _ _ h.2 (Zaw nl) (.tup (Zc Zas fun z=>?_) (Rps.mono (Zal (Zaw nl) fun _ _ _ z=>z) r1))⟩⟩
   have:=hm' l z
   rw [nl] at this
   exact this
  ·rename_i ds e
   obtain ⟨a,us,rfl,h1,r1⟩:=(t1.items s0 hm s1 h.1).2 e
   refine ⟨a,us,rfl,.inr ⟨SqT.of h1,q _ _ _ h.2 (Same.refl _) (.tup (Zc h1 fun z=>?_) r1)⟩⟩
   have:=hm' a z
   rw [h1] at this
   exact this
  ·exact h.elim
 ·exact h.elim
theorem Rps.ints {K:PySem.W.Frag} {H:Hp}:∀ {js:List Int} {vs:List V},Rps K H (js.map D.int) vs->vs=js.map V.int
 | [],_,.nil=>rfl
 | j :: r,_,.cons h t=>by rw [Rp.int_inv h,Rps.ints t];rfl
theorem Rps.of_ints {K:PySem.W.Frag} {H:Hp}:∀ (js:List Int),Rps K H (js.map D.int) (js.map V.int)
 | []=>.nil
 | j :: r=>.cons (.int j) (Rps.of_ints r)
def fSorted:List S->(S->Prop)->Prop
 | [s],R=>∃ js:List Int,s.d=.lst (js.map D.int)/\js.length < 64/\∀ ns:List Int,ns.Perm js->ns.Pairwise (·<=·)->R (.own (ns.map D.int))
 | _,_=>False
theorem Zhm {w:World} {ta:TA} {r:PTA} (hr:SndA K mg E ta r):SndE K mg E (tCB (fun xs H Q=>∃ (p:Addr) (js:List Int),xs=[.ref p]/\js.length < 64/\(SqL K H p (js.map V.int)\/H p=some (SetH w p js))/\
  ∀ (l:Addr) (ns:List Int),H l=none->ns.Perm js->ns.Pairwise (·<=·)->Q (.ref l) (upd H l (.lst (ns.map V.int)))) ta) (pCB fSorted r):=by
 refine Zmi hr fun H0 H H1 Z ss vs R Q s0 s1 hm tv h q=>?_
 unfold fSorted at h
 split at h
 ·rename_i s
  obtain ⟨v,rfl,t1⟩:=tv.one_inv
  obtain ⟨js,e,hz,k⟩:=h
  have rv:=t1.rp s0
  rw [e] at rv
  obtain ⟨a,us,rfl,h1,r1⟩:=rv.lst_inv
  rw [r1.ints] at h1
  exact ⟨a,js,rfl,hz,.inl (SqL.of h1),fun l ns nl hp hs=>q _ _ _ (k ns hp hs) (Zaw nl) (Zgq s1 nl (Rps.of_ints ns))⟩
 ·exact h.elim
def fMax2:List S->(S->Prop)->Prop
 | [s,t],R=>(match s.d,t.d with | .int i,.int j=>R (.sh (.int (if j > i then j else i))) | _,_=>False)
 | _,_=>False
theorem Zyn {ta:TA} {r:PTA} (hr:SndA K mg E ta r):SndE K mg E (tCB (fun xs H Q=>∃ i j,xs=[.int i,.int j]/\Q (.int (if j > i then j else i)) H) ta) (pCB fMax2 r):=by
 refine Zmi hr fun H0 H H1 Z ss vs R Q s0 s1 hm tv h q=>?_
 unfold fMax2 at h
 split at h
 ·obtain ⟨v,u,rfl,t1,t2⟩:=tv.two_inv
  have r1:=t1.rp s0
  have r2:=t2.rp s0
  split at h
  ·rename_i i j e1 e2
   rw [e1] at r1
   rw [e2] at r2
   rw [r1.int_inv,r2.int_inv]
   exact ⟨i,j,rfl,q _ _ H1 h (Same.refl _) (.int _)⟩
  ·exact h.elim
 ·exact h.elim
def fAbs:List S->(S->Prop)->Prop
 | [s],R=>(match s.d with | .int i=>R (.sh (.int (if i < 0 then -i else i))) | _=>False)
 | _,_=>False
def tyD:D->Option String
 | .int _=>some "int" | .bl _=>some "bool" | .non=>some "NoneType" | .str _=>some "str" | .tup _=>some "tuple" | .lst _=>some "list" | .dK _=>some "dict" | .dT _=>some "dict" | _=>none
inductive IsiR:String->String->Bool->Prop
 | same (n:String):IsiR n n true
 | ib:IsiR "int" "bool" false
 | bi:IsiR "bool" "int" true
 | tl:IsiR "tuple" "list" false
 | lt:IsiR "list" "tuple" false
 | it:IsiR "int" "tuple" false
 | il:IsiR "int" "list" false
 | bt:IsiR "bool" "tuple" false
 | bL:IsiR "bool" "list" false
 | ti:IsiR "tuple" "int" false
 | li:IsiR "list" "int" false
 | si:IsiR "str" "int" false
 | is:IsiR "int" "str" false
 | ni:IsiR "NoneType" "int" false
 | nl:IsiR "NoneType" "list" false
 | nt:IsiR "NoneType" "tuple" false
theorem IsiR.kit {m n:String} {b:Bool} (h:IsiR m n b):PySem.W.kitOne K (.type m) (.type n)=some b:=by
 cases h with
 | same=>exact Zwh K _
 | _=>rfl
def fIsi:List S->(S->Prop)->Prop
 | [s,t],R=>(match tyD s.d,t.d with | some m,.ty n=>∃ b,IsiR m n b/\R (.sh (.bl b)) | _,_=>False)
 | _,_=>False
theorem Zyy {d:D} {v:V} {m:String} (h:Rp K H d v) (e:tyD d=some m):TyOf K H v (.type m):=by
 cases h with
 | int i=>cases e;exact .int i
 | bl b=>cases e;exact .bl b
 | non=>cases e;exact .non
 | str x=>cases e;exact .str x
 | ty n=>cases e
 | tup h r=>cases e;exact .tup h
 | lst h r=>cases e;exact .lst h
 | scr h=>cases e
 | dK h=>cases e;exact .dK h
 | dT h=>cases e;exact .dT h
 | loc h=>cases e
 | err h=>cases e
 | ref a=>cases e
 | ins h q r=>cases e
theorem Zk5 {ta:TA} {r:PTA} (hr:SndA K mg E ta r):SndE K mg E (tCB (fun xs H Q=>∃ x n t b,xs=[x,.ty n]/\TyOf K H x t/\PySem.W.kitOne K t (.type n)=some b/\Q (.bl b) H) ta) (pCB fIsi r):=by
 refine Zmi hr fun H0 H H1 Z ss vs R Q s0 s1 hm tv h q=>?_
 unfold fIsi at h
 split at h
 ·obtain ⟨v,u,rfl,t1,t2⟩:=tv.two_inv
  have r1:=t1.rp s0
  have r2:=t2.rp s0
  split at h
  ·rename_i m n e1 e2
   rw [e2] at r2
   rw [r2.ty_inv]
   obtain ⟨b,k,hR⟩:=h
   exact ⟨v,n,_,b,rfl,Zyy r1 e1,k.kit,q _ _ H1 hR (Same.refl _) (.bl _)⟩
  ·exact h.elim
 ·exact h.elim
def fRun2:List S->(S->Prop)->Prop
 | [s,t],R=>(match s.d,t.d with | .int i,.int j=>(-(2 ^ 62)<=i/\i < 2 ^ 62/\-(2 ^ 62)<=j/\j < 2 ^ 62)/\(j - i).toNat<=1000000/\R (.own ((runI i (j - i).toNat).map D.int)) | _,_=>False)
 | _,_=>False
abbrev rListR:List V->Hp->VK->Prop:=fun xs H Q=>∃ (r:Addr) (i j:Int),xs=[.ref r]/\H r=some (.rng i j)/\(-(2 ^ 62)<=i/\i < 2 ^ 62/\-(2 ^ 62)<=j/\j < 2 ^ 62)/\(j - i).toNat<=1000000/\∀ l,H l=none->Q (.ref l) (upd H l (.lst ((runI i (j - i).toNat).map V.int)))
theorem Zx7 {ta:TA} {r:PTA} (hr:SndA K mg E ta r):SndE K mg E (tCB rListR (tCons (tCB (fun xs H Q=>∃ i j:Int,xs=[.int i,.int j]/\∀ r,H r=none->Q (.ref r) (upd H r (.rng i j))) ta) tNil)) (pCB fRun2 r):=by
 intro H0 B H σ γ R X Q env p q qx
 refine hr H0 B H σ γ _ X _ env p (fun ss vs H1 h1 S1 t1=>?_) qx
 have s0:=(env.grow S1).same
 unfold fRun2 at h1
 split at h1
 ·obtain ⟨v,u,rfl,t1',t2'⟩:=t1.two_inv
  have r1:=t1'.rp s0
  have r2:=t2'.rp s0
  split at h1
  ·rename_i i j e1 e2
   rw [e1] at r1
   rw [e2] at r2
   rw [r1.int_inv,r2.int_inv]
   refine ⟨i,j,rfl,fun a na=>⟨a,i,j,rfl,Zas,h1.1,h1.2.1,fun l nl=>?_⟩⟩
   have S2:=Zaw (o:=.rng i j) na
   exact q _ _ _ h1.2.2 ((S1.trans S2).trans (Zaw nl)) (Zgq (S1.trans S2) nl (Rps.of_ints _))
  ·exact h1.elim
 ·exact h1.elim
def pBM (f:S->List S->(S->Prop)->Prop) (a:PTE) (r:PTA):PTE:=fun γ R X=>a γ (fun s=>(∃ ds,s.d=.lst ds)/\r γ (fun ss=>f s ss R) X) X
theorem Zzp {rr:V->List V->Hp->VK->Prop} {f:S->List S->(S->Prop)->Prop} {te:TE} {ta:TA} {a:PTE} {r:PTA} (ha:SndE K mg E te a) (hr:SndA K mg E ta r)
  (h:∀ (H0 H H1:Hp) (Z:Addr->Prop) (s:S) (v:V) (ss:List S) (vs:List V) (R:S->Prop) (Q:VK),Same H0 H1->Same H H1->(∀ b,Z b->Mut (H b))->TV K Z H0 H H1 s v->TVs K Z H0 H H1 ss vs->f s ss R->(∀ s z H',R s->Same H1 H'->TV K Z H0 H H' s z->Q z H')->rr v vs H1 Q) :
  SndE K mg E (tBM K "list" rr te ta) (pBM f a r):=by
 intro H0 B H σ γ R X Q env p q qx
 refine ha H0 B H σ γ _ X _ env p (fun s v H1 h1 S1 t1=>?_) qx
 have env1:=env.grow S1
 obtain ⟨⟨ds,ed⟩,h1⟩:=h1
 have rv:=t1.rp env1.same
 rw [ed] at rv
 obtain ⟨l,us,rfl,hl,_⟩:=rv.lst_inv
 refine ⟨.inl ⟨rfl,us,SqL.of hl⟩,hr H0 B H1 σ γ _ X _ env1 h1 (fun ss vs H2 h2 S2 t2=>?_) fun c H' hc S'=>qx c H' hc (S1.trans S')⟩
 exact h H0 H H2 _ s _ ss vs R Q (env1.grow S2).same (S1.trans S2) env.zm (t1.grow S2) (TVs.weakG S1 t2) h2 fun s z H' hs S3 tv=>q s z H' hs ((S1.trans S2).trans S3) tv
def fIndex:S->List S->(S->Prop)->Prop:=fun s ss R=>match ss with
 | [t]=>(match t.d with | .int z=>∃ xs:List Int,s.d=.lst (xs.map D.int)/\z∈xs/\R (.sh (.int (xs.idxOf z:Nat))) | _=>False)
 | _=>False
theorem Zwy {te:TE} {ta:TA} {a:PTE} {r:PTA} (ha:SndE K mg E te a) (hr:SndA K mg E ta r):SndE K mg E (tBM K "list" (rIndex K) te ta) (pBM fIndex a r):=by
 refine Zzp ha hr fun H0 H H1 Z s v ss vs R Q s0 s1 hm t1 t2 h q=>?_
 unfold fIndex at h
 split at h
 ·obtain ⟨u,rfl,t2'⟩:=t2.one_inv
  have r2:=t2'.rp s0
  split at h
  ·rename_i z e
   rw [e] at r2
   obtain ⟨xs,ex,hz,hR⟩:=h
   have r1:=t1.rp s0
   rw [ex] at r1
   obtain ⟨l,us,rfl,hl,r1⟩:=r1.lst_inv
   rw [r1.ints] at hl
   exact ⟨l,xs,z,rfl,by rw [r2.int_inv],SqL.of hl,hz,q _ _ H1 hR (Same.refl _) (.int _)⟩
  ·exact h.elim
 ·exact h.elim
def prD (p:Int×Int):D:=.tup [.int p.1,.int p.2]
inductive InR:D->D->Bool->Prop
 | li (i:Int) (hs:List Int):InR (.int i) (.lst (hs.map D.int)) (decide (i∈hs))
 | ti (i:Int) (hs:List Int):InR (.int i) (.tup (hs.map D.int)) (decide (i∈hs))
 | lp (q:Int×Int) (ps:List (Int×Int)):InR (prD q) (.lst (ps.map prD)) (decide (q∈ps))
def fIn (neg:Bool):S->S->(S->Prop)->Prop:=fun x y R=>∃ b,InR x.d y.d b/\R (.sh (.bl (if neg then !b else b)))
theorem Rp.pair {q:Int×Int} {v:V} (h:Rp K H (prD q) v):PairR H v q:=by
 obtain ⟨a,vs,rfl,h1,r⟩:=Rp.tup_inv h
 obtain ⟨x,y,rfl,r1,r2⟩:=r.two_inv
 rw [r1.int_inv,r2.int_inv] at h1
 exact ⟨a,rfl,h1⟩
theorem Rps.lv {K:PySem.W.Frag} {H:Hp} {ps:List (Int×Int)} {vs:List V} (h:Rps K H (ps.map prD) vs):LV PairR H vs ps:=by
 refine ⟨by rw [h.len,Uab],fun i p hp=>?_⟩
 obtain ⟨v,h1,h2⟩:=h.get (i:=i) (d:=prD p) (by rw [Uaj,hp];rfl)
 exact ⟨v,h1,h2.pair⟩
theorem Zqj {neg:Bool} {ta tb:TE} {a b:PTE} (ha:SndE K mg E ta a) (hb:SndE K mg E tb b):SndE K mg E (tOp (fun x y H Q=>rIn K neg x y H Q\/rInP neg x y H Q) ta tb) (p2 a b (fIn neg)):=by
 refine se_2 ha hb fun H0 H H2 Z x y v u R Q s0 s1 hm tx ty h q=>?_
 obtain ⟨k,hk,hR⟩:=h
 have rx:=tx.rp s0
 have ry:=ty.rp s0
 generalize ex:x.d=dx at hk rx
 generalize ey:y.d=dy at hk ry
 cases hk with
 | li i hs=>
  obtain ⟨l,us,rfl,hl,r⟩:=ry.lst_inv
  rw [r.ints] at hl
  rw [rx.int_inv]
  refine .inl ⟨l,_,rfl,.inl (SqL.of hl),rfl,Zbx _,?_⟩
  rw [Zhy]
  exact q _ _ H2 hR (Same.refl _) (.bl _)
 | ti i hs=>
  obtain ⟨l,us,rfl,hl,r⟩:=ry.tup_inv
  rw [r.ints] at hl
  rw [rx.int_inv]
  refine .inl ⟨l,_,rfl,.inr (SqT.of hl),rfl,Zbx _,?_⟩
  rw [Zhy]
  exact q _ _ H2 hR (Same.refl _) (.bl _)
 | lp p ps=>
  obtain ⟨l,us,rfl,hl,r⟩:=ry.lst_inv
  exact .inr ⟨l,ps,p,rfl,rx.pair,⟨us,hl,r.lv⟩,q _ _ H2 hR (Same.refl _) (.bl _)⟩
def fEqU (neg:Bool):S->S->(S->Prop)->Prop:=fun x y R=>match x.d,y.d with
 | .lst ds,.lst es=>∃ xs ys:List Int,ds=xs.map D.int/\es=ys.map D.int/\R (.sh (.bl (if neg then !decide (xs=ys) else decide (xs=ys))))
 | _,_=>fEq neg x y R
theorem Zl7 {ta tb:TE} {a b:PTE} (ha:SndE K mg E ta a) (hb:SndE K mg E tb b):SndE K mg E (tOp (fun x y H Q=>rEq x y H Q\/rEqL K false x y H Q) ta tb) (p2 a b (fEqU false)):=by
 refine se_2 ha hb fun H0 H H2 Z x y v u R Q s0 s1 hm tx ty h q=>?_
 have rx:=tx.rp s0
 have ry:=ty.rp s0
 unfold fEqU at h
 split at h
 ·rename_i ds es e1 e2
  obtain ⟨xs,ys,rfl,rfl,hR⟩:=h
  rw [e1] at rx
  rw [e2] at ry
  obtain ⟨l,us,rfl,hl,r⟩:=rx.lst_inv
  obtain ⟨m,ws,rfl,hm,r'⟩:=ry.lst_inv
  rw [r.ints] at hl
  rw [r'.ints] at hm
  refine .inr ⟨l,m,_,_,rfl,rfl,SqL.of hl,SqL.of hm,Zbx _,Zbx _,?_⟩
  rw [Zmp]
  exact q _ _ H2 hR (Same.refl _) (.bl _)
 ·refine .inl ?_
  unfold fEq at h
  split at h
  ·rename_i i j e1 e2
   rw [e1] at rx
   rw [e2] at ry
   rw [rx.int_inv,ry.int_inv]
   refine ⟨rfl,?_⟩
   rw [Zh0 (f:=V.int) fun _ _ z=>V.int.inj z]
   exact q _ _ H2 h (Same.refl _) (.bl _)
  ·rename_i i j e1 e2
   rw [e1] at rx
   rw [e2] at ry
   rw [rx.str_inv,ry.str_inv]
   refine ⟨rfl,?_⟩
   rw [Zh0 (f:=V.str) fun _ _ z=>V.str.inj z]
   exact q _ _ H2 h (Same.refl _) (.bl _)
  ·rename_i i j e1 e2
   rw [e1] at rx
   rw [e2] at ry
   rw [rx.bl_inv,ry.bl_inv]
   refine ⟨rfl,?_⟩
   rw [Zh0 (f:=V.bl) fun _ _ z=>V.bl.inj z]
   exact q _ _ H2 h (Same.refl _) (.bl _)
  ·exact h.elim
theorem Ziv {ta tb:TE} {a b:PTE} (ha:SndE K mg E ta a) (hb:SndE K mg E tb b):SndE K mg E (tOp (fun x y H Q=>rNe x y H Q\/rEqL K true x y H Q) ta tb) (p2 a b (fEqU true)):=by
 refine se_2 ha hb fun H0 H H2 Z x y v u R Q s0 s1 hm tx ty h q=>?_
 have rx:=tx.rp s0
 have ry:=ty.rp s0
 unfold fEqU at h
 split at h
 ·rename_i ds es e1 e2
  obtain ⟨xs,ys,rfl,rfl,hR⟩:=h
  rw [e1] at rx
  rw [e2] at ry
  obtain ⟨l,us,rfl,hl,r⟩:=rx.lst_inv
  obtain ⟨m,ws,rfl,hm,r'⟩:=ry.lst_inv
  rw [r.ints] at hl
  rw [r'.ints] at hm
  refine .inr ⟨l,m,_,_,rfl,rfl,SqL.of hl,SqL.of hm,Zbx _,Zbx _,?_⟩
  rw [Zmp]
  exact q _ _ H2 hR (Same.refl _) (.bl _)
 ·refine .inl ?_
  unfold fEq at h
  split at h
  ·rename_i i j e1 e2
   rw [e1] at rx
   rw [e2] at ry
   rw [rx.int_inv,ry.int_inv]
   refine ⟨rfl,?_⟩
   rw [Zh0 (f:=V.int) fun _ _ z=>V.int.inj z]
   exact q _ _ H2 h (Same.refl _) (.bl _)
  ·rename_i i j e1 e2
   rw [e1] at rx
   rw [e2] at ry
   rw [rx.str_inv,ry.str_inv]
   refine ⟨rfl,?_⟩
   rw [Zh0 (f:=V.str) fun _ _ z=>V.str.inj z]
   exact q _ _ H2 h (Same.refl _) (.bl _)
  ·rename_i i j e1 e2
   rw [e1] at rx
   rw [e2] at ry
   rw [rx.bl_inv,ry.bl_inv]
   refine ⟨rfl,?_⟩
   rw [Zh0 (f:=V.bl) fun _ _ z=>V.bl.inj z]
   exact q _ _ H2 h (Same.refl _) (.bl _)
  ·exact h.elim
abbrev tTru (K:PySem.W.Frag) (ta:TE):TT:=fun σ H Q=>ta σ H fun x H'=>∃ k,TruV K x H' k/\Q k H'
def pTru (a:PTE):PTT:=fun γ R X=>a γ (fun x=>match x.d with
 | .bl b=>R b | .lst ds=>R (!ds.isEmpty) | .tup ds=>R (!ds.isEmpty) | .int i=>R (i != 0) | .non=>R false | _=>False) X
theorem Zk9 {α β:Type} {l:List α} {m:List β} (h:l.length=m.length):l.isEmpty=m.isEmpty:=by
 cases l<;>cases m<;>simp at h ⊢
theorem Zb5 {te:TE} {a:PTE} (ha:SndE K mg E te a):SndT K mg E (tTru K te) (pTru a):=by
 intro H0 B H σ γ R X Q env p q qx
 refine ha H0 B H σ γ _ X _ env p (fun x v H1 h1 S1 t1=>?_) qx
 have rx:=t1.rp (env.grow S1).same
 split at h1
 ·rename_i b e
  rw [e] at rx
  rw [rx.bl_inv]
  exact ⟨b,rfl,q _ H1 h1 S1⟩
 ·rename_i ds e
  rw [e] at rx
  obtain ⟨l,us,rfl,hl,r⟩:=rx.lst_inv
  exact ⟨!us.isEmpty,.inl ⟨us,SqL.of hl,rfl⟩,by rw [Zk9 r.len];exact q _ H1 h1 S1⟩
 ·rename_i ds e
  rw [e] at rx
  obtain ⟨l,us,rfl,hl,r⟩:=rx.tup_inv
  exact ⟨!us.isEmpty,.inr (.inl ⟨us,SqT.of hl,rfl⟩),by rw [Zk9 r.len];exact q _ H1 h1 S1⟩
 ·rename_i i e
  rw [e] at rx
  rw [rx.int_inv]
  exact ⟨_,rfl,q _ H1 h1 S1⟩
 ·rename_i e
  rw [e] at rx
  rw [rx.non_inv]
  exact ⟨_,rfl,q _ H1 h1 S1⟩
 ·exact h1.elim
def cutD {α:Type} (xs:List α) (lo hi:Option Int):List α:=(xs.drop (HT.sIx xs.length 0 lo)).take (HT.sIx xs.length xs.length hi - HT.sIx xs.length 0 lo)
def pNoPart:PTO:=fun _ R _=>R none
def pPart (a:PTE):PTO:=fun γ R X=>a γ (fun s=>match s.d with | .int i=>R (some i) | _=>False) X
theorem Zhu:SndO K mg E tNoPart pNoPart:=fun _ _ H _ _ _ _ _ _ p q _=>q _ H p (Same.refl _)
theorem Zhx {te:TE} {a:PTE} (ha:SndE K mg E te a):SndO K mg E (tPart te) (pPart a):=by
 intro H0 B H σ γ R X Q env p q qx
 refine ha H0 B H σ γ _ X _ env p (fun x v H1 h1 S1 t1=>?_) qx
 have rx:=t1.rp (env.grow S1).same
 split at h1
 ·rename_i i e
  rw [e] at rx
  exact ⟨i,rx.int_inv,q _ H1 h1 S1⟩
 ·exact h1.elim
def pSl (a:PTE) (l u:PTO):PTE:=fun γ R X=>a γ (fun s=>l γ (fun lo=>u γ (fun hi=>match s.d with | .lst ds=>s.free ds=true/\R (.own (cutD ds lo hi)) | _=>False) X) X) X
theorem Rps.cut {ds:List D} {vs:List V} {lo hi:Option Int} (r:Rps K H ds vs):Rps K H (cutD ds lo hi) (cutV vs lo hi):=by
 unfold cutD cutV
 rw [r.len]
 exact Rps.take _ (Rps.drop _ r)
theorem Zgc {te:TE} {tl th:TO} {a:PTE} {l u:PTO} (ha:SndE K mg E te a) (hl:SndO K mg E tl l) (hu:SndO K mg E th u):SndE K mg E (tSl (rSlL K) te tl th) (pSl a l u):=by
 intro H0 B H σ γ R X Q env p q qx
 refine ha H0 B H σ γ _ X _ env p (fun x v H1 h1 S1 t1=>?_) qx
 refine hl H0 B H1 σ γ _ X _ (env.grow S1) h1 (fun lo H2 h2 S2=>?_) fun c H' hc S'=>qx c H' hc (S1.trans S')
 refine hu H0 B H2 σ γ _ X _ ((env.grow S1).grow S2) h2 (fun hi H3 h3 S3=>?_) fun c H' hc S'=>qx c H' hc ((S1.trans S2).trans S')
 have S13:=(S1.trans S2).trans S3
 split at h3
 ·rename_i ds e
  obtain ⟨b,us,rfl,hb,r⟩:=((t1.grow (S2.trans S3)).items (env.grow S13).same env.zm S13 h3.1).1 e
  exact ⟨b,us,rfl,SqL.of hb,fun m nm=>q _ _ _ h3.2 (S13.trans (Zaw nm)) (Zgq S13 nm r.cut)⟩
 ·exact h3.elim
def fCat:S->S->(S->Prop)->Prop:=fun x y R=>match x.d,y.d with
 | .lst ds,.lst es=>x.free ds=true/\y.free es=true/\ds.length + es.length<=100000/\R (.own (ds++es))
 | _,_=>False
theorem Zmb {ta tb:TE} {a b:PTE} (ha:SndE K mg E ta a) (hb:SndE K mg E tb b):SndE K mg E (tOp rCat ta tb) (p2 a b fCat):=by
 refine se_2 ha hb fun H0 H H2 Z x y v u R Q s0 s1 hm tx ty h q=>?_
 unfold fCat at h
 split at h
 ·rename_i ds es e1 e2
  obtain ⟨l,us,rfl,hl,r⟩:=(tx.items s0 hm s1 h.1).1 e1
  obtain ⟨m,ws,rfl,hm',r'⟩:=(ty.items s0 hm s1 h.2.1).1 e2
  have hz:us.length + ws.length<=sizeLine:=by rw [r.len,r'.len];exact Ual h.2.2.1 (by decide)
  exact ⟨l,m,us,ws,rfl,rfl,hl,hm',hz,fun p np=>q _ _ _ h.2.2.2 (Zaw np) (Zgq s1 np (r.append r'))⟩
 ·exact h.elim
def pAppend (i:Nat) (a:PTE):PTS:=fun R γ=>match γ[i]? with
 | some (some (.own (.lst ds)))=>a γ (fun s=>match s.shd with
  | some d=>ds.length < 10000000/\R.nx (γ.set i (some (.own (ds++[d]))))
  | none=>False) (R.ex γ)
 | some (some (.own (.lsA x ds)))=>a γ (fun s=>match s.shd with
  | some d=>ds.length < 10000000/\R.nx (γ.set i (some (.own (.lsA x (ds++[d])))))
  | none=>False) (R.ex γ)
 | _=>False
theorem Zeo (i:Nat) {te:TE} {a:PTE} (ha:SndE K mg E te a):SndS K mg E (tDrop (tBM K "list" rAppend (tVar i) (tCons te tNil))) (pAppend i a):=by
 intro H0 B H σ γ R D hB env h e
 unfold pAppend at h
 split at h
 ·rename_i ds hi
  obtain ⟨v,hv,b,rfl,hb0,us,hb,rb⟩:=env.slot i _ hi
  refine ⟨_,hv,.inl ⟨rfl,us,SqL.of hb⟩,ha H0 B H σ γ _ _ _ env h (fun s u H1 h1 S1 t1=>?_) fun c H' hc S'=>e.ex σ γ c H' hc (env.grow S') (Fr.grow S')⟩
  have env1:=env.grow S1
  split at h1
  ·rename_i d e2
   have rd:=t1.shd env1.same env.zm S1 e2
   refine ⟨b,us,u,rfl,rfl,S1 _ _ hb,by rw [rb.len];exact Ucj h1.1 (by decide),?_⟩
   obtain ⟨e2,f2⟩:=env1.mutate (es:=.lst (ds++[d])) (us:=.lst (us++[u])) hi hv trivial fun F H' SF hF=>⟨_,hF,Rps.mono SF (Rps.append (Rps.mono (Zal S1 fun _ _ _ z=>z) rb) (.cons rd .nil))⟩
   exact e.nx _ _ _ h1.2 e2 ((Fr.grow S1).trans f2)
  ·exact h1.elim
 ·rename_i x ds hi
  obtain ⟨v,hv,b,rfl,hb0,rfl,us,hb,rb⟩:=env.slot i _ hi
  refine ⟨_,hv,.inl ⟨rfl,us,SqL.of hb⟩,ha H0 B H σ γ _ _ _ env h (fun s u H1 h1 S1 t1=>?_) fun c H' hc S'=>e.ex σ γ c H' hc (env.grow S') (Fr.grow S')⟩
  have env1:=env.grow S1
  split at h1
  ·rename_i d e2
   have rd:=t1.shd env1.same env.zm S1 e2
   refine ⟨b,us,u,rfl,rfl,S1 _ _ hb,by rw [rb.len];exact Ucj h1.1 (by decide),?_⟩
   obtain ⟨e2,f2⟩:=env1.mutate (es:=.lsA b (ds++[d])) (us:=.lst (us++[u])) hi hv trivial fun F H' SF hF=>⟨rfl,_,hF,Rps.mono SF (Rps.append (Rps.mono (Zal S1 fun _ _ _ z=>z) rb) (.cons rd .nil))⟩
   exact e.nx _ _ _ h1.2 e2 ((Fr.grow S1).trans f2)
  ·exact h1.elim
 ·exact h.elim
end
section
variable {X:Cx} {K:PySem.W.Frag}
theorem Zpj (hu:X.A.in1.units < cLine) (hK:X.K=K:=by rfl):OpR X (compareOp .In) (fun x y H Q=>rIn K false x y H Q\/rInP false x y H Q):=(Zol hK).or (Zyp hu)
theorem Zo9 (hu:X.A.in1.units < cLine) (hK:X.K=K:=by rfl):OpR X (compareOp .NotIn) (fun x y H Q=>rIn K true x y H Q\/rInP true x y H Q):=(Zvc hK).or (Zuv hu)
theorem Zl2 (hu:X.A.units < cLine) (hK:X.K=K:=by rfl):OpR X (compareOp .Eq) (fun x y H Q=>rEq x y H Q\/rEqL K false x y H Q):=by subst hK;exact op_eq.or (Zxi hu)
theorem Zi0 (hu:X.A.units < cLine) (hK:X.K=K:=by rfl):OpR X (compareOp .NotEq) (fun x y H Q=>rNe x y H Q\/rEqL K true x y H Q):=by subst hK;exact op_ne.or (Zyw hu)
theorem Zb4 {e:Expr} {te:TE} (ha:PE X e te) (hK:X.K=K:=by rfl) (he:∀ whole,isTrue e X.env whole=(do let v ← whole;standAt e.pos;holding [v] (truthy v)):=by intro _;rfl):PT X e (tTru K te):=by
 subst hK
 exact Zwg ha he
theorem Zch (hK:X.K=K:=by rfl):CallR X (.type "list") (fun xs H Q=>∃ p ys,xs=[.ref p]/\(SqL K H p ys\/SqT K H p ys)/\∀ l,H l=none->Q (.ref l) (upd H l (.lst ys))):=by subst hK;exact Zih
theorem Zjx (hK:X.K=K:=by rfl):CallR X (.type "tuple") (fun xs H Q=>∃ p ys,xs=[.ref p]/\((SqL K H p ys/\∀ l,H l=none->Q (.ref l) (upd H l (.tup ys)))\/(SqT K H p ys/\Q (.ref p) H))):=by subst hK;exact Zm0
theorem Zdz (hK:X.K=K:=by rfl):CallR X (.builtin "isinstance") (fun xs H Q=>∃ x n t b,xs=[x,.ty n]/\TyOf K H x t/\PySem.W.kitOne K t (.type n)=some b/\Q (.bl b) H):=by subst hK;exact Zvn
theorem Zf5 (hK:X.K=K:=by rfl):SlR X (rSlL K):=by subst hK;exact Zx9
theorem Zea (hc:X.calm=true) {w:World} (hK:X.K=K:=by rfl) (hw:X.w=w:=by rfl):CallR X (.builtin "sorted") (fun xs H Q=>∃ (p:Addr) (js:List Int),xs=[.ref p]/\js.length < 64/\(SqL K H p (js.map V.int)\/H p=some (SetH w p js))/\
  ∀ (l:Addr) (ns:List Int),H l=none->ns.Perm js->ns.Pairwise (·<=·)->Q (.ref l) (upd H l (.lst (ns.map V.int)))):=by subst hK;subst hw;exact Zkd hc
theorem Za1 {tg l:Expr} {tl:TE} (hl:PE X l tl) (hK:X.K=K:=by rfl):PI X tg l (iList K tl):=by subst hK;exact Ze1 hl
end
end Pu
namespace Pu
open PySem PySem.Spec PyProof.Rows L2 Own M
section
variable {P:Program} {w:World} {K:PySem.W.Frag} {mg:Str->Option Value} {base:Heap} {H H':Hp}
theorem Zoe {CX:CXT} {k:Nat} {x:Str} {ps:List Str} {sp:Sp} {c:Pc} (C:Callee P w K mg base CX k x ps sp)
  (h:∀ ds R X vs H (Q:VK) (E:XK),Rps K H ds vs->c ds R X->(∀ s v H',R s->Same H H'->TV K (fun b=>Mut (H b)) H H H' s v->Q v H')->(∀ e H',X e->Same H H'->E (.ref (ExcR.clsOf mg e)) none H')->sp vs H Q E) :
  Callee P w K mg base CX k x ps (spOf mg c K):=by
 obtain ⟨f,fd,F,rest⟩:=C.ex
 exact ⟨f,fd,F.imp fun vs H Q E ⟨ds,R,X,r,hc,hQ,hX⟩=>h ds R X vs H Q E r hc hQ hX,rest⟩
theorem Rp.ints_inv {ns:List Int} {v:V} (h:Rp K H (.lst (ns.map D.int)) v):∃ a,v=.ref a/\H a=some (.lst (ns.map V.int)):=by
 obtain ⟨a,vs,rfl,h1,r⟩:=h.lst_inv
 rw [r.ints] at h1
 exact ⟨a,rfl,h1⟩
theorem Rp.pairs_inv {ps:List (Int×Int)} {v:V} (h:Rp K H (.lst (ps.map prD)) v):∃ a,v=.ref a/\LAt PairR H a ps:=by
 obtain ⟨a,vs,rfl,h1,r⟩:=h.lst_inv
 exact ⟨a,rfl,vs,h1,r.lv⟩
theorem Zq0 {a:Addr} {ns:List Int} (n:H a=none) (h:H' a=some (.lst (ns.map V.int))):TV K (fun b=>Mut (H b)) H H H' (.own (ns.map D.int)) (.ref a):=⟨a,rfl,(fun _ e=>e ▸ n),_,h,Rps.of_ints ns⟩
theorem Zeu:∀ (ns:List Int),imms (ns.map D.int)=true
 | []=>by unfold List.map imms;rfl
 | n :: r=>by rw [Uai];unfold imms;rw [Zeu r];unfold imm;rfl
theorem Zv6 (p:Int×Int):imm (prD p)=true:=by unfold prD imm imms imm imms imm imms;rfl
theorem Zen:∀ (ps:List (Int×Int)),imms (ps.map prD)=true
 | []=>by unfold List.map imms;rfl
 | p :: r=>by rw [Uai];unfold imms;rw [Zen r,Zv6];rfl
theorem Zrm {α:Type} {f:α->D} {xs:List α} {i:Nat} (h:i < xs.length):(xs.map f).getD i .non=f xs[i]:=by
 rw [Uac,Uaj,Uaa h]
 rfl
theorem Zgn {α:Type} {f:α->D} {xs:List α} {i:Int} (h0:0<=i) (h:i < (xs.length:Int)):atI (xs.map f) i=some (f (xs[i.toNat]'(by omega))):=by
 have h':i.toNat < xs.length:=by omega
 exact Zeh (Zps h0 (Uaa h'))
theorem Zzo {α:Type} {f:α->D} {xs:List α} {i:Nat} (h:i < xs.length):atI (xs.map f) (i:Int)=some (f xs[i]):=Zeh (Zfn (Uaa h))
theorem Zbq {α:Type} {φ:List (Option Nat)} {γ:Γ} {g:PTG} {c:PTT} {e:PTE} {s:S} {R:S->Prop} {xs:List α} {emb:α->D} (f:α->Option D) (hz:xs.length<=100000)
  (turn:∀ x∈xs,g (s.sub (emb x)) (atP φ γ) fun γ2=>c γ2 (fun b=>if b=true then e γ2 (fun s=>∃ d,s.shd=some d/\f x=some d) (fun _=>False) else f x=none) fun _=>False)
  (done:R (.own (xs.filterMap f))) :
  CompW φ γ g c e (xs.map emb).length (fun i=>s.sub ((xs.map emb).getD i .non)) R:=by
 rw [Uab]
 refine ⟨⟨hz,fun i=>(xs[i]?).bind f,fun i hi=>?_,by rw [Zk1];exact done⟩⟩
 have e1:(xs[i]?).bind f=f xs[i]:=by rw [Uaa hi];rfl
 have t:=turn xs[i] (Uaw hi)
 rw [← e1] at t
 rw [← Zrm (f:=emb) hi] at t
 exact t
theorem Zwm {φ:List (Option Nat)} {γ:Γ} {g:PTG} {c:PTT} {e:PTE} {item:Nat->S} {R:S->Prop} {n:Nat} (f:Nat->Option D) (hz:n<=100000)
  (turn:∀ i,i < n->g (item i) (atP φ γ) fun γ2=>c γ2 (fun b=>if b=true then e γ2 (fun s=>∃ d,s.shd=some d/\f i=some d) (fun _=>False) else f i=none) fun _=>False)
  (done:R (.own ((List.range n).filterMap f))) :
  CompW φ γ g c e n item R:=⟨⟨hz,f,turn,done⟩⟩
theorem Zem {α:Type} {js:List Nat} {γ:Γ} {g:PTG} {body:PTS} {s:S} {R:PEnds} {xs:List α} {emb:α->D} (inv:Nat->Γ->Prop) (h0:inv 0 (clr js γ))
  (turn:∀ (i:Nat) (hi:i < xs.length) γ',inv i γ'->g (s.sub (emb xs[i])) γ' fun γ2=>body { R with nx:=fun γ3=>inv (i + 1) (clr js γ3),ct:=fun γ3=>inv (i + 1) (clr js γ3),bk:=R.nx } γ2)
  (done:∀ γ',inv xs.length γ'->R.nx γ') :
  ForW js γ g body R (xs.map emb).length (fun i=>s.sub ((xs.map emb).getD i .non)):=by
 refine ⟨⟨inv,h0,fun i γ' hi h=>?_,fun γ' h=>?_⟩⟩
 ·rw [Uab] at hi
  have t:=turn i hi γ' h
  rw [← Zrm (f:=emb) hi] at t
  exact t
 ·rw [Uab] at h
  exact done γ' h
theorem Zm4 {js:List Nat} {γ:Γ} {g:PTG} {body:PTS} {R:PEnds} {n:Nat} {item:Nat->S} (inv:Nat->Γ->Prop) (h0:inv 0 (clr js γ))
  (turn:∀ (i:Nat) γ',i < n->inv i γ'->g (item i) γ' fun γ2=>body { R with nx:=fun γ3=>inv (i + 1) (clr js γ3),ct:=fun γ3=>inv (i + 1) (clr js γ3),bk:=R.nx } γ2)
  (done:∀ γ',inv n γ'->R.nx γ'):ForW js γ g body R n item:=⟨⟨inv,h0,turn,done⟩⟩
theorem Zmn {js:List Nat} {γ:Γ} {c:PTT} {body:PTS} {R:PEnds} (inv:Γ->Prop) (μ:Γ->Nat) (h0:inv (clr js γ))
  (turn:∀ γ',inv γ'->c γ' (fun b=>if b=true then body { R with nx:=fun γ3=>inv (clr js γ3)/\μ (clr js γ3) < μ γ',ct:=fun γ3=>inv (clr js γ3)/\μ (clr js γ3) < μ γ',bk:=R.nx } γ' else R.nx γ') (R.ex γ')):WhileW js γ c body R:=⟨⟨inv,μ,h0,turn⟩⟩
theorem Zua {p q:PTS} {R:PEnds} {γ:Γ} (J:Γ->Prop) (h1:p { R with nx:=J } γ) (h2:∀ γ',J γ'->q R γ'):JoinW p q R γ:=⟨⟨J,h1,h2⟩⟩
theorem pickD {α:Type} (c:α->Bool) (emb:α->D):∀ ws:List α,ws.filterMap (fun q=>if c q=true then some (emb q) else none)=(ws.filter c).map emb
 | []=>rfl
 | q :: r=>by
  by_cases h:c q=true
  ·rw [Ucx (b:=emb q) (by rw [Uae h]),Ucc h,Uai,pickD c emb r]
  ·rw [Ucy (by rw [Uad h]),Ucd h,pickD c emb r]
theorem mapD {α:Type} (emb:α->D) (ws:List α):ws.filterMap (fun q=>some (emb q))=ws.map emb:=by rw [Ubq]
theorem Zg6 {α:Type} (f:α->D) (xs:List α) (lo hi:Option Int):cutD (xs.map f) lo hi=(cutD xs lo hi).map f:=by
 unfold cutD
 rw [Uab,List.map_take,List.map_drop]
theorem Zum {α:Type} (xs:List α) {n:Int} (h:0<=n):cutD xs none (some n)=xs.take n.toNat:=by
 unfold cutD
 have e:n=(n.toNat:Int):=by omega
 rw [HT.Zq8,e,HT.Zui,List.drop_zero]
 rw [Nat.sub_zero,Ua2]
 by_cases c:n.toNat<=xs.length
 ·rw [Nat.min_eq_left c]
 ·rw [Nat.min_eq_right (by omega),Uci (Uah _),Uci (by omega)]
theorem Zke {α:Type} (xs:List α) {n:Int} (h:0<=n):cutD xs (some n) none=xs.drop n.toNat:=by
 unfold cutD
 have e:n=(n.toNat:Int):=by omega
 rw [HT.Zq8,e,HT.Zui,Ua2]
 by_cases c:n.toNat<=xs.length
 ·rw [Nat.min_eq_left c,Uci (by rw [Ucn];omega)]
 ·rw [Nat.min_eq_right (by omega),List.drop_of_length_le (Uah _),List.drop_of_length_le (by omega)]
  simp
def lawSp (K:PySem.W.Frag):Sp:=fun vs H Q _=>∃ (a:Addr) (ns:List Int),vs=[.ref a]/\SqL K H a (ns.map V.int)/\∀ H',Q (.bl true) H'
def Zxk:Pc:=fun ds R _=>∃ ns:List Int,ds=[.scr ns]/\R (.sh (.bl true))
theorem Zy9 {vs:List V} {Q:VK} {Ec:XK} (h:lawSp K vs H Q Ec):spOf mg Zxk K vs H Q Ec:=by
 obtain ⟨a,ns,rfl,hS,q⟩:=h
 refine ⟨[.scr ns],fun s=>s=.sh (.bl true),fun _=>False,.cons (.scr hS) .nil,⟨ns,rfl,rfl⟩,fun s v H' e S1 tv=>?_,fun _ _ z=>z.elim⟩
 subst e
 cases tv
 exact q H'
end
end Pu
namespace Pu
open PySem PySem.Spec PyProof.Rows L2 Own M
section
variable {K:PySem.W.Frag} {mg:Str->Option Value} {E:L2.St->XK} {H0 H H1 H':Hp} {B Z Z':Addr->Prop} {σ:L2.St} {γ:Γ}
def scalV:D->Option V
 | .int i=>some (.int i) | .bl b=>some (.bl b) | .non=>some .non | .str x=>some (.str x) | _=>none
def vD:V->D
 | .int i=>.int i | .bl b=>.bl b | .str x=>.str x | _=>.non
def scalB:V->Bool
 | .int _=>true | .bl _=>true | .str _=>true | .non=>true | _=>false
theorem Zyi {v:V} (h:scalB v=true):Rp K H (vD v) v:=by
 cases v with
 | int i=>exact .int i
 | bl b=>exact .bl b
 | str x=>exact .str x
 | non=>exact .non
 | _=>cases h
theorem Zqf {d:D} {v u:V} (h:Rp K H d v) (e:scalV d=some u):v=u:=by
 cases h with
 | int i=>cases e;rfl
 | bl b=>cases e;rfl
 | non=>cases e;rfl
 | str x=>cases e;rfl
 | _=>cases e
def keyD:D->Option Key
 | .int i=>some (.inl i) | .str x=>some (.inr x) | _=>none
def keysL:List D->Option (List Key)
 | []=>some []
 | d :: r=>match keyD d,keysL r with
  | some k,some ks=>some (k :: ks)
  | _,_=>none
def keysD:D->Option (List Key)
 | .tup ds=>keysL ds
 | _=>none
theorem Zre {d:D} {v:V} {k:Key} (h:Rp K H d v) (e:keyD d=some k):v=kV k:=by
 cases h with
 | int i=>cases e;rfl
 | str x=>cases e;rfl
 | _=>cases e
theorem Zus:∀ {ds:List D} {vs:List V} {ks:List Key},Rps K H ds vs->keysL ds=some ks->vs=ks.map kV
 | [],_,_,.nil,e=>by cases e;rfl
 | d :: r,_,ks,.cons h t,e=>by
  unfold keysL at e
  split at e
  ·rename_i k js e1 e2
   cases e
   rw [Zre h e1,Zus t e2]
   rfl
  ·cases e
theorem Zmx {d:D} {v:V} {ks:List Key} (h:Rp K H d v) (e:keysD d=some ks):∃ b,v=.ref b/\H b=some (.tup (ks.map kV)):=by
 cases h with
 | tup h r=>
  rw [Zus r e] at h
  exact ⟨_,rfl,h⟩
 | _=>cases e
theorem Rp.dK_inv {kvs:List (Key×V)} {v:V} (h:Rp K H (.dK kvs) v):∃ a,v=.ref a/\H a=some (.dK kvs):=by
 cases h with
 | dK h=>exact ⟨_,rfl,h⟩
theorem Rp.dT_inv {kvs:List (List Key×V)} {v:V} (h:Rp K H (.dT kvs) v):∃ a,v=.ref a/\H a=some (.dT kvs):=by
 cases h with
 | dT h=>exact ⟨_,rfl,h⟩
def pDNewK:PTE:=fun _ R _=>R (.own (.dK []))
def pDNewT:PTE:=fun _ R _=>R (.own (.dT []))
theorem Zwr:SndE K mg E tDNewK pDNewK:=by
 intro H0 B H σ γ R X Q env p q _
 intro l nl
 exact q _ _ _ p (Zaw nl) ⟨l,rfl,(fun _ e=>e ▸ nl),Zas⟩
theorem Zvq:SndE K mg E tDNewT pDNewT:=by
 intro H0 B H σ γ R X Q env p q _
 intro l nl
 exact q _ _ _ p (Zaw nl) ⟨l,rfl,(fun _ e=>e ▸ nl),Zas⟩
def fDGet:S->S->(S->Prop)->Prop:=fun x y R=>match x.d with
 | .dK kvs=>∃ k v,keyD y.d=some k/\valV kvs k=some v/\scalB v=true/\R (.sh (vD v))
 | .dT kvs=>∃ k v,keysD y.d=some k/\valV kvs k=some v/\scalB v=true/\R (.sh (vD v))
 | _=>False
theorem Zkm {td ty:TE} {a b:PTE} (ha:SndE K mg E td a) (hb:SndE K mg E ty b):SndE K mg E (tDGet td ty) (p2 a b fDGet):=by
 show SndE K mg E (tOp (fun x y H Q=>∃ a v,x=.ref a/\DGet H a y (some v)/\Q v H) td ty) _
 refine se_2 ha hb fun H0 H H2 Z x y v u R Q s0 s1 hm tx ty h q=>?_
 have rx:=tx.rp s0
 have ry:=ty.rp s0
 unfold fDGet at h
 split at h
 ·rename_i kvs e
  rw [e] at rx
  obtain ⟨l,rfl,hl⟩:=rx.dK_inv
  obtain ⟨k,w,h1,h2,h3,h4⟩:=h
  refine ⟨l,w,rfl,?_,q _ _ H2 h4 (Same.refl _) (Zyi h3)⟩
  rw [Zre ry h1,← h2]
  exact DGet.k hl
 ·rename_i kvs e
  rw [e] at rx
  obtain ⟨l,rfl,hl⟩:=rx.dT_inv
  obtain ⟨k,w,h1,h2,h3,h4⟩:=h
  obtain ⟨b,rfl,hb⟩:=Zmx ry h1
  refine ⟨l,w,rfl,?_,q _ _ H2 h4 (Same.refl _) (Zyi h3)⟩
  rw [← h2]
  exact DGet.t hl hb
 ·exact h.elim
def fDIn (neg:Bool):S->S->(S->Prop)->Prop:=fun y x R=>match x.d with
 | .dK kvs=>∃ k,keyD y.d=some k/\R (.sh (.bl (if neg then !(valV kvs k).isSome else (valV kvs k).isSome)))
 | .dT kvs=>∃ k,keysD y.d=some k/\R (.sh (.bl (if neg then !(valV kvs k).isSome else (valV kvs k).isSome)))
 | _=>False
theorem Zth {td ty:TE} {a b:PTE} (ha:SndE K mg E ty a) (hb:SndE K mg E td b):SndE K mg E (tDNotIn ty td) (p2 a b (fDIn true)):=by
 show SndE K mg E (tOp (fun y x H Q=>∃ a o,x=.ref a/\DGet H a y o/\Q (.bl (!o.isSome)) H) ty td) _
 refine se_2 ha hb fun H0 H H2 Z y x u v R Q s0 s1 hm ty tx h q=>?_
 have rx:=tx.rp s0
 have ry:=ty.rp s0
 unfold fDIn at h
 split at h
 ·rename_i kvs e
  rw [e] at rx
  obtain ⟨l,rfl,hl⟩:=rx.dK_inv
  obtain ⟨k,h1,h4⟩:=h
  refine ⟨l,_,rfl,?_,q _ _ H2 h4 (Same.refl _) (.bl _)⟩
  rw [Zre ry h1]
  exact DGet.k hl
 ·rename_i kvs e
  rw [e] at rx
  obtain ⟨l,rfl,hl⟩:=rx.dT_inv
  obtain ⟨k,h1,h4⟩:=h
  obtain ⟨b,rfl,hb⟩:=Zmx ry h1
  exact ⟨l,_,rfl,DGet.t hl hb,q _ _ H2 h4 (Same.refl _) (.bl _)⟩
 ·exact h.elim
def pDPut (i:Nat) (b a:PTE):PTS:=fun R γ=>match γ[i]? with
 | some (some (.own (.dK kvs)))=>a γ (fun s=>b γ (fun y=>∃ k u,keyD y.d=some k/\scalV s.d=some u/\kvs.length < 100000/\R.nx (γ.set i (some (.own (.dK (putK kvs k u)))))) (R.ex γ)) (R.ex γ)
 | some (some (.own (.dT kvs)))=>a γ (fun s=>b γ (fun y=>∃ k u,keysD y.d=some k/\scalV s.d=some u/\kvs.length < 100000/\R.nx (γ.set i (some (.own (.dT (putK kvs k u)))))) (R.ex γ)) (R.ex γ)
 | _=>False
theorem Zpn (i:Nat) {ty tv:TE} {a b:PTE} (hb:SndE K mg E ty b) (ha:SndE K mg E tv a):SndS K mg E (sDPut (tVar i) ty tv) (pDPut i b a):=by
 intro H0 B H σ γ R D hB env h e
 have hx:∀ c H',R.ex γ c->Same H H'->E σ (.ref (ExcR.clsOf mg c)) none H':=fun c H' hc S'=>e.ex σ γ c H' hc (env.grow S') (Fr.grow S')
 unfold pDPut at h
 split at h
 ·rename_i kvs hi
  obtain ⟨v,hv,l,rfl,hb0,hl⟩:=env.slot i _ hi
  refine ha H0 B H σ γ _ _ _ env h (fun s u H1 h1 S1 t1=>⟨_,hv,?_⟩) hx
  have env1:=env.grow S1
  refine hb H0 B H1 σ γ _ _ _ env1 h1 (fun y w H2 h2 S2 t2=>?_) fun c H' hc S'=>hx c H' hc (S1.trans S')
  obtain ⟨k,z,k1,k2,k3,k4⟩:=h2
  have env2:=env1.grow S2
  have eu:=Zqf (t1.rp env1.same) k2
  have ew:=Zre (t2.rp env2.same) k1
  subst eu ew
  refine ⟨l,_,rfl,DPut.k (S2 _ _ (S1 _ _ hl)) (Ucj k3 (by decide)),?_⟩
  obtain ⟨e2,f2⟩:=env2.mutate (es:=.dK (putK kvs k u)) (us:=.dK (putK kvs k u)) hi hv trivial fun F H' SF hF=>hF
  exact e.nx _ _ _ k4 e2 ((Fr.grow (S1.trans S2)).trans f2)
 ·rename_i kvs hi
  obtain ⟨v,hv,l,rfl,hb0,hl⟩:=env.slot i _ hi
  refine ha H0 B H σ γ _ _ _ env h (fun s u H1 h1 S1 t1=>⟨_,hv,?_⟩) hx
  have env1:=env.grow S1
  refine hb H0 B H1 σ γ _ _ _ env1 h1 (fun y w H2 h2 S2 t2=>?_) fun c H' hc S'=>hx c H' hc (S1.trans S')
  obtain ⟨k,z,k1,k2,k3,k4⟩:=h2
  have env2:=env1.grow S2
  have eu:=Zqf (t1.rp env1.same) k2
  obtain ⟨b',rfl,hb'⟩:=Zmx (t2.rp env2.same) k1
  subst eu
  refine ⟨l,_,rfl,DPut.t (S2 _ _ (S1 _ _ hl)) hb' (Ucj k3 (by decide)),?_⟩
  obtain ⟨e2,f2⟩:=env2.mutate (es:=.dT (putK kvs k u)) (us:=.dT (putK kvs k u)) hi hv trivial fun F H' SF hF=>hF
  exact e.nx _ _ _ k4 e2 ((Fr.grow (S1.trans S2)).trans f2)
 ·exact h.elim
def pRetS (a:PTE):PTS:=fun R γ=>a γ (fun s=>match s.shd with | some d=>R.rt (.sh d) | none=>False) (R.ex γ)
theorem Zpv {te:TE} {a:PTE} (ha:SndE K mg E te a):SndS K mg E (tRet te) (pRetS a):=by
 intro H0 B H σ γ R D hB env h e
 refine ha H0 B H σ γ _ _ _ env h (fun s v H1 h1 S1 t1=>?_) fun c H' hc S'=>e.ex σ γ c H' hc (env.grow S') (Fr.grow S')
 split at h1
 ·rename_i d hd
  have r:=t1.shd (env.grow S1).same env.zm S1 hd
  exact e.rt (.sh d) v H1 h1 (env.same.trans S1) (Rp.mono (Zal (Same.refl _) fun b _ _ z y=>z (.inl y)) r)
 ·exact h1.elim
def lenAt (i:Nat) (γ:Γ):Nat:=match γ[i]? with
 | some (some (.own (.lst ds)))=>ds.length
 | _=>0
theorem Zpm {α:Type} (d:α) (ds:List α):atI (d :: ds) 0=some d:=Zps (by decide) rfl
def em (l:Int) (p:List Int):D:=.lst ((l :: p).map D.int)
theorem Zqu (l:Int) (p:List Int):atI ((l :: p).map D.int) (-1)=some (.int (lastI l p)):=by
 refine Zeh ?_
 unfold atI ixN
 rw [Uad (by omega),Uae (by rw [Uaz];omega)]
 have e:(-1 + ((l :: p).length:Int)).toNat=p.length:=by rw [Uaz];omega
 rw [e]
 exact Zjl l p
end
end Pu
namespace Pu
open PySem PySem.Spec PyProof.Rows L2 Own M
section
variable {K:PySem.W.Frag} {mg:Str->Option Value} {E:L2.St->XK} {H0 H H1 H':Hp} {B Z Z':Addr->Prop} {σ:L2.St} {γ:Γ}
def fSumL:List S->(S->Prop)->Prop
 | [s],R=>∃ ns:List Int,s.d=.lst (ns.map D.int)/\R (.sh (.int ns.sum))
 | _,_=>False
theorem Zt4 {ta:TA} {r:PTA} (hr:SndA K mg E ta r):SndE K mg E (tCB (fun xs H Q=>∃ (p:Addr) (ns:List Int),xs=[.ref p]/\SqL K H p (ns.map V.int)/\Q (.int ns.sum) H) ta) (pCB fSumL r):=by
 refine Zmi hr fun H0 H H1 Z ss vs R Q s0 s1 hm tv h q=>?_
 unfold fSumL at h
 split at h
 ·obtain ⟨v,rfl,t1⟩:=tv.one_inv
  obtain ⟨ns,e,hR⟩:=h
  have rv:=t1.rp s0
  rw [e] at rv
  obtain ⟨a,rfl,ha⟩:=rv.ints_inv
  exact ⟨a,ns,rfl,SqL.of ha,q _ _ H1 hR (Same.refl _) (.int _)⟩
 ·exact h.elim
def fMinL:List S->(S->Prop)->Prop
 | [s],R=>∃ ns:List Int,s.d=.lst (ns.map D.int)/\0 < ns.length/\∀ m,m∈ns->(∀ a∈ns,m<=a)->R (.sh (.int m))
 | _,_=>False
theorem Zyc {ta:TA} {r:PTA} (hr:SndA K mg E ta r):SndE K mg E (tCB (fun xs H Q=>∃ (p:Addr) (ns:List Int),xs=[.ref p]/\SqL K H p (ns.map V.int)/\0 < ns.length/\∀ M,M∈ns->(∀ a∈ns,M<=a)->Q (.int M) H) ta) (pCB fMinL r):=by
 refine Zmi hr fun H0 H H1 Z ss vs R Q s0 s1 hm tv h q=>?_
 unfold fMinL at h
 split at h
 ·obtain ⟨v,rfl,t1⟩:=tv.one_inv
  obtain ⟨ns,e,hne,hR⟩:=h
  have rv:=t1.rp s0
  rw [e] at rv
  obtain ⟨a,rfl,ha⟩:=rv.ints_inv
  exact ⟨a,ns,rfl,SqL.of ha,hne,fun m h1 h2=>q _ _ H1 (hR m h1 h2) (Same.refl _) (.int _)⟩
 ·exact h.elim
def fAnyL:List S->(S->Prop)->Prop
 | [s],R=>∃ bs:List Bool,s.d=.lst (bs.map D.bl)/\R (.sh (.bl (bs.any id)))
 | _,_=>False
theorem Rps.bls {K:PySem.W.Frag} {H:Hp}:∀ {js:List Bool} {vs:List V},Rps K H (js.map D.bl) vs->vs=js.map V.bl
 | [],_,.nil=>rfl
 | j :: r,_,.cons h t=>by rw [Rp.bl_inv h,Rps.bls t];rfl
theorem Zuy {ta:TA} {r:PTA} (hr:SndA K mg E ta r):SndE K mg E (tCB (fun xs H Q=>∃ (p:Addr) (bs:List Bool),xs=[.ref p]/\SqL K H p (bs.map V.bl)/\Q (.bl (bs.any id)) H) ta) (pCB fAnyL r):=by
 refine Zmi hr fun H0 H H1 Z ss vs R Q s0 s1 hm tv h q=>?_
 unfold fAnyL at h
 split at h
 ·obtain ⟨v,rfl,t1⟩:=tv.one_inv
  obtain ⟨bs,e,hR⟩:=h
  have rv:=t1.rp s0
  rw [e] at rv
  obtain ⟨a,us,rfl,ha,r1⟩:=rv.lst_inv
  rw [r1.bls] at ha
  exact ⟨a,bs,rfl,SqL.of ha,q _ _ H1 hR (Same.refl _) (.bl _)⟩
 ·exact h.elim
theorem Zqx {α:Type} (xs:List α) (lo hi:Option Int):(cutD xs lo hi).Sublist xs:=(Uc2 _ _).trans (List.drop_sublist _ _)
end
end Pu
namespace Pu
open PySem PySem.Spec PyProof.Rows L2 Own M
section
variable {K:PySem.W.Frag} {mg:Str->Option Value} {E:L2.St->XK} {H0 H H1 H':Hp} {B Z Z':Addr->Prop} {σ:L2.St} {γ:Γ}
def pSetI (i:Nat) (b a:PTE):PTS:=fun R γ=>match γ[i]? with
 | some (some (.own (.lst ds)))=>a γ (fun s=>b γ (fun y=>match y.d with
   | .int k=>∃ j d,ixN ds.length k=some j/\s.shd=some d/\R.nx (γ.set i (some (.own (.lst (ds.set j d)))))
   | _=>False) (R.ex γ)) (R.ex γ)
 | some (some (.own (.lsA x ds)))=>a γ (fun s=>b γ (fun y=>match y.d with
   | .int k=>∃ j d,ixN ds.length k=some j/\s.shd=some d/\R.nx (γ.set i (some (.own (.lsA x (ds.set j d)))))
   | _=>False) (R.ex γ)) (R.ex γ)
 | _=>False
theorem Rps.set {d:D} {v:V} (h:Rp K H d v):∀ {ds:List D} {vs:List V} (j:Nat),Rps K H ds vs->Rps K H (ds.set j d) (vs.set j v)
 | _,_,_,.nil=>.nil
 | _,_,0,.cons _ r=>.cons h r
 | _,_,j + 1,.cons k r=>.cons k (Rps.set h j r)
theorem Zu9 (i:Nat) {tb te:TE} {a b:PTE} (hb:SndE K mg E tb b) (ha:SndE K mg E te a):SndS K mg E (tAsg te (gSub (tVar i) tb rSetL)) (pSetI i b a):=by
 intro H0 B H σ γ R D hB env h e
 have hx:∀ c H',R.ex γ c->Same H H'->E σ (.ref (ExcR.clsOf mg c)) none H':=fun c H' hc S'=>e.ex σ γ c H' hc (env.grow S') (Fr.grow S')
 unfold pSetI at h
 split at h
 ·rename_i ds hi
  obtain ⟨v,hv,l,rfl,hb0,us,hl,ru⟩:=env.slot i _ hi
  refine ha H0 B H σ γ _ _ _ env h (fun s u H1 h1 S1 t1=>⟨_,hv,?_⟩) hx
  have env1:=env.grow S1
  refine hb H0 B H1 σ γ _ _ _ env1 h1 (fun y w H2 h2 S2 t2=>?_) fun c H' hc S'=>hx c H' hc (S1.trans S')
  have env2:=env1.grow S2
  have ry:=t2.rp env2.same
  split at h2
  ·rename_i k ek
   rw [ek] at ry
   obtain ⟨j,d,h3,h4,h5⟩:=h2
   have rd:=Rp.mono (Zal S2 fun _ _ _ z=>z) (t1.shd env1.same env.zm S1 h4)
   refine ⟨l,us,k,j,rfl,ry.int_inv,(S1.trans S2) _ _ hl,by rw [ru.len];exact h3,?_⟩
   obtain ⟨e2,f2⟩:=env2.mutate (es:=.lst (ds.set j d)) (us:=.lst (us.set j u)) hi hv trivial fun F H' SF hF=>⟨_,hF,Rps.mono SF (Rps.set rd j (Rps.mono (Zal (S1.trans S2) fun _ _ _ z=>z) ru))⟩
   exact e.nx _ _ _ h5 e2 ((Fr.grow (S1.trans S2)).trans f2)
  ·exact h2.elim
 ·rename_i x ds hi
  obtain ⟨v,hv,l,rfl,hb0,rfl,us,hl,ru⟩:=env.slot i _ hi
  refine ha H0 B H σ γ _ _ _ env h (fun s u H1 h1 S1 t1=>⟨_,hv,?_⟩) hx
  have env1:=env.grow S1
  refine hb H0 B H1 σ γ _ _ _ env1 h1 (fun y w H2 h2 S2 t2=>?_) fun c H' hc S'=>hx c H' hc (S1.trans S')
  have env2:=env1.grow S2
  have ry:=t2.rp env2.same
  split at h2
  ·rename_i k ek
   rw [ek] at ry
   obtain ⟨j,d,h3,h4,h5⟩:=h2
   have rd:=Rp.mono (Zal S2 fun _ _ _ z=>z) (t1.shd env1.same env.zm S1 h4)
   refine ⟨l,us,k,j,rfl,ry.int_inv,(S1.trans S2) _ _ hl,by rw [ru.len];exact h3,?_⟩
   obtain ⟨e2,f2⟩:=env2.mutate (es:=.lsA l (ds.set j d)) (us:=.lst (us.set j u)) hi hv trivial fun F H' SF hF=>⟨rfl,_,hF,Rps.mono SF (Rps.set rd j (Rps.mono (Zal (S1.trans S2) fun _ _ _ z=>z) ru))⟩
   exact e.nx _ _ _ h5 e2 ((Fr.grow (S1.trans S2)).trans f2)
  ·exact h2.elim
 ·exact h.elim
end
end Pu
namespace PySem
open Sem (wp)
structure VPairs {K:Type} (es:List DictEntry) (kvs:List (K×Value)):Prop where
 length:es.length=kvs.length
 get?:∀ {i:Nat} {e:DictEntry} {k:K} {v:Value},es[i]?=some e->kvs[i]?=some (k,v)->True/\e.val=v
def VDict {K:Type} (h:Heap) (a:Addr) (kvs:List (K×Value)) (ep:Nat):Prop:=
 ∃ o es,h.get? a=some o/\o.ExactDict/\o.data=.dict es ep/\True/\VPairs es.toList kvs/\True
section
variable {prog:Program} {w:World} {K:Type} {A:Around} {E:Value->Shared->Prop} {s:Shared}
theorem Zvs (d:Addr) (hd:(d == sysModules)=false) :
  MeetsIn prog w (Builtin.«dict.values» ⟨[.ref d],[]⟩) (fun _ R s=>s.TypeIs (.ref d) "dict"/\
   R (.ok (.ret (.ref s.heap.objs.size))) { s with heap:=s.heap.push { cls:=.type "dict_values",data:=.fields #[.ref d] } }):=
 .of_wp fun A R s ⟨hm,h⟩=>by
  refine wpAny_bind ?_
  unfold Builtin.Dict.noArgs
  refine wpAny_bind (wpAny_notOrdered_dict hm ?_)
  show wpAny _ _ (pure d) _ _ s
  refine wpAny_pure ?_
  show wpAny _ _ (Builtin.Dict.showsAll d >>= _) _ _ s
  unfold Builtin.Dict.showsAll
  rw [Uad (by rw [hd];exact Uar)]
  refine wpAny_bind (wpAny_pure ?_)
  exact wpAny_bind (wpAny_newObj_type (wpAny_pure ⟨_,rfl,h⟩))
theorem Zxy {v d:Addr} {kvs:List (K×Value)} {ep:Nat} {Q:Value->Shared->Prop} (hv:s.heap.IsValuesView v d) (hm:VDict s.heap d kvs ep)
  (hQ:Q (.ref s.heap.objs.size) { s with heap:=s.heap.push { cls:=.type "dict_valueiterator",data:=.fields #[.ref d,.int 0 0,.int kvs.length 0,.int ep 0] } }) :
  wpAny (model prog w) A (pyIter (.ref v)) Q E s:=by
 obtain ⟨ov,hov,hcv,hdv⟩:=id hv
 obtain ⟨o,es,ho,hc,hdat,hk,hp,hn⟩:=id hm
 refine wpAny_pyIter_slot hv.typeIs F.slot_dict_values_iter (wpAny_call_entry F.slot_dict_values_iter hv.typeIs F.entry_dict_values_iter ?_ (F.args_dict_values_iter_1 _))
 unfold Builtin.«dict_values.__iter__»
 refine wpAny_bind (wpAny_pure ?_)
 refine wpAny_bind ?_
 unfold Builtin.Dict_items.dictOf
 refine wpAny_bind (wpAny_field hov hdv (x:=.ref d) rfl (wpAny_pure ?_))
 refine wpAny_bind ?_
 unfold Builtin.Dict_items.newIterator
 refine wpAny_bind (wpAny_dictEntries ho hdat ?_)
 refine wpAny_bind (wpAny_dictEpoch ho hdat ?_)
 have hsz:es.size=kvs.length:=by rw [← hp.length];simp
 have hown:Builtin.Dict_items.ownsTuple "dict_valueiterator" = false:=by decide
 simp only [hown,Ucv,if_false]
 refine wpAny_newObj_type (wpAny_pure ⟨_,rfl, "dict_valueiterator",_,⟨_,Heap.get?_push_size _ rfl,rfl⟩,F.slot_dict_valueiterator_next.lookup,?_⟩)
 simpa [rawInt,hsz] using hQ
theorem Zym {it d:Addr} {i ep:Nat} {kvs:List (K×Value)} {k:K} {v:Value} {Q:Option Value->Shared->Prop} (hit:s.heap.IsValIter it d i kvs.length ep)
  (hm:VDict s.heap d kvs ep) (hx:kvs[i]?=some (k,v))
  (hQ:∀ h',h'.IsValIter it d (i + 1) kvs.length ep->Heap.SameBut it s.heap h'->Q (some v) { s with heap:=h' }) :
  wpAny (model prog w) A (pyNext (.ref it)) Q E s:=by
 obtain ⟨o,ho,hc,hd⟩:=id hit
 obtain ⟨od,es,hod,hcd,hdd,hk,hp,hn⟩:=id hm
 unfold pyNext
 refine wpAny_bind (wpAny_attempt (wpAny_callSpecial?_slot (name:=Str.ofString "__next__") hit.typeIs F.slot_dict_valueiterator_next
  (wpAny_call_entry F.slot_dict_valueiterator_next hit.typeIs F.entry_dict_valueiterator_next ?_ (F.args_dict_valueiterator_next_1 _))))
 refine wpAny_bind (wpAny_pure ?_)
 refine wpAny_bind ?_
 refine wpAny_bind ?_
 first | refine wpAny_bind (wpAny_typeNameOfWhole_valiter hit.typeIs (wpAny_pure ?_)) | refine wpAny_bind (wpAny_typeNameOf_valiter hit.typeIs (wpAny_pure ?_))
 refine wpAny_bind (wpAny_fieldsOf ho hd ?_)
 have hown:Builtin.Dict_items.ownsTuple "dict_valueiterator" = false:=by decide
 simp only [hown,Ucv,if_false]
 show wpAny _ _ (if (Value.ref d == Value.none)=true then _ else _) _ _ s
 rw [Uad (show ¬ ((Value.ref d == Value.none)=true) from Uar)]
 refine wpAny_bind (wpAny_pure ?_)
 refine wpAny_bind (wpAny_dictEntries hod hdd ?_)
 have hsz:es.size=kvs.length:=by rw [← hp.length];simp
 rw [Uad (by rw [hsz];simp)]
 refine wpAny_bind (wpAny_pure ?_)
 refine wpAny_bind (wpAny_dictEpoch hod hdd ?_)
 rw [Uad (by simp)]
 refine wpAny_pure ?_
 have hlt:i < kvs.length:=by
  rcases Nat.lt_or_ge i kvs.length with h | h
  ·exact h
  ·simp [Ub6 h] at hx
 have hlt':i < es.size:=by rw [hsz];exact hlt
 have hval:es[i].val=v:=(hp.get? (e:=es[i]) (by simp [hlt']) hx).2
 simp only [show ¬ ((i:Int) < 0) from by omega,if_false,Ua2,Ubr hlt']
 refine wpAny_bind ?_
 first | refine wpAny_bind (wpAny_typeNameOfWhole_valiter hit.typeIs (wpAny_pure ?_)) | refine wpAny_bind (wpAny_typeNameOf_valiter hit.typeIs (wpAny_pure ?_))
 refine wpAny_bind (wpAny_isOneOf_valiter hit.typeIs ?_)
 show wpAny _ _ (setField (.ref it) 1 (rawInt ((i:Int) + 1)) >>= _) _ _ s
 refine wpAny_bind (wpAny_setField ho hd (by simp) ?_)
 have hit':(s.heap.update it (Obj.mapFields (·.setIfInBounds 1 (rawInt ((i:Int) + 1))))).IsValIter it d (i + 1) kvs.length ep:=
  ⟨_,Heap.get?_update_self _ ho (Obj.isFreed_of_fields (Obj.data_mapFields hd _)),(Obj.cls_mapFields ..).trans hc,by rw [Obj.data_mapFields hd];simp [rawInt]⟩
 refine wpAny_bind (wpAny_holding ?_)
 refine wpAny_bind (wpAny_isOneOf_valiter (s:={ s with heap:=s.heap.update it (Obj.mapFields (·.setIfInBounds 1 (rawInt ((i:Int) + 1)))) }) hit'.typeIs ?_)
 refine wpAny_bind (wpAny_isOneOf_valiter (s:={ s with heap:=s.heap.update it (Obj.mapFields (·.setIfInBounds 1 (rawInt ((i:Int) + 1)))) }) hit'.typeIs ?_)
 show wpAny _ _ (pure es[i].val) _ _ _
 exact wpAny_pure (wpAny_pure ⟨_,rfl,wpAny_pure (hval ▸ hQ _ hit' (Heap.SameBut.update ..))⟩)
theorem Zzb {it d:Addr} {i ep:Nat} {kvs:List (K×Value)} {Q:Option Value->Shared->Prop} (hh:A.handled=none) (hit:s.heap.IsValIter it d i kvs.length ep)
  (hm:VDict s.heap d kvs ep) (hx:kvs[i]?=none)
  (hQ:∀ h',Heap.ExtBut it s.heap h'->Q none { s with heap:=h' }):wpAny (model prog w) A (pyNext (.ref it)) Q E s:=by
 obtain ⟨o,ho,hc,hd⟩:=id hit
 obtain ⟨od,es,hod,hcd,hdd,hk,hp,hn⟩:=id hm
 unfold pyNext
 refine wpAny_bind (wpAny_attempt (wpAny_callSpecial?_slot (name:=Str.ofString "__next__") hit.typeIs F.slot_dict_valueiterator_next
  (wpAny_call_entry F.slot_dict_valueiterator_next hit.typeIs F.entry_dict_valueiterator_next ?_ (F.args_dict_valueiterator_next_1 _))))
 refine wpAny_bind (wpAny_pure ?_)
 refine wpAny_bind ?_
 refine wpAny_bind ?_
 first | refine wpAny_bind (wpAny_typeNameOfWhole_valiter hit.typeIs (wpAny_pure ?_)) | refine wpAny_bind (wpAny_typeNameOf_valiter hit.typeIs (wpAny_pure ?_))
 refine wpAny_bind (wpAny_fieldsOf ho hd ?_)
 have hown:Builtin.Dict_items.ownsTuple "dict_valueiterator" = false:=by decide
 simp only [hown,Ucv,if_false]
 show wpAny _ _ (if (Value.ref d == Value.none)=true then _ else _) _ _ s
 rw [Uad (show ¬ ((Value.ref d == Value.none)=true) from Uar)]
 refine wpAny_bind (wpAny_pure ?_)
 refine wpAny_bind (wpAny_dictEntries hod hdd ?_)
 have hsz:es.size=kvs.length:=by rw [← hp.length];simp
 rw [Uad (by rw [hsz];simp)]
 refine wpAny_bind (wpAny_pure ?_)
 refine wpAny_bind (wpAny_dictEpoch hod hdd ?_)
 rw [Uad (by simp)]
 refine wpAny_pure ?_
 have hge:es.size<=i:=by rw [hsz];simpa using hx
 simp only [show ¬ ((i:Int) < 0) from by omega,if_false,Ua2,Uc6 hge]
 refine wpAny_bind ?_
 first | refine wpAny_bind (wpAny_typeNameOfWhole_valiter hit.typeIs (wpAny_pure ?_)) | refine wpAny_bind (wpAny_typeNameOf_valiter hit.typeIs (wpAny_pure ?_))
 show wpAny _ _ (setField (.ref it) 0 .none >>= _) _ _ s
 refine wpAny_bind (wpAny_setField ho hd (by simp) ?_)
 show wpAny _ _ (newExc (.type "StopIteration") [] >>= _) _ _ _
 refine wpAny_bind ?_
 simp only [newExc,newTuple]
 refine wpAny_bind (wpAny_newObj_type ?_ (by size_fits))
 refine wpAny_bind (m:=firstArgMember _ _) (wpAny_of_eq (a:=Value.none) (by first | rfl | (simp only [firstArgMember];rfl)) ?_)
 refine wpAny_newObj_type ?_ (by size_fits)
 simp only [raiseNew]
 refine wpAny_bind (wpAny_handled ?_)
 rw [show A.in1.handled=none from hh]
 refine wpAny_bind (wpAny_pure (wpAny_throw ?_))
 refine wpAny_bind (wpAny_isInstance (T:="StopIteration") (b:=true) ⟨_,Heap.get?_push_size _ rfl,rfl⟩ isSubtype_stop ?_)
 exact wpAny_pure (hQ _ (((Heap.SameBut.update ..).extBut.push _).push _))
end
end PySem
namespace Own
open PySem PySem.Spec PyProof.Rows L2
def rCatU (K:PySem.W.Frag):R2:=fun x y H Q=>∃ a b xs ys,x=.ref a/\y=.ref b/\SqT K H a xs/\SqT K H b ys/\xs.length + ys.length<=sizeLine/\
 (xs=[]->Q (.ref b) H)/\(xs≠[]->ys=[]->Q (.ref a) H)/\(xs≠[]->ys≠[]->∀ p,H p=none->Q (.ref p) (upd H p (.tup (xs++ys))))
section
variable {X:Cx} {K:PySem.W.Frag}
theorem Zxt (hK:X.K=K:=by rfl):OpR X (binaryOp .Add) (rCatU K):=by
 subst hK
 intro pins s σ H x y v u Q I rx ry h
 obtain ⟨a,b,xs,ys,rfl,rfl,ha,hb,hz,q0,q1,q2⟩:=h
 cases rx
 cases ry
 by_cases hx:xs=[]
 ·obtain ⟨its,r1,p1,_⟩:=I.tuple ha
  obtain ⟨its2,r2,p2,_⟩:=I.tuple hb
  have e:its=[]:=r1.nil_iff.mpr hx
  obtain ⟨⟨cls,dd,data,sl⟩,ho,hc,n,hd⟩:=id p1
  obtain ⟨⟨cls2,dd2,data2,sl2⟩,ho2,hc2,n2,hd2⟩:=id p2
  simp only at hc hd hc2 hd2
  subst hc hd hc2 hd2
  exact concat_meets ⟨_,ho,rfl⟩ ⟨_,ho2,rfl⟩ noFill_tuple_add seq_tuple_add PySem.F.slot_tuple_add PySem.F.entry_tuple_add (PySem.F.args_tuple_add_2 _ _)
   (tuple_addW0 a b its.toArray its2.toArray n n2 dd dd2 sl sl2 (by simp [e])) ⟨ho,ho2,⟨.ref b,H,I,rfl,q0 hx⟩⟩
 ·exact Zy pins s σ H (.ref a) (.ref b) _ _ Q I rfl rfl ⟨a,b,xs,ys,rfl,rfl,ha,hb,hx,hz,q1 hx,q2 hx⟩
theorem Zzh {b:Addr} {x:V} {ws:List (Value×Value)} (h:VV [(.ref b,x)] ws):∃ r,ws=[(.ref b,r)]/\RelV x r:=by
 cases h with
 | cons h t=>
  cases t
  rename_i y
  obtain ⟨u,r⟩:=y
  obtain ⟨h1,h2⟩:=h
  cases (show u=Value.ref b from h1)
  exact ⟨r,rfl,h2⟩
def tDispT (tk tv:TE):TE:=fun σ H Q=>∀ p,H p=none->tk σ (upd H p (.dT [])) fun y H1=>tv σ H1 fun x H2=>H2 p=some (.dT [])/\∃ b ks,y=.ref b/\H2 b=some (.tup (ks.map kV))/\Q (.ref p) (upd H2 p (.dT [(ks,x)]))
theorem Zwn {k v:Expr} {tk tv:TE} {pos:Pos} (hu:X.A.units + 1 < cLine) (hk:PE X k tk) (hv:PE X v tv):PE X (.Dict [some k] [v] pos) (tDispT tk tv):=by
 intro pins s σ H Q I q
 have hn:=I.hok.fresh (Uah s.heap.objs.size)
 have I1:=I.laid (a:=s.heap.objs.size) (o:=.dT []) (h':=s.heap.push { cls:=.type "dict",data:=.dict #[] }) (t':=s.toks) (fun _ _ q=>Heap.get?_push_of_some _ q) (Uah _) (Zrf s.heap I.big)
 refine wpAny_Dict_any rfl rfl (by simp) (by simp) (thn ((Zvp hk hv Zyb) pins _ σ _ (fun ps H2=>match ps with
  | [(y,x)]=>H2 s.heap.objs.size=some (.dT [])/\∃ b ks,y=.ref b/\H2 b=some (.tup (ks.map kV))/\Q (.ref s.heap.objs.size) (upd H2 s.heap.objs.size (.dT [(ks,x)]))
  | _=>False) I1 (q _ hn)) fun ws s2 ⟨ps,H2,I2,rel,h2⟩=>?_)
 split at h2
 ·rename_i y x
  obtain ⟨e,b,ks,ey,eb,q2⟩:=h2
  subst ey
  obtain ⟨wv,ew,rv⟩:=Zzh rel
  subst ew
  obtain ⟨z,hd,xs,rel',dd⟩:=Zwv I2.hok e
  cases rel'
  unfold storeAll
  rw [Udd]
  refine wpAny_bind (wpAny_bind (wpAny_dictSet_heap (hsz:=Ubo _) (show (tupleKind _).room X.A from Nat.lt_of_succ_lt hu) (Zn8 I2.hok eb) dd fun h' dd' hs=>wpAny_pure ?_))
  dsimp only
  rw [List.forIn_nil]
  refine wpAny_pure ?_
  obtain ⟨qo,es,ep,hq,h2,h3,h4,_,h5⟩:=dd'
  refine ⟨.ref s.heap.objs.size,_,Zqk (ob:=.dT [(ks,x)]) I2 (by rw [e];exact True.intro) hs ⟨qo,hq⟩ ⟨(by show 1<=sizeLine;decide),hd,[(ks,b,wv)],?_,qo,es,ep,hq,h2,h3,h4,h5⟩,rfl,q2⟩
  refine .cons ⟨rfl,?_,rv⟩ .nil
  rw [Za5 (Zzk eb e (fun z=>nomatch z))]
  exact eb
 ·exact h2.elim
end
end Own
namespace Own
open PySem PySem.Spec PyProof.Rows L2
section
variable {prog:Program} {w:World} {A:Around} {K:Type} {d r:Addr} {kvs:List (K×Value)} {ep:Nat} {h h':Heap}
theorem VDict.at (x:VDict h d kvs ep) (e:∀ o,h.get? d=some o->h'.get? d=some o):VDict h' d kvs ep:=let ⟨o,es,ho,r⟩:=x;⟨o,es,e _ ho,r⟩
theorem VDict.lt (x:VDict h d kvs ep):d < h.objs.size:=let ⟨_,_,ho,_⟩:=x;Heap.lt_size ho
theorem Zs2 (hh:A.handled=none) (I d:Addr) (hne:d≠I) (kvs:List (K×Value)) (ep:Nat) :
  Walks prog w A I [I,d] [I] kvs.length (fun i v=>∃ k,kvs[i]?=some (k,v)) (fun i h=>h.IsValIter I d i kvs.length ep/\VDict h d kvs ep) where
 sub:=fun b hb=>by simp at hb;simp [hb]
 frame:=fun _ _ _ st hk=>⟨st.1.at fun o e=>hk I (by simp) o e,VDict.at st.2 fun o e=>hk d (by simp) o e⟩
 item:=fun i s Q E hi st hQ=>by
  refine Zym (k:=(kvs[i]).1) (v:=(kvs[i]).2) st.1 st.2 (by simp [hi]) fun h' hit' hs'=>?_
  exact hQ _ h' s.toks ⟨(kvs[i]).1,by simp [hi]⟩ ⟨hit',VDict.at st.2 fun o e=>hs'.extBut d o hne e⟩ fun b o hb e=>hs'.extBut b o (fun h=>hb (by simp [h])) e
 done:=fun s Q E st hQ=>Zzb hh st.1 st.2 (by simp) fun h' he'=>hQ h' s.toks fun b o hb e=>he' b o (fun h=>hb (by simp [h])) e
 self:=fun _ _ _ _ st hQ=>wpAny_pyIter_valiter st.1 hQ
theorem Zwq:PySem.W.KdlSrc prog w "dict_values" r d kvs.length (fun i v=>∃ k,kvs[i]?=some (k,v)) (fun h=>h.IsValuesView r d/\VDict h d kvs ep) where
 type:=fun _ hm=>hm.1.typeIs
 there:=fun _ hm=>⟨let ⟨_,ho,_⟩:=hm.1;Heap.lt_size ho,VDict.lt hm.2⟩
 keep:=fun _ _ hm hk=>⟨let ⟨o,ho,x⟩:=hm.1;⟨o,hk r (.inl rfl) o ho,x⟩,VDict.at hm.2 fun o e=>hk d (.inr rfl) o e⟩
 notList:=by decide
 notTuple:=by decide
 hint:=fun _ _ _ _ hm hq=>PySem.W.kdl_hint_values hm.1.typeIs hq
 iter:=fun _ _ hh hm=>⟨_,_,(fun _ _ hq=>Zxy hm.1 hm.2 hq),Zs2 hh _ d (Ua6 (VDict.lt hm.2)) kvs ep,⟨⟨_,Heap.get?_push_size _ rfl,rfl,rfl⟩,VDict.at hm.2 fun o e=>Heap.get?_push_of_some _ e⟩⟩
end
def ViewH (v d:Addr):HO:=.ext fun h=>h.IsValuesView v d
def rVals:V->List V->Hp->VK->Prop:=fun x vs H Q=>∃ d kvs,x=.ref d/\vs=[]/\H d=some (.dT kvs)/\∀ v,H v=none->Q (.ref v) (upd H v (ViewH v d))
section
variable {X:Cx}
theorem Zup:MtR X "dict.values" rVals:=by
 intro pins s σ H x xs v us Q I rx rv h
 obtain ⟨d,kvs,rfl,rfl,hd,q⟩:=h
 cases rx
 have hus:=rv.zero
 subst hus
 obtain ⟨z,lo,xs,rel,dd⟩:=Zwv I.hok hd
 obtain ⟨o,es,ep,ho,hx,_⟩:=id dd
 refine call_meetsIn PySem.F.slot_dict_values ⟨o,ho,hx.1⟩ PySem.F.entry_dict_values (PySem.F.args_dict_values_1 _) (Zvs d lo) ⟨⟨o,ho,hx.1⟩,?_⟩
 refine ⟨.ref s.heap.objs.size,_,I.laid (a:=s.heap.objs.size) (o:=ViewH s.heap.objs.size d) (t':=s.toks) (fun _ _ q=>Heap.get?_push_of_some _ q) (Uah _) ⟨⟨_,Heap.get?_push_size _ rfl,rfl,rfl⟩,⟨_,Heap.get?_push_size _ rfl⟩,fun h1 h2 ⟨o,ho,r⟩ e=>⟨o,e o ho,r⟩⟩,rfl,q _ (I.hok.fresh (Uah _))⟩
theorem Zwj {K:PySem.W.Frag} {o:Expr} {to:TE} {name:Str} {apos cpos:Pos} (ho:PE X o to) (hK:X.K=K:=by rfl) (hn:name = "values":=by rfl)
  (hbase:attributeBase o name X.env (eval o X.env)=eval o X.env:=by rfl) (hline:(apos.endLine == cpos.line)=true:=by rfl):PE X (.Call (.Attribute o name apos) [] [] cpos) (tBM0 K "dict" rVals to):=by
 subst hK hn
 exact Zy0 PySem.F.plainAttrs_dict PySem.F.slot_dict_values PySem.F.type_dict_values Zup ho hbase hline
theorem Zpq {H:Hp}:∀ {kvs:List (List Key×V)} {xs:List (List Key×Addr×Value)},KT H kvs xs->Vals (kvs.map (·.2)) (xs.map (·.2.2))
 | _,_,.nil=>.nil
 | _,_,.cons h r=>.cons h.2.2 (Zpq r)
theorem Zsb (hc:X.calm=true):CallR X (.type "list") (fun xs H Q=>∃ (v d:Addr) (kvs:List (List Key×V)),xs=[.ref v]/\H v=some (ViewH v d)/\H d=some (.dT kvs)/\∀ l,H l=none->Q (.ref l) (upd H l (.lst (kvs.map (·.2))))):=by
 intro pins s σ H xs us Q I rv h
 obtain ⟨v,d,kvs,rfl,hv,hd,q⟩:=h
 obtain ⟨u,rfl,ru⟩:=rv.one
 obtain rfl:u=Value.ref v:=ru
 obtain ⟨z,lo,xs,rel,dd⟩:=Zwv I.hok hd
 obtain ⟨o,es,ep,ho,hx,hdat,he,hk,hn⟩:=id dd
 have view:s.heap.IsValuesView v d:=(I.hok v _ hv).1
 have hl:xs.length=kvs.length:=by simpa using (Zpq rel).length.symm
 have vd:VDict s.heap d (xs.map fun x=>((),x.2.2)) ep:=by
  refine ⟨o,es,ho,hx,hdat,trivial,⟨by rw [he,Uab,Uab],fun {i e k v} h1 h2=>⟨trivial,?_⟩⟩,trivial⟩
  rw [he,Uaj] at h1
  rw [Uaj] at h2
  cases hi:xs[i]? with
  | none=>rw [hi] at h1;cases h1
  | some x=>
   rw [hi] at h1 h2
   cases h1
   cases h2
   rfl
 refine PySem.W.kdl_call Zwq (I.ok.hd hc) ⟨view,vd⟩ (by rw [Uab];omega) fun h' tk acc' c' hk hD hacc=>?_
 refine ⟨.ref s.heap.objs.size,upd H s.heap.objs.size (.lst (kvs.map (·.2))),?_,rfl,q _ (I.hok.fresh (Uah _))⟩
 have ev:=PySem.W.kdl_vals_eq (kvs:=xs.map fun x=>((),x.2.2)) acc'.toList (by rw [Ubc];exact hacc.1) fun j u hu=>hacc.2 j u (by rw [← hu,Ubm])
 refine I.laid (t':=tk) hk (Uah _) ⟨by rw [Uab];exact z,acc'.toList,c',?_,by simpa using hD⟩
 rw [ev,Ua8]
 exact Zpq rel
end
end Own
namespace Pu
open PySem PySem.Spec PyProof.Rows L2 Own M
section
variable {K:PySem.W.Frag} {mg:Str->Option Value} {E:L2.St->XK} {H0 H H1 H':Hp} {B Z Z':Addr->Prop} {σ:L2.St} {γ:Γ}
def tupD:Option D->Option (List D)
 | some (.tup ds)=>some ds | _=>none
theorem Zpo {o:Option D} {ds:List D} (h:tupD o=some ds):o=some (.tup ds):=by
 unfold tupD at h
 split at h
 ·cases h;rfl
 ·cases h
def fCatU:S->S->(S->Prop)->Prop:=fun x y R=>∃ ds es,tupD x.shd=some ds/\tupD y.shd=some es/\ds.length + es.length<=100000/\R (.sh (.tup (ds++es)))
theorem Zxp {ta tb:TE} {a b:PTE} (ha:SndE K mg E ta a) (hb:SndE K mg E tb b):SndE K mg E (tOp (rCatU K) ta tb) (p2 a b fCatU):=by
 refine se_2 ha hb fun H0 H H2 Z x y v u R Q s0 s1 hm tx ty h q=>?_
 obtain ⟨ds,es,e1,e2,hz,h⟩:=h
 have hm':∀ b,Z b->Mut (H2 b):=fun b z=>Zc4 s1 (hm b z)
 have r1:=tx.shd s0 hm s1 (Zpo e1)
 have r2:=ty.shd s0 hm s1 (Zpo e2)
 obtain ⟨l,us,rfl,h1,k1⟩:=Rp.tup_inv r1
 obtain ⟨m,ws,rfl,h2,k2⟩:=Rp.tup_inv r2
 refine ⟨l,m,us,ws,rfl,rfl,SqT.of (off_sub _ _ h1),SqT.of (off_sub _ _ h2),by rw [k1.len,k2.len];exact Ual hz (by decide),fun e=>?_,fun _ e=>?_,fun _ _ p np=>?_⟩
 ·subst e
  cases k1
  exact q _ _ _ h (Same.refl _) r2
 ·subst e
  cases k2
  refine q _ _ _ h (Same.refl _) ?_
  rw [Ubi]
  exact r1
 ·refine q _ _ _ h (Zaw np) (.tup (Zc Zas fun z=>?_) (Rps.mono (Zal (Zaw np) fun _ _ _ z=>z) (k1.append k2)))
  have:=hm' p z
  rw [np] at this
  exact this
def pIT (a:PTE):PTI:=fun γ R X=>a γ (fun s=>∃ ds,tupD s.shd=some ds/\R ds.length fun i=>.sh (ds.getD i .non)) X
theorem Zod {te:TE} {a:PTE} (ha:SndE K mg E te a):SndI K mg E (iTup K te) (pIT a):=by
 intro H0 B H σ γ R X Q env h q qx
 refine ha H0 B H σ γ _ X _ env h (fun s v H1 h1 S1 t1=>?_) qx
 have env1:=env.grow S1
 obtain ⟨ds,ed,h1⟩:=h1
 have r1:=t1.shd env1.same env.zm S1 (Zpo ed)
 obtain ⟨l,vs,rfl,hl,k1⟩:=Rp.tup_inv r1
 refine ⟨l,rfl,⟨vs,SqT.of (off_sub _ _ hl)⟩,q _ _ _ H1 h1 S1 ⟨fun i H' Z' hi lt=>?_,fun H' Z' lt=>?_⟩⟩
 ·have hd:ds[i]?=some (ds.getD i .non):=by rw [Uac,Uaa hi];rfl
  obtain ⟨u,hu,tu⟩:=k1.get hd
  have k:=off_sub _ _ (lt.off _ _ hl)
  refine ⟨⟨vs,u,SqT.of k,hu⟩,fun x H'' y=>?_⟩
  obtain ⟨rfl,y⟩:=y
  have:=y vs (SqT.of k)
  rw [hu] at this
  cases this
  exact ⟨Same.refl _,Rp.mono lt.off tu⟩
 ·exact ⟨vs,SqT.of (off_sub _ _ (lt.off _ _ hl)),by rw [k1.len];exact Uah _⟩
def scalBs:List (List Key×V)->Bool
 | []=>true
 | p :: r=>scalB p.2 && scalBs r
theorem Zrh:∀ {kvs:List (List Key×V)},scalBs kvs=true->Rps K H (kvs.map fun p=>vD p.2) (kvs.map (·.2))
 | [],_=>.nil
 | p :: r,h=>by
  unfold scalBs at h
  rw [Ubh] at h
  exact .cons (Zyi h.1) (Zrh h.2)
def rListV:List V->Hp->VK->Prop:=fun xs H Q=>∃ (v d:Addr) (kvs:List (List Key×V)),xs=[.ref v]/\H v=some (ViewH v d)/\H d=some (.dT kvs)/\∀ l,H l=none->Q (.ref l) (upd H l (.lst (kvs.map (·.2))))
def pVals (a:PTE):PTE:=fun γ R X=>a γ (fun s=>∃ kvs,s.d=.dT kvs/\scalBs kvs=true/\R (.own (.lst (kvs.map fun p=>vD p.2)))) X
theorem Zxq {te:TE} {a:PTE} (ha:SndE K mg E te a):SndE K mg E (tCB rListV (tCons (tBM0 K "dict" rVals te) tNil)) (pVals a):=by
 intro H0 B H σ γ R X Q env h q qx
 refine ha H0 B H σ γ _ X _ env h (fun s v H1 h1 S1 t1=>?_) qx
 obtain ⟨kvs,e,hs,hR⟩:=h1
 have env1:=env.grow S1
 have rx:=t1.rp env1.same
 rw [e] at rx
 obtain ⟨l,rfl,hl⟩:=rx.dT_inv
 refine ⟨.inr (.inr (.inl ⟨rfl,.inr ⟨kvs,hl⟩⟩)),l,kvs,rfl,rfl,hl,fun p np=>?_⟩
 refine ⟨p,l,kvs,rfl,Zas,by rw [Za5 (Zba hl np)];exact hl,fun m nm=>?_⟩
 have S2:Same H1 (upd H1 p (ViewH p l)):=Zaw np
 exact q _ _ _ hR ((S1.trans S2).trans (Zaw nm)) ⟨m,rfl,(fun _ e=>e ▸ (S1.trans S2).free nm),_,Zas,Zrh hs⟩
def pDispT (a b:PTE):PTE:=fun γ R X=>a γ (fun y=>b γ (fun x=>∃ ks u,keysD y.d=some ks/\scalV x.d=some u/\R (.own (.dT [(ks,u)]))) X) X
theorem Zwa {tk tv:TE} {a b:PTE} (ha:SndE K mg E tk a) (hb:SndE K mg E tv b):SndE K mg E (tDispT tk tv) (pDispT a b):=by
 intro H0 B H σ γ R X Q env h q qx
 intro p np
 have S0:Same H (upd H p (.dT [])):=Zaw np
 have env0:=env.grow S0
 refine ha H0 B _ σ γ _ X _ env0 h (fun y v H1 h1 S1 t1=>?_) fun c H' hc S'=>qx c H' hc (S0.trans S')
 have env1:=env0.grow S1
 refine hb H0 B H1 σ γ _ X _ env1 h1 (fun x w H2 h2 S2 t2=>?_) fun c H' hc S'=>qx c H' hc ((S0.trans S1).trans S')
 have env2:=env1.grow S2
 obtain ⟨ks,u,k1,k2,k3⟩:=h2
 have eu:=Zqf (t2.rp env2.same) k2
 obtain ⟨b',rfl,hb'⟩:=Zmx (Rp.mono S2 (t1.rp env1.same)) k1
 subst eu
 refine ⟨S2 _ _ (S1 _ _ Zas),b',ks,rfl,hb',q _ _ _ k3 (fun c o hc=>?_) ⟨p,rfl,(fun _ e=>e ▸ np),Zas⟩⟩
 have:c≠p:=fun e=>by subst e;rw [np] at hc;cases hc
 rw [Za5 this]
 exact S2 _ _ (S1 _ _ (S0 _ _ hc))
end
section
variable {X:Cx} {K:PySem.W.Frag}
theorem Zj5 {tg l:Expr} {tl:TE} (hl:PE X l tl) (hK:X.K=K:=by rfl):PI X tg l (iTup K tl):=by subst hK;exact Zzi hl
end
end Pu
namespace M
open PySem PySem.Spec PyProof.Rows L2 Own Pu
def tD (ms:List Int):D:=.tup (ms.map D.int)
def kT (ms:List Int):List Key:=ms.map Sum.inl
theorem Zy5 (ms:List Int):arg (tD ms)=.sh (tD ms):=by
 unfold arg tD imm
 rw [Zeu]
theorem Zg9 {N:List Str} {ms:List Int} {ds:List D}:startP N (tD ms :: ds)=some (.sh (tD ms)) :: (ds.map (fun d=>some (arg d))++List.replicate (N.length - (ds.length + 1)) none):=by
 unfold startP
 rw [Uai,Zy5]
 rfl
theorem Zjm (ms:List Int):keysD (tD ms)=some (kT ms):=by
 show keysL (ms.map D.int)=some (ms.map Sum.inl)
 induction ms with
 | nil=>rfl
 | cons m r ih=>
  rw [Uai,Uai]
  unfold keysL
  rw [ih]
  rfl
theorem Zx2 (ms:List Int):tupD (some (tD ms))=some (ms.map D.int):=rfl
def lessM (ms:List Int) (h:Int):List Int:=ms.filter fun m=>decide (m≠h)
def lastM (ws:List (Int×Int)) (ms:List Int) (h:Int):Bool:=!(ws.any fun q=>decide (q.1=h) && decide (q.2∈ms))
def firstM (ws:List (Int×Int)) (ms:List Int) (h:Int):Bool:=!(ws.any fun q=>decide (q.2=h) && decide (q.1∈ms))
def setsM (hs:List Int):List (List Int):=hs.foldl (fun S h=>S++S.map (·++[h])) [[]]
theorem Zcu (hs:List Int) (h:Int):setsM (hs++[h])=setsM hs++(setsM hs).map (·++[h]):=by
 unfold setsM
 rw [List.foldl_append]
 rfl
theorem Zf8 {P:List Int->Prop} (h0:P []) (h1:∀ r h,P r->P (r++[h])) (l:List Int):P l:=by
 have key:∀ r:List Int,P r.reverse:=fun r=>by
  induction r with
  | nil=>exact h0
  | cons a r ih=>rw [List.reverse_cons];exact h1 _ _ ih
 rw [← List.reverse_reverse l]
 exact key _
theorem Zny (hs:List Int):(setsM hs).length=2 ^ hs.length:=by
 refine Zf8 (P:=fun hs=>(setsM hs).length=2 ^ hs.length) rfl (fun r h ih=>?_) hs
 rw [Zcu,Uat,Uab,ih,Uat,Ubs,Nat.pow_succ]
 omega
theorem Zfi (hs:List Int):∀ ms∈setsM hs,ms.Sublist hs:=by
 refine Zf8 (P:=fun hs=>∀ ms∈setsM hs,ms.Sublist hs) (fun ms h=>?_) (fun r h ih ms hm=>?_) hs
 ·have:ms=[]:=by simpa [setsM] using h
  subst this
  exact .slnil
 ·rw [Zcu,Ua0] at hm
  rcases hm with hm | hm
  ·exact (ih _ hm).trans (List.sublist_append_left _ _)
  ·obtain ⟨n,hn,rfl⟩:=Ua5.mp hm
   exact (ih _ hn).append (List.Sublist.refl _)
def oc (c:Int->Int->Int):List Int->Int
 | []=>0
 | a :: r=>(r.map (c a)).sum + oc c r
def Keeps (ws:List (Int×Int)) (o:List Int):Prop:=o.Pairwise fun a b=>(b,a)∉ws
structure Least (ws:List (Int×Int)) (c:Int->Int->Int) (ms:List Int) (v:Int):Prop where
 is:∃ o:List Int,o.Perm ms/\Keeps ws o/\oc c o=v
 le:∀ o:List Int,o.Perm ms->Keeps ws o->v<=oc c o
theorem Least.uniq {ws:List (Int×Int)} {c:Int->Int->Int} {ms:List Int} {v u:Int} (h:Least ws c ms v) (k:Least ws c ms u):v=u:=by
 obtain ⟨o,o1,o2,o3⟩:=h.is
 obtain ⟨p,p1,p2,p3⟩:=k.is
 have:=h.le p p1 p2
 have:=k.le o o1 o2
 omega
theorem Znm (c:Int->Int->Int) (l:Int):∀ o:List Int,oc c (o++[l])=oc c o + (o.map (c · l)).sum
 | []=>by simp [oc]
 | a :: r=>by
  rw [Ubf]
  unfold oc
  rw [Znm c l r]
  simp only [Uaq,Uai,Udu,List.sum_append,Ub7,List.sum_nil]
  omega
theorem Zf9 {f:Int->Int} {xs ys:List Int} (h:xs.Perm ys):(xs.map f).sum=(ys.map f).sum:=by
 induction h with
 | nil=>rfl
 | cons x _ ih=>rw [Uai,Uai,Ub7,Ub7,ih]
 | swap x y l=>
  simp only [Uai,Ub7]
  omega
 | trans _ _ i1 i2=>exact i1.trans i2
theorem Zck {ms:List Int} {h:Int} (nd:ms.Nodup) (hm:h∈ms):ms.Perm (h :: lessM ms h):=by
 have e:lessM ms h=ms.erase h:=by
  unfold lessM
  rw [nd.erase_eq_filter]
  congr 1
  funext m
  by_cases z:m=h<;>simp [z,bne]
 rw [e]
 exact List.perm_cons_erase hm
theorem less_sub {ms:List Int} {h:Int}:(lessM ms h).Sublist ms:=Udg
theorem lastM_iff {ws:List (Int×Int)} {ms:List Int} {h:Int}:lastM ws ms h=true↔∀ b∈ms,(h,b)∉ws:=by
 unfold lastM
 rw [Uds,Udo]
 constructor
 ·intro k b hb hw
  exact k _ hw (by simp [hb])
 ·intro k q hq z
  simp only [Ubh,decide_eq_true_eq] at z
  obtain ⟨z1,z2⟩:=z
  subst z1
  exact k q.2 z2 hq
theorem firstM_iff {ws:List (Int×Int)} {ms:List Int} {h:Int}:firstM ws ms h=true↔∀ b∈ms,(b,h)∉ws:=by
 unfold firstM
 rw [Uds,Udo]
 constructor
 ·intro k b hb hw
  exact k _ hw (by simp [hb])
 ·intro k q hq z
  simp only [Ubh,decide_eq_true_eq] at z
  obtain ⟨z1,z2⟩:=z
  subst z1
  exact k q.1 z2 hq
theorem Zr3 {ws:List (Int×Int)} {c:Int->Int->Int} {ms:List Int} {vs:Int->Int} {M:Int} (nd:ms.Nodup) (hw:∀ q∈ws,q.1≠q.2) (hv:∀ l∈ms,Least ws c (lessM ms l) (vs l))
  (h1:∃ l∈ms,lastM ws ms l=true/\M=vs l + ((lessM ms l).map (c · l)).sum) (h2:∀ l∈ms,lastM ws ms l=true->M<=vs l + ((lessM ms l).map (c · l)).sum):Least ws c ms M:=by
 constructor
 ·obtain ⟨l,hl,hlast,e⟩:=h1
  obtain ⟨o,o1,o2,o3⟩:=(hv l hl).is
  refine ⟨o++[l],?_,?_,?_⟩
  ·exact (List.perm_append_singleton l o).trans (((List.Perm.cons l o1)).trans (Zck nd hl).symm)
  ·refine Uco.mpr ⟨o2,List.pairwise_singleton _ _,fun a ha b hb=>?_⟩
   rw [Uag.mp hb]
   exact lastM_iff.mp hlast a (less_sub.subset (o1.mem_iff.mp ha))
  ·rw [Znm,o3,e,Zf9 o1]
 ·intro o o1 o2
  rcases List.eq_nil_or_concat o with rfl | ⟨p,l,rfl⟩
  ·obtain ⟨l,hl,_⟩:=h1
   rw [o1.nil_eq.symm] at hl
   cases hl
  ·rw [List.concat_eq_append] at o1 o2 ⊢
   have hl:l∈ms:=o1.mem_iff.mp (by simp)
   obtain ⟨k1,_,k2⟩:=Uco.mp o2
   have pp:p.Perm (lessM ms l):=by
    have:=((List.perm_append_singleton l p).symm.trans o1).trans (Zck nd hl)
    exact this.cons_inv
   have hlast:lastM ws ms l=true:=lastM_iff.mpr fun b hb=>by
    rcases Uan.mp ((Zck nd hl).mem_iff.mp hb) with e | hb'
    ·subst e
     exact fun z=>hw _ z rfl
    ·exact k2 b (pp.mem_iff.mpr hb') l (Uag.mpr rfl)
   have a1:=h2 l hl hlast
   have a2:=(hv l hl).le p pp k1
   rw [Znm,Zf9 pp]
   omega
theorem Ziz (a b:List Int) (l:Int):lessM (a++b) l=lessM a l++lessM b l:=List.filter_append ..
theorem Zon {a:List Int} {l:Int} (h:l∉a):lessM a l=a:=List.filter_eq_self.mpr fun m hm=>Uaf fun e=>h (e ▸ hm)
theorem Zr5 (hs:List Int):∃ T,setsM hs=[] :: T:=by
 refine Zf8 (P:=fun hs=>∃ T,setsM hs=[] :: T) ⟨[],rfl⟩ (fun r h ⟨T,e⟩=>?_) hs
 rw [Zcu,e]
 exact ⟨_,rfl⟩
theorem Zhb (hs:List Int):(setsM hs).getLast?=some hs:=by
 refine Zf8 (P:=fun hs=>(setsM hs).getLast?=some hs) rfl (fun r h e=>?_) hs
 rw [Zcu,List.getLast?_append,List.getLast?_map,e]
 rfl
theorem Zj8 {hs:List Int}:hs.Nodup->(setsM hs).Nodup:=by
 refine Zf8 (P:=fun hs=>hs.Nodup->(setsM hs).Nodup) (fun _=>by simp [setsM]) (fun r h ih nd=>?_) hs
 obtain ⟨n1,_,n2⟩:=Ubu.mp nd
 rw [Zcu]
 refine Ubu.mpr ⟨ih n1,?_,fun a ha b hb e=>?_⟩
 ·exact List.Pairwise.map _ (fun a b hne e=>hne (List.append_cancel_right e)) (ih n1)
 ·obtain ⟨c,hc,rfl⟩:=Ua5.mp hb
  subst e
  exact n2 h ((Zfi r _ ha).subset (by simp)) h (by simp) rfl
theorem Zjz {hs:List Int}:hs.Nodup->∀ (k:Nat) (ms:List Int),(setsM hs)[k]?=some ms->∀ l∈ms,∃ j:Nat,j < k/\(setsM hs)[j]?=some (lessM ms l):=by
 refine Zf8 (P:=fun hs=>hs.Nodup->∀ (k:Nat) (ms:List Int),(setsM hs)[k]?=some ms->∀ l∈ms,∃ j:Nat,j < k/\(setsM hs)[j]?=some (lessM ms l)) (fun _ k ms e l hl=>?_) (fun r h ih nd k ms e l hl=>?_) hs
 ·have:ms=[]:=by
   have:=Uax e
   simpa [setsM] using this
  subst this
  cases hl
 ·obtain ⟨n1,_,n2⟩:=Ubu.mp nd
  rw [Zcu] at e ⊢
  by_cases hk:k < (setsM r).length
  ·rw [Ubg hk] at e
   obtain ⟨j,hj,ej⟩:=ih n1 k ms e l hl
   exact ⟨j,hj,by rw [Ubg (by omega)];exact ej⟩
  ·rw [Ubp (by omega),Uaj] at e
   cases q:(setsM r)[k - (setsM r).length]? with
   | none=>rw [q] at e;cases e
   | some n=>
    rw [q] at e
    cases e
    have hh:h∉n:=fun z=>n2 h ((Zfi r n (Uax q)).subset z) h (by simp) rfl
    by_cases el:l=h
    ·subst el
     have e1:lessM (n++[l]) l=n:=by
      rw [Ziz,Zon hh]
      simp [lessM]
     obtain ⟨j,hj,ej⟩:=Ubd.mp (Uax q)
     refine ⟨j,by omega,?_⟩
     rw [Ubg hj,e1,Uaa hj,ej]
    ·have hln:l∈n:=by
      rcases Ua0.mp hl with z | z
      ·exact z
      ·exact absurd (Uag.mp z) el
     have e1:lessM (n++[h]) l=lessM n l++[h]:=by
      rw [Ziz]
      congr 1
      exact Zon fun z=>el (Uag.mp z)
     obtain ⟨j,hj,ej⟩:=ih n1 _ n q l hln
     refine ⟨(setsM r).length + j,by omega,?_⟩
     rw [Ubp (by omega),Uaj,Nat.add_sub_cancel_left,ej,e1]
     rfl
theorem Zrb {a b:List Int} (h:kT a=kT b):a=b:=List.map_inj_right (fun _ _=>Sum.inl.inj) |>.mp h
def HasLast (hs:List Int) (ws:List (Int×Int)):Prop:=∀ ms:List Int,ms.Sublist hs->ms≠[]->∃ l∈ms,∀ b∈ms,(l,b)∉ws
structure Tab (ws:List (Int×Int)) (c:Int->Int->Int) (S:List (List Int)) (kvs:List (List Key×V)):Prop where
 keys:kvs.map (·.1)=S.map kT
 val:∀ ms∈S,∃ v,valV kvs (kT ms)=some (.int v)/\Least ws c ms v
theorem Zyh (ws:List (Int×Int)) (c:Int->Int->Int):Tab ws c [[]] [([],.int 0)]:=by
 refine ⟨rfl,fun ms hm=>?_⟩
 rw [Uag.mp hm]
 refine ⟨0,rfl,⟨[],.refl _,.nil,rfl⟩,fun o ho _=>?_⟩
 rw [ho.eq_nil]
 exact Ub0 _
theorem Tab.put {ws:List (Int×Int)} {c:Int->Int->Int} {S:List (List Int)} {kvs:List (List Key×V)} {ms:List Int} {v:Int} (T:Tab ws c S kvs) (hn:ms∉S) (L:Least ws c ms v):Tab ws c (S++[ms]) (putK kvs (kT ms) (.int v)):=by
 have no:valV kvs (kT ms)=none:=by
  cases e:valV kvs (kT ms) with
  | none=>rfl
  | some u=>
   unfold valV at e
   cases q:kvs.find? (fun kv=>decide (kv.1=kT ms)) with
   | none=>rw [q] at e;cases e
   | some x=>
    have h1:=List.mem_of_find?_eq_some q
    have h2:=List.find?_some q
    have h3:x.1∈kvs.map (·.1):=Ua5.mpr ⟨x,h1,rfl⟩
    rw [T.keys,Uap h2] at h3
    obtain ⟨n,hn',e'⟩:=Ua5.mp h3
    rw [Zrb e'] at hn'
    exact absurd hn' hn
 constructor
 ·rw [Zv8 _ no,Uaq,Uaq,T.keys]
  rfl
 ·intro n hn'
  rw [Zjq]
  by_cases e:n=ms
  ·subst e
   exact ⟨v,Uae rfl,L⟩
  ·rw [Uad fun z=>e (Zrb z)]
   rcases Ua0.mp hn' with z | z
   ·exact T.val n z
   ·exact absurd (Uag.mp z) e
open Classical in
theorem Zr {ms:List Int} {P:Int->Int->Prop} (h:∀ l∈ms,∃ v,P l v):∃ f:Int->Int,∀ l∈ms,P l (f l):=
 ⟨fun l=>if hl:l∈ms then Classical.choose (h l hl) else 0,fun l hl=>by
  simp only [dif_pos hl]
  exact Classical.choose_spec (h l hl)⟩
theorem Zvh {ls:List Int} {ws:List (Int×Int)} {r:List Int} (R:Ring ls (ws.map fun q=>(q.2,q.1)) r):Ring ls ws r.reverse:=by
 have sw:∀ {x y:Int},(x,y)∈(ws.map fun q=>(q.2,q.1))->(y,x)∈ws:=fun h=>by
  obtain ⟨q,hq,e⟩:=Ua5.mp h
  cases e
  exact hq
 refine ⟨by rw [Udh];exact R.two,List.pairwise_reverse.mpr (R.nodup.imp fun h=>Ne.symm h),fun x hx=>R.sub x (List.mem_reverse.mp hx),fun i x y h1 h2=>?_,fun x y h1 h2=>?_⟩
 ·have hi:i + 1 < r.length:=by
   have:=(Uas.mp h2).1
   rw [Udh] at this
   exact this
  rw [Uc9 (by omega)] at h1 h2
  exact sw (R.chain (r.length - 1 - (i + 1)) y x h2 (by rw [← h1];congr 1;omega))
 ·have two:=R.two
  rw [Uc9 (by omega)] at h1
  rw [Udh,Uc9 (by omega)] at h2
  exact sw (R.last y x (by rw [← h2];congr 1;omega) (by rw [← h1];congr 1))
theorem Zm {hs:List Int} {ws:List (Int×Int)} (hu:∀ q∈ws,q.1≠q.2) (h:¬ ∃ r,Ring hs ws r):HasLast hs ws:=fun ms hm hne=>by
 refine Classical.byContradiction fun z=>h ?_
 have h1:∀ x∈ms,∃ y∈ms,(y,x)∈(ws.map fun q=>(q.2,q.1)):=fun x hx=>by
  refine Classical.byContradiction fun k=>z ⟨x,hx,fun b hb hw=>k ⟨b,hb,Ua5.mpr ⟨_,hw,rfl⟩⟩⟩
 obtain ⟨r,R⟩:=Zvd (ws:=ws.map fun q=>(q.2,q.1)) (fun q hq=>by
  obtain ⟨p,hp,e⟩:=Ua5.mp hq
  subst e
  exact fun e=>hu p hp e.symm) hne h1
 have F:=Zvh R
 exact ⟨_,F.two,F.nodup,fun x hx=>hm.subset (F.sub x hx),F.chain,F.last⟩
theorem Zva:∀ {kvs:List (List Key×V)},(kvs.map (·.1)).Nodup->∀ p∈kvs,valV kvs p.1=some p.2
 | [],_,p,h=>by cases h
 | q :: r,nd,p,h=>by
  rw [Uai,Ua9] at nd
  rcases Uan.mp h with e | h
  ·rw [e]
   exact Zcf rfl
  ·rw [Zcd fun e=>nd.1 (Ua5.mpr ⟨p,h,e.symm⟩)]
   exact Zva nd.2 p h
def TabV (ws:List (Int×Int)) (c:Int->Int->Int) (S:List (List Int)) (vs:List Int):Prop:=vs.length=S.length/\∀ (i:Nat) (ms:List Int) (v:Int),S[i]?=some ms->vs[i]?=some v->Least ws c ms v
theorem Tab.vals {ws:List (Int×Int)} {c:Int->Int->Int} {S:List (List Int)} {kvs:List (List Key×V)} (T:Tab ws c S kvs) (nd:S.Nodup):∃ vs:List Int,kvs.map (·.2)=vs.map V.int/\TabV ws c S vs:=by
 have nk:(kvs.map (·.1)).Nodup:=by
  rw [T.keys]
  exact List.Pairwise.map _ (fun a b hne e=>hne (Zrb e)) nd
 have hk:∀ p∈kvs,∃ ms∈S,p.1=kT ms/\∃ v,p.2=.int v/\Least ws c ms v:=fun p hp=>by
  have h1:p.1∈kvs.map (·.1):=Ua5.mpr ⟨p,hp,rfl⟩
  rw [T.keys] at h1
  obtain ⟨ms,hm,e⟩:=Ua5.mp h1
  obtain ⟨v,h2,h3⟩:=T.val ms hm
  rw [e,Zva nk p hp] at h2
  exact ⟨ms,hm,e.symm,v,Option.some.inj h2,h3⟩
 have hl:kvs.length=S.length:=by
  have:=Ube List.length T.keys
  rw [Uab,Uab] at this
  exact this
 refine ⟨kvs.map fun p=>match p.2 with | .int v=>v | _=>0,?_,by rw [Uab,hl],fun i ms v h1 h2=>?_⟩
 ·rw [Ua8]
  refine Ucb fun p hp=>?_
  obtain ⟨ms,_,_,v,e,_⟩:=hk p hp
  show p.2=V.int (match p.2 with | .int v=>v | _=>0)
  rw [e]
 ·rw [Uaj] at h2
  cases q:kvs[i]? with
  | none=>rw [q] at h2;cases h2
  | some p=>
   rw [q] at h2
   obtain ⟨ms',hm',e1,u,e2,L⟩:=hk p (Uax q)
   have h3:(kvs.map (·.1))[i]?=some p.1:=by rw [Uaj,q];rfl
   rw [T.keys,Uaj,h1] at h3
   have e3:ms=ms':=Zrb ((Option.some.inj h3).trans e1)
   subst e3
   have e4:u=v:=by
    have:=Option.some.inj h2
    simp only [e2] at this
    exact this
   rw [← e4]
   exact L
theorem Zl:∀ {kvs:List (List Key×V)} {vs:List Int},kvs.map (·.2)=vs.map V.int->scalBs kvs=true/\kvs.map (fun p=>vD p.2)=vs.map D.int
 | [],[],_=>⟨rfl,rfl⟩
 | p :: r,v :: vs,h=>by
  rw [Uai,Uai,List.cons.injEq] at h
  obtain ⟨h1,h2⟩:=Zl h.2
  unfold scalBs
  rw [h1,Uai,Uai,h2,h.1]
  exact ⟨rfl,rfl⟩
structure Best (ws:List (Int×Int)) (c:Int->Int->Int) (ms o:List Int):Prop where
 perm:o.Perm ms
 keeps:Keeps ws o
 le:∀ p:List Int,p.Perm ms->Keeps ws p->oc c o<=oc c p
 first:∀ p:List Int,p.Perm ms->Keeps ws p->oc c p=oc c o->o=p\/sl o p
theorem Zwx (ws:List (Int×Int)) (c:Int->Int->Int):Best ws c [] []:=by
 refine ⟨.refl _,.nil,fun p hp _=>?_,fun p hp _ _=>.inl hp.eq_nil.symm⟩
 rw [hp.eq_nil]
 exact Ub0 _
theorem Zv {ws:List (Int×Int)} {c:Int->Int->Int} {ms:List Int} {vs:Int->Int} {V g:Int} {p:List Int} (nd:ms.Nodup) (hu:∀ q∈ws,q.1≠q.2) (hv:∀ l∈ms,Least ws c (lessM ms l) (vs l)) (hV:Least ws c ms V)
  (hp:(g :: p).Perm ms) (hk:Keeps ws (g :: p)) (e:oc c (g :: p)=V):g∈ms/\firstM ws ms g=true/\vs g + ((lessM ms g).map (c g)).sum=V/\p.Perm (lessM ms g)/\oc c p=vs g:=by
 have hg:g∈ms:=hp.mem_iff.mp (Ua1 ..)
 have pp:p.Perm (lessM ms g):=(hp.trans (Zck nd hg)).cons_inv
 obtain ⟨k1,k2⟩:=Ub5.mp hk
 have hf:firstM ws ms g=true:=firstM_iff.mpr fun b hb=>by
  rcases Uan.mp ((Zck nd hg).mem_iff.mp hb) with e | hb'
  ·subst e
   exact fun z=>hu _ z rfl
  ·exact k1 b (pp.mem_iff.mpr hb')
 have a1:=(hv g hg).le p pp k2
 obtain ⟨o,o1,o2,o3⟩:=(hv g hg).is
 have a2:=hV.le (g :: o) ((List.Perm.cons g o1).trans (Zck nd hg).symm) (Ub5.mpr ⟨fun b hb=>firstM_iff.mp hf b (less_sub.subset (o1.mem_iff.mp hb)),o2⟩)
 have e1:oc c (g :: p)=(p.map (c g)).sum + oc c p:=rfl
 have e2:oc c (g :: o)=(o.map (c g)).sum + oc c o:=rfl
 have s1:=Zf9 (f:=c g) pp
 have s2:=Zf9 (f:=c g) o1
 exact ⟨hg,hf,by omega,pp,by omega⟩
theorem Ztr {ws:List (Int×Int)} {c:Int->Int->Int} {ms o:List Int} {vs:Int->Int} {V f:Int} (nd:ms.Nodup) (hu:∀ q∈ws,q.1≠q.2) (hv:∀ l∈ms,Least ws c (lessM ms l) (vs l)) (hV:Least ws c ms V)
  (hf:f∈ms) (h1:firstM ws ms f=true) (h2:vs f + ((lessM ms f).map (c f)).sum=V) (h3:∀ g∈ms,firstM ws ms g=true->vs g + ((lessM ms g).map (c g)).sum=V->f<=g) (B:Best ws c (lessM ms f) o):Best ws c ms (f :: o):=by
 have eo:oc c o=vs f:=by
  obtain ⟨p,p1,p2,p3⟩:=(hv f hf).is
  have:=(hv f hf).le o B.perm B.keeps
  have:=B.le p p1 p2
  omega
 have es:=Zf9 (f:=c f) B.perm
 have e:oc c (f :: o)=V:=by
  show (o.map (c f)).sum + oc c o=V
  omega
 refine ⟨(List.Perm.cons f B.perm).trans (Zck nd hf).symm,Ub5.mpr ⟨fun b hb=>firstM_iff.mp h1 b (less_sub.subset (B.perm.mem_iff.mp hb)),B.keeps⟩,fun p p1 p2=>?_,fun p p1 p2 p3=>?_⟩
 ·rw [e]
  exact hV.le p p1 p2
 ·cases p with
  | nil=>rw [p1.nil_eq.symm] at hf;cases hf
  | cons g p=>
   obtain ⟨q1,q2,q3,q4,q5⟩:=Zv nd hu hv hV p1 p2 (p3.trans e)
   have hle:=h3 g q1 q2 q3
   by_cases eg:f=g
   ·subst eg
    rcases B.first p q4 (Ub5.mp p2).2 (q5.trans eo.symm) with z | z
    ·exact .inl (by rw [z])
    ·exact .inr (sl_cons.mpr z)
   ·exact .inr (.inl (by omega))
end M
namespace Own
open PySem PySem.Spec PyProof.Rows L2 PySem.SeqAt PySem.MeetsSeq PySem.MeetsSeq2 PySem.MeetsSeq3 PySem.SeqRoads2
open AutoSeq1 (wpAny_loadPart')
end Own
namespace Own
open PySem PySem.Spec PyProof.Rows L2
section
variable {X:Cx} {K:PySem.W.Frag}
end
end Own
namespace Pu
open PySem PySem.Spec PyProof.Rows L2 Own M
section
variable {K:PySem.W.Frag} {mg:Str->Option Value} {E:L2.St->XK}
end
end Pu
namespace Pu
open PySem PySem.Spec PyProof.Rows L2 Own
section
variable {K:PySem.W.Frag} {mg:Str->Option Value} {E:L2.St->XK} {H0 H H1 H':Hp} {B Z Z':Addr->Prop} {σ:L2.St} {γ:Γ}
def O.from:O->O->Prop
 | .ins x _ _ cs,.ins x' _ _ cs'=>x'=x/\∀ c∈cs,∃ c'∈cs',c'.1=c.1
 | .lsA x _,.lsA x' _=>x'=x
 | _,_=>False
theorem O.from_adr {o o':O} {a:Addr} (h:o.from o'):∀ b,o.adr a b->o'.adr a b:=by
 unfold O.from at h
 split at h
 ·intro b hb
  rcases hb with hb | ⟨c,hc,hb⟩
  ·exact .inl (hb.trans h.1.symm)
  ·obtain ⟨c',q1,q2⟩:=h.2 c hc
   exact .inr ⟨c',q1,hb.trans q2.symm⟩
 ·intro b hb
  exact (show b=_ from hb).trans h.symm
 ·exact h.elim
theorem O.from_at {o o':O} {a a':Addr} {F F' H H':Hp} (h:o.from o') (h1:OR K F H a o) (h2:OR K F' H' a' o'):a'=a:=by
 unfold O.from at h
 split at h
 ·exact h2.1.trans (h.1.trans h1.1.symm)
 ·exact h2.1.trans (h.trans h1.1.symm)
 ·exact h.elim
abbrev Pw:=O->List S->(O->D->Prop)->(O->Str->Prop)->Prop
def S.pass:S->Option S
 | .sh d=>some (.sh d) | .own o=>some (.sh o.d)
 | .bor d=>match imm d with | true=>some (.sh d) | false=>some (.bor d)
 | .tmp d=>match imm d with | true=>some (.sh d) | false=>none
 | .view _=>none
def S.flat:S->Prop
 | .sh _=>True | .bor _=>True | _=>False
def passes:List S->Option (List S)
 | []=>some []
 | s :: r=>match s.pass,passes r with | some s',some r'=>some (s' :: r') | _,_=>none
structure After (K:PySem.W.Frag) (B:Addr->Prop) (H:Hp) (a:Addr) (o o':O) (H':Hp):Prop where
 same:Same (off (o.adr a) H) H'
 old:∀ b,o.adr a b->o'.adr a b
 new:∀ b,o'.adr a b->o.adr a b\/H b=none
 at_:OR K (off (fun b=>B b\/o'.adr a b) H') H' a o'
def spW (mg:Str->Option Value) (c:Pw) (K:PySem.W.Frag):Sp:=fun vs H Q E=>∃ (o:O) (a:Addr) (ss:List S) (us:List V) (B:Addr->Prop) (R:O->D->Prop) (X:O->Str->Prop),
 vs=.ref a :: us/\(∀ b,B b->Mut (H b)/\¬ o.adr a b)/\OR K (off (fun b=>B b\/o.adr a b) H) H a o/\TVs K (fun b=>B b\/o.adr a b) (off (o.adr a) H) H H ss us/\(∀ s∈ss,s.flat)/\c o ss R X/\
 (∀ o' d v H',R o' d->After K B H a o o' H'->Rp K (off (fun b=>B b\/o'.adr a b) H') d v->Q v H')/\∀ o' e H',X o' e->After K B H a o o' H'->E (.ref (ExcR.clsOf mg e)) none H'
theorem TVs.get:∀ {ss:List S} {vs:List V} {i:Nat} {s:S},TVs K Z H0 H H' ss vs->ss[i]?=some s->∃ v,vs[i]?=some v/\TV K Z H0 H H' s v
 | _,_,_,_,.nil,e=>by simp at e
 | _,_,0,_,.cons h _,e=>by simp at e;subst e;exact ⟨_,rfl,h⟩
 | _,_,i + 1,s,.cons _ r,e=>by
  obtain ⟨v,h1,h2⟩:=TVs.get (i:=i) (s:=s) r (by simpa using e)
  exact ⟨v,by simpa using h1,h2⟩
def startW (N:List Str) (o:O) (ss:List S):Γ:=some (.own o) :: (ss.map some++List.replicate (N.length - (ss.length + 1)) none)
theorem Zr4 {N:List Str} {o:O} {a:Addr} {ss:List S} {us:List V} (hB:∀ b,B b->Mut (H b)/\¬ o.adr a b) (ho:OR K (off (fun b=>B b\/o.adr a b) H) H a o) (r:TVs K (fun b=>B b\/o.adr a b) (off (o.adr a) H) H H ss us) (hf:∀ s∈ss,s.flat) (hn:ss.length + 1<=N.length) :
  EnvR K (off (o.adr a) H) B H (start N (.ref a :: us)) (startW N o ss):=by
 have hlen:=r.len
 have get:∀ (i:Nat) (s:S),(startW N o ss)[i + 1]?=some (some s)->ss[i]?=some s:=fun i s h=>by
  unfold startW at h
  rw [Uce] at h
  by_cases hi:i < ss.length
  ·rw [Ubg (by rw [Uab];exact hi),Uaj,Uaa hi] at h
   rw [Uaa hi]
   exact Ube some (Option.some.inj (Option.some.inj h))
  ·rw [Ubp (by rw [Uab];omega),Uc1] at h
   split at h<;>cases h
 have noown:∀ (i:Nat) (es:O),(startW N o ss)[i + 1]?≠some (some (.own es)):=fun i es h=>hf _ (Uax (get i _ h))
 have st0:(start N (V.ref a :: us))[0]?=some (some (.ref a)):=by
  unfold L2.start
  rfl
 have hz:∀ b,zof B (startW N o ss) (start N (V.ref a :: us)) b->B b\/o.adr a b:=fun b z=>by
  rcases z with z | ⟨i,es,a',h1,h2,h3⟩
  ·exact .inl z
  ·cases i with
   | zero=>
    rw [st0] at h2
    cases h2
    have:o=es:=by
     have h1:some (some (S.own o))=some (some (S.own es)):=h1
     cases h1
     rfl
    subst this
    exact .inr h3
   | succ i=>exact absurd h1 (noown i es)
 refine ⟨off_sub,?_,fun b h=>(hB b h).1,fun i j x x' es es' b h1 h2 _ _ _ _=>?_,fun i s h=>?_⟩
 ·unfold L2.start startW
  simp [hlen]
 ·cases i with
  | succ i=>exact absurd h1 (noown i es)
  | zero=>
   cases j with
   | zero=>rfl
   | succ j=>exact absurd h2 (noown j es')
 ·cases i with
  | zero=>
   have h:some (some (S.own o))=some (some s):=h
   cases h
   refine ⟨_,st0,a,rfl,fun b hb=>?_,ho.mono (Zal (Same.refl _) fun b _ _ z y=>z (hz b y)) fun _ _ _ q=>q⟩
   unfold off
   rw [Uae hb]
  | succ i=>
   have hs:=get i s h
   obtain ⟨v,hv,tv⟩:=r.get hs
   refine ⟨v,?_,?_⟩
   ·unfold L2.start
    rw [Ubg (by rw [Uab,Uaz];have:=(Uas.mp hv).1;omega),Uaj,Uce,hv]
    rfl
   ·have:=hf s (Uax hs)
    cases s with
    | bor d=>exact tv
    | sh d=>exact Rp.mono (Zal (Same.refl _) fun b _ _ z y=>z (hz b y)) tv
    | own _=>exact this.elim
    | view _=>exact this.elim
    | tmp _=>exact this.elim
def finW (o:O) (R:O->D->Prop) (γ:Γ) (d:D):Prop:=∃ o',γ[0]?=some (some (.own o'))/\o.from o'/\R o' d
def finX (o:O) (X:O->Str->Prop) (γ:Γ) (e:Str):Prop:=∃ o',γ[0]?=some (some (.own o'))/\o.from o'/\X o' e
def endsW (o:O) (R:O->D->Prop) (X:O->Str->Prop):PEnds:={ nx:=fun γ=>finW o R γ .non,rt:=fun _=>False,ex:=finX o X,rv:=finW o R }
theorem Znf {a:Addr} {o o':O} {σ':L2.St} {γ':Γ} (ho:OR K (off (fun b=>B b\/o.adr a b) H) H a o) (e:EnvR K (off (o.adr a) H) B H' σ' γ') (h:γ'[0]?=some (some (.own o'))) (k:o.from o'):After K B H a o o' H'/\∀ b,B b\/o'.adr a b->zof B γ' σ' b:=by
 obtain ⟨v,h1,a',rfl,h2,h3⟩:=e.slot 0 _ h
 have ea:=O.from_at k ho h3
 subst ea
 have hz:∀ b,B b\/o'.adr a' b->zof B γ' σ' b:=fun b z=>z.imp id fun z=>⟨0,o',a',h,h1,z⟩
 refine ⟨⟨e.same,O.from_adr k,fun b hb=>?_,h3.mono (Zal (Same.refl _) fun b _ _ z y=>z (hz b y)) fun _ _ _ q=>q⟩,hz⟩
 have:=h2 b hb
 unfold off at this
 by_cases q:o.adr a' b
 ·exact .inl q
 ·rw [Uad q] at this
  exact .inr this
theorem Zqi {c:Pw} {N:List Str} {t:TS} {p:PTS} {vs:List V} {Q:VK} {Ec:XK} {n:Nat} (h:spW mg c K vs H Q Ec) (snd:SndS K mg (fun _=>Ec) t p) (hn:n + 1<=N.length)
  (hp:∀ o ss R X,c o ss R X->ss.length=n/\p (endsW o R X) (startW N o ss)):t { nx:=fun _ H'=>Q .non H',rt:=Q } (start N vs) H:=by
 obtain ⟨o,a,ss,us,B,R,X,rfl,hB,ho,r,hf,hc,hQ,hX⟩:=h
 obtain ⟨e,hp⟩:=hp o ss R X hc
 have env:=Zr4 (N:=N) hB ho r hf (by rw [e];exact hn)
 refine snd _ B H _ _ _ _ (fun b z=>?_) env hp ⟨fun σ' γ' H' h1 e1 f1=>?_,fun _ _ _ z=>z.elim,fun σ' γ' c H' h1 e1 f1=>?_,fun _ _ _ z=>z.elim,fun _ _ _ z=>z.elim,fun σ' γ' d v H' h1 e1 f1 rd=>?_⟩
 ·obtain ⟨q1,q2⟩:=hB b z
  obtain ⟨x,hx⟩:=Zhj q1
  exact ⟨x,Zc hx q2⟩
 ·obtain ⟨o',q1,q2,q3⟩:=h1
  exact hQ o' .non .non H' q3 (Znf ho e1 q1 q2).1 .non
 ·obtain ⟨o',q1,q2,q3⟩:=h1
  exact hX o' c H' q3 (Znf ho e1 q1 q2).1
 ·obtain ⟨o',q1,q2,q3⟩:=h1
  obtain ⟨k1,k2⟩:=Znf ho e1 q1 q2
  exact hQ o' d v H' q3 k1 (Rp.mono (Zal (Same.refl _) fun b _ _ z y=>z (k2 b y)) rd)
theorem Zqq {c:Pw} {vs:List V} {Q:VK} {Ec:XK} {n:Nat} (h:spW mg c K vs H Q Ec) (hn:∀ o ss R X,c o ss R X->ss.length=n):vs.length=n + 1:=by
 obtain ⟨o,a,ss,us,B,R,X,rfl,_,_,r,_,hc,_⟩:=h
 rw [Uaz,r.len,hn o ss R X hc]
abbrev PTW:=Γ->(Γ->D->Prop)->(Γ->Str->Prop)->Prop
def SndW (K:PySem.W.Frag) (mg:Str->Option Value) (E:L2.St->XK) (t:TE) (p:PTW):Prop:=∀ (H0:Hp) (B:Addr->Prop) (H:Hp) (σ:L2.St) (γ:Γ) (R:Γ->D->Prop) (X:Γ->Str->Prop) (Q:VK),(∀ b,B b->∃ o,H0 b=some o)->EnvR K H0 B H σ γ->p γ R X->
 (∀ γ' d v H',R γ' d->EnvR K H0 B H' σ γ'->Fr B H σ γ H' σ γ'->Rp K (off (zof B γ' σ) H') d v->Q v H')->(∀ γ' c H',X γ' c->EnvR K H0 B H' σ γ'->Fr B H σ γ H' σ γ'->E σ (.ref (ExcR.clsOf mg c)) none H')->t σ H Q
variable {te:TE} {w:PTW}
def pDropW (w:PTW):PTS:=fun R γ=>w γ (fun γ' _=>R.nx γ') R.ex
theorem Zjo (hw:SndW K mg E te w):SndS K mg E (tDrop te) (pDropW w):=by
 intro H0 B H σ γ R D hB env h e
 exact hw H0 B H σ γ _ _ _ hB env h (fun γ' d v H1 h1 e1 f1 _=>e.nx σ γ' H1 h1 e1 f1) fun γ' c H' hc e' f'=>e.ex σ γ' c H' hc e' f'
def pRetWW (w:PTW):PTS:=fun R γ=>w γ R.rv R.ex
theorem Zws (hw:SndW K mg E te w):SndS K mg E (tRet te) (pRetWW w):=by
 intro H0 B H σ γ R D hB env h e
 exact hw H0 B H σ γ _ _ _ hB env h (fun γ' d v H1 h1 e1 f1 rd=>e.rv σ γ' d v H1 h1 e1 f1 rd) fun γ' c H' hc e' f'=>e.ex σ γ' c H' hc e' f'
def pRetW (a:PTE):PTS:=fun R γ=>a γ (fun s=>match s.shd with | some d=>R.rv γ d | none=>False) (R.ex γ)
theorem Zxr {a:PTE} (ha:SndE K mg E te a):SndS K mg E (tRet te) (pRetW a):=by
 intro H0 B H σ γ R D hB env h e
 refine ha H0 B H σ γ _ _ _ env h (fun s v H1 h1 S1 t1=>?_) fun c H' hc S'=>e.ex σ γ c H' hc (env.grow S') (Fr.grow S')
 split at h1
 ·rename_i d ed
  exact e.rv σ γ d v H1 h1 (env.grow S1) (Fr.grow S1) (t1.shd (env.grow S1).same env.zm S1 ed)
 ·exact h1.elim
theorem Zte {s s':S} (h:s.pass=some s'):s'.flat:=by
 cases s with
 | sh d=>cases h;trivial
 | own o=>cases h;trivial
 | bor d=>unfold S.pass at h;cases q:imm d<;>simp [q] at h<;>subst h<;>trivial
 | tmp d=>
  unfold S.pass at h
  cases q:imm d<;>simp [q] at h
  subst h;trivial
 | view o=>cases h
theorem Zgu:∀ {ss ss':List S},passes ss=some ss'->∀ s∈ss',s.flat
 | [],_,h=>by cases h;simp
 | s :: r,_,h=>by
  unfold passes at h
  split at h
  ·rename_i s1 r1 e1 e2
   cases h
   intro x hx
   rcases Uan.mp hx with rfl | hx
   ·exact Zte e1
   ·exact Zgu e2 x hx
  ·cases h
theorem TV.pass {s s':S} {v:V} {P W:Addr->Prop} {HB:Hp} (h0:Same H0 H') (hm:∀ b,Z b->Mut (H b)) (S1:Same H H') (hb:Same H0 (off P HB)) (hs:Same (off Z H') (off W HB)) (h:TV K Z H0 H H' s v) (e:s.pass=some s'):TV K W (off P HB) HB HB s' v:=by
 have shd:∀ d,s.shd=some d->Rp K (off W HB) d v:=fun d ed=>Rp.mono hs (h.shd h0 hm S1 ed)
 cases s with
 | sh d=>cases e;exact shd _ rfl
 | own o=>cases e;exact shd _ rfl
 | view o=>cases e
 | tmp d=>
  unfold S.pass at e
  cases q:imm d with
  | false=>simp [q] at e
  | true=>simp [q] at e;subst e;exact shd d (by unfold S.shd;simp [q])
 | bor d=>
  unfold S.pass at e
  cases q:imm d with
  | false=>simp [q] at e;subst e;exact Rp.mono hb h
  | true=>simp [q] at e;subst e;exact shd d (by unfold S.shd;simp [q])
theorem TVs.pass {P W:Addr->Prop} {HB:Hp} (h0:Same H0 H') (hm:∀ b,Z b->Mut (H b)) (S1:Same H H') (hb:Same H0 (off P HB)) (hs:Same (off Z H') (off W HB)):∀ {ss ss':List S} {vs:List V},TVs K Z H0 H H' ss vs->passes ss=some ss'->TVs K W (off P HB) HB HB ss' vs
 | _,_,_,.nil,e=>by cases e;exact .nil
 | _,_,_,.cons h r,e=>by
  unfold passes at e
  split at e
  ·rename_i s1 r1 e1 e2
   cases e
   exact .cons (h.pass h0 hm S1 hb hs e1) (TVs.pass h0 hm S1 hb hs r e2)
  ·cases e
theorem callW {c:Pw} {i:Nat} {o:O} {a:Addr} {ss ss':List S} {us:List V} {R:Γ->D->Prop} {X:Γ->Str->Prop} {Q:VK} {Ec:XK} (env:EnvR K H0 B H σ γ) (hB:∀ b,B b->∃ o,H0 b=some o) (S1:Same H H1) (hi:γ[i]?=some (some (.own o))) (ha:σ[i]?=some (some (.ref a)))
  (t1:TVs K (zof B γ σ) H0 H H1 ss us) (hp:passes ss=some ss') (hc:c o ss' (fun o' d=>R (γ.set i (some (.own o'))) d) (fun o' e=>X (γ.set i (some (.own o'))) e))
  (q:∀ γ' d v H',R γ' d->EnvR K H0 B H' σ γ'->Fr B H σ γ H' σ γ'->Rp K (off (zof B γ' σ) H') d v->Q v H') (qx:∀ γ' c H',X γ' c->EnvR K H0 B H' σ γ'->Fr B H σ γ H' σ γ'->Ec (.ref (ExcR.clsOf mg c)) none H'):spW mg c K (.ref a :: us) H1 Q Ec:=by
 have env1:=env.grow S1
 obtain ⟨v,h1,a',ev,h3,h4⟩:=env1.slot i _ hi
 rw [ha] at h1
 cases h1
 cases ev
 have za:∀ b,o.adr a b->zof B γ σ b:=fun b hb=>.inr ⟨i,o,a,hi,ha,hb⟩
 have aft:∀ o' H',After K (fun b=>zof B γ σ b/\¬ o.adr a b) H1 a o o' H'->EnvR K H0 B H' σ (γ.set i (some (.own o')))/\Fr B H σ γ H' σ (γ.set i (some (.own o')))/\∀ b x,H' b=some x->¬ ((zof B γ σ b/\¬ o.adr a b)\/o'.adr a b)->¬ zof B (γ.set i (some (.own o'))) σ b:=fun o' H' A=>by
  have hzz:∀ b x,H' b=some x->¬ ((zof B γ σ b/\¬ o.adr a b)\/o'.adr a b)->¬ zof B (γ.set i (some (.own o'))) σ b:=fun b x _ n z=>by
   rcases z with z | ⟨j,fs,a',e1,e2,e3⟩
   ·refine n (.inl ⟨.inl z,fun w=>?_⟩)
    obtain ⟨u,hu⟩:=hB b z
    rw [h3 b w] at hu
    cases hu
   ·rcases Za8 e1 with ⟨ej,q,_⟩ | ⟨nj,q⟩
    ·subst ej
     cases q
     rw [ha] at e2
     cases e2
     exact n (.inr e3)
    ·exact n (.inl ⟨.inr ⟨j,fs,a',q,e2,e3⟩,fun w=>nj (env.own j i a' a fs o b q hi e2 ha e3 w)⟩)
  obtain ⟨k1,k2⟩:=env1.change (o':=o') (H':=H') hi ha (fun b x hx n=>A.same b x (Zc hx n)) (fun b hb=>A.at_.mut b (A.old b hb)) A.new (A.at_.mono (Zal (Same.refl _) fun b x hx z=>hzz b x hx z) fun _ _ _ q=>q)
  exact ⟨k1,(Fr.grow S1).trans k2,hzz⟩
 refine ⟨o,a,ss',us,fun b=>zof B γ σ b/\¬ o.adr a b,_,_,rfl,fun b hb=>⟨env1.zm b hb.1,hb.2⟩,h4.mono (Zal (Same.refl _) fun b _ _ z y=>z (y.elim (fun y=>y.1) (za b))) fun _ _ _ q=>q,?_,Zgu hp,hc,fun o' d v H' hR A rd=>?_,fun o' e H' hX A=>?_⟩
 ·refine t1.pass env1.same env.zm S1 (fun b x hx=>Zc (env1.same b x hx) fun w=>?_) (Zal (Same.refl _) fun b _ _ z y=>z (y.elim (fun y=>y.1) (za b))) hp
  rw [h3 b w] at hx
  cases hx
 ·obtain ⟨k1,k2,k3⟩:=aft o' H' A
  exact q _ d v H' hR k1 k2 (Rp.mono (fun b x h=>let ⟨p1,p2⟩:=Zgl h;Zc p1 (k3 b x p1 p2)) rd)
 ·obtain ⟨k1,k2,_⟩:=aft o' H' A
  exact qx _ e H' hX k1 k2
def pCallW (i:Nat) (c:Pw) (r:PTA):PTW:=fun γ R X=>match γ[i]? with
 | some (some (.own o))=>r γ (fun ss=>match passes ss with | some ss'=>c o ss' (fun o' d=>R (γ.set i (some (.own o'))) d) (fun o' e=>X (γ.set i (some (.own o'))) e) | none=>False) (X γ)
 | _=>False
def fFld (C:Addr) (xs:List Str) (j:Nat):S->(S->Prop)->Prop
 | .view (.ins _ C' xs' cs),R=>C'=C/\xs'=xs/\∃ c,cs[j]?=some c/\R (.view (.lst c.2))
 | .bor (.ins C' xs' ds),R=>C'=C/\xs'=xs/\∃ d,ds[j]?=some d/\R (arg d)
 | _,_=>False
def pFld (C:Addr) (xs:List Str) (j:Nat) (a:PTE):PTE:=fun γ R X=>a γ (fun s=>fFld C xs j s R) X
theorem Rp.ins_inv {C:Addr} {xs:List Str} {ds:List D} {v:V} (h:Rp K H (.ins C xs ds) v):∃ a dx vs,v=.ref a/\H a=some (.ins C dx (xs.zip vs))/\xs.length=vs.length/\Rps K H ds vs:=by
 cases h with
 | ins h e r=>exact ⟨_,_,_,rfl,h,e,r⟩
def FldAt (f:Str) (xs:List Str) (j:Nat):Prop:=∀ vs:List V,xs.length=vs.length->(xs.zip vs).lookup f=vs[j]?
theorem Zov {C:Addr} {f:Str} {xs:List Str} (j:Nat) {a:PTE} (hc:Cls K C) (hn:NoAttr K C f) (hj:FldAt f xs j) (ha:SndE K mg E te a):SndE K mg E (tFld K te f) (pFld C xs j a):=by
 intro H0 B H σ γ R X Q env p q qx
 refine ha H0 B H σ γ _ X _ env p (fun s v H1 h1 S1 t1=>?_) qx
 have env1:=env.grow S1
 unfold fFld at h1
 split at h1
 ·rename_i x C' xs' cs
  obtain ⟨rfl,rfl,c,ec,hR⟩:=h1
  obtain ⟨b,rfl,e1,e2,⟨dx,e3⟩,e4,e5⟩:=t1
  obtain ⟨us,u1,u2⟩:=e4 c (Uax ec)
  refine ⟨b,_,dx,_,_,rfl,e3,hc,hn,?_,q _ _ H1 hR S1 ⟨c.1,rfl,us,u1,u2⟩⟩
  rw [hj _ (by rw [Uab];exact e2),Uaj,ec]
  rfl
 ·rename_i C' xs' ds
  obtain ⟨rfl,rfl,d,ed,hR⟩:=h1
  obtain ⟨b,dx,vs,rfl,e1,e2,e3⟩:=Rp.ins_inv (show Rp K H0 (.ins C' xs' ds) v from t1)
  obtain ⟨u,hu,ru⟩:=e3.get ed
  refine ⟨b,_,dx,_,u,rfl,env1.same _ _ e1,hc,hn,by rw [hj _ e2];exact hu,q _ _ H1 hR S1 (argR env1.zm env1.same ru)⟩
 ·exact h1.elim
def pMeth (C:Addr) (xs:List Str) (c:Pc) (a:PTE) (r:PTA):PTE:=fun γ R X=>a γ (fun s=>match s.d with
 | .ins C' xs' ds=>C'=C/\xs'=xs/\r γ (fun ss=>c (.ins C' xs' ds :: ss.map S.d) (fun s=>R s.back) X) X
 | _=>False) X
def NoFld (m:Str) (xs:List Str):Prop:=∀ vs:List V,(xs.zip vs).lookup m=none
def tMethS (C:Addr) (m:Str) (sp:Sp) (E:L2.St->XK) (ta:TE) (t:TA):TE:=fun σ H Q=>ta σ H fun x H1=>∃ a dx fs,x=.ref a/\H1 a=some (.ins C dx fs)/\fs.lookup m=none/\t σ H1 fun vs H2=>sp (x :: (vs++[])) H2 Q (E σ)
theorem Zvz {C:Addr} {m:Str} {xs:List Str} {c:Pc} {ta:TA} {a:PTE} {r:PTA} (hx:NoFld m xs) (ha:SndE K mg E te a) (hr:SndA K mg E ta r):SndE K mg E (tMethS C m (spOf mg c K) E te ta) (pMeth C xs c a r):=by
 intro H0 B H σ γ R X Q env p q qx
 refine ha H0 B H σ γ _ X _ env p (fun s v H1 h1 S1 t1=>?_) qx
 have env1:=env.grow S1
 split at h1
 ·rename_i C' xs' ds ed
  obtain ⟨rfl,rfl,h1⟩:=h1
  have rs:=t1.rp env1.same
  rw [ed] at rs
  obtain ⟨b,dx,vs,rfl,e1,e2,e3⟩:=Rp.ins_inv rs
  refine ⟨b,dx,_,rfl,e1,hx vs,hr H0 B H1 σ γ _ X _ env1 h1 (fun ss us H2 h2 S2 t2=>?_) fun c H' hc S'=>qx c H' hc (S1.trans S')⟩
  have env2:=env1.grow S2
  rw [Ubi]
  refine ⟨_,_,X,Rps.cons (Rp.mono S2 rs) (t2.rps env2.same),h2,fun s v H' hs S3 tv=>q _ _ H' hs ((S1.trans S2).trans S3) (tv.back env2 (S1.trans S2) S3),fun e H' he S3=>qx e H' he ((S1.trans S2).trans S3)⟩
 ·exact h1.elim
theorem Zyj {C:Addr} {m:Str} {xs:List Str} {c:Pc} {ta:TA} {a:PTE} {r:PTA} {Ec:XK} (hx:NoFld m xs) (ha:SndE K mg (fun _=>Ec) te a) (hr:SndA K mg (fun _=>Ec) ta r):SndE K mg (fun _=>Ec) (tMeth C m (spOf mg c K) [] Ec te ta) (pMeth C xs c a r):=Zvz (E:=fun _=>Ec) hx ha hr
def pMethN (C:Addr) (xs:List Str) (c:Pc) (a:PTE) (r:PTA):PTE:=fun γ R X=>a γ (fun s=>match s.d with
 | .ins C' xs' ds=>C'=C/\xs'=xs/\r γ (fun ss=>c (.ins C' xs' ds :: ss.map S.d) (fun s=>R s.back) fun _=>False) X
 | _=>False) X
theorem Zbj {C:Addr} {m:Str} {xs:List Str} {c:Pc} {ta:TA} {a:PTE} {r:PTA} (hx:NoFld m xs) (ha:SndE K mg E te a) (hr:SndA K mg E ta r):SndE K mg E (tMeth C m (spOf mg c K) [] E0 te ta) (pMethN C xs c a r):=by
 intro H0 B H σ γ R X Q env p q qx
 refine ha H0 B H σ γ _ X _ env p (fun s v H1 h1 S1 t1=>?_) qx
 have env1:=env.grow S1
 split at h1
 ·rename_i C' xs' ds ed
  obtain ⟨rfl,rfl,h1⟩:=h1
  have rs:=t1.rp env1.same
  rw [ed] at rs
  obtain ⟨b,dx,vs,rfl,e1,e2,e3⟩:=Rp.ins_inv rs
  refine ⟨b,dx,_,rfl,e1,hx vs,hr H0 B H1 σ γ _ X _ env1 h1 (fun ss us H2 h2 S2 t2=>?_) fun c H' hc S'=>qx c H' hc (S1.trans S')⟩
  have env2:=env1.grow S2
  rw [Ubi]
  exact ⟨_,_,_,Rps.cons (Rp.mono S2 rs) (t2.rps env2.same),h2,fun s v H' hs S3 tv=>q _ _ H' hs ((S1.trans S2).trans S3) (tv.back env2 (S1.trans S2) S3),fun _ _ z=>z.elim⟩
 ·exact h1.elim
def pMethW (i:Nat) (C:Addr) (xs:List Str) (c:Pw) (r:PTA):PTW:=fun γ R X=>match γ[i]? with
 | some (some (.own (.ins x C' xs' cs)))=>C'=C/\xs'=xs/\r γ (fun ss=>match passes ss with | some ss'=>c (.ins x C' xs' cs) ss' (fun o' d=>R (γ.set i (some (.own o'))) d) (fun o' e=>X (γ.set i (some (.own o'))) e) | none=>False) (X γ)
 | _=>False
def pMethWN (i:Nat) (C:Addr) (xs:List Str) (c:Pw) (r:PTA):PTW:=fun γ R X=>match γ[i]? with
 | some (some (.own (.ins x C' xs' cs)))=>C'=C/\xs'=xs/\r γ (fun ss=>match passes ss with | some ss'=>c (.ins x C' xs' cs) ss' (fun o' d=>R (γ.set i (some (.own o'))) d) (fun _ _=>False) | none=>False) (X γ)
 | _=>False
theorem Zq1 (i:Nat) {C:Addr} {m:Str} {xs:List Str} {c:Pw} {ta:TA} {r:PTA} (hx:NoFld m xs) (hr:SndA K mg E ta r):SndW K mg E (tMeth C m (spW mg c K) [] E0 (tVar i) ta) (pMethWN i C xs c r):=by
 intro H0 B H σ γ R X Q hB env h q qx
 unfold pMethWN at h
 split at h
 ·rename_i x C' xs' cs hi
  obtain ⟨rfl,rfl,h⟩:=h
  obtain ⟨v,hv,a,rfl,_,e1,e2,⟨dx,e3⟩,e4⟩:=env.slot i _ hi
  refine ⟨_,hv,a,dx,_,rfl,e3,hx _,hr H0 B H σ γ _ _ _ env h (fun ss us H1 h1 S1 t1=>?_) fun c H' hc S'=>qx γ c H' hc (env.grow S') (Fr.grow S')⟩
  rw [Ubi]
  split at h1
  ·rename_i ss' ep
   exact callW (X:=fun _ _=>False) env hB S1 hi hv t1 ep h1 q fun _ _ _ z=>z.elim
  ·exact h1.elim
 ·exact h.elim
theorem Zru {α:Type}:∀ {l:List α} {i j:Nat} {x:α},l.Nodup->l[i]?=some x->l[j]?=some x->i=j
 | [],_,_,_,_,h,_=>by simp at h
 | y :: r,0,0,_,_,_,_=>rfl
 | y :: r,0,j + 1,x,hn,h1,h2=>by
  have e:y=x:=by simpa using h1
  exact absurd (e ▸ Uax (show r[j]?=some x by simpa using h2)) (Ua9.mp hn).1
 | y :: r,i + 1,0,x,hn,h1,h2=>by
  have e:y=x:=by simpa using h2
  exact absurd (e ▸ Uax (show r[i]?=some x by simpa using h1)) (Ua9.mp hn).1
 | y :: r,i + 1,j + 1,x,hn,h1,h2=>Ube (· + 1) (Zru (l:=r) (Ua9.mp hn).2 (by simpa using h1) (by simpa using h2))
theorem EnvR.cell {i j:Nat} {x C:Addr} {xs:List Str} {cs:List (Addr×List D)} {b:Addr} {ds es:List D} {us:List V} (env:EnvR K H0 B H σ γ) (hi:γ[i]?=some (some (.own (.ins x C xs cs)))) (hj:cs[j]?=some (b,ds)) (r:Rps K (off (zof B γ σ) H) es us) :
  EnvR K H0 B (upd H b (.lst us)) σ (γ.set i (some (.own (.ins x C xs (cs.set j (b,es))))))/\Fr B H σ γ (upd H b (.lst us)) σ (γ.set i (some (.own (.ins x C xs (cs.set j (b,es)))))):=by
 obtain ⟨v,hv,a,rfl,e0,e1,e2,⟨dx,e3⟩,e4,e5⟩:=env.slot i _ hi
 subst e1
 have hjl:j < cs.length:=(Uas.mp hj).1
 have hbm:(b,ds)∈cs:=Uax hj
 have hab:a≠b:=fun z=>by
  obtain ⟨ws,w1,_⟩:=e4 _ hbm
  rw [← show a=b from z,e3] at w1
  cases w1
 have em:(cs.set j (b,es)).map (·.1)=cs.map (·.1):=by
  apply Udq
  intro k
  rw [Uaj,Uaj,List.getElem?_set]
  by_cases e:j=k
  ·subst e
   rw [Uae rfl,Uae hjl,hj]
   rfl
  ·rw [Uad e]
 have em2:(cs.set j (b,es)).map (fun c=>V.ref c.1)=cs.map fun c=>V.ref c.1:=by
  have:=Ube (List.map V.ref) em
  rw [Ua8,Ua8] at this
  exact this
 have adr:∀ c,(O.ins a C xs (cs.set j (b,es))).adr a c->(O.ins a C xs cs).adr a c:=fun c hc=>by
  rcases hc with hc | ⟨d,hd,hc⟩
  ·exact .inl hc
  ·have:d.1∈(cs.set j (b,es)).map (·.1):=Udi hd
   rw [em] at this
   obtain ⟨d',q1,q2⟩:=Ua5.mp this
   exact .inr ⟨d',q1,hc.trans q2.symm⟩
 have zb:∀ c,(O.ins a C xs cs).adr a c->zof B γ σ c:=fun c hc=>.inr ⟨i,_,a,hi,hv,hc⟩
 have So:Same (off (zof B γ σ) H) (off (zof B (γ.set i (some (.own (.ins a C xs (cs.set j (b,es)))))) σ) (upd H b (.lst us))):=fun c u h=>by
  obtain ⟨q1,q2⟩:=Zgl h
  have nb:c≠b:=fun z=>q2 (zb c (.inr ⟨_,hbm,z⟩))
  refine Zc (by rw [Za5 nb];exact q1) fun z=>q2 ?_
  rcases z with z | ⟨k,fs,a',k1,k2,k3⟩
  ·exact .inl z
  ·rcases Za8 k1 with ⟨ek,q,_⟩ | ⟨_,q⟩
   ·subst ek
    cases q
    rw [hv] at k2
    cases k2
    exact zb c (adr c k3)
   ·exact .inr ⟨k,fs,a',q,k2,k3⟩
 refine env.change hi hv (fun c u hu n=>?_) (fun c hc=>?_) (fun c hc=>.inl (adr c hc)) ⟨rfl,by rw [Ubw];exact e2,⟨dx,?_⟩,fun c hc=>?_,by rw [em];exact e5⟩
 ·rw [Za5 fun z=>n (.inr ⟨_,hbm,z⟩)]
  exact hu
 ·by_cases z:c=b
  ·rw [z,Zas];trivial
  ·rw [Za5 z];exact env.zm c (zb c hc)
 ·rw [Za5 hab,em2]
  exact e3
 ·obtain ⟨k,hk,ek⟩:=List.getElem_of_mem hc
  have hk':(cs.set j (b,es))[k]?=some c:=by rw [Uaa hk,ek]
  rcases Za8 hk' with ⟨_,q,_⟩ | ⟨nk,q⟩
  ·subst q
   exact ⟨us,Zas,Rps.mono So r⟩
  ·obtain ⟨ws,w1,w2⟩:=e4 c (Uax q)
   have nb:c.1≠b:=fun z=>nk (by
    have h1:(cs.map (·.1))[k]?=some b:=by rw [Uaj,q];exact Ube some z
    have h2:(cs.map (·.1))[j]?=some b:=by rw [Uaj,hj];rfl
    exact Zru e5 h1 h2)
   exact ⟨ws,by rw [Za5 nb];exact w1,Rps.mono So w2⟩
def pAppF (i j:Nat) (C:Addr) (xs:List Str) (a:PTE):PTW:=fun γ R X=>match γ[i]? with
 | some (some (.own (.ins x C' xs' cs)))=>C'=C/\xs'=xs/\∃ c,cs[j]?=some c/\a γ (fun s=>match s.shd with
  | some d=>c.2.length < 10000000/\R (γ.set i (some (.own (.ins x C' xs' (cs.set j (c.1,c.2++[d])))))) .non
  | none=>False) (X γ)
 | _=>False
theorem Zqh (i j:Nat) {C:Addr} {f:Str} {xs:List Str} {a:PTE} (hc:Cls K C) (hn:NoAttr K C f) (hj:FldAt f xs j) (ha:SndE K mg E te a):SndW K mg E (tBM K "list" rAppend (tFld K (tVar i) f) (tCons te tNil)) (pAppF i j C xs a):=by
 intro H0 B H σ γ R X Q hB env h q qx
 unfold pAppF at h
 split at h
 ·rename_i x C' xs' cs hi
  obtain ⟨rfl,rfl,c,ec,h⟩:=h
  obtain ⟨v,hv,b,rfl,_,e1,e2,⟨dx,e3⟩,e4,e5⟩:=env.slot i _ hi
  obtain ⟨us,u1,u2⟩:=e4 c (Uax ec)
  refine ⟨_,hv,b,_,dx,_,V.ref c.1,rfl,e3,hc,hn,?_,.inl ⟨rfl,us,SqL.of u1⟩,ha H0 B H σ γ _ _ _ env h (fun s u H1 h1 S1 t1=>?_) fun c H' hc S'=>qx γ c H' hc (env.grow S') (Fr.grow S')⟩
  ·rw [hj _ (by rw [Uab];exact e2),Uaj,ec]
   rfl
  ·have env1:=env.grow S1
   split at h1
   ·rename_i d ed
    have rd:=t1.shd env1.same env.zm S1 ed
    refine ⟨c.1,us,u,rfl,rfl,S1 _ _ u1,by rw [u2.len];exact Ucj h1.1 (by decide),?_⟩
    obtain ⟨k1,k2⟩:=env1.cell (es:=c.2++[d]) (us:=us++[u]) hi ec (Rps.append (Rps.mono (Zal S1 fun _ _ _ z=>z) u2) (.cons rd .nil))
    exact q _ _ _ _ h1.2 k1 ((Fr.grow S1).trans k2) .non
   ·exact h1.elim
 ·exact h.elim
def PutAt (f:Str) (xs:List Str):Prop:=∀ (vs:List V) (y:V),xs.length=vs.length->putF f y (xs.zip vs)=(xs++[f]).zip (vs++[y])
def pSetF (i:Nat) (C:Addr) (f:Str) (xs:List Str) (a:PTE):PTS:=fun R γ=>a γ (fun s=>match s with
 | .own (.lst ds)=>(match γ[i]? with
  | some (some (.own (.ins x C' xs' cs)))=>C'=C/\xs'=xs/\xs.length < 1000/\∀ b,R.nx (γ.set i (some (.own (.ins x C' (xs++[f]) (cs++[(b,ds)])))))
  | _=>False)
 | _=>False) (R.ex γ)
theorem Zp7 (i:Nat) {C:Addr} {f:Str} {xs:List Str} {a:PTE} (hc:Cls K C) (hn:NoAttr K C f) (hp:PutAt f xs) (ha:SndE K mg E te a):SndS K mg E (sFld K (tVar i) te f) (pSetF i C f xs a):=by
 intro H0 B H σ γ R D hB env h e
 refine ha H0 B H σ γ _ _ _ env h (fun s v H1 h1 S1 t1=>?_) fun c H' hc S'=>e.ex σ γ c H' hc (env.grow S') (Fr.grow S')
 have env1:=env.grow S1
 split at h1
 ·rename_i ds
  split at h1
  ·rename_i x C' xs' cs hi
   obtain ⟨rfl,rfl,hl,h1⟩:=h1
   obtain ⟨u,hv,b,rfl,e0,e1,e2,⟨dx,e3⟩,e4,e5⟩:=env.slot i _ hi
   subst e1
   obtain ⟨l,rfl,l0,vs,l1,l2⟩:=t1
   have l0:H l=none:=l0 l rfl
   have na:b≠l:=Zba e3 l0
   refine ⟨_,hv,b,_,dx,_,rfl,S1 _ _ e3,hc,hn,?_,?_⟩
   ·rw [List.length_zip,Uab];omega
   ·rw [hp _ _ (by rw [Uab];exact e2)]
    have nl:∀ c∈cs,c.1≠l:=fun c hc=>by
     obtain ⟨ws,w1,_⟩:=e4 c hc
     exact Zba w1 l0
    have nb:∀ c∈cs,c.1≠b:=fun c hc z=>by
     obtain ⟨ws,w1,_⟩:=e4 c hc
     rw [z,e3] at w1
     cases w1
    have zb:∀ c,(O.ins b C' xs' cs).adr b c->zof B γ σ c:=fun c hc=>.inr ⟨i,_,b,hi,hv,hc⟩
    have key:∀ c u,H1 c=some u->¬ (zof B γ σ c\/c=l)->¬ zof B (γ.set i (some (.own (.ins b C' (xs'++[f]) (cs++[(l,ds)]))))) σ c:=fun c u _ n z=>by
     rcases z with z | ⟨k,fs,a',k1,k2,k3⟩
     ·exact n (.inl (.inl z))
     ·rcases Za8 k1 with ⟨ek,q,_⟩ | ⟨_,q⟩
      ·subst ek
       cases q
       rw [hv] at k2
       cases k2
       rcases k3 with k3 | ⟨d,hd,k3⟩
       ·exact n (.inl (zb c (.inl k3)))
       ·rcases Ua0.mp hd with hd | hd
        ·exact n (.inl (zb c (.inr ⟨d,hd,k3⟩)))
        ·rw [Uag] at hd
         subst hd
         exact n (.inr k3)
      ·exact n (.inl (.inr ⟨k,fs,a',q,k2,k3⟩))
    have So:Same (off (fun c=>zof B γ σ c\/c=l) H1) (off (zof B (γ.set i (some (.own (.ins b C' (xs'++[f]) (cs++[(l,ds)]))))) σ) (upd H1 b (.ins C' dx ((xs'++[f]).zip ((cs.map fun c=>V.ref c.1)++[.ref l]))))):=fun c u h=>by
     obtain ⟨q1,q2⟩:=Zgl h
     exact Zc (by rw [Za5 fun z=>q2 (.inl (zb c (.inl z)))];exact q1) (key c u q1 q2)
    have S0:Same (off (zof B γ σ) H) (off (fun c=>zof B γ σ c\/c=l) H1):=Zal S1 fun c u hc z y=>y.elim z fun y=>by rw [y,l0] at hc;cases hc
    obtain ⟨k1,k2⟩:=env.change (o':=.ins b C' (xs'++[f]) (cs++[(l,ds)])) (H':=upd H1 b (.ins C' dx ((xs'++[f]).zip ((cs.map fun c=>V.ref c.1)++[.ref l])))) hi hv
     (fun c u hu n=>by rw [Za5 fun z=>n (.inl z)];exact S1 _ _ hu)
     (fun c hc=>by
      by_cases z:c=b
      ·rw [z,Zas];trivial
      ·rw [Za5 z];exact env1.zm c (zb c hc))
     (fun c hc=>by
      rcases hc with hc | ⟨d,hd,hc⟩
      ·exact .inl (.inl hc)
      ·rcases Ua0.mp hd with hd | hd
       ·exact .inl (.inr ⟨d,hd,hc⟩)
       ·rw [Uag] at hd
        subst hd
        exact .inr (by rw [show c=l from hc];exact l0))
     ⟨rfl,by rw [Uat,Uat,e2];rfl,⟨dx,by rw [Zas,Uaq];rfl⟩,fun c hc=>by
      rcases Ua0.mp hc with hc | hc
      ·obtain ⟨ws,w1,w2⟩:=e4 c hc
       exact ⟨ws,by rw [Za5 (nb c hc)];exact S1 _ _ w1,Rps.mono So (Rps.mono S0 w2)⟩
      ·rw [Uag] at hc
       subst hc
       exact ⟨vs,by rw [Za5 (fun z=>na z.symm)];exact l1,Rps.mono So l2⟩,by
      rw [Uaq,Ubu]
      exact ⟨e5,by simp,fun c hc d hd z=>by
       obtain ⟨c',q1,q2⟩:=Ua5.mp hc
       have:d=l:=by simpa using hd
       exact nl c' q1 (q2.trans (z.trans this))⟩⟩
    exact e.nx _ _ _ (h1 l) k1 k2
  ·exact h1.elim
 ·exact h1.elim
theorem makeW {C:Addr} {c:Pw} {ss ss':List S} {us:List V} {R:S->Prop} {X:XR} {Q:VK} {Ec:XK} (env:EnvR K H0 B H σ γ) (S1:Same H H1) (t1:TVs K (zof B γ σ) H0 H H1 ss us) (ep:passes ss=some ss')
  (h1:∀ x,c (.ins x C [] []) ss' (fun o' d=>d=.non/\R (.own o')) (fun _ e=>X e)) (q:∀ s v H',R s->Same H H'->TV K (zof B γ σ) H0 H H' s v->Q v H') (qx:∀ c H',X c->Same H H'->Ec (.ref (ExcR.clsOf mg c)) none H') :
  ∀ x dx,H1 x=none->H1 dx=none->dx≠x->spW mg c K (.ref x :: us) (upd (upd H1 dx (.own x)) x (.ins C dx [])) (fun v H2=>v=.non/\Q (.ref x) H2) Ec:=by
 have env1:=env.grow S1
 intro x dx nx ndx nex
 have S2:Same H1 (upd (upd H1 dx (.own x)) x (.ins C dx [])):=fun b o e=>by
  rw [Za5 (Zba e nx),Za5 (Zba e ndx)]
  exact e
 have aft:∀ o' H',After K (zof B γ σ) (upd (upd H1 dx (.own x)) x (.ins C dx [])) x (.ins x C [] []) o' H'->Same H1 H'/\∀ b,o'.adr x b->H b=none:=fun o' H' A=>by
  refine ⟨fun b o e=>A.same b o (Zc (S2 b o e) fun z=>?_),fun b hb=>?_⟩
  ·rcases z with z | ⟨c,hc,_⟩
   ·rw [z,nx] at e;cases e
   ·cases hc
  ·rcases A.new b hb with (z | ⟨c,hc,_⟩) | z
   ·rw [z];exact S1.free nx
   ·cases hc
   ·exact S1.free (S2.free z)
 refine ⟨.ins x C [] [],x,ss',us,zof B γ σ,_,_,rfl,fun b hb=>⟨Zc4 S2 (env1.zm b hb),fun z=>?_⟩,⟨rfl,rfl,⟨dx,Zas⟩,(fun c hc=>by cases hc),Ub9⟩,?_,Zgu ep,h1 x,fun o' d v H' hR A rd=>?_,fun o' e H' hX A=>?_⟩
 ·rcases z with z | ⟨c,hc,_⟩
  ·have:=env1.zm b hb
   rw [z,nx] at this
   exact this
  ·cases hc
 ·refine t1.pass env1.same env.zm S1 (fun b o e=>Zc (S2 _ _ (env1.same b o e)) fun z=>?_) (Zal S2 fun b o e z y=>?_) ep
  ·rcases z with z | ⟨c,hc,_⟩
   ·rw [z,(env1.same).free nx] at e;cases e
   ·cases hc
  ·rcases y with y | y | ⟨c,hc,_⟩
   ·exact z y
   ·rw [y,nx] at e;cases e
   ·cases hc
 ·obtain ⟨rfl,hR⟩:=hR
  obtain ⟨k1,k2⟩:=aft o' H' A
  exact ⟨Rp.non_inv rd,q _ _ H' hR (S1.trans k1) ⟨x,rfl,k2,A.at_⟩⟩
 ·exact qx e H' hX (S1.trans (aft o' H' A).1)
def pMakeN (C:Addr) (c:Pw) (r:PTA):PTE:=fun γ R X=>r γ (fun ss=>match passes ss with | some ss'=>∀ x,c (.ins x C [] []) ss' (fun o' d=>d=.non/\R (.own o')) (fun _ _=>False) | none=>False) X
theorem Zv0 {C:Addr} {c:Pw} {ta:TA} {r:PTA} (hr:SndA K mg E ta r):SndE K mg E (tMake C (spW mg c K) [] E0 ta) (pMakeN C c r):=by
 intro H0 B H σ γ R X Q env p q qx
 refine hr H0 B H σ γ _ X _ env p (fun ss us H1 h1 S1 t1=>?_) qx
 split at h1
 ·rename_i ss' ep
  rw [Ubi]
  exact makeW (X:=fun _=>False) env S1 t1 ep h1 q fun _ _ z=>z.elim
 ·exact h1.elim
end
end Pu
namespace Pu
open PySem PySem.Spec PyProof.Rows L2 Own
theorem len0 {α:Type} {us:List α} (h:us.length=0):∃ _:True,us=[]:=⟨trivial,Ub3.mp h⟩
theorem len1 {α:Type} {us:List α} (h:us.length=1):∃ a,us=[a]:=List.length_eq_one_iff.mp h
theorem len2 {α:Type} {us:List α} (h:us.length=2):∃ a b,us=[a,b]:=by
 cases us with
 | nil=>cases h
 | cons a r=>obtain ⟨b,rfl⟩:=len1 (us:=r) (by simpa using h);exact ⟨a,b,rfl⟩
theorem len3 {α:Type} {us:List α} (h:us.length=3):∃ a b c,us=[a,b,c]:=by
 cases us with
 | nil=>cases h
 | cons a r=>obtain ⟨b,c,rfl⟩:=len2 (us:=r) (by simpa using h);exact ⟨a,b,c,rfl⟩
theorem len4 {α:Type} {us:List α} (h:us.length=4):∃ a b c d,us=[a,b,c,d]:=by
 cases us with
 | nil=>cases h
 | cons a r=>obtain ⟨b,c,d,rfl⟩:=len3 (us:=r) (by simpa using h);exact ⟨a,b,c,d,rfl⟩
structure DefM (K:PySem.W.Frag) (W:Addr->Prop) (x q:Str) (st:Stmt) (ps:List Str):Prop where
 ex:∃ f fd,Fun K x q st f fd/\W f/\Binds K fd ps []
structure CalleeM (P:Program) (w:World) (K:PySem.W.Frag) (mg:Str->Option Value) (base:Heap) (CX:CXT) (k:Nat) (W:Addr->Prop) (ps:List Str) (sp:Sp):Prop where
 ex:∃ f fd,FnOk P w K mg base CX k f fd ps sp/\W f/\Binds K fd ps []
section
variable {P:Program} {w:World} {K:PySem.W.Frag} {mg:Str->Option Value} {base:Heap} {W:Addr->Prop}
theorem DefM.ok {x q:Str} {st:Stmt} {N ps:List Str} {k:Nat} {sp:Sp} (D:DefM K W x q st ps) (S:FnScope N ps (defScope st)) (len:∀ vs H Q E,sp vs H Q E->vs.length=ps.length)
  (hbody:∀ (f:Addr) (cdv:Value) (A:Around) (outer:List Env) (s:Shared) (H:Hp) (vs:List V) (Q:VK) (E:XK),Room k (A.deeper (envOfC q (defScope st) s.heap.objs.size f cdv))->sp vs H Q E->
   ∃ t,PSs (cxOf CX0 P w K mg base N q (defScope st) f cdv A outer s H E).nox (defBody st) t/\t { nx:=fun _ H'=>Q .non H',rt:=Q } (start N vs) H):CalleeM P w K mg base CX0 (k + 1) W ps sp:=by
 obtain ⟨f,fd,F,hm,hb⟩:=D.ex
 exact ⟨f,fd,F.ok S len fun cdv A outer s H vs Q E hr h=>hbody f cdv A outer s H vs Q E hr h,hm,hb⟩
theorem DefM.okX {x q:Str} {st:Stmt} {N ps:List Str} {k:Nat} {sp:Sp} (D:DefM K W x q st ps) (S:FnScope N ps (defScope st)) (len:∀ vs H Q E,sp vs H Q E->vs.length=ps.length)
  (hbody:∀ (f:Addr) (cdv:Value) (A:Around) (outer:List Env) (s:Shared) (H:Hp) (vs:List V) (Q:VK) (E:XK),Room k (A.deeper (envOfC q (defScope st) s.heap.objs.size f cdv))->sp vs H Q E->
   ∃ t,PSs (cxOf (ExcR.CXe P w) P w K mg base N q (defScope st) f cdv A outer s H E) (defBody st) t/\t { nx:=fun _ H'=>Q .non H',rt:=Q } (start N vs) H):CalleeM P w K mg base (ExcR.CXe P w) (k + 1) W ps sp:=by
 obtain ⟨f,fd,F,hm,hb⟩:=D.ex
 obtain ⟨oc,od,kV,doc,pm,an,cdv,ct,osl,rfl,lk,hcd⟩:=F.ex
 exact ⟨f,_,Zx8 lk hcd S len fun A outer s H vs Q E hr hsp=>hbody f cdv A outer s H vs Q E hr hsp,hm,hb⟩
theorem Zhk {X:Cx}:Passes (ExcR.CXe P w) X E0:=fun _ _ _ _ _ _ _ h=>by
 obtain ⟨a,T,C,H',_,_,z⟩:=h
 exact z.elim
end
section
variable {X:Cx} {CX:CXT} {k:Nat} {Cc:Addr} {ps:List Str} {sp:Sp} {E:XK} {ES:L2.St->XK} {x m:Str} {p pos apos:Pos} {e o:Expr} {es:List Expr} {ta:TE} {t:TA}
theorem Zw4 {pl:Sem Bool} (C:CalleeM X.prog X.w X.K X.mg X.base CX k (Meth X.K Cc m) ps sp) (c:Cls X.K Cc) (hr:Room k X.A) (hx:Passes CX X E) (he:PE X o ta) (ha:PA X (e :: es) t)
  (hst:starEach (e :: es) X.env=(false,eval e X.env) :: starEach es X.env:=by rfl) (hpl:(backTo pos (starEach es X.env)).any (·.1)=false:=by rfl)
  (ht:eval (.Call (.Attribute o m apos) (e :: es) [] pos) X.env=(do
   let ov ← eval o X.env
   standAt apos.atName
   let (f,first) ← holding [ov] (getMethod ov m pl)
   callWith pos f first (backTo pos (starEach (e :: es) X.env)) (backToKw pos (keywordEach [] X.env))):=by rfl) :
  PE X (.Call (.Attribute o m apos) (e :: es) [] pos) (tMeth Cc m sp [] E ta t):=by
 obtain ⟨f,fd,F,hm,hb⟩:=C.ex
 exact Zxw he c hm F hr hb .nil hx ha hst hpl ht
theorem Zby {pl:Sem Bool} (C:CalleeM X.prog X.w X.K X.mg X.base CX k (Meth X.K Cc m) ps sp) (c:Cls X.K Cc) (hr:Room k X.A) (hx:Passes CX X E) (he:PE X o ta)
  (ht:eval (.Call (.Attribute o m apos) [] [] pos) X.env=(do
   let ov ← eval o X.env
   standAt apos.atName
   let (f,first) ← holding [ov] (getMethod ov m pl)
   callWith pos f first (backTo pos (starEach [] X.env)) (backToKw pos (keywordEach [] X.env))):=by rfl) :
  PE X (.Call (.Attribute o m apos) [] [] pos) (tMeth Cc m sp [] E ta tNil):=by
 obtain ⟨f,fd,F,hm,hb⟩:=C.ex
 exact Zw1 he c hm F hr hb .nil hx ht
theorem Zy4 (C:CalleeM X.prog X.w X.K X.mg X.base CX k (Mk X.K Cc) ps sp) (hm:X.mg x=some (.ref Cc)) (hr:Room (k + 1) X.A) (hx:Passes CX X E) (ha:PA X (e :: es) t) (hg:Gl X x:=by rfl)
  (hdb:(x == ("__debug__" : Str))=false:=by decide) (he:starEach (e :: es) X.env=(false,eval e X.env) :: starEach es X.env:=by rfl) (hpl:(backTo pos (starEach es X.env)).any (·.1)=false:=by rfl) :
  PE X (.Call (.Name x p) (e :: es) [] pos) (tMake Cc sp [] E t):=by
 obtain ⟨f,fd,F,M,hb⟩:=C.ex
 exact Zx4 M F hr hg hm hb .nil hx ha hdb he hpl
end
abbrev PTF:=Γ->Str->(Str->Prop)->XR->Prop
section
variable {K:PySem.W.Frag} {mg:Str->Option Value} {E:L2.St->XK} {t:ExcR.TF} {p:PTF} {te:TE} {a:PTE}
def SndF (K:PySem.W.Frag) (mg:Str->Option Value) (E:L2.St->XK) (t:ExcR.TF) (p:PTF):Prop:=∀ (H0:Hp) (B:Addr->Prop) (H:Hp) (σ:L2.St) (γ:Γ) (out:Str) (R:Str->Prop) (X:XR) (Q:Str->Hp->Prop),EnvR K H0 B H σ γ->p γ out R X->
 (∀ x H',R x->Same H H'->Q x H')->(∀ c H',X c->Same H H'->E σ (.ref (ExcR.clsOf mg c)) none H')->t σ H out Q
def pFNil:PTF:=fun _ out R _=>out.length<=sizeLine/\R out
theorem Zpa:SndF K mg E ExcR.fNil pFNil:=fun H0 B H σ γ out R X Q env h q _=>⟨h.1,q _ H h.2 (Same.refl _)⟩
def pFStr (x:Str) (p:PTF):PTF:=fun γ out R X=>(out++x).length<=sizeLine/\p γ (out++x) R X
theorem Zif {x:Str} (h:SndF K mg E t p):SndF K mg E (ExcR.fStr x t) (pFStr x p):=fun H0 B H σ γ out R X Q env hp q qx=>⟨hp.1,h H0 B H σ γ _ R X Q env hp.2 q qx⟩
def pFVal (a:PTE) (p:PTF):PTF:=fun γ out R X=>a γ (fun s=>match s.d with
 | .int i=>i.natAbs.log2 < 1920/\(out++(Str.ofString (toString i))).length<=sizeLine/\p γ (out++Str.ofString (toString i)) R X
 | .str x=>x.length<=sizeLine/\(out++x).length<=sizeLine/\p γ (out++x) R X
 | _=>False) X
theorem Zpk (ha:SndE K mg E te a) (h:SndF K mg E t p):SndF K mg E (ExcR.fVal te t) (pFVal a p):=fun H0 B H σ γ out R X Q env hp q qx=>by
 refine ha H0 B H σ γ _ X _ env hp (fun s v H1 h1 S1 t1=>?_) qx
 have env1:=env.grow S1
 have rs:=t1.rp env1.same
 split at h1
 ·rename_i i ei
  rw [ei] at rs
  exact .inl ⟨i,rs.int_inv,h1.1,h1.2.1,h H0 B H1 σ γ _ R X Q env1 h1.2.2 (fun x H' hx S'=>q x H' hx (S1.trans S')) fun c H' hc S'=>qx c H' hc (S1.trans S')⟩
 ·rename_i x ex
  rw [ex] at rs
  exact .inr ⟨x,rs.str_inv,h1.1,h1.2.1,h H0 B H1 σ γ _ R X Q env1 h1.2.2 (fun x H' hx S'=>q x H' hx (S1.trans S')) fun c H' hc S'=>qx c H' hc (S1.trans S')⟩
 ·exact h1.elim
def pF (p:PTF):PTE:=fun γ R X=>p γ Str.empty (fun x=>R (.sh (.str x))) X
theorem se_f (h:SndF K mg E t p):SndE K mg E (ExcR.tF t) (pF p):=fun H0 B H σ γ R X Q env hp q qx=>
 h H0 B H σ γ _ _ X _ env hp (fun x H' hx S'=>q _ _ H' hx S' (.str x)) qx
end
end Pu
namespace Pu
open PySem PySem.Spec PyProof.Rows L2 Own M
abbrev plD (f:List (Int×Int)):D:=.lst (f.map prD)
abbrev dD (q:Str×List Int):D:=.tup (.str q.1 :: q.2.map D.int)
abbrev vF:List Str:=["book", "fields", "wished"]
abbrev vO (C x b1 b2 b3:Addr) (bk:List (Str×List Int)) (fs ws:List (List (Int×Int))):O:=.ins x C vF [(b1,bk.map dD),(b2,fs.map plD),(b3,ws.map plD)]
abbrev vilD (C:Addr) (bk:List (Str×List Int)) (fs ws:List (List (Int×Int))):D:=.ins C vF [.lst (bk.map dD),.lst (fs.map plD),.lst (ws.map plD)]
theorem Zrz {α:Type} (f:α->D) (xs:List α) (x:α):atI ((xs++[x]).map f) (-1)=some (f x):=by
 refine Zeh ?_
 unfold atI ixN
 rw [Uad (by omega),Uae (by rw [Uat,Ubs];omega)]
 show (xs++[x])[_]?=some x
 have e:((-1:Int) + ((xs++[x]).length:Int)).toNat=xs.length:=by rw [Uat,Ubs];omega
 rw [e,Ubp (Uah _),Nat.sub_self]
 rfl
def tellE (e:Option Str) (X:Str->Prop) (R:Prop):Prop:=match e with | some c=>X c | none=>R
def holdE (h:Int):Option Str:=if 1<=h/\h<=10 then none else some "BadHolder"
def firstE:List (Int×Int)->Option Str
 | []=>none
 | q :: r=>if ¬ (1<=q.1/\q.1<=10) then some "BadHolder" else if ¬ (1<=q.2/\q.2<=1000) then some "BadWidth" else firstE r
def stripE (ps:List (Int×Int)):Option Str:=if 40 < ps.length then some "TooManyStrips" else firstE ps
theorem Zim:∀ {ps:List (Int×Int)},Field ps->firstE ps=none
 | [],_=>rfl
 | q :: r,h=>by
  obtain ⟨h1,h2,h3,h4⟩:=h q Ua1
  unfold firstE
  rw [Uad (fun z=>z ⟨h1,h2⟩),Uad (fun z=>z ⟨h3,h4⟩)]
  exact Zim fun x hx=>h x (Uav _ hx)
theorem Zop {ps:List (Int×Int)} (h:Field ps) (hl:ps.length<=40):stripE ps=none:=by
 unfold stripE
 rw [Uad (by omega)]
 exact Zim h
theorem Zpz (q:Int×Int) (r:List (Int×Int)):firstE (q :: r)=if ¬ (1<=q.1/\q.1<=10) then some ("BadHolder" : Str) else if ¬ (1<=q.2/\q.2<=1000) then some ("BadWidth" : Str) else firstE r:=rfl
theorem Zwd (q:Str×List Int):imm (dD q)=true:=by
 unfold dD imm imms
 rw [Zeu]
 unfold imm
 rfl
theorem Zl1:∀ (bk:List (Str×List Int)),imms (bk.map dD)=true
 | []=>by unfold List.map imms;rfl
 | q :: r=>by
  rw [Uai]
  unfold imms
  rw [Zwd,Zl1 r]
  rfl
end Pu
namespace Pu
open PySem PySem.Spec PyProof.Rows L2 Own M
section
variable {K:PySem.W.Frag} {mg:Str->Option Value} {E:L2.St->XK}
end
theorem Zxd:∀ {a b:List Int},sl a b->¬ sl b a
 | [],_,h,_=>by cases h
 | _ :: _,[],h,_=>by cases h
 | a :: r,b :: t,h,k=>by
  rcases h with h | ⟨e,h⟩
  ·rcases k with k | ⟨e,_⟩<;>omega
  ·rcases k with k | ⟨_,k⟩
   ·omega
   ·exact Zxd h k
theorem Best.uniq {ws:List (Int×Int)} {c:Int->Int->Int} {ms o p:List Int} (h:Best ws c ms o) (k:Best ws c ms p):o=p:=by
 have e:oc c p=oc c o:=by
  have h1:=h.le p k.perm k.keeps
  have h2:=k.le o h.perm h.keeps
  omega
 rcases h.first p k.perm k.keeps e with z | z
 ·exact z
 ·rcases k.first o h.perm h.keeps e.symm with y | y
  ·exact y.symm
  ·exact absurd y (Zxd z)
end Pu
namespace Pu
open PySem PySem.Spec PyProof.Rows L2 Own M
end Pu
namespace Pu
open PySem PySem.Spec PyProof.Rows L2 Own
section
variable {K:PySem.W.Frag} {mg:Str->Option Value} {E:L2.St->XK}
end
end Pu
namespace Own
open PySem PySem.Spec PyProof.Rows L2 PySem.SeqAt PySem.MeetsSeq PySem.MeetsSeq2 PySem.MeetsSeq3 PySem.SeqRoads2
open AutoSeq1 (wpAny_loadPart')
section
variable {X:Cx} {K:PySem.W.Frag}
end
end Own
namespace Pu
open PySem PySem.Spec PyProof.Rows L2 Own M
section
variable {K:PySem.W.Frag} {mg:Str->Option Value} {E:L2.St->XK}
end
end Pu
namespace Own
open PySem PySem.Spec PyProof.Rows L2
section
variable {prog:Program} {w:World} {A:Around} {s:Shared} {E:Value->Shared->Prop}
end
section
variable {X:Cx} {K:PySem.W.Frag}
end
end Own
namespace Pu
open PySem PySem.Spec PyProof.Rows L2 Own M
section
variable {K:PySem.W.Frag} {mg:Str->Option Value} {E:L2.St->XK}
end
end Pu
namespace Pu
open PySem PySem.Spec PyProof.Rows L2 Own M
def wishE (ws:List (Int×Int)) (a b:Int):Option Str:=if ¬ (1<=a/\a<=10) then some "BadHolder" else if ¬ (1<=b/\b<=10) then some "BadHolder" else if a=b then some "LikeHolders" else if (a,b)∈ws then some "WishStands" else if 20<=ws.length then some "TooManyWishes" else none
theorem Zr6 {ws:List (Int×Int)} {a b:Int} (h:Wishes ws) (e:wishE ws a b=none):Wishes (ws++[(a,b)]):=by
 unfold wishE at e
 split at e
 ·cases e
 split at e
 ·cases e
 split at e
 ·cases e
 split at e
 ·cases e
 split at e
 ·cases e
 rename_i c1 c2 c3 c4 c5
 obtain ⟨h1,h2,h3⟩:=h
 have k1:=Classical.not_not.mp c1
 have k2:=Classical.not_not.mp c2
 refine ⟨by rw [Uat,Ubs];omega,?_,fun q hq=>?_⟩
 ·rw [Ubu]
  exact ⟨h2,by simp,fun x hx y hy z=>by rw [Uag] at hy;subst hy;exact c4 (z ▸ hx)⟩
 ·rcases Ua0.mp hq with hq | hq
  ·exact h3 q hq
  ·rw [Uag] at hq
   subst hq
   exact ⟨⟨k1.1,k1.2,k2.1,k2.2⟩,c3⟩
theorem Zs:Wishes []:=⟨by decide,Ub9,fun q hq=>by cases hq⟩
def holdP (m:List Int) (k:Int):Int:=1 + (k * m.getD 1 0 + m.getD 2 0) % 10
theorem Zvt {m:List Int} (hM:Menu m) {x y:Int} (hx:0<=x/\x<=9) (hy:0<=y/\y<=9) (h:x≠y):holdP m x≠holdP m y:=by
 obtain ⟨a,b,c,d,e,rfl,ha,⟨_,_,hb⟩,hc,hd,he⟩:=hM
 intro z
 apply h
 have z':1 + (x * b + c) % 10=1 + (y * b + c) % 10:=z
 rcases hb with rfl | rfl | rfl | rfl<;>omega
theorem two_ne {o r p:Int} (h1:0<=o/\o < p) (h2:0<=r/\r < p - 1):(0<=(o + 1 + r) % p/\(o + 1 + r) % p < p)/\o≠(o + 1 + r) % p:=by
 refine ⟨⟨Uct _ (by omega),Uch _ (by omega)⟩,?_⟩
 by_cases h:o + 1 + r < p
 ·rw [Int.emod_eq_of_lt (by omega) h]
  omega
 ·rw [← Int.sub_emod_right,Int.emod_eq_of_lt (by omega) (by omega)]
  omega
theorem Zlx {ws:List (Int×Int)} {a b:Int} (h1:1<=a/\a<=10) (h2:1<=b/\b<=10) (h3:a≠b) (h4:(a,b)∉ws) (h5:ws.length < 20):wishE ws a b=none:=by
 unfold wishE
 rw [Uad (fun z=>z h1),Uad (fun z=>z h2),Uad h3,Uad h4,Uad (by omega)]
end Pu
namespace Pu
open PySem PySem.Spec PyProof.Rows L2 Own M
def orderE (ps:List (Int×Int)) (os:List Int):Option Str:=if os.isPerm (holdM ps)=true then none else some "BadOrder"
theorem Zqm {ps:List (Int×Int)} {os:List Int} (h:os.Perm (holdM ps)):orderE ps os=none:=by
 unfold orderE
 rw [Uae (List.isPerm_iff.mpr h)]
theorem Zw0 {ps:List (Int×Int)} {os ns:List Int} (h1:ns.Perm os) (h2:ns.Pairwise (·<=·)):(ns=holdM ps)↔os.isPerm (holdM ps)=true:=by
 rw [List.isPerm_iff]
 exact ⟨fun z=>z ▸ h1.symm,fun z=>Zo2 z h1 h2⟩
end Pu
namespace Pu
open PySem PySem.Spec PyProof.Rows L2 Own M
theorem Zsi {ws:List (Int×Int)} (h:Wishes ws) {i:Nat} (hi:i < ws.length):wishE (ws.take i) ws[i].1 ws[i].2=none:=by
 obtain ⟨⟨h1,h2,h3,h4⟩,h5⟩:=h.2.2 ws[i] (Uaw hi)
 refine Zlx ⟨h1,h2⟩ ⟨h3,h4⟩ h5 (fun z=>?_) (by rw [Ua4];have:=h.1;omega)
 obtain ⟨j,hj,e⟩:=Ubd.mp z
 rw [Ua4] at hj
 rw [Ub1] at e
 have:=(List.getElem_inj (h₀:=by omega) (h₁:=hi) h.2.1).mp (e.trans rfl)
 omega
end Pu
namespace Pu
open PySem PySem.Spec PyProof.Rows L2 Own M
end Pu
namespace Pu
open PySem PySem.Spec PyProof.Rows L2 Own M
abbrev d3 (k:Str) (a b:Int):D:=.tup [.str k,.int a,.int b]
end Pu
namespace Own
open PySem PySem.Spec PyProof.Rows L2
section
variable {X:Cx} {e st:Expr} {te ts:TE} {pos p2:Pos}
end
end Own
namespace Pu
open PySem PySem.Spec PyProof.Rows L2 Own
section
variable {K:PySem.W.Frag} {mg:Str->Option Value} {E:L2.St->XK} {H:Hp}
end
end Pu
namespace M
open PySem PySem.Spec PyProof.Rows L2 Own Pu
theorem Zxz (c:Int->Int->Int):∀ o:List Int,oc c o.reverse=oc (fun x y=>c y x) o
 | []=>rfl
 | a :: r=>by
  rw [List.reverse_cons,Znm,Zxz c r,Zf9 (List.reverse_perm r)]
  simp only [oc]
  omega
theorem Zt2 (ps:List (Int×Int)):∀ o:List Int,oc (fun x y=>pcM ps x y ps.length) o=ordM ps ps.length o
 | []=>rfl
 | a :: r=>by
  unfold oc ordM
  rw [Zt2 ps r]
theorem Zqw {ps:List (Int×Int)} {o:List Int} (hF:Field ps) (h:o.Perm (holdM ps)):oc (fun x y=>pcM ps x y ps.length) o=priM ps o ps.length:=by
 rw [Zt2]
 refine Zuu (h.nodup_iff.mpr ((Za9 ps).imp (fun h=>Ucm h))) ps.length fun j hj=>?_
 rw [Uac,Uaa hj]
 exact h.mem_iff.mpr ((Zk3 hF).mpr (Ua5.mpr ⟨_,Uaw hj,rfl⟩))
theorem Zu {ps:List (Int×Int)} {o:List Int} (hF:Field ps) (h:o.Perm (holdM ps)):∀ p∈ps,p.1∈o:=fun p hp=>h.mem_iff.mpr ((Zk3 hF).mpr (Ua5.mpr ⟨p,hp,rfl⟩))
end M
namespace Pu
open PySem PySem.Spec PyProof.Rows L2 Own
section
variable {K:PySem.W.Frag} {mg:Str->Option Value} {E:L2.St->XK}
end
end Pu
namespace Pu
open PySem PySem.Spec PyProof.Rows L2 Own
structure DI (K:PySem.W.Frag) (x:Str) (st:Stmt):Prop where
 ex:∃ f fd,PySem.W.nsIn K mainGlobals x=some (some (.ref f))/\Fun K x x st f fd
structure MI (K:PySem.W.Frag) (C:Addr) (m q:Str) (st:Stmt):Prop where
 ex:∃ f fd,PySem.W.findIn K (.ref C) m=some (some (.ref f))/\PySem.W.isFn K (.ref f)=true/\Fun K m q st f fd
section
variable {K:PySem.W.Frag} {h:Heap} {mg:Str->Option Value}
theorem di {x:Str} {st:Stmt} {f:Addr} {oc:Value} {od an:Option Addr} {osl:Array (Option Value)} {kV doc pm cdv ct:Value} (a:PySem.W.nsIn K mainGlobals x=some (some (.ref f))) (l:K.lookup f=some ⟨oc,od,.func (PySem.W.fnOf x x (defArgs st) (defBody st) (defScope st) .none kV doc pm an cdv ct),osl⟩)
  (c:PySem.W.codeIn K cdv x=true) (k:PySem.W.keepIn K (.ref f)=true):DI K x st:=⟨f,_,a,Zt1 l c k⟩
theorem mi {C:Addr} {m q:Str} {st:Stmt} {f:Addr} {oc:Value} {od an:Option Addr} {osl:Array (Option Value)} {kV doc pm cdv ct:Value} (a:PySem.W.findIn K (.ref C) m=some (some (.ref f))) (i:PySem.W.isFn K (.ref f)=true) (l:K.lookup f=some ⟨oc,od,.func (PySem.W.fnOf m q (defArgs st) (defBody st) (defScope st) .none kV doc pm an cdv ct),osl⟩)
  (c:PySem.W.codeIn K cdv q=true) (k:PySem.W.keepIn K (.ref f)=true):MI K C m q st:=⟨f,_,a,i,Zt1 l c k⟩
theorem DI.d {x:Str} {st:Stmt} {ps:List Str} (D:DI K x st) (X:K.In h) (G0:h.Ns mainGlobals mg)
  (b:∀ (kV doc pm:Value) (an:Option Addr) (cdv ct:Value) (us:List Value),us.length=ps.length->bindArgs (PySem.W.fnOf x x (defArgs st) (defBody st) (defScope st) .none kV doc pm an cdv ct) ⟨us,[]⟩=pure (ps.zip us)):Def K mg x st ps:=
 let ⟨_,_,a,F⟩:=D.ex
 ⟨_,_,F,PySem.W.mg_of X G0 a,F.binds b⟩
theorem MI.d {C C':Addr} {m q:Str} {st:Stmt} {ps:List Str} (D:MI K C m q st) (e:C'=C)
  (b:∀ (kV doc pm:Value) (an:Option Addr) (cdv ct:Value) (us:List Value),us.length=ps.length->bindArgs (PySem.W.fnOf m q (defArgs st) (defBody st) (defScope st) .none kV doc pm an cdv ct) ⟨us,[]⟩=pure (ps.zip us)):DefM K (Meth K C' m) m q st ps:=
 let ⟨_,_,a,i,F⟩:=D.ex
 ⟨_,_,F,by rw [e];exact ⟨a,i,F.kp⟩,F.binds b⟩
theorem MI.i {C C':Addr} {q:Str} {st:Stmt} {ps:List Str} (D:MI K C "__init__" q st) (e:C'=C) (mk:PySem.W.makesIn K C=true) (kc:PySem.W.keepIn K (.ref C)=true)
  (b:∀ (kV doc pm:Value) (an:Option Addr) (cdv ct:Value) (us:List Value),us.length=ps.length->bindArgs (PySem.W.fnOf "__init__" q (defArgs st) (defBody st) (defScope st) .none kV doc pm an cdv ct) ⟨us,[]⟩=pure (ps.zip us)):DefM K (Mk K C') "__init__" q st ps:=
 let ⟨_,_,a,i,F⟩:=D.ex
 ⟨_,_,F,by rw [e];exact ⟨mk,a,i,kc⟩,F.binds b⟩
end
theorem fs {N P:List Str} {sc:Scope} (h1:sc.kind=.function:=by rfl) (h2:sc.isCoroutine=false:=by rfl) (h3:sc.isGenerator=false:=by rfl) (h4:N.Nodup:=by decide +kernel) (h5:N.take P.length=P:=by rfl) (h6:∀ x∈P,sc.names.lookup x=some .local\/sc.names.lookup x=some .cell:=by decide +kernel) (h7:∀ y∈sc.names,y.2≠.free:=by decide +kernel):FnScope N P sc:=⟨h1,h2,h3,h4,h5,h6,h7⟩
theorem pz {X:Cx} {pos:Pos} {x:Str} {e:Expr} {te:TE} {pos':Pos} (i:Nat) (hN:X.N.Nodup) (he:PE X e te) (hi:X.N[i]?=some x:=by rfl) (hx:Loc X.env.scope x:=by first | exact Or.inl rfl | exact Or.inr rfl) (hs:swapsWith e (some (.Name x pos')) pos.line X.env=pure false:=by rfl) (hf:X.fn x=true\/X.env.scope.names.lookup x=some .local:=by first | exact .inl rfl | exact .inr rfl | assumption) :
  PS X (.Assign [.Name x pos'] e pos) (tAsg te (gName i)):=Zzl hN hi hx he hs hf
end Pu
namespace Pu
open PySem PySem.Spec PyProof.Rows L2 Own
end Pu
namespace Pu
open PySem PySem.Spec PyProof.Rows L2 Own
section
variable {K:PySem.W.Frag} {mg:Str->Option Value} {E:L2.St->XK} {H0 H H1 H':Hp} {B Z Z':Addr->Prop} {σ:L2.St} {γ:Γ}
def two (o1 o2:O) (a1 a2:Addr):Addr->Prop:=fun b=>o1.adr a1 b\/o2.adr a2 b
end
end Pu
namespace Pu
open PySem PySem.Spec PyProof.Rows L2 Own
section
variable {K:PySem.W.Frag} {mg:Str->Option Value} {E:L2.St->XK} {H:Hp}
def isN:D->Bool
 | .non=>true
 | _=>false
theorem Rp.isN {d:D} {v:V} (h:Rp K H d v):decide (v=V.non)=isN d:=by
 cases h<;>first | rfl | exact Uam (fun z=>by cases z)
def pIsN (a:PTE):PTE:=fun γ R X=>a γ (fun x=>R (.sh (.bl (isN x.d)))) X
theorem Zyr {te:TE} {a:PTE} (ha:SndE K mg E te a):SndE K mg E (tIsN te) (pIsN a):=by
 intro H0 B H σ γ R X Q env p q qx
 refine ha H0 B H σ γ _ X _ env p (fun x v H1 h1 S1 t1=>?_) qx
 have rx:=t1.rp (env.grow S1).same
 show Q (.bl (decide (v=V.non))) H1
 rw [rx.isN]
 exact q _ _ H1 h1 S1 (.bl _)
end
end Pu
namespace Pu
open PySem PySem.Spec PyProof.Rows L2 Own M
inductive Dd where
 | sell (p h:Int) | part (p w:Int) | unite (p:Int) | wish (a b:Int) | drop (a b:Int)
end Pu
namespace Pu
open PySem PySem.Spec PyProof.Rows L2 Own M
end Pu
namespace Pu
open PySem PySem.Spec PyProof.Rows L2 Own M
abbrev Hist:=List (Dd×List (Int×Int)×List (Int×Int))
def fsH (f0:List (Int×Int)) (hs:Hist):List (List (Int×Int)):=f0 :: hs.map fun h=>h.2.1
def wsH (hs:Hist):List (List (Int×Int)):=[] :: hs.map fun h=>h.2.2
end Pu
namespace Pu
end Pu
namespace Pu
open PySem PySem.Spec PyProof.Rows L2 Own M
def FineH (f0:List (Int×Int)) (hs:Hist):Prop:=(∀ g∈fsH f0 hs,Field g/\g.length<=40)/\∀ g∈wsH hs,Wishes g
theorem FineH.len {f0:List (Int×Int)} {hs:Hist} (h:FineH f0 hs):(∀ g∈fsH f0 hs,g.length<=1000)/\∀ g∈wsH hs,g.length<=1000:=⟨fun g hg=>by have:=(h.1 g hg).2;omega,fun g hg=>by have:=(h.2 g hg).1;omega⟩
end Pu
namespace Pu
open PySem PySem.Spec PyProof.Rows L2 Own M
end Pu
namespace Pu
open PySem PySem.Spec PyProof.Rows L2 Own M
end Pu
namespace Pu
open PySem PySem.Spec PyProof.Rows L2 Own M
end Pu
namespace Pu
open PySem PySem.Spec PyProof.Rows L2 Own M
end Pu
namespace Pu
open PySem PySem.Spec PyProof.Rows L2 Own M
end Pu
namespace Pu
open PySem PySem.Spec PyProof.Rows L2 Own M
end Pu
namespace Pu
open PySem PySem.Spec PyProof.Rows L2 Own M
end Pu
namespace Pu
open PySem PySem.Spec PyProof.Rows L2 Own M
end Pu
namespace Own
open PySem PySem.Spec PyProof.Rows L2
section
variable {prog:Program} {w:World} {A:Around} {E:Value->Shared->Prop} {s:Shared} {l:Addr} {xs:Array (Int×Tok)}
end
section
variable {X:Cx} {K:PySem.W.Frag}
end
end Own
namespace Pu
open PySem PySem.Spec PyProof.Rows L2 Own
section
variable {K:PySem.W.Frag} {mg:Str->Option Value} {E:L2.St->XK}
end
end Pu
namespace M
open PySem PySem.Spec PyProof.Rows L2 Own Pu
def ltS (k:Int):List (Int×Int)->Int
 | []=>0
 | q :: l=>(if q.1 < k then q.2 else 0) + ltS k l
def gtS (k:Int):List (Int×Int)->Int
 | []=>0
 | q :: l=>(if k < q.1 then q.2 else 0) + gtS k l
def invL:List (Int×Int)->Int
 | []=>0
 | p :: l=>ltS p.1 l * p.2 + invL l
theorem Zrg (k:Int) (a b:Int×Int) (B:List (Int×Int)):∀ A:List (Int×Int),ltS k (A++a :: b :: B)=ltS k (A++b :: a :: B)
 | []=>by simp only [List.nil_append,ltS];omega
 | q :: A=>by simp only [Ubf,ltS];rw [Zrg k a b B A]
theorem Zhg (a b:Int×Int) (B:List (Int×Int)):∀ A:List (Int×Int),invL (A++a :: b :: B) + (if a.1 < b.1 then a.2 * b.2 else 0)=invL (A++b :: a :: B) + (if b.1 < a.1 then a.2 * b.2 else 0)
 | []=>by
  simp only [List.nil_append,invL,ltS]
  rw [Ucs,Ucs]
  by_cases h1:a.1 < b.1
  ·rw [Uae h1,Uad (by omega:¬ b.1 < a.1),Uae h1,Uad (by omega:¬ b.1 < a.1)]
   omega
  ·rw [Uad h1]
   by_cases h2:b.1 < a.1
   ·rw [Uae h2,Uad h1,Uae h2,Int.mul_comm b.2 a.2]
    omega
   ·rw [Uad h2,Uad h1,Uad h2]
    omega
 | q :: A=>by
  simp only [Ubf,invL]
  rw [Zrg q.1 a b B A]
  have:=Zhg a b B A
  omega
theorem Zq5 (k:Int) (p:Int×Int):∀ l:List (Int×Int),ltS k (l++[p])=ltS k l + (if p.1 < k then p.2 else 0)
 | []=>by simp [ltS]
 | q :: l=>by simp only [Ubf,ltS];rw [Zq5 k p l];omega
theorem Zrx (k:Int) (p:Int×Int):∀ l:List (Int×Int),gtS k (l++[p])=gtS k l + (if k < p.1 then p.2 else 0)
 | []=>by simp [gtS]
 | q :: l=>by simp only [Ubf,gtS];rw [Zrx k p l];omega
theorem Zof (p:Int×Int):∀ l:List (Int×Int),invL (l++[p])=invL l + gtS p.1 l * p.2
 | []=>by simp [invL,ltS,gtS]
 | q :: l=>by
  simp only [Ubf,invL,gtS]
  rw [Zq5,Zof p l,Ucs,Ucs]
  by_cases h:p.1 < q.1
  ·rw [Uae h,Uae h,Int.mul_comm p.2 q.2];omega
  ·rw [Uad h,Uad h];omega
def rankL (os:List Int) (ps:List (Int×Int)):List (Int×Int):=ps.map fun q=>((os.idxOf q.1:Nat),q.2)
theorem Zyu (ps:List (Int×Int)) (os:List Int) (h:Int):∀ n,n<=ps.length->rsM ps os h n=gtS (os.idxOf h:Nat) (rankL os (ps.take n))
 | 0,_=>by simp [rsM,gtS,rankL]
 | n + 1,hn=>by
  unfold rsM rankL
  rw [Zyu ps os h n (by omega),Uau (by omega),Uaq,Ubz,Zrx,Uac,Uaa (show n < ps.length by omega)]
  show _ + (if os.idxOf h < os.idxOf ps[n].1 then ps[n].2 else 0)=_ + (if ((os.idxOf h:Nat):Int) < ((os.idxOf ps[n].1:Nat):Int) then ps[n].2 else 0)
  by_cases c:os.idxOf h < os.idxOf ps[n].1
  ·rw [Uae c,Uae (by omega)];rfl
  ·rw [Uad c,Uad (by omega)];rfl
theorem Zw8 (ps:List (Int×Int)) (os:List Int):∀ n,n<=ps.length->priM ps os n=invL (rankL os (ps.take n))
 | 0,_=>by simp [priM,invL,rankL]
 | n + 1,hn=>by
  unfold priM
  rw [Zw8 ps os n (by omega),Zyu ps os _ n (by omega),Uac,Uaa (show n < ps.length by omega)]
  rw [Uau (show n < ps.length by omega)]
  show _=invL (List.map _ (ps.take n++[ps[n]]))
  rw [Uaq,Ubz,Zof]
  rfl
theorem Zl0 (ps:List (Int×Int)) (os:List Int):priM ps os ps.length=invL (rankL os ps):=by
 rw [Zw8 ps os _ (Uah _),Ubk]
def wdN (ps:List (Int×Int)) (m:Int):Int:=(ps.getD (m - 1).toNat (0,0)).2
def hdN (ps:List (Int×Int)) (m:Int):Int:=(ps.getD (m - 1).toNat (0,0)).1
def keyL (ps:List (Int×Int)) (f:Int->Int) (ns:List Int):List (Int×Int):=ns.map fun m=>(f m,wdN ps m)
theorem Zjw {ns:List Int} {p:Nat} (h1:1<=p) (h2:p < ns.length):∃ A x y B,ns=A++x :: y :: B/\A.length + 1=p/\swapM ns p=A++y :: x :: B/\ns.getD (p - 1) 0=x/\ns.getD p 0=y:=by
 have h3:ns.drop (p - 1)=ns[p - 1]'(by omega) :: ns.drop (p - 1 + 1):=Uba (by omega)
 have h4:ns.drop p=ns[p] :: ns.drop (p + 1):=Uba h2
 have h5:p - 1 + 1=p:=by omega
 rw [h5,h4] at h3
 have e1:ns.getD p 0=ns[p]:=by rw [Uac,Uaa h2];rfl
 have e2:ns.getD (p - 1) 0=ns[p - 1]'(by omega):=by rw [Uac,Uaa (by omega)];rfl
 refine ⟨ns.take (p - 1),ns[p - 1]'(by omega),ns[p],ns.drop (p + 1),by rw [← h3,Ucl],by rw [Ua4];omega,?_,e2,e1⟩
 unfold swapM
 rw [e1,e2]
 simp
theorem Zuc {ps:List (Int×Int)} (hF:Field ps) (m:Int):0<=wdN ps m:=by
 unfold wdN
 rw [Uac]
 by_cases h:(m - 1).toNat < ps.length
 ·rw [Uaa h]
  have:=hF _ (Uaw h)
  show 0<=ps[(m - 1).toNat].2
  omega
 ·rw [Ub6 (by omega)]
  exact Ub0 0
theorem Zn {ps:List (Int×Int)} {ns:List Int} {p:Nat} {x y:Int} (hx:ns.getD (p - 1) 0=x) (hy:ns.getD p 0=y):exM ps ns p=wdN ps x * wdN ps y:=by
 unfold exM wdN
 rw [hx,hy]
theorem Zk6 {ns:List Int} {p:Nat} (h1:1<=p) (h2:p < ns.length):(swapM ns p).length=ns.length:=(Zfq h1 h2).length_eq
theorem Zyd {ps:List (Int×Int)} (hF:Field ps) (f:Int->Int) {ns:List Int} {p:Nat} (h1:1<=p) (h2:p < ns.length):invL (keyL ps f ns)<=invL (keyL ps f (swapM ns p)) + exM ps ns p:=by
 obtain ⟨A,x,y,B,e,_,es,ex,ey⟩:=Zjw h1 h2
 rw [es,Zn ex ey,e]
 unfold keyL
 rw [Uaq,Uai,Uai,Uaq,Uai,Uai]
 have k:=Zhg (f x,wdN ps x) (f y,wdN ps y) (B.map fun m=>(f m,wdN ps m)) (A.map fun m=>(f m,wdN ps m))
 have hw:=Int.mul_nonneg (Zuc hF x) (Zuc hF y)
 simp only at k
 split at k<;>split at k<;>omega
theorem Zye {ps:List (Int×Int)} (f:Int->Int) {ns:List Int} {p:Nat} (h1:1<=p) (h2:p < ns.length) (h:f (ns.getD p 0) < f (ns.getD (p - 1) 0)):invL (keyL ps f ns)=invL (keyL ps f (swapM ns p)) + exM ps ns p:=by
 obtain ⟨A,x,y,B,e,_,es,ex,ey⟩:=Zjw h1 h2
 rw [es,Zn ex ey]
 rw [ex,ey] at h
 rw [e]
 unfold keyL
 rw [Uaq,Uai,Uai,Uaq,Uai,Uai]
 have k:=Zhg (f x,wdN ps x) (f y,wdN ps y) (B.map fun m=>(f m,wdN ps m)) (A.map fun m=>(f m,wdN ps m))
 simp only at k
 rw [Uad (by omega),Uae h] at k
 omega
theorem Zve {ps:List (Int×Int)} (hF:Field ps) (f:Int->Int):∀ (pl:List Int) (ns:List Int) (c:Int) (st:List Int×Int),ns.length=ps.length->walkM ps pl (ns,c)=some st->invL (keyL ps f ns) + c<=invL (keyL ps f st.1) + st.2
 | [],ns,c,st,_,h=>by
  rw [Zhn] at h
  cases h
  exact Ub0 _
 | p :: r,ns,c,st,hl,h=>by
  rw [Zct] at h
  split at h
  ·cases h
  ·rename_i hp
   have h1:1<=p.toNat:=by omega
   have h2:p.toNat < ns.length:=by omega
   have:=Zve hF f r _ _ st (by show (swapM ns p.toNat).length=_;rw [Zk6 h1 h2];exact hl) h
   have:=Zyd hF f (ns:=ns) h1 h2
   simp only at *
   omega
theorem Zrt (ps:List (Int×Int)) (os:List Int):keyL ps (fun m=>(os.idxOf (hdN ps m):Nat)) (runI 1 ps.length)=rankL os ps:=by
 unfold keyL rankL runI
 refine Udw (by simp) fun i h1 h2=>?_
 have hi:i < ps.length:=by simpa using h2
 have e:((1:Int) + (i:Int) - 1).toNat=i:=by omega
 simp only [List.getElem_map,List.getElem_range,hdN,wdN]
 rw [e,Uac,Uaa hi]
 rfl
theorem Zor (ps:List (Int×Int)) (p:Int):∀ (pl:List Int) (st st':List Int×Int),walkM ps pl st=some st'->walkM ps (pl++[p]) st=walkM ps [p] st'
 | [],st,st',h=>by rw [Zhn] at h;cases h;rfl
 | q :: r,st,st',h=>by
  rw [Ubf,Zct]
  rw [Zct] at h
  split at h
  ·cases h
  ·rename_i c
   rw [Uad c]
   exact Zor ps p r _ st' h
end M
namespace M
open PySem PySem.Spec PyProof.Rows L2 Own Pu
def rkN (ps:List (Int×Int)) (o:List Int) (m:Int):Int:=(o.idxOf (hdN ps m):Nat)
end M
namespace M
open PySem PySem.Spec PyProof.Rows L2 Own Pu
def triN:Nat->Nat
 | 0=>0
 | k + 1=>triN k + k
theorem Zun:∀ n,n < 41->triN n<=780:=by decide
end M
namespace M
open PySem PySem.Spec PyProof.Rows L2 Own Pu
end M
namespace M
open PySem PySem.Spec PyProof.Rows L2 Own Pu
def FW (ks:List Int) (p:Nat):Prop:=(∀ q,1<=q->q < (if p=0 then ks.length else p)->ks.getD (q - 1) 0<=ks.getD q 0)/\(p=0\/(1<=p/\p < ks.length/\ks.getD p 0 < ks.getD (p - 1) 0))
theorem FW.uniq {ks:List Int} {p p':Nat} (h:FW ks p) (k:FW ks p'):p=p':=by
 have key:∀ {a b:Nat},FW ks a->FW ks b->b≠0->(a=0\/b < a)->False:=fun {a b} ha hb nb hab=>by
  obtain ⟨h1,h2,h3⟩:=hb.2.resolve_left nb
  have:=ha.1 b h1 (by rcases hab with e | e;{ rw [Uae e];exact h2 };{ rw [Uad (by omega)];exact e })
  omega
 by_cases h0:p=0
 ·by_cases h1:p'=0
  ·omega
  ·exact (key h k h1 (.inl h0)).elim
 ·by_cases h1:p'=0
  ·exact (key k h h0 (.inl h1)).elim
  ·rcases Nat.lt_trichotomy p p' with c | c | c
   ·exact (key k h h0 (.inr c)).elim
   ·exact c
   ·exact (key h k h1 (.inr c)).elim
abbrev Mo:=Int×Int×Int×Int
inductive Mv (ps:List (Int×Int)) (f:Int->Int):List Int->List Mo->Prop
 | done (ns:List Int):FW (ns.map f) 0->Mv ps f ns []
 | step (ns:List Int) (p:Nat) (ms:List Mo):FW (ns.map f) p->p≠0->Mv ps f (swapM ns p) ms->Mv ps f ns (((p:Int),ns.getD (p - 1) 0,ns.getD p 0,exM ps ns p) :: ms)
theorem Zd2 {f:Int->Int} {ns:List Int} {i:Nat} (h:i < ns.length):(ns.map f).getD i 0=f (ns.getD i 0):=by
 rw [Uac,Uac,Uaj,Uaa h]
 rfl
theorem Zjp (ps:List (Int×Int)) (f:Int->Int) (ns:List Int):(keyL ps f ns).map (·.1)=ns.map f:=by
 unfold keyL
 rw [Ua8]
 rfl
theorem Mv.like {ps ps':List (Int×Int)} {f f':Int->Int} {ns ns':List Int} {ms ms':List Mo} (h:Mv ps f ns ms) (k:Mv ps' f' ns' ms') (e:keyL ps f ns=keyL ps' f' ns'):ms.map (fun m=>(m.1,m.2.2.2))=ms'.map (fun m=>(m.1,m.2.2.2)):=by
 induction h generalizing ns' ms' with
 | done ns hw=>
  have ek:ns.map f=ns'.map f':=by rw [← Zjp ps f,e,Zjp]
  cases k with
  | done _ _=>rfl
  | step _ p ms hp h0 _=>
   rw [ek] at hw
   exact absurd (hw.uniq hp).symm h0
 | step ns p ms hp h0 hm ih=>
  have ek:ns.map f=ns'.map f':=by rw [← Zjp ps f,e,Zjp]
  cases k with
  | done _ hw=>
   rw [ek] at hp
   exact absurd (hp.uniq hw) h0
  | step _ p' ms' hp' h0' hm'=>
   rw [ek] at hp
   obtain rfl:=hp.uniq hp'
   obtain ⟨h1,h2,_⟩:=hp'.2.resolve_left h0
   rw [Uab] at h2
   have hl:ns.length=ns'.length:=by have:=Ube List.length ek;rwa [Uab,Uab] at this
   obtain ⟨A,x,y,B,e1,e2,e3,e4,e5⟩:=Zjw (ns:=ns) h1 (by omega)
   obtain ⟨A',x',y',B',g1,g2,g3,g4,g5⟩:=Zjw (ns:=ns') h1 h2
   have ec:keyL ps f A++(f x,wdN ps x) :: (f y,wdN ps y) :: keyL ps f B=keyL ps' f' A'++(f' x',wdN ps' x') :: (f' y',wdN ps' y') :: keyL ps' f' B':=by
    rw [e1,g1] at e
    unfold keyL at e ⊢
    simpa using e
   obtain ⟨c1,c2⟩:=List.append_inj ec (by unfold keyL;rw [Uab,Uab];omega)
   obtain ⟨hx,c3⟩:=List.cons.inj c2
   obtain ⟨hy,c4⟩:=List.cons.inj c3
   have sp:∀ (qs:List (Int×Int)) (g:Int->Int) (A B:List Int) (x y:Int),keyL qs g (A++y :: x :: B)=keyL qs g A++(g y,wdN qs y) :: (g x,wdN qs x) :: keyL qs g B:=fun qs g A B x y=>by unfold keyL;simp
   rw [Uai,Uai,ih hm' (by rw [e3,g3,sp,sp,c1,hx,hy,c4])]
   rw [Zn e4 e5,Zn g4 g5,(Prod.mk.inj hx).2,(Prod.mk.inj hy).2]
theorem Mv.cut {ps:List (Int×Int)} {f:Int->Int} {ns:List Int} {ms:List Mo} (h:Mv ps f ns ms) (hl:ns.length=ps.length) (c:Int):∀ k,k<=ms.length->∃ ns' c',walkM ps ((ms.take k).map (·.1)) (ns,c)=some (ns',c')/\Mv ps f ns' (ms.drop k)/\invL (keyL ps f ns) + c=invL (keyL ps f ns') + c'/\ns'.Perm ns:=by
 induction h generalizing c with
 | done ns hw=>
  intro k hk
  have:k=0:=Nat.le_zero.mp hk
  subst this
  exact ⟨ns,c,rfl,.done ns hw,rfl,.refl _⟩
 | step ns p ms hp h0 hm ih=>
  intro k hk
  cases k with
  | zero=>exact ⟨ns,c,rfl,.step ns p ms hp h0 hm,rfl,.refl _⟩
  | succ k=>
   obtain ⟨h1,h2,h3⟩:=hp.2.resolve_left h0
   rw [Uab] at h2
   rw [Zd2 h2,Zd2 (by omega)] at h3
   obtain ⟨ns',c',w1,w2,w3,w4⟩:=ih (by rw [Zk6 h1 h2];exact hl) (c + exM ps ns p) k (by simpa using hk)
   refine ⟨ns',c',?_,w2,?_,w4.trans (Zfq h1 h2)⟩
   ·rw [List.take_succ_cons,Uai,Zct,Uad (by show ¬ ((p:Int) < 1\/(ps.length:Int)<=(p:Int));omega)]
    exact w1
   ·have:=Zye (ps:=ps) f h1 h2 h3
    omega
theorem Mv.next {ps:List (Int×Int)} {f:Int->Int} {ns:List Int} {m:Mo} {ms:List Mo} (h:Mv ps f ns (m :: ms)):∃ p:Nat,m=((p:Int),ns.getD (p - 1) 0,ns.getD p 0,exM ps ns p)/\1<=p/\p < ns.length/\Mv ps f (swapM ns p) ms:=by
 cases h with
 | step _ p _ hp h0 hm=>
  obtain ⟨h1,h2,_⟩:=hp.2.resolve_left h0
  rw [Uab] at h2
  exact ⟨p,rfl,h1,h2,hm⟩
def fldN (ps:List (Int×Int)) (ns:List Int):List (Int×Int):=ns.map fun m=>ps.getD (m - 1).toNat (0,0)
theorem Zv7 (ps:List (Int×Int)):fldN ps (runI 1 ps.length)=ps:=by
 unfold fldN runI
 refine Udw (by simp) fun i h1 h2=>?_
 simp only [List.getElem_map,List.getElem_range]
 rw [show ((1:Int) + (i:Int) - 1).toNat=i by omega,Uac,Uaa h2]
 rfl
theorem Zt3 {ps:List (Int×Int)} {ns:List Int} (h:ns.Perm (runI 1 ps.length)):(fldN ps ns).Perm ps:=by
 have:=h.map fun m=>ps.getD (m - 1).toNat (0,0)
 rw [show (runI 1 ps.length).map (fun m=>ps.getD (m - 1).toNat (0,0))=ps from Zv7 ps] at this
 exact this
theorem Zue {ps qs:List (Int×Int)} (h:ps.Perm qs):holdM ps=holdM qs:=by
 unfold holdM
 congr 1
 funext z
 have:=(h.map (·.1)).mem_iff (a:=z)
 by_cases c:z∈ps.map (·.1)
 ·rw [Uaf c,Uaf (this.mp c)]
 ·rw [Uam c,Uam fun w=>c (this.mpr w)]
theorem Zrc (ps:List (Int×Int)) (o ns:List Int):rankL o (fldN ps ns)=keyL ps (rkN ps o) ns:=by
 unfold rankL fldN keyL
 rw [Ua8]
 rfl
theorem Ztd {ps W:List (Int×Int)} {o ns pl:List Int} {c:Int} (hF:Field ps) (hB:Best W (fun x y=>pcM ps x y ps.length) (holdM ps) o) (hp:ns.Perm (runI 1 ps.length)) (hw:walkM ps pl (runI 1 ps.length,0)=some (ns,c))
  (he:invL (keyL ps (rkN ps o) (runI 1 ps.length)) + 0=invL (keyL ps (rkN ps o) ns) + c):Field (fldN ps ns)/\holdM (fldN ps ns)=holdM ps/\(fldN ps ns).length=ps.length/\
  Best W (fun x y=>pcM (fldN ps ns) x y (fldN ps ns).length) (holdM (fldN ps ns)) o/\priM (fldN ps ns) o (fldN ps ns).length=priM ps o ps.length - c:=by
 have hpp:=Zt3 hp
 have hF':Field (fldN ps ns):=fun q hq=>hF q (hpp.mem_iff.mp hq)
 have eh:=Zue hpp
 have own:∀ q:List Int,priM ps q ps.length=invL (keyL ps (rkN ps q) (runI 1 ps.length)):=fun q=>by rw [Zl0];exact Ube invL (Zrt ps q).symm
 have oth:∀ q:List Int,priM (fldN ps ns) q (fldN ps ns).length=invL (keyL ps (rkN ps q) ns):=fun q=>by rw [Zl0,Zrc]
 have ge:∀ q:List Int,priM ps q ps.length<=priM (fldN ps ns) q (fldN ps ns).length + c:=fun q=>by
  have:=Zve hF (rkN ps q) pl _ _ _ (Zc0 _) hw
  rw [own,oth]
  simp only at this
  omega
 have eqo:priM (fldN ps ns) o (fldN ps ns).length=priM ps o ps.length - c:=by rw [own,oth];omega
 have co:∀ q:List Int,q.Perm (holdM ps)->oc (fun x y=>pcM ps x y ps.length) q=priM ps q ps.length:=fun q hq=>Zqw hF hq
 have co':∀ q:List Int,q.Perm (holdM ps)->oc (fun x y=>pcM (fldN ps ns) x y (fldN ps ns).length) q=priM (fldN ps ns) q (fldN ps ns).length:=fun q hq=>Zqw hF' (by rw [eh];exact hq)
 refine ⟨hF',eh,hpp.length_eq,?_,eqo⟩
 rw [eh]
 refine ⟨hB.perm,hB.keeps,fun q h1 h2=>?_,fun q h1 h2 h3=>hB.first q h1 h2 ?_⟩
 ·have a:=hB.le q h1 h2
  rw [co o hB.perm,co q h1] at a
  rw [co' o hB.perm,co' q h1]
  have:=ge q
  omega
 ·have a:=hB.le q h1 h2
  rw [co' o hB.perm,co' q h1] at h3
  rw [co o hB.perm,co q h1] at a ⊢
  have:=ge q
  omega
end M
namespace M
open PySem PySem.Spec PyProof.Rows L2 Own Pu
def cntN (f:Int->Int) (ns:List Int):Int:=invL (ns.map fun m=>(f m,1))
theorem Zra (f:Int->Int) {ns:List Int} {p:Nat} (h1:1<=p) (h2:p < ns.length) (h:f (ns.getD p 0) < f (ns.getD (p - 1) 0)):cntN f ns=cntN f (swapM ns p) + 1:=by
 obtain ⟨A,x,y,B,e,_,es,ex,ey⟩:=Zjw h1 h2
 rw [ex,ey] at h
 rw [es,e]
 unfold cntN
 rw [Uaq,Uai,Uai,Uaq,Uai,Uai]
 have k:=Zhg (f x,1) (f y,1) (B.map fun m=>(f m,1)) (A.map fun m=>(f m,1))
 simp only at k
 rw [Uad (by omega),Uae h] at k
 omega
theorem Zp1 (f:Int->Int) (k:Int):∀ l:List Int,0<=ltS k (l.map fun m=>(f m,1))/\ltS k (l.map fun m=>(f m,1))<=l.length
 | []=>⟨Ub0 0,Ub0 0⟩
 | m :: l=>by
  have:=Zp1 f k l
  rw [Uai,Uaz]
  unfold ltS
  simp only
  split<;>omega
theorem Zkr (f:Int->Int):∀ l:List Int,0<=cntN f l/\cntN f l<=(l.length:Int) * l.length
 | []=>⟨Ub0 0,Ub0 0⟩
 | m :: l=>by
  have h1:=Zkr f l
  have h2:=Zp1 f (f m) l
  unfold cntN at h1 ⊢
  rw [Uai,Uaz]
  unfold invL
  have e:((l.length + 1:Nat):Int) * ((l.length + 1:Nat):Int)=(l.length:Int) * l.length + l.length + l.length + 1:=by
   rw [show ((l.length + 1:Nat):Int)=(l.length:Int) + 1 by omega,Ucs,Int.mul_add]
   omega
  rw [e]
  simp only [Int.mul_one]
  omega
def toI:D->Int
 | .int i=>i
 | _=>0
def mvN (γ:List (Option Pu.S)):Nat:=match γ[2]?,γ[3]? with
 | some (some (Pu.S.own (Pu.O.lst rs))),some (some (Pu.S.own (Pu.O.lst ns)))=>(cntN (fun m=>(rs.map toI).getD (m - 1).toNat 0) (ns.map toI)).toNat
 | _,_=>0
theorem Zmv (xs:List Int):(xs.map D.int).map toI=xs:=by
 rw [Ua8]
 exact List.map_id _
end M
namespace Pu
open PySem PySem.Spec PyProof.Rows L2 Own M
abbrev mvD (m:Mo):D:=.tup [.int m.1,.int m.2.1,.int m.2.2.1,.int m.2.2.2]
end Pu
namespace Pu
open PySem PySem.Spec PyProof.Rows L2 Own M
section
variable {K:PySem.W.Frag} {mg:Str->Option Value} {E:L2.St->XK}
def rNeP:R2:=fun x y H Q=>∃ (p q:Addr) (ps:List (Int×Int)),x=.ref p/\y=.ref q/\LAt PairR H p ps/\LAt PairR H q ps/\ps.length<=100000/\Q (.bl false) H
theorem Zy8 {X:Cx} (hu:X.A.units < cLine) (hu1:X.A.in1.units < cLine):OpR X (compareOp .NotEq) rNeP:=by
 intro pins s σ H x y v u Q I rx ry h
 obtain ⟨p,q,ps,rfl,rfl,⟨xs,hp,h1⟩,⟨ys,hq,h2⟩,hz,k⟩:=h
 obtain rfl:v=Value.ref p:=rx
 obtain rfl:u=Value.ref q:=ry
 obtain ⟨us,r1,p1,_⟩:=I.list (SqL.of hp)
 obtain ⟨ws,r2,p2,_⟩:=I.list (SqL.of hq)
 have l1:=r1.length
 have l2:=r2.length
 have m1:=h1.1
 have m2:=h2.1
 have key:∀ (A:Around),A.units < cLine->∀ (j:Nat) (g1:j < us.toArray.size) (g2:j < ws.toArray.size),SeqAt.EqAt A s us.toArray[j] ws.toArray[j] true:=fun A hA j g1 g2=>by
  have g1':j < us.length:=by simpa using g1
  have g2':j < ws.length:=by simpa using g2
  have hj:j < ps.length:=by omega
  obtain ⟨a,ea,pa⟩:=h1.2 j ps[j] (Uaa hj)
  obtain ⟨b,eb,pb⟩:=h2.2 j ps[j] (Uaa hj)
  obtain ⟨u',eu,ru⟩:=r1.get ea
  obtain ⟨w',ew,rw'⟩:=r2.get eb
  have e1:us.toArray[j]=u':=by
   have:us[j]?=some us[j]:=Uaa g1'
   rw [this] at eu
   simpa using Option.some.inj eu
  have e2:ws.toArray[j]=w':=by
   have:ws[j]?=some ws[j]:=Uaa g2'
   rw [this] at ew
   simpa using Option.some.inj ew
  rw [e1,e2]
  have:=Znp I hA ru rw' pa pb
  rw [Uaf rfl] at this
  exact this
 refine SeqAt.RcNeAt.lists p1.isList p2.isList (by simp;omega) hu (fun j g1 g2=>key _ hu1 j g1 g2) _ _ _ _ ⟨.bl false,H,I,?_,k⟩
 show _=Value.bool false
 simp
def fNeP:S->S->(S->Prop)->Prop:=fun x y R=>∃ ps:List (Int×Int),x.d=.lst (ps.map prD)/\y.d=.lst (ps.map prD)/\ps.length<=100000/\R (.sh (.bl false))
theorem Zze {ta tb:TE} {a b:PTE} (ha:SndE K mg E ta a) (hb:SndE K mg E tb b):SndE K mg E (tOp rNeP ta tb) (p2 a b fNeP):=by
 refine se_2 ha hb fun H0 H H2 Z x y v u R Q s0 s1 hm tx ty h q=>?_
 obtain ⟨ps,e1,e2,hz,hR⟩:=h
 have rx:=tx.rp s0
 have ry:=ty.rp s0
 rw [e1] at rx
 rw [e2] at ry
 obtain ⟨p,rfl,hp⟩:=rx.pairs_inv
 obtain ⟨p',rfl,hp'⟩:=ry.pairs_inv
 exact ⟨p,p',ps,rfl,rfl,hp,hp',hz,q _ _ H2 hR (Same.refl _) (.bl _)⟩
end
end Pu
namespace M
open PySem PySem.Spec PyProof.Rows L2 Own Pu
theorem Zpr (f:Int->Int):∀ l:List Int,cntN f l<=(triN l.length:Nat)
 | []=>Ub0 0
 | m :: l=>by
  have h1:=Zpr f l
  have h2:=Zp1 f (f m) l
  unfold cntN at h1 ⊢
  rw [Uai,Uaz]
  unfold invL triN
  simp only [Int.mul_one]
  omega
theorem Mv.len {ps:List (Int×Int)} {f:Int->Int} {ns:List Int} {ms:List Mo} (h:Mv ps f ns ms):(ms.length:Int)<=cntN f ns:=by
 induction h with
 | done ns hw=>exact (Zkr f ns).1
 | step ns p ms hp h0 hm ih=>
  obtain ⟨h1,h2,h3⟩:=hp.2.resolve_left h0
  rw [Uab] at h2
  rw [Zd2 h2,Zd2 (by omega)] at h3
  have:=Zra f h1 h2 h3
  rw [Uaz]
  omega
end M
namespace T
open PySem PySem.Spec PyProof.Rows L2
def top (i:Nat):Stmt:=PySem.Challenge.pw_stripmeld_k49_whole_stopped_halfway.main.body.getD i (.Pass ⟨0,0,0,0⟩)
abbrev Zc9:Stmt:=top 17
theorem Zko:FnScope ["holder"] ["holder"] (defScope Zc9):=Pu.fs
abbrev Zdu:Stmt:=top 18
theorem Zlr:FnScope ["width"] ["width"] (defScope Zdu):=Pu.fs
abbrev Zc6:Stmt:=top 19
theorem sc_check_strips:FnScope ["strips", "holder", "width"] ["strips"] (defScope Zc6):=Pu.fs
abbrev Zec:Stmt:=top 20
theorem Zm8:FnScope ["strips"] ["strips"] (defScope Zec):=Pu.fs
abbrev Zdp:Stmt:=top 21
theorem Zlc:FnScope ["strips", "order"] ["strips", "order"] (defScope Zdp):=Pu.fs
abbrev Ze3:Stmt:=top 23
theorem sc_pair_cost:FnScope ["strips", "ahead", "behind", "to_pass", "cost", "holder", "width"] ["strips", "ahead", "behind"] (defScope Ze3):=Pu.fs
abbrev Zdx:Stmt:=top 25
theorem Zld:FnScope ["strips"] ["strips"] (defScope Zdx):=Pu.fs
abbrev Zcm:Stmt:=top 26
theorem sc_exchange_cost:FnScope ["strips", "numbers", "place", "left", "right"] ["strips", "numbers", "place"] (defScope Zcm):=Pu.fs
abbrev Zex:Stmt:=top 27
theorem Zph:FnScope ["numbers", "place"] ["numbers", "place"] (defScope Zex):=Pu.fs
abbrev Zbr:Stmt:=top 28
theorem sc_first_wrong_place:FnScope ["numbers", "ranks", "place"] ["numbers", "ranks"] (defScope Zbr):=Pu.fs
abbrev Zd3:Stmt:=top 29
theorem sc_told_moves:FnScope ["strips", "order", "ranks", "numbers", "moves", "place"] ["strips", "order"] (defScope Zd3):=Pu.fs
abbrev Zbv:Stmt:=top 30
theorem Zgr:FnScope ["strips", "place"] ["strips", "place"] (defScope Zbv):=Pu.fs
abbrev Zdr:Stmt:=top 31
theorem sc_walk_places:FnScope ["strips", "places", "numbers", "cost", "place"] ["strips", "places"] (defScope Zdr):=Pu.fs
abbrev Zcw:Stmt:=top 34
theorem sc_longer_paths:FnScope ["paths", "left", "wishes", "longer", "reached", "path", "holder"] ["paths", "left", "wishes"] (defScope Zcw):=Pu.fs
abbrev Ze7:Stmt:=top 35
theorem sc_ring_from:FnScope ["least", "holders", "wishes", "paths", "left", "rings", "reached"] ["least", "holders", "wishes"] (defScope Ze7):=Pu.fs
abbrev Zez:Stmt:=top 36
theorem sc_find_ring:FnScope ["holders", "wishes", "ring", "least", "found"] ["holders", "wishes"] (defScope Zez):=Pu.fs
abbrev Zco:Stmt:=top 37
theorem sc_check_no_ring:FnScope ["strips", "wishes", "ring"] ["strips", "wishes"] (defScope Zco):=Pu.fs
abbrev Ze6:Stmt:=top 39
theorem Zpf:FnScope ["wishes", "ahead", "behind"] ["wishes", "ahead", "behind"] (defScope Ze6):=Pu.fs
abbrev Zd8:Stmt:=top 41
theorem sc_pair_costs:FnScope ["strips", "holders", "costs", "ahead", "behind"] ["strips"] (defScope Zd8):=Pu.fs
abbrev Zhp:Stmt:=top 42
theorem sc_sets_of:FnScope ["holders", "sets", "holder"] ["holders"] (defScope Zhp):=Pu.fs
abbrev Zhr:Stmt:=top 43
theorem Zs4:FnScope ["members", "holder"] ["members", "holder"] (defScope Zhr):=Pu.fs
abbrev Zcy:Stmt:=top 44
theorem Zk4:FnScope ["members", "holder", "wishes"] ["members", "holder", "wishes"] (defScope Zcy):=Pu.fs
abbrev Zcn:Stmt:=top 45
theorem Zi9:FnScope ["members", "holder", "wishes"] ["members", "holder", "wishes"] (defScope Zcn):=Pu.fs
abbrev Zcc:Stmt:=top 46
theorem sc_cost_with_last:FnScope ["members", "last", "least", "pairs", "others"] ["members", "last", "least", "pairs"] (defScope Zcc):=Pu.fs
abbrev Zb2:Stmt:=top 47
theorem sc_cost_with_first:FnScope ["members", "first", "least", "pairs", "others"] ["members", "first", "least", "pairs"] (defScope Zb2):=Pu.fs
abbrev Zdw:Stmt:=top 48
theorem sc_least_costs:FnScope ["strips", "wishes", "pairs", "least", "members", "lasts"] ["strips", "wishes", "pairs"] (defScope Zdw):=Pu.fs
abbrev Zd9:Stmt:=top 49
theorem sc_cost_table:FnScope ["strips", "wishes", "least"] ["strips", "wishes"] (defScope Zd9):=Pu.fs
abbrev Zee:Stmt:=top 50
theorem sc_best_order:FnScope ["strips", "wishes", "pairs", "least", "members", "order", "firsts", "best"] ["strips", "wishes"] (defScope Zee):=Pu.fs
abbrev Ze:Stmt:=top 51
theorem Zng:FnScope ["strips", "wishes"] ["strips", "wishes"] (defScope Ze):=Pu.fs
abbrev Zc1:Stmt:=inClass (top 54) 0
theorem Zju:FnScope ["self", "strips"] ["self", "strips"] (defScope Zc1):=Pu.fs
abbrev Zcg:Stmt:=inClass (top 54) 1
theorem Zh1:FnScope ["self"] ["self"] (defScope Zcg):=Pu.fs
abbrev Zce:Stmt:=inClass (top 54) 2
theorem Zh6:FnScope ["self"] ["self"] (defScope Zce):=Pu.fs
abbrev Zcj:Stmt:=inClass (top 54) 3
theorem Zje:FnScope ["self"] ["self"] (defScope Zcj):=Pu.fs
abbrev Zbh:Stmt:=inClass (top 54) 4
theorem Zfh:FnScope ["self"] ["self"] (defScope Zbh):=Pu.fs
abbrev Zcr:Stmt:=inClass (top 54) 5
theorem Zji:FnScope ["self", "deed", "field", "wishes"] ["self", "deed", "field", "wishes"] (defScope Zcr):=Pu.fs
abbrev Zc5:Stmt:=inClass (top 54) 9
theorem sc_Village_wish:FnScope ["self", "ahead", "behind", "wishes"] ["self", "ahead", "behind"] (defScope Zc5):=Pu.fs
abbrev Zc3:Stmt:=inClass (top 54) 13
theorem Zkh:FnScope ["self"] ["self"] (defScope Zc3):=Pu.fs
abbrev Zcl:Stmt:=inClass (top 54) 14
theorem Zjh:FnScope ["self"] ["self"] (defScope Zcl):=Pu.fs
abbrev Zc8:Stmt:=inClass (top 54) 15
theorem Zj4:FnScope ["self"] ["self"] (defScope Zc8):=Pu.fs
abbrev Zcp:Stmt:=inClass (top 54) 17
theorem Zi8:FnScope ["self"] ["self"] (defScope Zcp):=Pu.fs
abbrev Zjn:Stmt:=top 56
theorem Zur:FnScope ["_law_script", "_law_k"] ["_law_script", "_law_k"] (defScope Zjn):=Pu.fs
abbrev Zf:Stmt:=top 57
theorem Znt:FnScope ["_law_found"] ["_law_found"] (defScope Zf):=Pu.fs
abbrev Zgy:Stmt:=top 58
theorem sc_law_mix:FnScope ["_law_cell", "_law_place", "_law_first"] ["_law_cell", "_law_place"] (defScope Zgy):=Pu.fs
abbrev Zf3:Stmt:=top 59
theorem Zpl:FnScope ["_law_script", "_law_k"] ["_law_script", "_law_k"] (defScope Zf3):=Pu.fs
abbrev Ze2:Stmt:=top 60
theorem Zoj:FnScope ["_law_script"] ["_law_script"] (defScope Ze2):=Pu.fs
abbrev Zg:Stmt:=top 61
theorem sc_law_menu:FnScope ["_law_cell", "_law_wide", "_law_least"] ["_law_cell"] (defScope Zg):=Pu.fs
abbrev Zd7:Stmt:=top 62
theorem Zm6:FnScope ["_law_menu_here", "_law_k"] ["_law_menu_here", "_law_k"] (defScope Zd7):=Pu.fs
abbrev Zef:Stmt:=top 63
theorem sc_law_strips:FnScope ["_law_script", "_law_menu_here", "_law_many", "_law_strips_here", "_law_k", "_law_cell", "_law_width"] ["_law_script", "_law_menu_here", "_law_many"] (defScope Zef):=Pu.fs
abbrev Zd5:Stmt:=top 64
theorem sc_law_wishes:FnScope ["_law_script", "_law_menu_here", "_law_how", "_law_pool", "_law_wishes_here", "_law_k", "_law_cell", "_law_one", "_law_two", "_law_pair"] ["_law_script", "_law_menu_here"] (defScope Zd5):=Pu.fs
abbrev Zg8:Stmt:=top 65
theorem sc_law_row:FnScope ["_law_found", "_law_due", "_law_k"] ["_law_found", "_law_due"] (defScope Zg8):=Pu.fs
abbrev Zdy:Stmt:=top 66
theorem sc_law_present:FnScope ["_law_strips_here", "_law_owners"] ["_law_strips_here"] (defScope Zdy):=Pu.fs
abbrev Ze9:Stmt:=top 67
theorem sc_law_price:FnScope ["_law_strips_here", "_law_order", "_law_ranks", "_law_total", "_law_k", "_law_j"] ["_law_strips_here", "_law_order"] (defScope Ze9):=Pu.fs
abbrev Zdo:Stmt:=top 68
theorem sc_law_no_ring:FnScope ["_law_holders", "_law_wishes_here", "_law_left", "_law_turn", "_law_inside", "_law_behind"] ["_law_holders", "_law_wishes_here"] (defScope Zdo):=Pu.fs
abbrev Zd:Stmt:=top 69
theorem sc_law_keepable:FnScope ["_law_wishes_here", "_law_holders", "_law_kept", "_law_pair"] ["_law_wishes_here", "_law_holders"] (defScope Zd):=Pu.fs
abbrev Zgd:Stmt:=top 70
theorem sc_law_made:FnScope ["_law_strips_here", "_law_wishes_here", "_law_village", "_law_one", "_law_two"] ["_law_strips_here", "_law_wishes_here"] (defScope Zgd):=Pu.fs
abbrev Zbi:Stmt:=top 71
theorem sc_law_moves_are_rows:FnScope ["_law_told", "_law_move"] ["_law_told"] (defScope Zbi):=Pu.fs
abbrev Zds:Stmt:=top 72
theorem sc_law_carried:FnScope ["_law_told", "_law_strips_here", "_law_numbers", "_law_paid", "_law_place", "_law_left", "_law_right", "_law_cost"] ["_law_told", "_law_strips_here"] (defScope Zds):=Pu.fs
abbrev Zlp:Stmt:=top 73
theorem sc_law:FnScope ["_law_script", "_law_menu_here", "_law_strips_here", "_law_wishes_here", "_law_village", "_law_order", "_law_told", "_law_many", "_law_halfway", "_law_places", "_law_walk", "_law_other", "_law_price_here", "_law_rest"] ["_law_script"] (defScope Zlp):=Pu.fs
structure Glob (K:PySem.W.Frag) (mg:Str->Option Value):Prop where
 any:mg "any" = none
 bool:mg "bool" = none
 int:mg "int" = none
 isinstance:mg "isinstance" = none
 len:mg "len" = none
 list:mg "list" = none
 max:mg "max" = none
 min:mg "min" = none
 range:mg "range" = none
 set:mg "set" = none
 sorted:mg "sorted" = none
 sum:mg "sum" = none
 tuple:mg "tuple" = none
 HOLDERS:∃ u,mg "HOLDERS" = some u/\RelV (.int 10) u
 STRIPS:∃ u,mg "STRIPS" = some u/\RelV (.int 40) u
 WIDEST:∃ u,mg "WIDEST" = some u/\RelV (.int 1000) u
 MOST_WISHES:∃ u,mg "MOST_WISHES" = some u/\RelV (.int 20) u
 MOST_DEEDS:∃ u,mg "MOST_DEEDS" = some u/\RelV (.int 100) u
 m_TooManyStrips:mg "TooManyStrips" = some (.ref (ExcR.clsOf mg "TooManyStrips"))
 g_TooManyStrips:ExcR.ErrGet K (ExcR.clsOf mg "TooManyStrips")
 m_BadHolder:mg "BadHolder" = some (.ref (ExcR.clsOf mg "BadHolder"))
 g_BadHolder:ExcR.ErrGet K (ExcR.clsOf mg "BadHolder")
 m_BadWidth:mg "BadWidth" = some (.ref (ExcR.clsOf mg "BadWidth"))
 g_BadWidth:ExcR.ErrGet K (ExcR.clsOf mg "BadWidth")
 m_NoStrip:mg "NoStrip" = some (.ref (ExcR.clsOf mg "NoStrip"))
 g_NoStrip:ExcR.ErrGet K (ExcR.clsOf mg "NoStrip")
 m_BadOrder:mg "BadOrder" = some (.ref (ExcR.clsOf mg "BadOrder"))
 g_BadOrder:ExcR.ErrGet K (ExcR.clsOf mg "BadOrder")
 m_LikeHolders:mg "LikeHolders" = some (.ref (ExcR.clsOf mg "LikeHolders"))
 g_LikeHolders:ExcR.ErrGet K (ExcR.clsOf mg "LikeHolders")
 m_WishStands:mg "WishStands" = some (.ref (ExcR.clsOf mg "WishStands"))
 g_WishStands:ExcR.ErrGet K (ExcR.clsOf mg "WishStands")
 m_TooManyWishes:mg "TooManyWishes" = some (.ref (ExcR.clsOf mg "TooManyWishes"))
 g_TooManyWishes:ExcR.ErrGet K (ExcR.clsOf mg "TooManyWishes")
 m_BookFull:mg "BookFull" = some (.ref (ExcR.clsOf mg "BookFull"))
 g_BookFull:ExcR.ErrGet K (ExcR.clsOf mg "BookFull")
 m_Village:mg "Village" = some (.ref (ExcR.clsOf mg "Village"))
 cl_Village:Cls K (ExcR.clsOf mg "Village")
 n_Village_book:NoAttr K (ExcR.clsOf mg "Village") "book"
 n_Village_fields:NoAttr K (ExcR.clsOf mg "Village") "fields"
 n_Village_wished:NoAttr K (ExcR.clsOf mg "Village") "wished"
theorem Zcq:Pu.FldAt "book" ["book", "fields", "wished"] 0:=fun vs h=>by obtain ⟨a0,a1,a2,rfl⟩:=Pu.len3 h.symm;simp only [Uak,Uay,List.lookup,(show (("book" : Str) == "book")=true by decide +kernel)];rfl
theorem Zka:Pu.PutAt "book" []:=fun vs y h=>by obtain ⟨_,rfl⟩:=Pu.len0 h.symm;simp only [Uak,Uay,putF];rfl
theorem Zev:Pu.FldAt "fields" ["book", "fields", "wished"] 1:=fun vs h=>by obtain ⟨a0,a1,a2,rfl⟩:=Pu.len3 h.symm;simp only [Uak,Uay,List.lookup,(show (("fields" : Str) == "book")=false by decide +kernel),(show (("fields" : Str) == "fields")=true by decide +kernel)];rfl
theorem Zhv:Pu.PutAt "fields" ["book"]:=fun vs y h=>by obtain ⟨a0,rfl⟩:=Pu.len1 h.symm;simp only [Uak,Uay,putF,Uad (show ¬ (("book" : Str) = "fields") by decide +kernel)];rfl
theorem Zeq:Pu.FldAt "wished" ["book", "fields", "wished"] 2:=fun vs h=>by obtain ⟨a0,a1,a2,rfl⟩:=Pu.len3 h.symm;simp only [Uak,Uay,List.lookup,(show (("wished" : Str) == "book")=false by decide +kernel),(show (("wished" : Str) == "fields")=false by decide +kernel),(show (("wished" : Str) == "wished")=true by decide +kernel)];rfl
theorem Zid:Pu.PutAt "wished" ["book", "fields"]:=fun vs y h=>by obtain ⟨a0,a1,rfl⟩:=Pu.len2 h.symm;simp only [Uak,Uay,putF,Uad (show ¬ (("book" : Str) = "wished") by decide +kernel),Uad (show ¬ (("fields" : Str) = "wished") by decide +kernel)];rfl
theorem Zbk:Pu.NoFld "strips" ["book", "fields", "wished"]:=fun vs=>match vs with | []=>rfl | [a0]=>by simp only [Uak,Uay,List.lookup,(show (("strips" : Str) == "book")=false by decide +kernel),(show (("strips" : Str) == "fields")=false by decide +kernel),(show (("strips" : Str) == "wished")=false by decide +kernel)] | [a0,a1]=>by simp only [Uak,Uay,List.lookup,(show (("strips" : Str) == "book")=false by decide +kernel),(show (("strips" : Str) == "fields")=false by decide +kernel),(show (("strips" : Str) == "wished")=false by decide +kernel)] | a0 :: a1 :: a2 :: _=>by simp only [Uak,Ubv,List.lookup,(show (("strips" : Str) == "book")=false by decide +kernel),(show (("strips" : Str) == "fields")=false by decide +kernel),(show (("strips" : Str) == "wished")=false by decide +kernel)]
theorem Zb1:Pu.NoFld "wishes" ["book", "fields", "wished"]:=fun vs=>match vs with | []=>rfl | [a0]=>by simp only [Uak,Uay,List.lookup,(show (("wishes" : Str) == "book")=false by decide +kernel),(show (("wishes" : Str) == "fields")=false by decide +kernel),(show (("wishes" : Str) == "wished")=false by decide +kernel)] | [a0,a1]=>by simp only [Uak,Uay,List.lookup,(show (("wishes" : Str) == "book")=false by decide +kernel),(show (("wishes" : Str) == "fields")=false by decide +kernel),(show (("wishes" : Str) == "wished")=false by decide +kernel)] | a0 :: a1 :: a2 :: _=>by simp only [Uak,Ubv,List.lookup,(show (("wishes" : Str) == "book")=false by decide +kernel),(show (("wishes" : Str) == "fields")=false by decide +kernel),(show (("wishes" : Str) == "wished")=false by decide +kernel)]
theorem Zfg:Pu.NoFld "check_room" ["book", "fields", "wished"]:=fun vs=>match vs with | []=>rfl | [a0]=>by simp only [Uak,Uay,List.lookup,(show (("check_room" : Str) == "book")=false by decide +kernel),(show (("check_room" : Str) == "fields")=false by decide +kernel),(show (("check_room" : Str) == "wished")=false by decide +kernel)] | [a0,a1]=>by simp only [Uak,Uay,List.lookup,(show (("check_room" : Str) == "book")=false by decide +kernel),(show (("check_room" : Str) == "fields")=false by decide +kernel),(show (("check_room" : Str) == "wished")=false by decide +kernel)] | a0 :: a1 :: a2 :: _=>by simp only [Uak,Ubv,List.lookup,(show (("check_room" : Str) == "book")=false by decide +kernel),(show (("check_room" : Str) == "fields")=false by decide +kernel),(show (("check_room" : Str) == "wished")=false by decide +kernel)]
theorem Zi7:Pu.NoFld "enter" ["book", "fields", "wished"]:=fun vs=>match vs with | []=>rfl | [a0]=>by simp only [Uak,Uay,List.lookup,(show (("enter" : Str) == "book")=false by decide +kernel),(show (("enter" : Str) == "fields")=false by decide +kernel),(show (("enter" : Str) == "wished")=false by decide +kernel)] | [a0,a1]=>by simp only [Uak,Uay,List.lookup,(show (("enter" : Str) == "book")=false by decide +kernel),(show (("enter" : Str) == "fields")=false by decide +kernel),(show (("enter" : Str) == "wished")=false by decide +kernel)] | a0 :: a1 :: a2 :: _=>by simp only [Uak,Ubv,List.lookup,(show (("enter" : Str) == "book")=false by decide +kernel),(show (("enter" : Str) == "fields")=false by decide +kernel),(show (("enter" : Str) == "wished")=false by decide +kernel)]
theorem Zkp:Pu.NoFld "wish" ["book", "fields", "wished"]:=fun vs=>match vs with | []=>rfl | [a0]=>by simp only [Uak,Uay,List.lookup,(show (("wish" : Str) == "book")=false by decide +kernel),(show (("wish" : Str) == "fields")=false by decide +kernel),(show (("wish" : Str) == "wished")=false by decide +kernel)] | [a0,a1]=>by simp only [Uak,Uay,List.lookup,(show (("wish" : Str) == "book")=false by decide +kernel),(show (("wish" : Str) == "fields")=false by decide +kernel),(show (("wish" : Str) == "wished")=false by decide +kernel)] | a0 :: a1 :: a2 :: _=>by simp only [Uak,Ubv,List.lookup,(show (("wish" : Str) == "book")=false by decide +kernel),(show (("wish" : Str) == "fields")=false by decide +kernel),(show (("wish" : Str) == "wished")=false by decide +kernel)]
theorem Zdk:Pu.NoFld "order" ["book", "fields", "wished"]:=fun vs=>match vs with | []=>rfl | [a0]=>by simp only [Uak,Uay,List.lookup,(show (("order" : Str) == "book")=false by decide +kernel),(show (("order" : Str) == "fields")=false by decide +kernel),(show (("order" : Str) == "wished")=false by decide +kernel)] | [a0,a1]=>by simp only [Uak,Uay,List.lookup,(show (("order" : Str) == "book")=false by decide +kernel),(show (("order" : Str) == "fields")=false by decide +kernel),(show (("order" : Str) == "wished")=false by decide +kernel)] | a0 :: a1 :: a2 :: _=>by simp only [Uak,Ubv,List.lookup,(show (("order" : Str) == "book")=false by decide +kernel),(show (("order" : Str) == "fields")=false by decide +kernel),(show (("order" : Str) == "wished")=false by decide +kernel)]
theorem Zfv:Pu.NoFld "cost" ["book", "fields", "wished"]:=fun vs=>match vs with | []=>rfl | [a0]=>by simp only [Uak,Uay,List.lookup,(show (("cost" : Str) == "book")=false by decide +kernel),(show (("cost" : Str) == "fields")=false by decide +kernel),(show (("cost" : Str) == "wished")=false by decide +kernel)] | [a0,a1]=>by simp only [Uak,Uay,List.lookup,(show (("cost" : Str) == "book")=false by decide +kernel),(show (("cost" : Str) == "fields")=false by decide +kernel),(show (("cost" : Str) == "wished")=false by decide +kernel)] | a0 :: a1 :: a2 :: _=>by simp only [Uak,Ubv,List.lookup,(show (("cost" : Str) == "book")=false by decide +kernel),(show (("cost" : Str) == "fields")=false by decide +kernel),(show (("cost" : Str) == "wished")=false by decide +kernel)]
theorem Zfb:Pu.NoFld "moves" ["book", "fields", "wished"]:=fun vs=>match vs with | []=>rfl | [a0]=>by simp only [Uak,Uay,List.lookup,(show (("moves" : Str) == "book")=false by decide +kernel),(show (("moves" : Str) == "fields")=false by decide +kernel),(show (("moves" : Str) == "wished")=false by decide +kernel)] | [a0,a1]=>by simp only [Uak,Uay,List.lookup,(show (("moves" : Str) == "book")=false by decide +kernel),(show (("moves" : Str) == "fields")=false by decide +kernel),(show (("moves" : Str) == "wished")=false by decide +kernel)] | a0 :: a1 :: a2 :: _=>by simp only [Uak,Ubv,List.lookup,(show (("moves" : Str) == "book")=false by decide +kernel),(show (("moves" : Str) == "fields")=false by decide +kernel),(show (("moves" : Str) == "wished")=false by decide +kernel)]
end T
namespace M
open PySem PySem.Spec PyProof.Rows L2 Own Pu
def Zkc:Pc:=fun ds R X=>∃ h:Int,ds=[.int h]/\tellE (holdE h) X (R (.sh .non))
def widthE (h:Int):Option Str:=if 1<=h/\h<=1000 then none else some "BadWidth"
def Zlf:Pc:=fun ds R X=>∃ h:Int,ds=[.int h]/\tellE (widthE h) X (R (.sh .non))
def Zho (_:PySem.W.Frag):Sp:=fun vs H Q _=>∃ (l:Addr) (ps:List (Int×Int)),vs=[.ref l]/\LAt PairR H l ps/\Field ps/\ps.length<=50/\
 ∀ (q:Addr) (H':Hp),H q=none->Same H H'->H' q=some (.lst ((holdM ps).map V.int))->Q (.ref q) H'
def Zg7:Pc:=fun ds R _=>∃ ps:List (Int×Int),ds=[.lst (ps.map prD)]/\Field ps/\ps.length<=50/\R (.own ((holdM ps).map D.int))
theorem Zb3 {P:Program} {w:World} {K:PySem.W.Frag} {mg:Str->Option Value} {base:Heap} (C:Callee P w K mg base CX0 1 "holders_of" ["strips"] (Zho K)):Callee P w K mg base CX0 1 "holders_of" ["strips"] (Pu.spOf mg Zg7 K):=Pu.Zoe C fun ds R X vs H Q E r hc hQ hX=>by
 obtain ⟨ps,rfl,hF,hz,hR⟩:=hc
 obtain ⟨v,rfl,r1⟩:=r.one_inv
 obtain ⟨a,rfl,ha⟩:=r1.pairs_inv
 exact ⟨a,ps,rfl,ha,hF,hz,fun q H' nq S h=>hQ _ _ H' hR S (Zq0 nq h)⟩
def Zir (_:PySem.W.Frag):Sp:=fun vs H Q _=>∃ (l:Addr) (ps:List (Int×Int)) (x y:Int),vs=[.ref l,.int x,.int y]/\LAt PairR H l ps/\Field ps/\Q (.int (pcM ps x y ps.length)) H
def Ziq:Pc:=fun ds R _=>∃ (ps:List (Int×Int)) (x y:Int),ds=[.lst (ps.map prD),.int x,.int y]/\Field ps/\R (.sh (.int (pcM ps x y ps.length)))
theorem Zoz {P:Program} {w:World} {K:PySem.W.Frag} {mg:Str->Option Value} {base:Heap} (C:Callee P w K mg base CX0 1 "pair_cost" ["strips", "ahead", "behind"] (Zir K)):Callee P w K mg base CX0 1 "pair_cost" ["strips", "ahead", "behind"] (Pu.spOf mg Ziq K):=Pu.Zoe C fun ds R X vs H Q E r hc hQ hX=>by
 obtain ⟨ps,x,y,rfl,hF,hR⟩:=hc
 cases r with
 | cons r1 r=>
  obtain ⟨v,u,rfl,r2,r3⟩:=r.two_inv
  obtain ⟨a,rfl,ha⟩:=r1.pairs_inv
  rw [r2.int_inv,r3.int_inv]
  exact ⟨a,ps,x,y,rfl,ha,hF,hQ _ _ H hR (Same.refl _) (.int _)⟩
def Zle:Pc:=fun ds R _=>∃ ps:List (Int×Int),ds=[.lst (ps.map prD)]/\ps.length<=1000/\R (.own ((runI 1 ps.length).map D.int))
def Zi4:Pc:=fun ds R _=>∃ (ps:List (Int×Int)) (ns:List Int) (p:Int),ds=[.lst (ps.map prD),.lst (ns.map D.int),.int p]/\Field ps/\(∀ n∈ns,1<=n/\n<=ps.length)/\1<=p/\p < ns.length/\R (.sh (.int (exM ps ns p.toNat)))
def Zn5:Pc:=fun ds R _=>∃ (ns:List Int) (p:Int),ds=[.lst (ns.map D.int),.int p]/\1<=p/\p < ns.length/\ns.length<=1000/\R (.own ((swapM ns p.toNat).map D.int))
def Zge:Pc:=fun ds R _=>∃ ns rs:List Int,ds=[.lst (ns.map D.int),.lst (rs.map D.int)]/\(∀ m∈ns,1<=m/\m<=rs.length)/\ns.length<=1000/\∀ p:Nat,FW (ns.map fun m=>rs.getD (m - 1).toNat 0) p->R (.sh (.int p))
def Zgv:Pc:=fun ds R X=>∃ (ps:List (Int×Int)) (p:Int),ds=[.lst (ps.map prD),.int p]/\(if p < 1\/(ps.length:Int)<=p then X "NoStrip" else R (.sh .non))
def Zks:Pc:=fun ds R _=>∃ (l:Int) (ps:List (List Int)) (ls:List Int) (ws:List (Int×Int)),ds=[.lst (ps.map (em l)),.lst (ls.map D.int),.lst (ws.map prD)]/\ps.Pairwise sl/\ls.Pairwise (· < ·)/\(∀ p∈ps,p.length<=100)/\ls.length<=100/\
 ∀ lg,LG ws l (fun p h=>p∈ps/\h∈ls) lg->lg.length<=ls.length->R (.own (lg.map (em l)))
def Zr8:Pc:=fun ds R _=>∃ hs:List Int,ds=[.lst (hs.map D.int)]/\hs.length<=10/\R (.own ((setsM hs).map tD))
def Zsr:Pc:=fun ds R _=>∃ (ms:List Int) (h:Int),ds=[tD ms,.int h]/\ms.length<=1000/\R (.sh (tD (lessM ms h)))
def Zk7:Pc:=fun ds R _=>∃ (ms:List Int) (h:Int) (ws:List (Int×Int)),ds=[tD ms,.int h,.lst (ws.map prD)]/\ws.length<=50/\R (.sh (.bl (lastM ws ms h)))
def Zjj:Pc:=fun ds R _=>∃ (ms:List Int) (h:Int) (ws:List (Int×Int)),ds=[tD ms,.int h,.lst (ws.map prD)]/\ws.length<=50/\R (.sh (.bl (firstM ws ms h)))
def Zh4 (C:Addr):Pc:=fun ds R _=>∃ (bk:List (Str×List Int)) (fs ws:List (List (Int×Int))) (f:List (Int×Int)),ds=[vilD C bk (fs++[f]) ws]/\R (.own (f.map prD))
def Zh2 (C:Addr):Pc:=fun ds R _=>∃ (bk:List (Str×List Int)) (fs ws:List (List (Int×Int))) (f:List (Int×Int)),ds=[vilD C bk fs (ws++[f])]/\R (.own (f.map prD))
def Zjd (C:Addr):Pc:=fun ds R _=>∃ (bk:List (Str×List Int)) (fs ws:List (List (Int×Int))),ds=[vilD C bk fs ws]/\R (.own (bk.map dD))
def roomE (bk:List (Str×List Int)):Option Str:=if 100<=bk.length then some "BookFull" else none
def Zfw (C:Addr):Pc:=fun ds R X=>∃ (bk:List (Str×List Int)) (fs ws:List (List (Int×Int))),ds=[vilD C bk fs ws]/\tellE (roomE bk) X (R (.sh .non))
def Zi3 (C:Addr):Pw:=fun o ss R _=>∃ (x b1 b2 b3:Addr) (bk:List (Str×List Int)) (fs ws:List (List (Int×Int))) (q:Str×List Int) (f w:List (Int×Int)),o=vO C x b1 b2 b3 bk fs ws/\ss=[.sh (dD q),.sh (plD f),.sh (plD w)]/\bk.length<=1000/\fs.length<=1000/\ws.length<=1000/\
 R (vO C x b1 b2 b3 (bk++[q]) (fs++[f]) (ws++[w])) (.int (bk.length + 1))
def Ztn:Pc:=fun ds R _=>∃ (ns:List Int) (k:Int),ds=[.scr ns,.int k]/\0<=k/\∀ v:Int,R (.sh (.int v))
def Zo6:Pc:=fun ds R _=>∃ i:Int,ds=[.int i]/\R (.sh (.bl true))
def Zsz:Pc:=fun ds R _=>∃ c p:Int,ds=[.int c,.int p]/\∀ v:Int,R (.sh (.int v))
def Zp8:Pc:=fun ds R _=>∃ c:Int,ds=[.int c]/\∀ m,Menu m->R (.own (m.map D.int))
def Zms:Pc:=fun ds R _=>∃ (m:List Int) (k:Int),ds=[.lst (m.map D.int),.int k]/\Menu m/\∀ h:Int,1<=h->h<=10->h=holdP m k->R (.sh (.int h))
def Zgo (_:PySem.W.Frag):Sp:=fun vs H Q _=>∃ (l:Addr) (ps:List (Int×Int)),vs=[.ref l]/\LAt PairR H l ps/\ps.length<=50/\
 ∀ (q:Addr) (H':Hp),H q=none->Same H H'->H' q=some (.lst ((holdM ps).map V.int))->Q (.ref q) H'
def Zgg:Pc:=fun ds R _=>∃ ps:List (Int×Int),ds=[.lst (ps.map prD)]/\ps.length<=50/\R (.own ((holdM ps).map D.int))
theorem Zls {P:Program} {w:World} {K:PySem.W.Frag} {mg:Str->Option Value} {base:Heap} (C:Callee P w K mg base CX0 1 "_law_present" ["_law_strips_here"] (Zgo K)):Callee P w K mg base CX0 1 "_law_present" ["_law_strips_here"] (Pu.spOf mg Zgg K):=Pu.Zoe C fun ds R X vs H Q E r hc hQ hX=>by
 obtain ⟨ps,rfl,hz,hR⟩:=hc
 obtain ⟨v,rfl,r1⟩:=r.one_inv
 obtain ⟨a,rfl,ha⟩:=r1.pairs_inv
 exact ⟨a,ps,rfl,ha,hz,fun q H' nq S h=>hQ _ _ H' hR S (Zq0 nq h)⟩
def Ziy (K:PySem.W.Frag):Sp:=fun vs H Q _=>∃ (l o:Addr) (ps:List (Int×Int)) (os:List Int),vs=[.ref l,.ref o]/\LAt PairR H l ps/\Field ps/\ps.length<=50/\SqL K H o (os.map V.int)/\(∀ p∈ps,p.1∈os)/\
 ∀ (H':Hp),Same H H'->Q (.int (priM ps os ps.length)) H'
def Zio:Pc:=fun ds R _=>∃ (ps:List (Int×Int)) (os:List Int),ds=[.lst (ps.map prD),.lst (os.map D.int)]/\Field ps/\ps.length<=50/\(∀ p∈ps,p.1∈os)/\R (.sh (.int (priM ps os ps.length)))
theorem Zp {P:Program} {w:World} {K:PySem.W.Frag} {mg:Str->Option Value} {base:Heap} (C:Callee P w K mg base CX0 1 "_law_price" ["_law_strips_here", "_law_order"] (Ziy K)):Callee P w K mg base CX0 1 "_law_price" ["_law_strips_here", "_law_order"] (Pu.spOf mg Zio K):=Pu.Zoe C fun ds R X vs H Q E r hc hQ hX=>by
 obtain ⟨ps,os,rfl,hF,hz,hin,hR⟩:=hc
 obtain ⟨v,u,rfl,r1,r2⟩:=r.two_inv
 obtain ⟨a,rfl,ha⟩:=r1.pairs_inv
 obtain ⟨l,rfl,hl⟩:=r2.ints_inv
 exact ⟨a,l,ps,os,rfl,ha,hF,hz,SqL.of hl,hin,fun H' S=>hQ _ _ H' hR S (.int _)⟩
def Zgi (K:PySem.W.Frag):Sp:=fun vs H Q _=>∃ (l p:Addr) (hs:List Int) (ws:List (Int×Int)),vs=[.ref l,.ref p]/\SqL K H l (hs.map V.int)/\hs.length<=50/\LAt PairR H p ws/\ws.length<=50/\
 ∀ (H':Hp),Same H H'->Q (.bl (decide (peelsM ws hs hs.length=[]))) H'
def Zgk:Pc:=fun ds R _=>∃ (hs:List Int) (ws:List (Int×Int)),ds=[.lst (hs.map D.int),.lst (ws.map prD)]/\hs.length<=50/\ws.length<=50/\R (.sh (.bl (decide (peelsM ws hs hs.length=[]))))
theorem Zlh {P:Program} {w:World} {K:PySem.W.Frag} {mg:Str->Option Value} {base:Heap} (C:Callee P w K mg base CX0 1 "_law_no_ring" ["_law_holders", "_law_wishes_here"] (Zgi K)):Callee P w K mg base CX0 1 "_law_no_ring" ["_law_holders", "_law_wishes_here"] (Pu.spOf mg Zgk K):=Pu.Zoe C fun ds R X vs H Q E r hc hQ hX=>by
 obtain ⟨hs,ws,rfl,hz,hw,hR⟩:=hc
 obtain ⟨v,u,rfl,r1,r2⟩:=r.two_inv
 obtain ⟨a,rfl,ha⟩:=r1.ints_inv
 obtain ⟨l,rfl,hl⟩:=r2.pairs_inv
 exact ⟨a,l,hs,ws,rfl,SqL.of ha,hz,hl,hw,fun H' S=>hQ _ _ H' hR S (.bl _)⟩
def Zli:Pc:=fun ds R _=>∃ (ps:List (Int×Int)) (f:Int->Int) (ms:List Mo) (k:Nat),ds=[.lst ((ms.take k).map mvD),plD ps]/\Field ps/\ps.length<=40/\Mv ps f (runI 1 ps.length) ms/\k<=ms.length/\
 ∀ (ns:List Int) (c:Int),walkM ps ((ms.take k).map (·.1)) (runI 1 ps.length,0)=some (ns,c)->ns.Perm (runI 1 ps.length)->Mv ps f ns (ms.drop k)->invL (keyL ps f (runI 1 ps.length)) + 0=invL (keyL ps f ns) + c->R (.own (.lst [.lst (ns.map D.int),.int c]))
def Zj1:Pc:=fun ds R X=>∃ ps:List (Int×Int),ds=[plD ps]/\ps.length<=1000/\tellE (stripE ps) X (R (.sh .non))
def Zln:Pc:=fun ds R X=>∃ (ps:List (Int×Int)) (os:List Int),ds=[plD ps,.lst (os.map D.int)]/\Field ps/\ps.length<=50/\os.length < 64/\tellE (orderE ps os) X (R (.sh .non))
def Zlg:Pc:=fun ds R X=>∃ (ps:List (Int×Int)) (pl:List Int),ds=[.lst (ps.map prD),.lst (pl.map D.int)]/\Field ps/\ps.length<=50/\pl.length<=1000/\
 (match walkM ps pl (runI 1 ps.length,0) with | some st=>R (.sh (.tup [.lst (st.1.map D.int),.int st.2])) | none=>X "NoStrip")
def Znz:Pc:=fun ds R _=>∃ (l:Int) (hs:List Int) (ws:List (Int×Int)),ds=[.int l,.lst (hs.map D.int),.lst (ws.map prD)]/\hs.Nodup/\hs.length<=50/\∀ r,RF hs ws l r->r.length<=60->R (.sh (.lst (r.map D.int)))
def Zn4:Pc:=fun ds R X=>∃ (ws:List (Int×Int)) (a b:Int),ds=[plD ws,.int a,.int b]/\ws.length<=1000/\tellE (wishE ws a b) X (R (.own ((ws++[(a,b)]).map prD)))
def Zm9:Pc:=fun ds R _=>∃ ps:List (Int×Int),ds=[.lst (ps.map prD)]/\Field ps/\ps.length<=50/\
 ∀ kvs:List (List Key×V),(∀ x∈holdM ps,∀ y∈holdM ps,valV kvs [.inl x,.inl y]=some (.int (pcM ps x y ps.length)))->R (.own (.dT kvs))
def Zhz:Pc:=fun ds R _=>∃ (ms:List Int) (l:Int) (le pa:List (List Key×V)) (c:Int->Int) (v:Int),ds=[tD ms,.int l,.dT le,.dT pa]/\ms.length<=1000/\valV le (kT (lessM ms l))=some (.int v)/\
 (∀ m∈lessM ms l,valV pa [.inl m,.inl l]=some (.int (c m)))/\R (.sh (.int (v + ((lessM ms l).map c).sum)))
def Zhe:Pc:=fun ds R _=>∃ (ms:List Int) (l:Int) (le pa:List (List Key×V)) (c:Int->Int) (v:Int),ds=[tD ms,.int l,.dT le,.dT pa]/\ms.length<=1000/\valV le (kT (lessM ms l))=some (.int v)/\
 (∀ m∈lessM ms l,valV pa [.inl l,.inl m]=some (.int (c m)))/\R (.sh (.int (v + ((lessM ms l).map c).sum)))
def Zqt:Pc:=fun ds R _=>∃ (ns:List Int) (k:Int),ds=[.scr ns,.int k]/\0<=k/\∀ v:Int,R (.sh (.int v))
def Zo1:Pc:=fun ds R _=>∃ ns:List Int,ds=[.scr ns]/\∀ v:Int,R (.sh (.int v))
def Zs9:Pc:=fun ds R _=>∃ xs:List Int,ds=[.lst (xs.map D.int),.lst (xs.map D.int)]/\xs.length<=1000000/\R (.sh (.bl true))
def Zkw:Pc:=fun ds R _=>∃ (ws:List (Int×Int)) (hs:List Int),ds=[.lst (ws.map prD),.lst (hs.map D.int)]/\ws.length<=40/\hs.length<=50/\
 ∀ ks:List (Int×Int),ks.Sublist ws->peelsM ks hs hs.length=[]->R (.own (ks.map prD))
def Znl:Pc:=fun ds R _=>∃ (ps:List (Int×Int)) (o:List Int),ds=[plD ps,.lst (o.map D.int)]/\Field ps/\ps.length<=40/\o.Perm (holdM ps)/\∀ ms:List Mo,Mv ps (rkN ps o) (runI 1 ps.length) ms->R (.own (ms.map mvD))
def Zo8:Pc:=fun ds R _=>∃ (hs:List Int) (ws:List (Int×Int)),ds=[.lst (hs.map D.int),.lst (ws.map prD)]/\hs.Nodup/\hs.length<=50/\∀ r,FR hs ws r->r.length<=60->R (.sh (.lst (r.map D.int)))
def Zlo:Pc:=fun ds R _=>∃ (ps ws:List (Int×Int)) (pa:List (List Key×V)) (c:Int->Int->Int),ds=[.lst (ps.map prD),.lst (ws.map prD),.dT pa]/\Field ps/\ps.length<=50/\ws.length<=50/\(∀ q∈ws,q.1≠q.2)/\
 (∀ x∈holdM ps,∀ y∈holdM ps,valV pa [.inl x,.inl y]=some (.int (c x y)))/\HasLast (holdM ps) ws/\∀ kvs,Tab ws c (setsM (holdM ps)) kvs->R (.own (.dT kvs))
def Zj9 (C:Addr):Pw:=fun o ss R X=>∃ (x:Addr) (ps:List (Int×Int)),o=.ins x C [] []/\ss=[.sh (plD ps)]/\ps.length<=1000/\tellE (stripE ps) (X (.ins x C [] [])) (∀ b1 b2 b3,R (vO C x b1 b2 b3 [] [ps] [[]]) .non)
def vwishE (bk:List (Str×List Int)) (w:List (Int×Int)) (a b:Int):Option Str:=if 100<=bk.length then some "BookFull" else wishE w a b
def Zk0 (C:Addr):Pw:=fun o ss R X=>∃ (x b1 b2 b3:Addr) (bk:List (Str×List Int)) (fs ws:List (List (Int×Int))) (f w:List (Int×Int)) (p h:Int),o=vO C x b1 b2 b3 bk (fs++[f]) (ws++[w])/\ss=[.sh (.int p),.sh (.int h)]/\bk.length<=1000/\fs.length<=900/\ws.length<=900/\w.length<=1000/\
 tellE (vwishE bk w p h) (X (vO C x b1 b2 b3 bk (fs++[f]) (ws++[w]))) (R (vO C x b1 b2 b3 (bk++[(("wish" : Str),[p,h])]) (fs++[f]++[f]) (ws++[w]++[w++[(p,h)]])) (.int (bk.length + 1)))
def Zmw:Pc:=fun ds R _=>∃ (ns m:List Int) (n:Int),ds=[.scr ns,.lst (m.map D.int),.int n]/\Menu m/\0<=n/\n<=1000/\∀ ps:List (Int×Int),Field ps->ps.length=n.toNat->R (.own (ps.map prD))
def Znk:Pc:=fun ds R _=>∃ (ns m:List Int),ds=[.scr ns,.lst (m.map D.int)]/\Menu m/\∀ ws,Wishes ws->R (.own (ws.map prD))
def Zfx:Pc:=fun ds R _=>∃ ms:List Mo,ds=[.lst (ms.map mvD)]/\R (.sh (.bl true))
def Zjc:Pc:=fun ds R _=>∃ (ps ws:List (Int×Int)),ds=[.lst (ps.map prD),.lst (ws.map prD)]/\Field ps/\ps.length<=50/\(∀ q∈ws,q.1≠q.2)/\(¬ ∃ r,Ring (holdM ps) ws r)/\R (.sh .non)
def Zjy (C:Addr):Pc:=fun ds R _=>∃ (bk:List (Str×List Int)) (fs ws:List (List (Int×Int))) (f w:List (Int×Int)),ds=[vilD C bk (fs++[f]) (ws++[w])]/\Field f/\f.length<=50/\∀ r,FR (holdM f) w r->r.length<=60->R (.sh (.lst (r.map D.int)))
def pcc (ps:List (Int×Int)):Int->Int->Int:=fun x y=>pcM ps x y ps.length
def Zni:Pc:=fun ds R _=>∃ (ps ws:List (Int×Int)),ds=[.lst (ps.map prD),.lst (ws.map prD)]/\Field ps/\ps.length<=50/\ws.length<=50/\(∀ q∈ws,q.1≠q.2)/\(¬ ∃ r,Ring (holdM ps) ws r)/\
 ∀ vs,TabV ws (pcc ps) (setsM (holdM ps)) vs->R (.own (vs.map D.int))
def Znc:Pc:=fun ds R _=>∃ (ps ws:List (Int×Int)),ds=[.lst (ps.map prD),.lst (ws.map prD)]/\Field ps/\ps.length<=50/\ws.length<=50/\(∀ q∈ws,q.1≠q.2)/\(¬ ∃ r,Ring (holdM ps) ws r)/\
 ∀ o,Best ws (pcc ps) (holdM ps) o->R (.own (o.map D.int))
def Zpp (C:Addr):Pc:=fun ds R _=>∃ (ps ws:List (Int×Int)),ds=[plD ps,plD ws]/\Field ps/\ps.length<=40/\Wishes ws/\∀ (x b1 b2 b3:Addr) (bk:List (Str×List Int)) (fs us:List (List (Int×Int))),bk.length<=20->fs.length<=20->us.length<=20->R (.own (vO C x b1 b2 b3 bk (fs++[ps]) (us++[ws])))
def Zm7:Pc:=fun ds R _=>∃ (ps ws:List (Int×Int)),ds=[.lst (ps.map prD),.lst (ws.map prD)]/\Field ps/\ps.length<=50/\ws.length<=50/\(∀ q∈ws,q.1≠q.2)/\(¬ ∃ r,Ring (holdM ps) ws r)/\
 ∀ v,Least ws (pcc ps) (holdM ps) v->R (.sh (.int v))
def Zi1 (C:Addr):Pc:=fun ds R _=>∃ (bk:List (Str×List Int)) (fs ws:List (List (Int×Int))) (f w:List (Int×Int)),ds=[vilD C bk (fs++[f]) (ws++[w])]/\Field f/\f.length<=50/\w.length<=50/\(∀ q∈w,q.1≠q.2)/\(¬ ∃ r,Ring (holdM f) w r)/\∀ o,Best w (pcc f) (holdM f) o->R (.own (o.map D.int))
def Zj3 (C:Addr):Pc:=fun ds R _=>∃ (bk:List (Str×List Int)) (fs ws:List (List (Int×Int))) (f w:List (Int×Int)),ds=[vilD C bk (fs++[f]) (ws++[w])]/\Field f/\f.length<=50/\w.length<=50/\(∀ q∈w,q.1≠q.2)/\(¬ ∃ r,Ring (holdM f) w r)/\∀ v,Least w (pcc f) (holdM f) v->R (.sh (.int v))
def Zjf (C:Addr):Pc:=fun ds R _=>∃ (bk:List (Str×List Int)) (fs ws:List (List (Int×Int))) (f w:List (Int×Int)),ds=[vilD C bk (fs++[f]) (ws++[w])]/\Field f/\f.length<=40/\w.length<=50/\(∀ q∈w,q.1≠q.2)/\(¬ ∃ r,Ring (holdM f) w r)/\∀ o ms,Best w (pcc f) (holdM f) o->Mv f (rkN f o) (runI 1 f.length) ms->R (.own (ms.map mvD))
variable (P:Program) (w:World) (K:PySem.W.Frag) (mg:Str->Option Value) (base:Heap)
abbrev Zd0:Prop:=Callee P w K mg base (ExcR.CXe P w) 1 "check_holder" ["holder"] (Pu.spOf mg Zkc K)
abbrev Zgj:Prop:=Callee P w K mg base (ExcR.CXe P w) 1 "check_width" ["width"] (Pu.spOf mg Zlf K)
abbrev Zbz:Prop:=Callee P w K mg base CX0 1 "holders_of" ["strips"] (Pu.spOf mg Zg7 K)
abbrev Zns:Prop:=Callee P w K mg base CX0 1 "pair_cost" ["strips", "ahead", "behind"] (Pu.spOf mg Ziq K)
abbrev Zej:Prop:=Callee P w K mg base CX0 1 "own_numbers" ["strips"] (Pu.spOf mg Zle K)
abbrev Zdj:Prop:=Callee P w K mg base CX0 1 "exchange_cost" ["strips", "numbers", "place"] (Pu.spOf mg Zi4 K)
abbrev Zfo:Prop:=Callee P w K mg base CX0 1 "exchanged" ["numbers", "place"] (Pu.spOf mg Zn5 K)
abbrev Zdl:Prop:=Callee P w K mg base CX0 1 "first_wrong_place" ["numbers", "ranks"] (Pu.spOf mg Zge K)
abbrev Zd1:Prop:=Callee P w K mg base (ExcR.CXe P w) 1 "check_neighbours" ["strips", "place"] (Pu.spOf mg Zgv K)
abbrev Zft:Prop:=Callee P w K mg base CX0 1 "longer_paths" ["paths", "left", "wishes"] (Pu.spOf mg Zks K)
abbrev Zly:Prop:=Callee P w K mg base CX0 1 "sets_of" ["holders"] (Pu.spOf mg Zr8 K)
abbrev Zf7:Prop:=Callee P w K mg base CX0 1 "without" ["members", "holder"] (Pu.spOf mg Zsr K)
abbrev Zfr:Prop:=Callee P w K mg base CX0 1 "may_lie_last" ["members", "holder", "wishes"] (Pu.spOf mg Zk7 K)
abbrev Zfc:Prop:=Callee P w K mg base CX0 1 "may_lie_first" ["members", "holder", "wishes"] (Pu.spOf mg Zjj K)
abbrev Zb:Prop:=Pu.CalleeM P w K mg base CX0 1 (Meth K (ExcR.clsOf mg "Village") "strips") ["self"] (Pu.spOf mg (Zh4 (ExcR.clsOf mg "Village")) K)
abbrev Zbl:Prop:=Pu.CalleeM P w K mg base CX0 1 (Meth K (ExcR.clsOf mg "Village") "wishes") ["self"] (Pu.spOf mg (Zh2 (ExcR.clsOf mg "Village")) K)
abbrev Zjg:Prop:=Pu.CalleeM P w K mg base CX0 1 (Meth K (ExcR.clsOf mg "Village") "deeds") ["self"] (Pu.spOf mg (Zjd (ExcR.clsOf mg "Village")) K)
abbrev Zda:Prop:=Pu.CalleeM P w K mg base (ExcR.CXe P w) 1 (Meth K (ExcR.clsOf mg "Village") "check_room") ["self"] (Pu.spOf mg (Zfw (ExcR.clsOf mg "Village")) K)
abbrev Zfa:Prop:=Pu.CalleeM P w K mg base CX0 1 (Meth K (ExcR.clsOf mg "Village") "enter") ["self", "deed", "field", "wishes"] (Pu.spW mg (Zi3 (ExcR.clsOf mg "Village")) K)
abbrev Zh:Prop:=Callee P w K mg base CX0 1 "_law_at" ["_law_script", "_law_k"] (Pu.spOf mg Ztn K)
abbrev Ziw:Prop:=Callee P w K mg base CX0 1 "_law_whole" ["_law_found"] (Pu.spOf mg Zo6 K)
abbrev Zi:Prop:=Callee P w K mg base CX0 1 "_law_mix" ["_law_cell", "_law_place"] (Pu.spOf mg Zsz K)
abbrev Zku:Prop:=Callee P w K mg base CX0 1 "_law_menu" ["_law_cell"] (Pu.spOf mg Zp8 K)
abbrev Zey:Prop:=Callee P w K mg base CX0 1 "_law_holder" ["_law_menu_here", "_law_k"] (Pu.spOf mg Zms K)
abbrev Zlb:Prop:=Callee P w K mg base CX0 1 "_law_present" ["_law_strips_here"] (Pu.spOf mg Zgg K)
abbrev Zn6:Prop:=Callee P w K mg base CX0 1 "_law_price" ["_law_strips_here", "_law_order"] (Pu.spOf mg Zio K)
abbrev Zlw:Prop:=Callee P w K mg base CX0 1 "_law_no_ring" ["_law_holders", "_law_wishes_here"] (Pu.spOf mg Zgk K)
abbrev Zgh:Prop:=Callee P w K mg base CX0 1 "_law_carried" ["_law_told", "_law_strips_here"] (Pu.spOf mg Zli K)
abbrev Zf0:Prop:=Callee P w K mg base (ExcR.CXe P w) 2 "check_strips" ["strips"] (Pu.spOf mg Zj1 K)
abbrev Zgm:Prop:=Callee P w K mg base (ExcR.CXe P w) 2 "check_order" ["strips", "order"] (Pu.spOf mg Zln K)
abbrev Zgp:Prop:=Callee P w K mg base (ExcR.CXe P w) 2 "walk_places" ["strips", "places"] (Pu.spOf mg Zlg K)
abbrev Zig:Prop:=Callee P w K mg base CX0 2 "ring_from" ["least", "holders", "wishes"] (Pu.spOf mg Znz K)
abbrev Zis:Prop:=Callee P w K mg base (ExcR.CXe P w) 2 "with_wish" ["wishes", "ahead", "behind"] (Pu.spOf mg Zn4 K)
abbrev Ze0:Prop:=Callee P w K mg base CX0 2 "pair_costs" ["strips"] (Pu.spOf mg Zm9 K)
abbrev Zes:Prop:=Callee P w K mg base CX0 2 "cost_with_last" ["members", "last", "least", "pairs"] (Pu.spOf mg Zhz K)
abbrev Zd4:Prop:=Callee P w K mg base CX0 2 "cost_with_first" ["members", "first", "least", "pairs"] (Pu.spOf mg Zhe K)
abbrev Ze5:Prop:=Callee P w K mg base CX0 2 "_law_draw" ["_law_script", "_law_k"] (Pu.spOf mg Zqt K)
abbrev Zii:Prop:=Callee P w K mg base CX0 2 "_law_spare" ["_law_script"] (Pu.spOf mg Zo1 K)
abbrev Zic:Prop:=Callee P w K mg base CX0 2 "_law_row" ["_law_found", "_law_due"] (Pu.spOf mg Zs9 K)
abbrev Zfs:Prop:=Callee P w K mg base CX0 2 "_law_keepable" ["_law_wishes_here", "_law_holders"] (Pu.spOf mg Zkw K)
abbrev Zg0:Prop:=Callee P w K mg base CX0 3 "told_moves" ["strips", "order"] (Pu.spOf mg Znl K)
abbrev Zfz:Prop:=Callee P w K mg base CX0 3 "find_ring" ["holders", "wishes"] (Pu.spOf mg Zo8 K)
abbrev Zek:Prop:=Callee P w K mg base CX0 3 "least_costs" ["strips", "wishes", "pairs"] (Pu.spOf mg Zlo K)
abbrev Zfu:Prop:=Pu.CalleeM P w K mg base (ExcR.CXe P w) 3 (Mk K (ExcR.clsOf mg "Village")) ["self", "strips"] (Pu.spW mg (Zj9 (ExcR.clsOf mg "Village")) K)
abbrev Zfj:Prop:=Pu.CalleeM P w K mg base (ExcR.CXe P w) 3 (Meth K (ExcR.clsOf mg "Village") "wish") ["self", "ahead", "behind"] (Pu.spW mg (Zk0 (ExcR.clsOf mg "Village")) K)
abbrev Zgx:Prop:=Callee P w K mg base CX0 3 "_law_strips" ["_law_script", "_law_menu_here", "_law_many"] (Pu.spOf mg Zmw K)
abbrev Zhh:Prop:=Callee P w K mg base CX0 3 "_law_wishes" ["_law_script", "_law_menu_here"] (Pu.spOf mg Znk K)
abbrev Zdc:Prop:=Callee P w K mg base CX0 3 "_law_moves_are_rows" ["_law_told"] (Pu.spOf mg Zfx K)
abbrev Zdi:Prop:=Callee P w K mg base CX0 4 "check_no_ring" ["strips", "wishes"] (Pu.spOf mg Zjc K)
abbrev Zkl:Prop:=Pu.CalleeM P w K mg base CX0 4 (Meth K (ExcR.clsOf mg "Village") "ring") ["self"] (Pu.spOf mg (Zjy (ExcR.clsOf mg "Village")) K)
abbrev Zhc:Prop:=Callee P w K mg base CX0 5 "cost_table" ["strips", "wishes"] (Pu.spOf mg Zni K)
abbrev Zg3:Prop:=Callee P w K mg base CX0 5 "best_order" ["strips", "wishes"] (Pu.spOf mg Znc K)
abbrev Zkv:Prop:=Callee P w K mg base CX0 5 "_law_made" ["_law_strips_here", "_law_wishes_here"] (Pu.spOf mg (Zpp (ExcR.clsOf mg "Village")) K)
abbrev Zg5:Prop:=Callee P w K mg base CX0 6 "least_cost" ["strips", "wishes"] (Pu.spOf mg Zm7 K)
abbrev Zdg:Prop:=Pu.CalleeM P w K mg base CX0 6 (Meth K (ExcR.clsOf mg "Village") "order") ["self"] (Pu.spOf mg (Zi1 (ExcR.clsOf mg "Village")) K)
abbrev Zfm:Prop:=Pu.CalleeM P w K mg base CX0 7 (Meth K (ExcR.clsOf mg "Village") "cost") ["self"] (Pu.spOf mg (Zj3 (ExcR.clsOf mg "Village")) K)
abbrev Zfe:Prop:=Pu.CalleeM P w K mg base CX0 7 (Meth K (ExcR.clsOf mg "Village") "moves") ["self"] (Pu.spOf mg (Zjf (ExcR.clsOf mg "Village")) K)
abbrev Zyt:Prop:=Callee P w K mg base CX0 8 "law" ["_law_script"] (Pu.spOf mg Zxk K)
end M
namespace M
open PySem PySem.Spec PyProof.Rows L2 Own Pu
theorem Zmh {α:Type} {xs:List α} {i:Nat} {d:α} (h:i < xs.length):xs.getD i d=xs[i]:=by rw [Uac,Uaa h];rfl
theorem Zq4 {α:Type} {xs:List α} {i:Nat} {d:α} (h:i < xs.length):xs.getD i d=xs[i]:=by rw [Uac,Uaa h];rfl
theorem Zyg {ns:List Int} {p:Int} (h1:1<=p) (h2:p < ns.length) {b1:p.toNat < ns.length} {b2:(p - 1).toNat < ns.length}:cutD (ns.map D.int) none (some (p - 1))++[D.int ns[p.toNat],D.int ns[(p - 1).toNat]]++cutD (ns.map D.int) (some (p + 1)) none=(swapM ns p.toNat).map D.int:=by
 unfold swapM
 rw [Zg6,Zg6,Zum ns (by omega),Zke ns (by omega),Uaq,Uaq]
 have e1:p.toNat - 1=(p - 1).toNat:=by omega
 have e2:p.toNat + 1=(p + 1).toNat:=by omega
 rw [e1,e2,Zq4 b1,Zq4 b2]
 rfl
def Pd (ps:List (List Int)) (ls:List Int) (i j:Nat) (p:List Int) (h:Int):Prop:=(p∈ps.take i/\h∈ls)\/(ps[i]?=some p/\h∈ls.take j)
structure LGs (ws:List (Int×Int)) (l:Int) (P:List Int->Int->Prop) (ls:List Int) (lg:List (List Int)) (kvs:List (Key×V)):Prop where
 g:LG ws l P lg
 nd:(lg.map (lastI l)).Nodup
 sub:∀ h∈lg.map (lastI l),h∈ls
 rc:∀ h:Int,(valV kvs (.inl h)).isSome=true↔h∈lg.map (lastI l)
 len:kvs.length<=lg.length
theorem LGs.len_le {ws:List (Int×Int)} {l:Int} {P:List Int->Int->Prop} {ls:List Int} {lg:List (List Int)} {kvs:List (Key×V)} (L:LGs ws l P ls lg kvs):lg.length<=ls.length:=by
 have:=Zh9 L.nd L.sub
 rwa [Uab] at this
theorem LG.congr {ws:List (Int×Int)} {l:Int} {P P':List Int->Int->Prop} {lg:List (List Int)} (h:∀ p x,P p x↔P' p x) (G:LG ws l P lg):LG ws l P' lg:=
 ⟨fun q hq=>let ⟨p,x,a,b⟩:=G.mem q hq;⟨p,x,(h p x).mp a,b⟩,G.srt,fun p x a b=>G.has p x ((h p x).mpr a) b⟩
theorem LGs.congr {ws:List (Int×Int)} {l:Int} {P P':List Int->Int->Prop} {ls:List Int} {lg:List (List Int)} {kvs:List (Key×V)} (h:∀ p x,P p x↔P' p x) (G:LGs ws l P ls lg kvs):LGs ws l P' ls lg kvs:=⟨G.g.congr h,G.nd,G.sub,G.rc,G.len⟩
theorem LGs.start {ps:List (List Int)} {ls:List Int} {ws:List (Int×Int)} {l:Int}:LGs ws l (Pd ps ls 0 0) ls [] []:=by
 refine ⟨⟨(fun q hq=>by cases hq),List.Pairwise.nil,fun p h a=>?_⟩,Ub9,(fun h hh=>by cases hh),(fun h=>by simp [valV]),Uah _⟩
 rcases a with ⟨a,_⟩ | ⟨_,a⟩
 ·rw [Uc0] at a;cases a
 ·rw [Uc0] at a;cases a
theorem LGs.skip {ps:List (List Int)} {ls:List Int} {ws:List (Int×Int)} {l:Int} {lg:List (List Int)} {kvs:List (Key×V)} {i j:Nat} {p:List Int} {h:Int} (hp:ps[i]?=some p) (hh:ls[j]?=some h) (hs:ps.Pairwise sl)
  (G:LGs ws l (Pd ps ls i j) ls lg kvs) (no:(valV kvs (.inl h)).isSome=true\/(lastI l p,h)∉ws):LGs ws l (Pd ps ls i (j + 1)) ls lg kvs:=by
 obtain ⟨hj,ej⟩:=Uas.mp hh
 obtain ⟨hi,ei⟩:=Uas.mp hp
 have tk:∀ x,x∈ls.take (j + 1)↔x∈ls.take j\/x=h:=fun x=>by rw [Uau hj,Ua0,Uag,ej]
 refine ⟨⟨fun q hq=>?_,G.g.srt,fun p' x a b=>?_⟩,G.nd,G.sub,G.rc,G.len⟩
 ·obtain ⟨p',x,a,b⟩:=G.g.mem q hq
  exact ⟨p',x,a.imp id fun z=>⟨z.1,(tk x).mpr (.inl z.2)⟩,b⟩
 ·rcases a with a | ⟨a1,a2⟩
  ·exact G.g.has p' x (.inl a) b
  ·rcases (tk x).mp a2 with a2 | rfl
   ·exact G.g.has p' x (.inr ⟨a1,a2⟩) b
   ·rw [hp] at a1
    cases a1
    rcases no with no | no
    ·obtain ⟨q,hq,e⟩:=Ua5.mp ((G.rc x).mp no)
     obtain ⟨p'',x',c1,rfl,c2⟩:=G.g.mem q hq
     have ex:x'=x:=by rw [Zbo] at e;exact e
     subst ex
     refine ⟨p'',hq,?_⟩
     rcases c1 with ⟨c1,_⟩ | ⟨c1,_⟩
     ·obtain ⟨m,hm,em'⟩:=Ubd.mp c1
      rw [Ua4] at hm
      rw [Ub1] at em'
      have:=Ubl.mp hs m i (by omega) hi (by omega)
      rw [em',ei] at this
      exact .inr this
     ·rw [hp] at c1
      cases c1
      exact .inl rfl
    ·exact absurd b no
theorem LGs.put {ps:List (List Int)} {ls:List Int} {ws:List (Int×Int)} {l:Int} {lg:List (List Int)} {kvs:List (Key×V)} {i j:Nat} {p:List Int} {h:Int} (hp:ps[i]?=some p) (hh:ls[j]?=some h) (hs:ps.Pairwise sl) (hl:ls.Pairwise (· < ·))
  (G:LGs ws l (Pd ps ls i j) ls lg kvs) (new:(valV kvs (.inl h)).isSome=false) (hw:(lastI l p,h)∈ws):LGs ws l (Pd ps ls i (j + 1)) ls (lg++[p++[h]]) (putK kvs (.inl h) (.bl true)):=by
 obtain ⟨hj,ej⟩:=Uas.mp hh
 obtain ⟨hi,ei⟩:=Uas.mp hp
 have tk:∀ x,x∈ls.take (j + 1)↔x∈ls.take j\/x=h:=fun x=>by rw [Uau hj,Ua0,Uag,ej]
 have lh:lastI l (p++[h])=h:=by rw [Zbo];rfl
 have nh:h∉lg.map (lastI l):=fun z=>by rw [(G.rc h).mpr z] at new;cases new
 refine ⟨⟨fun q hq=>?_,?_,fun p' x a b=>?_⟩,?_,fun x hx=>?_,fun x=>?_,?_⟩
 ·rcases Ua0.mp hq with hq | hq
  ·obtain ⟨p',x,a,b⟩:=G.g.mem q hq
   exact ⟨p',x,a.imp id fun z=>⟨z.1,(tk x).mpr (.inl z.2)⟩,b⟩
  ·rw [Uag.mp hq]
   exact ⟨p,h,.inr ⟨hp,(tk h).mpr (.inr rfl)⟩,rfl,hw⟩
 ·refine Uco.mpr ⟨G.g.srt,by simp,fun q hq q' hq'=>?_⟩
  rw [Uag.mp hq']
  obtain ⟨p',x,a,rfl,b⟩:=G.g.mem q hq
  rcases a with ⟨a,_⟩ | ⟨a1,a2⟩
  ·obtain ⟨m,hm,em'⟩:=Ubd.mp a
   rw [Ua4] at hm
   rw [Ub1] at em'
   have:=Ubl.mp hs m i (by omega) hi (by omega)
   rw [em',ei] at this
   exact Zqb x h this
  ·rw [hp] at a1
   cases a1
   obtain ⟨m,hm,em'⟩:=Ubd.mp a2
   rw [Ua4] at hm
   rw [Ub1] at em'
   have:=Ubl.mp hl m j (by omega) hj (by omega)
   rw [em',ej] at this
   exact Zu6 this
 ·have old:∀ p' x,Pd ps ls i j p' x->(lastI l p',x)∈ws->∃ p'',p''++[x]∈lg++[p++[h]]/\(p''=p'\/sl p'' p'):=fun p' x a b=>let ⟨p'',k1,k2⟩:=G.g.has p' x a b;⟨p'',Ub8 _ k1,k2⟩
  rcases a with a | ⟨a1,a2⟩
  ·exact old p' x (.inl a) b
  ·rcases (tk x).mp a2 with a2 | rfl
   ·exact old p' x (.inr ⟨a1,a2⟩) b
   ·rw [hp] at a1
    cases a1
    exact ⟨p,Ua3 _ (Uag.mpr rfl),.inl rfl⟩
 ·rw [Uaq,Ubz,lh]
  refine Ubu.mpr ⟨G.nd,by simp,fun a ha b hb=>?_⟩
  rw [Uag.mp hb]
  rintro rfl
  exact nh ha
 ·rw [Uaq,Ubz,lh] at hx
  rcases Ua0.mp hx with hx | hx
  ·exact G.sub x hx
  ·rw [Uag.mp hx,← ej]
   exact Uaw hj
 ·rw [Uaq,Ubz,lh,Zjq,Ua0,Uag]
  by_cases e:x=h
  ·subst e
   rw [Uae rfl]
   exact ⟨fun _=>.inr rfl,fun _=>rfl⟩
  ·rw [Uad (fun z=>e (Sum.inl.inj z)),G.rc]
   exact ⟨.inl,fun z=>z.elim id fun w=>absurd w e⟩
 ·rw [Uat]
  have:=Ze4 kvs (.inl h) (.bl true)
  have:=G.len
  simp
  omega
theorem Zkt (bs:List Int):∀ ls:List Int,ls.filterMap (fun h=>if decide (h∈bs)=true then some (V.int h) else none)=(ls.filter fun h=>decide (h∈bs)).map V.int
 | []=>rfl
 | x :: r=>by
  by_cases c1:x∈bs
  ·rw [Ucx (b:=V.int x) (by rw [Uaf c1];rfl),Ucc (by exact Uaf c1),Uai,Zkt bs r]
  ·rw [Ucy (by rw [Uam c1];rfl),Ucd (by rw [Uam c1];decide),Zkt bs r]
theorem Zil {α:Type} {c:α->Bool}:∀ {xs:List α} {x:α} {r:List α},xs.filter c=x :: r->∃ i,∃ hi:i < xs.length,xs[i]=x/\c x=true/\∀ j (hj:j < xs.length),j < i->c xs[j]=false
 | [],x,r,h=>by cases h
 | y :: ys,x,r,h=>by
  by_cases hy:c y=true
  ·rw [Ucc hy] at h
   cases h
   exact ⟨0,by simp,rfl,hy,fun j _ hj=>by omega⟩
  ·rw [Ucd hy] at h
   obtain ⟨i,hi,e1,e2,e3⟩:=Zil h
   refine ⟨i + 1,by simp;omega,by simpa using e1,e2,fun j hj hji=>?_⟩
   cases j with
   | zero=>simpa using hy
   | succ j=>simpa using e3 j (by simpa using hj) (by omega)
theorem pickI (c:Int->Bool):∀ ws:List Int,ws.filterMap (fun q=>if c q=true then some (D.int q) else none)=(ws.filter c).map D.int:=pickD c D.int
def FRi (hs:List Int) (ws:List (Int×Int)) (ns:List Int) (r:List Int):Prop:=
 (r=[]/\∀ l∈ns,∀ t,¬ Closed hs ws l t)\/∃ l t,r=l :: t/\l∈ns/\Closed hs ws l t/\∀ m∈ns,∀ u,Closed hs ws m u->t.length < u.length\/(t.length=u.length/\(l < m\/(l=m/\(t=u\/sl t u))))
theorem FRi.keep {hs:List Int} {ws:List (Int×Int)} {ns r f:List Int} {l:Int} (h:FRi hs ws ns r) (hl:∀ m∈ns,m < l) (hf:RF hs ws l f) (c:f=[]\/(r≠[]/\r.length<=f.length)):FRi hs ws (ns++[l]) r:=by
 rcases h with ⟨rfl,h⟩ | ⟨l',t,rfl,h1,h2,h3⟩
 ·rcases c with rfl | ⟨c,_⟩
  ·rcases hf with ⟨_,hf⟩ | ⟨t,e,_⟩
   ·refine .inl ⟨rfl,fun m hm=>?_⟩
    rcases Ua0.mp hm with hm | hm
    ·exact h m hm
    ·rw [Uag.mp hm]
     exact hf
   ·cases e
  ·exact absurd rfl c
 ·refine .inr ⟨l',t,rfl,Ub8 _ h1,h2,fun m hm u hu=>?_⟩
  rcases Ua0.mp hm with hm | hm
  ·exact h3 m hm u hu
  ·rw [Uag.mp hm] at hu ⊢
   rcases hf with ⟨rfl,hf⟩ | ⟨s,rfl,_,hf⟩
   ·exact absurd hu (hf u)
   ·rcases c with c | ⟨_,c⟩
    ·cases c
    ·have hl':=hl l' h1
     simp at c
     rcases hf u hu with z | ⟨z,_⟩
     ·exact .inl (by omega)
     ·by_cases e:t.length < u.length
      ·exact .inl e
      ·exact .inr ⟨by omega,.inl hl'⟩
theorem FRi.take {hs:List Int} {ws:List (Int×Int)} {ns r f:List Int} {l:Int} (h:FRi hs ws ns r) (hl:∀ m∈ns,m < l) (hf:RF hs ws l f) (c:f≠[]/\(r=[]\/f.length < r.length)):FRi hs ws (ns++[l]) f:=by
 rcases hf with ⟨rfl,_⟩ | ⟨s,rfl,f1,f2⟩
 ·exact absurd rfl c.1
 ·refine .inr ⟨l,s,rfl,Ua3 _ (Uag.mpr rfl),f1,fun m hm u hu=>?_⟩
  rcases Ua0.mp hm with hm | hm
  ·rcases h with ⟨rfl,h⟩ | ⟨l',t,rfl,h1,h2,h3⟩
   ·exact absurd hu (h m hm u)
   ·rcases c.2 with c | c
    ·cases c
    ·simp at c
     rcases h3 m hm u hu with z | ⟨z,_⟩
     ·exact .inl (by omega)
     ·exact .inl (by omega)
  ·rw [Uag.mp hm] at hu ⊢
   rcases f2 u hu with z | ⟨z,z2⟩
   ·exact .inl z
   ·exact .inr ⟨z,.inr ⟨rfl,z2⟩⟩
theorem FRi.all {hs:List Int} {ws:List (Int×Int)} {ns r:List Int} (hp:∀ z,z∈ns↔z∈hs) (h:FRi hs ws ns r):FR hs ws r:=by
 rcases h with ⟨rfl,h⟩ | ⟨l,t,rfl,h1,h2,h3⟩
 ·exact .inl ⟨rfl,fun l hl=>h l ((hp l).mpr hl)⟩
 ·exact .inr ⟨l,t,rfl,(hp l).mp h1,h2,fun m hm=>h3 m ((hp m).mpr hm)⟩
def tupLen (γ:List (Option Pu.S)):Nat:=match γ[4]? with
 | some (some (Pu.S.sh (Pu.D.tup ds)))=>ds.length
 | _=>0
theorem Zrz {α:Type} {xs:List α} {x:α} (h:xs[xs.length - 1]?=some x):atI xs (-1)=some x:=by
 have hi:=(Uas.mp h).1
 unfold atI ixN
 rw [Uad (by omega),Uae (by omega)]
 show xs[_]?=some x
 rw [← h]
 congr 1
 omega
end M
namespace T
open PySem PySem.Spec PyProof.Rows L2 Own M
section
variable {P:Program} {w:World} {K:PySem.W.Frag} {mg:Str->Option Value} {base:Heap}
theorem Znd (G:Glob K mg) (D:Def K mg "holders_of" Zec ["strips"])
  : Callee P w K mg base CX0 1 "holders_of" ["strips"] (Zho K):=by
 refine D.ok (k:=0) Zm8 (fun vs H Q E h=>?_) (fun f cdv A outer s H vs Q E hr h=>?_)
 ·obtain ⟨l,ps,rfl,⟨vs,hl,hv⟩,hF,hz,q⟩:=h
  rfl
 ·obtain ⟨l,ps,rfl,⟨vs,hl,hv⟩,hF,hz,q⟩:=h
  refine ⟨_,(Zaf (Zap (Zaq (Own.Zkd rfl) (by rfl) G.sorted boot_sorted (Za (Zbb (Own.Zwb rfl) (by rfl) G.set boot_set (Za (Own.Zbs (N':=["holder", "width"]) (φ:=[none,none]) rfl (Own.CompOk.of (by rfl)) (Ze1 (pv 0)) (fun _ _ _ _ _=>⟨(Own.Zgt (K:=K) (n:=2) rfl (Zbc (Zan (i:=0) (show (["holder", "width"]:List Str).Nodup from by decide +kernel) rfl (by first | exact Or.inl rfl | exact Or.inr rfl)) (Zbc (Zan (i:=1) (show (["holder", "width"]:List Str).Nodup from by decide +kernel) rfl (by first | exact Or.inl rfl | exact Or.inr rfl)) Zfy))),Own.Zbg,(pv 0)⟩)) Zad)) Zad)))),?_⟩
  have e1:=hv.1
  refine ⟨_,rfl,l,rfl,⟨_,SqL.of hl⟩,fun D nD=>Zet (ds:=ps) (fun d=>some (V.int d.1)) (SqL.of hl) e1 nD (Ual hz (by decide)) (fun i x d H2 hx hd S k hk=>?_) ?_⟩
  ·obtain ⟨d',hd',a,rfl,ha⟩:=hv.get hx
   rw [hd] at hd'
   cases hd'
   exact ⟨a,_,rfl,SqT.of (S _ _ ha),rfl,_,_,rfl,_,_,rfl,rfl,.skip (.skip .refl),_,rfl,hk⟩
  ·have em:ps.filterMap (fun d=>some (V.int d.1))=(ps.map (·.1)).map V.int:=by
    rw [Ubq,Ua8]
    rfl
   rw [em]
   have S1:Same H (upd H D (.lst ((ps.map (·.1)).map V.int))):=Zaw nD
   refine ⟨D,ps.map (·.1),rfl,SqL.of Zas,by rw [Uab];omega,fun s1 n1=>?_⟩
   have S2:=Own.Same.new (o:=SetH w s1 ((ps.map (·.1)).foldl SetR.addJ [])) S1 n1
   refine ⟨s1,_,rfl,?_,.inr Zas,fun r ns n2 hp hs=>?_⟩
   ·have:=Zmc (ps.map (·.1)) []
    rw [Uab] at this
    simp at this ⊢
    omega
   ·rw [Zpw hF hp hs]
    exact q r _ (S2.free n2) (Own.Same.new S2 n2) Zas
theorem Znu (G:Glob K mg) (D:Def K mg "pair_cost" Ze3 ["strips", "ahead", "behind"])
  : Callee P w K mg base CX0 1 "pair_cost" ["strips", "ahead", "behind"] (Zir K):=by
 refine D.ok (k:=0) sc_pair_cost (fun vs H Q E h=>?_) (fun f cdv A outer s H vs Q E hr h=>?_)
 ·obtain ⟨l,ps,x,y,rfl,⟨vs,hl,hv⟩,hF,q⟩:=h
  rfl
 ·obtain ⟨l,ps,x,y,rfl,⟨vs,hl,hv⟩,hF,q⟩:=h
  refine ⟨_,(Zac (Pu.pz 3 sc_pair_cost.nd Zah)
   (Zac (Pu.pz 4 sc_pair_cost.nd Zah)
   (Zac (Zb9 PassesOwn.never rfl (Ze1 (pv 0)) (Zw6 rfl (Zbc (Zan (i:=5) sc_pair_cost.nd rfl (by first | exact Or.inl rfl | exact Or.inr rfl)) (Zbc (Zan (i:=6) sc_pair_cost.nd rfl (by first | exact Or.inl rfl | exact Or.inr rfl)) Zfy)))
   (Zaf (Zbw (Zat op_eq (pv 5) (pv 2) (nomark _))
   (Zaf (Ztj (i:=3) sc_pair_cost.nd rfl (by first | exact Or.inl rfl | exact Or.inr rfl) (pv 6) Zts))
   (Zaf (Zbw (Zat op_eq (pv 5) (pv 1) (nomark _))
   (Zaf (Ztj (i:=4) sc_pair_cost.nd rfl (by first | exact Or.inl rfl | exact Or.inr rfl) (Zau Zhi (pv 3) (pv 6)) Zts))
   Zaz)))))
   (Zaf (Zap (pv 4)))))),?_⟩
  refine ⟨_,rfl,l,rfl,⟨_,SqL.of hl⟩,Zqz (xs:=vs) (fun i σ H2=>H2=H/\∃ (u v:Option V),σ=[some (.ref l),some (.int x),some (.int y),some (.int (tpM ps y i)),some (.int (pcM ps x y i)),u,v]) ⟨rfl,none,none,rfl⟩ (fun i σ H2 _ h=>by rw [h.1];exact SqL.of hl) ?_ ?_⟩
  ·rintro i v σ H2 hi ⟨rfl,u,v',rfl⟩
   obtain ⟨p,ep,a,rfl,ha⟩:=hv.get hi
   have hp:ps.getD i (0,0)=p:=by rw [Uac,ep];rfl
   have hw:=hF p (Uax ep)
   refine ⟨a,_,rfl,SqT.of ha,rfl,_,_,rfl,_,_,rfl,rfl,?_⟩
   refine ⟨_,rfl,_,rfl,rfl,_,rfl,ite2 (fun h=>?_) (fun h=>?_)⟩
   ·have e:p.1=y:=V.int.inj (Uap h)
    refine ⟨_,rfl,_,rfl,_,_,rfl,rfl,rfl,some (.int p.1),some (.int p.2),?_⟩
    have e1:tpM ps y (i + 1)=tpM ps y i + p.2:=by simp only [tpM];rw [hp,Uae e]
    have e2:pcM ps x y (i + 1)=pcM ps x y i:=by
     simp only [pcM]
     rw [hp,Uad (by rintro ⟨z1,z2⟩;exact z1 (z2.symm.trans e))]
     omega
    rw [e1,e2]
    rfl
   ·have e:¬ p.1=y:=fun z=>h (Uaf (Ube V.int z))
    have e1:tpM ps y (i + 1)=tpM ps y i:=by simp only [tpM];rw [hp,Uad e];omega
    refine ⟨_,rfl,_,rfl,rfl,_,rfl,ite2 (fun h'=>?_) (fun h'=>?_)⟩
    ·have e':p.1=x:=V.int.inj (Uap h')
     have e2:pcM ps x y (i + 1)=pcM ps x y i + tpM ps y i * p.2:=by
      simp only [pcM]
      rw [hp,Uae ⟨fun z=>e (e'.trans z),e'⟩]
     refine ⟨_,rfl,_,rfl,_,rfl,_,_,rfl,rfl,.inr ⟨by omega,by omega⟩,_,_,rfl,rfl,rfl,some (.int p.1),some (.int p.2),?_⟩
     rw [e1,e2]
     rfl
    ·have e':¬ p.1=x:=fun z=>h' (Uaf (Ube V.int z))
     have e2:pcM ps x y (i + 1)=pcM ps x y i:=by
      simp only [pcM]
      rw [hp,Uad (by rintro ⟨z1,z2⟩;exact e' z2)]
      omega
     refine ⟨rfl,some (.int p.1),some (.int p.2),?_⟩
     rw [e1,e2]
     rfl
  ·rintro σ H2 ⟨rfl,u,v,rfl⟩
   rw [hv.1]
   exact ⟨_,rfl,q⟩
theorem Zlj (G:Glob K mg) (D:Def K mg "_law_present" Zdy ["_law_strips_here"])
  : Callee P w K mg base CX0 1 "_law_present" ["_law_strips_here"] (Zgo K):=by
 refine D.ok (k:=0) sc_law_present (fun vs H Q E h=>?_) (fun f cdv A outer s H vs Q E hr h=>?_)
 ·obtain ⟨l,ps,rfl,⟨vs,hl,hv⟩,hz,q⟩:=h
  rfl
 ·obtain ⟨l,ps,rfl,⟨vs,hl,hv⟩,hz,q⟩:=h
  refine ⟨_,(Zac (Pu.pz 1 sc_law_present.nd (Own.Zbs (N':=["_law_strip"]) (φ:=[none]) rfl (Own.CompOk.of (by rfl)) (Ze1 (pv 0)) (fun _ _ _ _ _=>⟨(Zan (i:=0) (show (["_law_strip"]:List Str).Nodup from by decide +kernel) rfl (by first | exact Or.inl rfl | exact Or.inr rfl)),Own.Zbg,(Za4 (Own.Zar (K:=K)) (pv 0) Zah (fun _ _=>rfl))⟩)))
   (Zaf (Zap (Own.Zbs (N':=["_law_holder_here", "_law_owners"]) (φ:=[none,some 1]) rfl (Own.CompOk.of (by rfl)) (Zom rfl G.range (Za Zah (Za Zah Zad))) (fun _ _ _ _ _=>⟨(Zan (i:=0) (show (["_law_holder_here", "_law_owners"]:List Str).Nodup from by decide +kernel) rfl (by first | exact Or.inl rfl | exact Or.inr rfl)),(Own.Zc7 (Zat (Own.Zol (K:=K)) (pv 0) (pv 1) (by with_unfolding_all rfl))),(pv 0)⟩))))),?_⟩
  have e1:=hv.1
  refine ⟨_,rfl,l,rfl,⟨_,SqL.of hl⟩,fun D nD=>Zet (ds:=ps) (fun d=>some (V.int d.1)) (SqL.of hl) e1 nD (Ual hz (by decide)) (fun i x d H2 hx hd S k hk=>?_) ?_⟩
  ·obtain ⟨d',hd',a,rfl,ha⟩:=hv.get hx
   rw [hd] at hd'
   cases hd'
   exact ⟨.skip .refl,_,rfl,.inr ⟨_,_,_,_,rfl,rfl,SqT.of (S _ _ ha),rfl,hk⟩⟩
  ·have em:ps.filterMap (fun d=>some (V.int d.1))=(ps.map (·.1)).map V.int:=by
    rw [Ubq,Ua8]
    rfl
   rw [em]
   have S1:Same H (upd H D (.lst ((ps.map (·.1)).map V.int))):=Zaw nD
   have hD:(upd H D (.lst ((ps.map (·.1)).map V.int))) D=some (.lst ((ps.map (·.1)).map V.int)):=Zas
   generalize upd H D (.lst ((ps.map (·.1)).map V.int))=H1 at S1 hD ⊢
   refine ⟨1,11,rfl,by decide,fun D2 nD2=>Zsh (fun i=>if decide ((1:Int) + (i:Int)∈ps.map (·.1))=true then some (V.int (1 + (i:Int))) else none) nD2 (by decide) (fun i H2 hi S2 k hk=>?_) ?_⟩
   ·refine ⟨.skip (.keep .refl),_,rfl,_,rfl,D,_,rfl,.inl (SqL.of (S2 _ _ hD)),rfl,Zbx _,_,rfl,?_⟩
    show if inV (V.int (1 + (i:Int))) ((ps.map (·.1)).map V.int)=true then _ else _
    rw [Zhy]
    by_cases h:(1:Int) + (i:Int)∈ps.map (·.1)
    ·rw [Uaf h] at hk ⊢
     exact iteT ⟨_,rfl,hk⟩
    ·rw [Uam h] at hk ⊢
     exact iteF hk
   ·have e10:((11:Int) - 1).toNat=10:=rfl
    rw [e10,Zp5]
    exact q D2 _ (S1.free nD2) (Own.Same.new S1 nD2) Zas
theorem Zpe (G:Glob K mg) (D:Def K mg "_law_price" Ze9 ["_law_strips_here", "_law_order"])
  : Callee P w K mg base CX0 1 "_law_price" ["_law_strips_here", "_law_order"] (Ziy K):=by
 refine D.ok (k:=0) sc_law_price (fun vs H Q E h=>?_) (fun f cdv A outer s H vs Q E hr h=>?_)
 ·obtain ⟨l,o,ps,os,rfl,⟨vs,hl,hv⟩,hF,hz,ho,hin,q⟩:=h
  rfl
 ·obtain ⟨l,o,ps,os,rfl,⟨vs,hl,hv⟩,hF,hz,ho,hin,q⟩:=h
  refine ⟨_,(Zac (Own.Zb0 (N':=["_law_strip", "_law_order"]) (φ:=[none,some 1]) (i:=2) sc_law_price.nd rfl rfl rfl (Own.CompOk.of (by rfl)) (Ze1 (pv 0)) (fun _ _ _ _ _=>⟨(Zan (i:=0) (show (["_law_strip", "_law_order"]:List Str).Nodup from by decide +kernel) rfl (by first | exact Or.inl rfl | exact Or.inr rfl)),Own.Zbg,(Own.Zxc (K:=K) PySem.F.plainAttrs_list PySem.F.slot_list_index PySem.F.type_list_index (Own.Zn2 (K:=K)) (pv 1) (Za (Za4 (Own.Zar (K:=K)) (pv 0) Zah (fun _ _=>rfl)) Zad))⟩))
   (Zac (Pu.pz 3 sc_law_price.nd Zah)
   (Zac (Zb9 PassesOwn.never rfl (Zer rfl G.range (Za (Zaq Zq2 (by rfl) G.len PySem.boot_len (Za (pv 0) Zad)) Zad)) (Zan (i:=4) sc_law_price.nd rfl (by first | exact Or.inl rfl | exact Or.inr rfl))
   (Zaf (Zb9 PassesOwn.never rfl (Zer rfl G.range (Za (pv 4) Zad)) (Zan (i:=5) sc_law_price.nd rfl (by first | exact Or.inl rfl | exact Or.inr rfl))
   (Zaf (Zbw (Zat Zna (Za4 Own.Zqn (pv 2) (pv 5) (fun _ _=>rfl)) (Za4 Own.Zqn (pv 2) (pv 4) (fun _ _=>rfl)) (nomark _))
   (Zaf (Pu.pz 3 sc_law_price.nd (Zau Zca (pv 3) (Zau Zhi (Za4 Own.Zqn (Za4 Own.Zqn (pv 0) (pv 5) (fun _ _=>rfl)) Zah (fun _ _=>rfl)) (Za4 Own.Zqn (Za4 Own.Zqn (pv 0) (pv 4) (fun _ _=>rfl)) Zah (fun _ _=>rfl))))))
   Zaz)))))
   (Zaf (Zap (pv 3)))))),?_⟩
  have e1:=hv.1
  refine ⟨_,rfl,l,rfl,⟨_,SqL.of hl⟩,fun D nD=>Zet (ds:=ps) (fun d=>some (V.int (os.idxOf d.1:Nat))) (SqL.of hl) e1 nD (Ual hz (by decide)) (fun i x d H2 hx hd S k hk=>?_) ?_⟩
  ·obtain ⟨d',hd',a,rfl,ha⟩:=hv.get hx
   rw [hd] at hd'
   cases hd'
   exact ⟨.skip (.keep .refl),_,rfl,.inl ⟨rfl,_,S.seq ho⟩,_,rfl,.inr ⟨_,_,_,_,rfl,rfl,SqT.of (S _ _ ha),rfl,o,os,_,rfl,rfl,S.seq ho,hin d (Uax hd),hk⟩⟩
  ·have em:ps.filterMap (fun d=>some (V.int (os.idxOf d.1:Nat)))=(ps.map fun d=>(os.idxOf d.1:Int)).map V.int:=by
    rw [Ubq,Ua8]
    rfl
   rw [em]
   generalize er:ps.map (fun d=>(os.idxOf d.1:Int))=rs
   have lr:rs.length=ps.length:=by rw [← er,Uab]
   have gr:∀ (j:Nat) (hj:j < ps.length),atI (rs.map V.int) (0 + (j:Int))=some (.int (os.idxOf ps[j].1:Nat)):=fun j hj=>by
    have ez:(0:Int) + (j:Int)=(j:Int):=by omega
    rw [ez,← er]
    exact Zeh (Zfn (by rw [Uaj,Uaa hj];rfl))
   have S1:=Zaw (o:=.lst (rs.map V.int)) nD
   have hD:(upd H D (.lst (rs.map V.int))) D=some (.lst (rs.map V.int)):=Zas
   have hl1:=S1 _ _ hl
   have hv1:=hv.mono PairR.mono S1
   generalize upd H D (.lst (rs.map V.int))=H1 at S1 hD hl1 hv1 ⊢
   have hP:=SqL.of (K:=K) hl1
   have hDs:=SqL.of (K:=K) hD
   refine ⟨_,rfl,_,_,rfl,.inl ⟨_,hP,rfl⟩,_,rfl,by omega,by omega,Znr (fun k σ H'=>H1=H'/\∃ u v:Option V,σ=[some (.ref l),some (.ref o),some (.ref D),some (.int (priM ps os k)),u,v]) ⟨rfl,none,none,rfl⟩ ?_ ?_⟩
   ·rintro k σ H' hk ⟨rfl,u,v,rfl⟩
    have hk':k < ps.length:=by omega
    have ek:(0:Int) + (k:Int)=(k:Int):=by omega
    obtain ⟨vk,evk,b,rfl,hb⟩:=hv1.2 k ps[k] (by simp [hk'])
    have avk:atI vs (0 + (k:Int))=some (.ref b):=by rw [ek];exact Zfn evk
    have hgk:ps.getD k (0,0)=ps[k]:=by rw [Uac,Uaa hk'];rfl
    have hwk:=hF ps[k] (Uaw hk')
    refine ⟨_,rfl,_,rfl,by omega,by omega,Znr (fun j σ H'=>H1=H'/\∃ v:Option V,σ=[some (.ref l),some (.ref o),some (.ref D),some (.int (priM ps os k + rsM ps os ps[k].1 j * ps[k].2)),some (.int (0 + (k:Int))),v]) ⟨rfl,v,by simp [rsM]⟩ ?_ ?_⟩
    ·rintro j σ H' hj ⟨rfl,v,rfl⟩
     have hj':j < ps.length:=by omega
     have ej:(0:Int) + (j:Int)=(j:Int):=by omega
     obtain ⟨vj,evj,d,rfl,hd'⟩:=hv1.2 j ps[j] (by simp [hj'])
     have avj:atI vs (0 + (j:Int))=some (.ref d):=by rw [ej];exact Zfn evj
     have hgj:ps.getD j (0,0)=ps[j]:=by rw [Uac,Uaa hj'];rfl
     have hwj:=hF ps[j] (Uaw hj')
     refine ⟨_,rfl,_,rfl,.inl ⟨_,_,_,_,rfl,rfl,hDs,gr j hj',_,rfl,_,rfl,.inl ⟨_,_,_,_,rfl,rfl,hDs,gr k hk',_,_,rfl,rfl,_,rfl,?_⟩⟩⟩
     have step:rsM ps os ps[k].1 (j + 1)=rsM ps os ps[k].1 j + (if os.idxOf ps[k].1 < os.idxOf ps[j].1 then ps[j].2 else 0):=by simp only [rsM];rw [hgj]
     by_cases hlt:os.idxOf ps[k].1 < os.idxOf ps[j].1
     ·rw [Uaf (show ((os.idxOf ps[k].1:Nat):Int) < ((os.idxOf ps[j].1:Nat):Int) by omega)]
      refine iteT ⟨_,rfl,_,rfl,_,rfl,.inl ⟨_,_,_,_,rfl,rfl,hP,avj,.inr ⟨_,_,_,_,rfl,rfl,SqT.of hd',rfl,_,rfl,_,rfl,.inl ⟨_,_,_,_,rfl,rfl,hP,avk,.inr ⟨_,_,_,_,rfl,rfl,SqT.of hb,rfl,_,_,rfl,rfl,.inl ⟨by omega,by omega⟩,_,_,rfl,rfl,rfl,some (.int (0 + (j:Int))),?_⟩⟩⟩⟩⟩
      rw [step,Uae hlt,Ucs,← Int.add_assoc]
      rfl
     ·rw [Uam (show ¬ ((os.idxOf ps[k].1:Nat):Int) < ((os.idxOf ps[j].1:Nat):Int) by omega)]
      refine iteF ⟨rfl,some (.int (0 + (j:Int))),?_⟩
      rw [step,Uad hlt,Int.add_zero]
      rfl
    ·rintro σ H' ⟨rfl,v,rfl⟩
     refine ⟨rfl,some (.int (0 + (k:Int))),v,?_⟩
     have e2:priM ps os (k + 1)=priM ps os k + rsM ps os ps[k].1 ((0:Int) + (k:Int)).toNat * ps[k].2:=by
      rw [ek,Ua2]
      simp only [priM]
      rw [hgk]
     rw [e2]
   ·rintro σ H' ⟨rfl,u,v,rfl⟩
    have e3:((vs.length:Int)).toNat=ps.length:=by omega
    rw [e3]
    exact ⟨_,rfl,q H1 S1⟩
theorem Zlu (G:Glob K mg) (D:Def K mg "_law_no_ring" Zdo ["_law_holders", "_law_wishes_here"])
  : Callee P w K mg base CX0 1 "_law_no_ring" ["_law_holders", "_law_wishes_here"] (Zgi K):=by
 refine D.ok (k:=0) sc_law_no_ring (fun vs H Q E h=>?_) (fun f cdv A outer s H vs Q E hr h=>?_)
 ·obtain ⟨l,p,hs,ws,rfl,hl,hz,hp,hw,q⟩:=h
  rfl
 ·obtain ⟨l,p,hs,ws,rfl,hl,hz,hp,hw,q⟩:=h
  refine ⟨_,(Zac (Pu.pz 2 sc_law_no_ring.nd (Zbb Zih (by rfl) G.list boot_list (Za (pv 0) Zad)))
   (Zac (Zb9 PassesOwn.never rfl (Ze1 (pv 0)) (Zan (i:=3) sc_law_no_ring.nd rfl (by first | exact Or.inl rfl | exact Or.inr rfl))
   (Zac (Own.Zb0 (N':=["_law_pair", "_law_left"]) (φ:=[none,some 2]) (i:=4) sc_law_no_ring.nd rfl rfl rfl (Own.CompOk.of (by rfl)) (Ze1 (pv 1)) (fun _ _ _ _ _=>⟨(Zan (i:=0) (show (["_law_pair", "_law_left"]:List Str).Nodup from by decide +kernel) rfl (by first | exact Or.inl rfl | exact Or.inr rfl)),(Own.Zc7 (PW.pt (Zrk (Zat (Own.Zol (K:=K)) (Za4 (Own.Zar (K:=K)) (pv 0) Zah (fun _ _=>rfl)) (pv 1) (by with_unfolding_all rfl)) (Zm1 (Zat (Own.Zol (K:=K)) (Za4 (Own.Zar (K:=K)) (pv 0) Zah (fun _ _=>rfl)) (pv 1) (by with_unfolding_all rfl)))))),(pv 0)⟩))
   (Zac (Pu.pz 5 sc_law_no_ring.nd (Own.Zbs (N':=["_law_pair"]) (φ:=[none]) rfl (Own.CompOk.of (by rfl)) (Ze1 (pv 4)) (fun _ _ _ _ _=>⟨(Zan (i:=0) (show (["_law_pair"]:List Str).Nodup from by decide +kernel) rfl (by first | exact Or.inl rfl | exact Or.inr rfl)),Own.Zbg,(Za4 (Own.Zar (K:=K)) (pv 0) Zah (fun _ _=>rfl))⟩)))
   (Zaf (Pu.pz 2 sc_law_no_ring.nd (Own.Zbs (N':=["_law_holder_here", "_law_behind"]) (φ:=[none,some 5]) rfl (Own.CompOk.of (by rfl)) (Ze1 (pv 2)) (fun _ _ _ _ _=>⟨(Zan (i:=0) (show (["_law_holder_here", "_law_behind"]:List Str).Nodup from by decide +kernel) rfl (by first | exact Or.inl rfl | exact Or.inr rfl)),(Own.Zc7 (Zat (Own.Zol (K:=K)) (pv 0) (pv 1) (by with_unfolding_all rfl))),(pv 0)⟩)))))))
   (Zaf (Zap (Zkn (Own.Zxi hr.units0) (pv 2) (Zbd Zad) (nomark _)))))),?_⟩
  refine ⟨_,rfl,_,_,rfl,.inl hl,fun L nL=>?_⟩
  have S1:=Zaw (o:=.lst (hs.map V.int)) nL
  have hL:(upd H L (.lst (hs.map V.int))) L=some (.lst (hs.map V.int)):=Zas
  generalize upd H L (.lst (hs.map V.int))=H1 at S1 hL ⊢
  refine ⟨_,rfl,l,rfl,⟨_,S1.seq hl⟩,Zqz (xs:=hs.map V.int) (fun i σ H'=>Same H H'/\∃ (c:Addr) (y1 y2 y3:Option V),σ=[some (.ref l),some (.ref p),some (.ref c),y1,y2,y3]/\H' c=some (.lst ((peelsM ws hs i).map V.int))/\(peelsM ws hs i).length<=50) ⟨S1,L,none,none,none,rfl,hL,hz⟩ (fun i σ H' _ h=>h.1.seq hl) ?_ ?_⟩
  ·rintro i x σ H2 hi ⟨S2,c,y1,y2,y3,rfl,hc,hcz⟩
   generalize els:peelsM ws hs i=ls at hc hcz
   have hp2:=hp.mono PairR.mono S2
   obtain ⟨us,hp1,hu⟩:=id hp2
   refine ⟨_,rfl,p,rfl,⟨_,SqL.of hp1⟩,fun D nD=>Zet (ds:=us.zip ws) (pick fun q=>decide (q.1∈ls) && decide (q.2∈ls)) (SqL.of hp1) (by rw [hu.zip_len,hu.1]) nD (Ual (show (us.zip ws).length<=50 by rw [hu.zip_len];exact hw) (by decide)) (fun j x d H3 hx hd S k hk=>?_) ?_⟩
   ·obtain ⟨e0,b,eb,hb⟩:=hu.zip_get hx hd
    subst eb
    have hb3:=S _ _ hb
    have hc3:=S _ _ hc
    refine ⟨.skip (.keep .refl),_,rfl,.inr ⟨_,_,_,_,rfl,rfl,SqT.of hb3,rfl,_,rfl,c,_,rfl,.inl (SqL.of hc3),rfl,Zbx _,_,rfl,?_⟩⟩
    show if inV (V.int d.2.1) (ls.map V.int)=true then _ else _
    rw [Zhy]
    by_cases c1:d.2.1∈ls
    ·rw [Uaf c1]
     refine iteT ⟨_,rfl,.inr ⟨_,_,_,_,rfl,rfl,SqT.of hb3,rfl,_,rfl,c,_,rfl,.inl (SqL.of hc3),rfl,Zbx _,_,rfl,?_⟩⟩
     show if inV (V.int d.2.2) (ls.map V.int)=true then _ else _
     rw [Zhy]
     by_cases c2:d.2.2∈ls
     ·rw [Uaf c2]
      refine iteT ⟨_,rfl,?_⟩
      have e2:pick (fun q:Int×Int=>decide (q.1∈ls) && decide (q.2∈ls)) d=some (.ref b):=(Uae (show (decide (d.2.1∈ls) && decide (d.2.2∈ls))=true by rw [Uaf c1,Uaf c2];rfl)).trans (Ube some e0)
      rw [e2] at hk
      exact hk
     ·rw [Uam c2]
      have e2:pick (fun q:Int×Int=>decide (q.1∈ls) && decide (q.2∈ls)) d=none:=Uad (show ¬ (decide (d.2.1∈ls) && decide (d.2.2∈ls))=true by rw [Uam c2,Bool.and_false];decide)
      rw [e2] at hk
      exact iteF hk
    ·rw [Uam c1]
     have e2:pick (fun q:Int×Int=>decide (q.1∈ls) && decide (q.2∈ls)) d=none:=Uad (show ¬ (decide (d.2.1∈ls) && decide (d.2.2∈ls))=true by rw [Uam c1,Udk];decide)
     rw [e2] at hk
     exact iteF (iteF hk)
   have S3:=Zaw (o:=.lst ((us.zip ws).filterMap (pick fun q=>decide (q.1∈ls) && decide (q.2∈ls)))) nD
   have hD:LAt PairR (upd H2 D (.lst ((us.zip ws).filterMap (pick fun q=>decide (q.1∈ls) && decide (q.2∈ls))))) D (insideM ws ls):=⟨_,Zas,(hu.pick _).mono PairR.mono S3⟩
   generalize upd H2 D (.lst ((us.zip ws).filterMap (pick fun q=>decide (q.1∈ls) && decide (q.2∈ls))))=H3 at S3 hD ⊢
   have hil:(insideM ws ls).length<=50:=Ual (Ubn _ _) hw
   unfold peelsM
   rw [els]
   unfold peelM
   generalize insideM ws ls=is at hD hil ⊢
   obtain ⟨vs,hD1,hv⟩:=id hD
   refine ⟨_,rfl,D,rfl,⟨_,SqL.of hD1⟩,fun B nB=>Zet (ds:=is) (fun d=>some (V.int d.2)) (SqL.of hD1) hv.1 nB (Ual hil (by decide)) (fun j x d H4 hx hd S k hk=>?_) ?_⟩
   ·obtain ⟨d',hd',b,rfl,hb⟩:=hv.get hx
    rw [hd] at hd'
    cases hd'
    exact ⟨.skip .refl,_,rfl,.inr ⟨_,_,_,_,rfl,rfl,SqT.of (S _ _ hb),rfl,hk⟩⟩
   have em:is.filterMap (fun d=>some (V.int d.2))=(is.map (·.2)).map V.int:=by
    rw [Ubq,Ua8]
    rfl
   rw [em]
   have S4:=Zaw (o:=.lst ((is.map (·.2)).map V.int)) nB
   have hB:(upd H3 B (.lst ((is.map (·.2)).map V.int))) B=some (.lst ((is.map (·.2)).map V.int)):=Zas
   generalize upd H3 B (.lst ((is.map (·.2)).map V.int))=H4 at S4 hB ⊢
   generalize is.map (·.2)=bs at hB ⊢
   have hc4:=S4 _ _ (S3 _ _ hc)
   refine ⟨_,rfl,c,rfl,⟨_,SqL.of hc4⟩,fun N nN=>Zet (ds:=ls) (fun h=>if decide (h∈bs)=true then some (V.int h) else none) (SqL.of hc4) (by rw [Uab]) nN (Ual hcz (by decide)) (fun j x h H5 hx hd S k hk=>?_) ?_⟩
   ·have ex:x=.int h:=by
     rw [Uaj,hd] at hx
     exact (Option.some.inj hx).symm
    subst ex
    refine ⟨.skip (.keep .refl),_,rfl,_,rfl,B,_,rfl,.inl (SqL.of (S _ _ hB)),rfl,Zbx _,_,rfl,?_⟩
    show if inV (V.int h) (bs.map V.int)=true then _ else _
    rw [Zhy]
    by_cases c1:h∈bs
    ·rw [Uaf c1] at hk ⊢
     exact iteT ⟨_,rfl,hk⟩
    ·rw [Uam c1] at hk ⊢
     exact iteF hk
   have en:ls.filterMap (fun h=>if decide (h∈bs)=true then some (V.int h) else none)=(ls.filter fun h=>decide (h∈bs)).map V.int:=by
    exact Zkt _ _
   rw [en]
   refine ⟨((S2.trans S3).trans S4).trans (Zaw nN),N,_,_,_,rfl,Zas,Ual (Ubn _ _) hcz⟩
  ·rintro σ H2 ⟨S2,c,y1,y2,y3,rfl,hc,hcz⟩
   rw [Uab] at hc hcz
   refine ⟨_,rfl,by decide,fun e ne=>⟨c,e,_,_,rfl,rfl,SqL.of (Zaw ne _ _ hc),SqL.of Zas,Zbx _,rfl,?_⟩⟩
   show Q (.bl (eqL ((peelsM ws hs hs.length).map V.int) (([]:List Int).map V.int))) _
   rw [Zmp]
   exact q _ (S2.trans (Zaw ne))
end
end T
namespace T
open PySem PySem.Spec PyProof.Rows L2 Own M Pu
section
variable {P:Program} {w:World} {K:PySem.W.Frag} {mg:Str->Option Value} {base:Heap}
theorem Zkk (G:Glob K mg) (DD:Def K mg "check_holder" Zc9 ["holder"])
  : Zd0 P w K mg base:=by
 refine ExcR.Def.okX DD (k:=0) Zko (fun vs H Q E h=>Zam h (fun ds R X h=>?_)) (fun f cdv A outer s H vs Q E hr h=>?_)
 ·obtain ⟨h,rfl,hR⟩:=h
  rfl
 ·refine ⟨_,(Zaf (Zbw (PW.pt (Zhq (Zat Zta (pv 0) Zah (nomark _)) (Zfd (Zat Zna (pv 0) (ExcR.Zcx G.HOLDERS) (nomark _)))))
   (Zaf (ExcR.Zdv G.g_BadHolder.c G.m_BadHolder ExcR.Zdq rfl (Za (ExcR.pe_f (ExcR.Ziu (ExcR.Zo0 (ExcR.Zcx G.HOLDERS) ExcR.Zn1))) Zad)))
   Zaz)),Pu.Zax (n:=1) h
   (Zb6 (Zhf (Zay (Zsw (Zab 0) Zai)) (Zay (Zo3 (Zab 0) Zai))) (Zdt (Zaa (se_f (Zif (Zpk Zai Zpa))) Zae)) Za3) (by decide) (fun ds R X h=>?_)⟩
  obtain ⟨h,rfl,hR⟩:=h
  refine ⟨rfl,?_⟩
  unfold holdE at hR
  refine ite2 (fun g=>iteT ?_) (fun g=>?_)
  ·rw [Uad (by have:=Uap g;omega)] at hR
   exact ⟨by decide,by decide,by decide,by decide,by simp,hR⟩
  ·have g':¬ h < 1:=fun z=>g (Uaf z)
   refine ite2 (fun g2=>?_) (fun g2=>?_)
   ·rw [Uad (by have:=Uap g2;omega)] at hR
    exact ⟨by decide,by decide,by decide,by decide,by simp,hR⟩
   ·have g2':¬ 10 < h:=fun z=>g2 (Uaf z)
    rw [Uae (by omega)] at hR
    exact hR
theorem Zll (G:Glob K mg) (DD:Def K mg "check_width" Zdu ["width"])
  : Zgj P w K mg base:=by
 refine ExcR.Def.okX DD (k:=0) Zlr (fun vs H Q E h=>Zam h (fun ds R X h=>?_)) (fun f cdv A outer s H vs Q E hr h=>?_)
 ·obtain ⟨h,rfl,hR⟩:=h
  rfl
 ·refine ⟨_,(Zaf (Zbw (PW.pt (Zhq (Zat Zta (pv 0) Zah (nomark _)) (Zfd (Zat Zna (pv 0) (ExcR.Zcx G.WIDEST) (nomark _)))))
   (Zaf (ExcR.Zdv G.g_BadWidth.c G.m_BadWidth ExcR.Zdq rfl (Za (ExcR.pe_f (ExcR.Ziu (ExcR.Zo0 (ExcR.Zcx G.WIDEST) ExcR.Zn1))) Zad)))
   Zaz)),Pu.Zax (n:=1) h
   (Zb6 (Zhf (Zay (Zsw (Zab 0) Zai)) (Zay (Zo3 (Zab 0) Zai))) (Zdt (Zaa (se_f (Zif (Zpk Zai Zpa))) Zae)) Za3) (by decide) (fun ds R X h=>?_)⟩
  obtain ⟨h,rfl,hR⟩:=h
  refine ⟨rfl,?_⟩
  unfold widthE at hR
  refine ite2 (fun g=>iteT ?_) (fun g=>?_)
  ·rw [Uad (by have:=Uap g;omega)] at hR
   exact ⟨by decide,by decide,by decide,by decide,by simp,hR⟩
  ·have g':¬ h < 1:=fun z=>g (Uaf z)
   refine ite2 (fun g2=>?_) (fun g2=>?_)
   ·rw [Uad (by have:=Uap g2;omega)] at hR
    exact ⟨by decide,by decide,by decide,by decide,by simp,hR⟩
   ·have g2':¬ 1000 < h:=fun z=>g2 (Uaf z)
    rw [Uae (by omega)] at hR
    exact hR
theorem Zlq (G:Glob K mg) (DD:Def K mg "own_numbers" Zdx ["strips"])
  : Zej P w K mg base:=by
 refine DD.ok (k:=0) Zld (fun vs H Q E h=>Zam h (fun ds R X h=>?_)) (fun f cdv A outer s H vs Q E hr h=>?_)
 ·obtain ⟨ps,rfl,hz,hR⟩:=h
  rfl
 ·refine ⟨_,(Zaf (Zap (Own.Zbs (N':=["index"]) (φ:=[none]) rfl (Own.CompOk.of (by rfl)) (Zer rfl G.range (Za (Zaq (Own.Za7 (K:=K)) (by rfl) G.len PySem.boot_len (Za (pv 0) Zad)) Zad)) (fun _ _ _ _ _=>⟨(Zan (i:=0) (show (["index"]:List Str).Nodup from by decide +kernel) rfl (by first | exact Or.inl rfl | exact Or.inr rfl)),Own.Zbg,(Zau Zca (pv 0) Zah)⟩)))),Pu.Zax (n:=1) h
   (Za0 (Zbm (SndI.c (Zhd (Zaa (Zcs (Zaa (Zab 0) Zae)) Zae))) (Zag 0) Zep (Zci (Zab 0) Zai))) (by decide) (fun ds R X h=>?_)⟩
  obtain ⟨ps,rfl,hz,hR⟩:=h
  refine ⟨rfl,?_⟩
  have hl:(ps.map prD).length=ps.length:=Uab ..
  refine ⟨⟨by omega,by omega⟩,Zwm (fun i=>some (.int (0 + (i:Int) + 1))) (by omega) (fun i _=>⟨_,rfl,rfl⟩) ?_⟩
  have e:(List.range ((ps.map prD).length:Int).toNat).filterMap (fun (i:Nat)=>some (D.int (0 + (i:Int) + 1)))=(runI 1 ps.length).map D.int:=by
   unfold runI
   rw [Ubq,Ua8,hl,Ua2]
   refine Ucb fun i _=>?_
   show D.int (0 + (i:Int) + 1)=D.int (1 + (i:Int))
   congr 1
   omega
  rw [e]
  exact hR
theorem Zi5 (G:Glob K mg) (DD:Def K mg "exchange_cost" Zcm ["strips", "numbers", "place"])
  : Zdj P w K mg base:=by
 refine DD.ok (k:=0) sc_exchange_cost (fun vs H Q E h=>Zam h (fun ds R X h=>?_)) (fun f cdv A outer s H vs Q E hr h=>?_)
 ·obtain ⟨ps,ns,p,rfl,hF,hin,h1,h2,hR⟩:=h
  rfl
 ·refine ⟨_,(Zac (Pu.pz 3 sc_exchange_cost.nd (Za4 (Own.Zar (K:=K)) (pv 0) (Zau Zdm (Za4 (Own.Zar (K:=K)) (pv 1) (Zau Zdm (pv 2) Zah) (fun _ _=>rfl)) Zah) (fun _ _=>rfl)))
   (Zac (Pu.pz 4 sc_exchange_cost.nd (Za4 (Own.Zar (K:=K)) (pv 0) (Zau Zdm (Za4 (Own.Zar (K:=K)) (pv 1) (pv 2) (fun _ _=>rfl)) Zah) (fun _ _=>rfl)))
   (Zaf (Zap (Zau Zhi (Za4 (Own.Zar (K:=K)) (pv 3) Zah (fun _ _=>rfl)) (Za4 (Own.Zar (K:=K)) (pv 4) Zah (fun _ _=>rfl))))))),Pu.Zax (n:=3) h
   (Zaj (Zao (Za6 (Zab 0) (Zdn (Za6 (Zab 1) (Zdn (Zab 2) Zai)) Zai)) (Zag 3))
    (Zaj (Zao (Za6 (Zab 0) (Zdn (Za6 (Zab 1) (Zab 2)) Zai)) (Zag 4))
    (Za0 (Zkq (Za6 (Zab 3) Zai) (Za6 (Zab 4) Zai))))) (by decide) (fun ds R X h=>?_)⟩
  obtain ⟨ps,ns,p,rfl,hF,hin,h1,h2,hR⟩:=h
  refine ⟨rfl,?_⟩
  have b1:(p - 1).toNat < ns.length:=by omega
  have b2:p.toNat < ns.length:=by omega
  have i1:=hin _ (Uaw b1)
  have i2:=hin _ (Uaw b2)
  refine ⟨_,Zgn (by omega) (by omega),_,Zgn (by omega) (by omega),_,Zgn (by omega) (by omega),_,Zgn (by omega) (by omega),_,rfl,_,rfl,?_⟩
  have c1:(ns[(p - 1).toNat] - 1).toNat < ps.length:=by omega
  have c2:(ns[p.toNat] - 1).toNat < ps.length:=by omega
  have f1:=hF _ (Uaw c1)
  refine ⟨.inl ⟨by show -(2 ^ 64) < (ps[(ns[(p - 1).toNat] - 1).toNat]).2;omega,by show (ps[(ns[(p - 1).toNat] - 1).toNat]).2 < 2 ^ 64;omega⟩,?_⟩
  have e:exM ps ns p.toNat=(ps[(ns[(p - 1).toNat] - 1).toNat]).2 * (ps[(ns[p.toNat] - 1).toNat]).2:=by
   unfold exM
   have e1:ns.getD (p.toNat - 1) 0=ns[(p - 1).toNat]:=by
    rw [show p.toNat - 1=(p - 1).toNat by omega]
    exact Zmh b1
   rw [e1,Zmh b2,Zmh c1,Zmh c2]
  rw [e] at hR
  exact hR
theorem Zou (G:Glob K mg) (DD:Def K mg "exchanged" Zex ["numbers", "place"])
  : Zfo P w K mg base:=by
 refine DD.ok (k:=0) Zph (fun vs H Q E h=>Zam h (fun ds R X h=>?_)) (fun f cdv A outer s H vs Q E hr h=>?_)
 ·obtain ⟨ns,p,rfl,h1,h2,hz,hR⟩:=h
  rfl
 ·refine ⟨_,(Zaf (Zap (Zau Zl4 (Zau Zl4 (Zf6 (Pu.Zf5 (K:=K)) (pv 0) Zh3 (Zht (Zau Zdm (pv 1) Zah))) (Zbd (Za (Za4 (Own.Zar (K:=K)) (pv 0) (pv 1) (fun _ _=>rfl)) (Za (Za4 (Own.Zar (K:=K)) (pv 0) (Zau Zdm (pv 1) Zah) (fun _ _=>rfl)) Zad)))) (Zf6 (Pu.Zf5 (K:=K)) (pv 0) (Zht (Zau Zca (pv 1) Zah)) Zh3)))),Pu.Zax (n:=2) h
   (Za0 (Zmb (Zmb (Zgc (Zab 0) Zhu (Zhx (Zdn (Zab 1) Zai))) (Zbf (Zaa (Za6 (Zab 0) (Zab 1)) (Zaa (Za6 (Zab 0) (Zdn (Zab 1) Zai)) Zae)))) (Zgc (Zab 0) (Zhx (Zci (Zab 1) Zai)) Zhu))) (by decide) (fun ds R X h=>?_)⟩
  obtain ⟨ns,p,rfl,h1,h2,hz,hR⟩:=h
  refine ⟨rfl,?_⟩
  have b1:p.toNat < ns.length:=by omega
  have b2:(p - 1).toNat < ns.length:=by omega
  have l1:(cutD (ns.map D.int) none (some (p - 1))).length<=1000:=by have:=(Zqx (ns.map D.int) none (some (p - 1))).length_le;rw [Uab] at this;omega
  have l2:(cutD (ns.map D.int) (some (p + 1)) none).length<=1000:=by have:=(Zqx (ns.map D.int) (some (p + 1)) none).length_le;rw [Uab] at this;omega
  refine ⟨Zeu _,_,Zgn (by omega) (by omega),_,Zgn (by omega) (by omega),by simp,rfl,rfl,Ual (Udl l1 (Uah 2)) (by decide),Zeu _,rfl,rfl,Ual (Udl (by rw [Uat];exact Udl l1 (Uah 2)) l2) (by decide),?_⟩
  have e:=Zyg h1 h2 (b1:=b1) (b2:=b2)
  rw [← e] at hR
  exact hR
theorem Zgf (G:Glob K mg) (DD:Def K mg "first_wrong_place" Zbr ["numbers", "ranks"])
  : Zdl P w K mg base:=by
 refine DD.ok (k:=0) sc_first_wrong_place (fun vs H Q E h=>Zam h (fun ds R X h=>?_)) (fun f cdv A outer s H vs Q E hr h=>?_)
 ·obtain ⟨ns,rs,rfl,hin,hz,hR⟩:=h
  rfl
 ·refine ⟨_,(Zac (Zb9 PassesOwn.never rfl (Zom rfl G.range (Za Zah (Za (Zaq (Own.Za7 (K:=K)) (by rfl) G.len PySem.boot_len (Za (pv 0) Zad)) Zad))) (Zan (i:=2) sc_first_wrong_place.nd rfl (by first | exact Or.inl rfl | exact Or.inr rfl))
   (Zaf (Zbw (Zat Zna (Za4 (Own.Zar (K:=K)) (pv 1) (Zau Zdm (Za4 (Own.Zar (K:=K)) (pv 0) (Zau Zdm (pv 2) Zah) (fun _ _=>rfl)) Zah) (fun _ _=>rfl)) (Za4 (Own.Zar (K:=K)) (pv 1) (Zau Zdm (Za4 (Own.Zar (K:=K)) (pv 0) (pv 2) (fun _ _=>rfl)) Zah) (fun _ _=>rfl)) (nomark _))
   (Zaf (Zap (pv 2)))
   Zaz)))
   (Zaf (Zap Zah))),Pu.Zax (n:=2) h
   (Zaj (Zde [2] (Zuz (Zaa Zai (Zaa (Zcs (Zaa (Zab 0) Zae)) Zae))) (Zag 2)
    (Zb6 (Zay (Zo3 (Za6 (Zab 1) (Zdn (Za6 (Zab 0) (Zdn (Zab 2) Zai)) Zai)) (Za6 (Zab 1) (Zdn (Za6 (Zab 0) (Zab 2)) Zai)))) (Zdh 2) Za3))
    (Za0 Zai)) (by decide) (fun ds R X h=>?_)⟩
  obtain ⟨ns,rs,rfl,hin,hz,hR⟩:=h
  refine ⟨rfl,?_⟩
  have hl:(ns.map D.int).length=ns.length:=Uab ..
  have ix:∀ (i:Nat) (k:Int),i < ns.length->k=(i:Int)->atI (ns.map D.int) k=some (.int (ns.getD i 0)):=fun i k hi e=>by
   rw [e]
   exact Zeh (f:=D.int) (Zfn (by rw [Uac,Uaa hi];rfl))
  have rx:∀ i:Nat,i < ns.length->atI (rs.map D.int) (ns.getD i 0 - 1)=some (.int (rs.getD (ns.getD i 0 - 1).toNat 0)):=fun i hi=>by
   have hm:ns.getD i 0∈ns:=by
    rw [Uac,Uaa hi]
    exact Uaw hi
   have:=hin _ hm
   generalize ns.getD i 0=z at this
   rw [Zgn (f:=D.int) (xs:=rs) (by omega) (by omega),Uac,Uaa (show (z - 1).toNat < rs.length by omega)]
   rfl
  have kx:∀ i:Nat,i < ns.length->(ns.map fun m=>rs.getD (m - 1).toNat 0).getD i 0=rs.getD (ns.getD i 0 - 1).toNat 0:=fun i hi=>Zd2 hi
  have lk:(ns.map fun m=>rs.getD (m - 1).toNat 0).length=ns.length:=Uab ..
  refine ⟨⟨by omega,by omega⟩,Zm4 (fun i γ'=>(∀ q,1<=q->q < 1 + i->(ns.map fun m=>rs.getD (m - 1).toNat 0).getD (q - 1) 0<=(ns.map fun m=>rs.getD (m - 1).toNat 0).getD q 0)/\γ'=[some (.bor (.lst (ns.map D.int))),some (.bor (.lst (rs.map D.int))),none]) ⟨fun q h1 h2=>by omega,rfl⟩ ?_ ?_⟩
  ·rintro i γ' hi ⟨h1,rfl⟩
   have hi':i + 1 < ns.length:=by
    have:i < ((((ns.map D.int).length:Nat):Int) - 1).toNat:=hi
    omega
   refine ⟨_,ix i _ (by omega) (by omega),_,rx i (by omega),_,ix (i + 1) _ hi' (by omega),_,rx (i + 1) hi',?_⟩
   refine ite2 (fun g=>?_) (fun g=>?_)
   ·have g':rs.getD (ns.getD (i + 1) 0 - 1).toNat 0 < rs.getD (ns.getD i 0 - 1).toNat 0:=Uap g
    have:=hR (i + 1) ⟨fun q q1 q2=>h1 q q1 (by rw [Uad (by omega)] at q2;omega),.inr ⟨by omega,by rw [lk];exact hi',by rw [kx _ hi',Ucz,kx _ (by omega)];exact g'⟩⟩
    rw [show ((i + 1:Nat):Int)=1 + (i:Int) by omega] at this
    exact this
   ·have g':¬ rs.getD (ns.getD (i + 1) 0 - 1).toNat 0 < rs.getD (ns.getD i 0 - 1).toNat 0:=fun z=>g (Uaf z)
    refine ⟨fun q q1 q2=>?_,rfl⟩
    by_cases c:q < 1 + i
    ·exact h1 q q1 c
    ·have:q=i + 1:=by omega
     subst this
     rw [kx _ hi',Ucz,kx _ (by omega)]
     omega
  ·rintro γ' ⟨h1,rfl⟩
   refine hR 0 ⟨fun q q1 q2=>h1 q q1 ?_,.inl rfl⟩
   rw [Uae rfl,lk] at q2
   omega
theorem Zgw (G:Glob K mg) (DD:Def K mg "check_neighbours" Zbv ["strips", "place"])
  : Zd1 P w K mg base:=by
 refine ExcR.Def.okX DD (k:=0) Zgr (fun vs H Q E h=>Zam h (fun ds R X h=>?_)) (fun f cdv A outer s H vs Q E hr h=>?_)
 ·obtain ⟨ps,p,rfl,hR⟩:=h
  rfl
 ·refine ⟨_,(Zaf (Zbw (PW.pt (Zhq (Zat Zta (pv 1) Zah (nomark _)) (Zfd (Zat Zwk (pv 1) (Zaq (Own.Za7 (K:=K)) (by rfl) G.len PySem.boot_len (Za (pv 0) Zad)) (nomark _)))))
   (Zaf (ExcR.Zdv G.g_NoStrip.c G.m_NoStrip ExcR.Zdq rfl (Za Zog Zad)))
   Zaz)),Pu.Zax (n:=2) h
   (Zb6 (Zhf (Zay (Zsw (Zab 1) Zai)) (Zay (Zwz (Zab 1) (Zcs (Zaa (Zab 0) Zae))))) (Zdt (Zaa Zoa Zae)) Za3) (by decide) (fun ds R X h=>?_)⟩
  obtain ⟨ps,p,rfl,hR⟩:=h
  refine ⟨rfl,?_⟩
  have hl:(ps.map prD).length=ps.length:=Uab ..
  refine ite2 (fun g=>iteT ?_) (fun g=>?_)
  ·rw [Uae (.inl (Uap g))] at hR
   exact ⟨by simp,hR⟩
  ·have g':¬ p < 1:=fun z=>g (Uaf z)
   refine ite2 (fun g2=>?_) (fun g2=>?_)
   ·have g2':((ps.map prD).length:Int)<=p:=Uap g2
    rw [Uae (.inr (by omega))] at hR
    exact ⟨by simp,hR⟩
   ·have g2':¬ ((ps.map prD).length:Int)<=p:=fun z=>g2 (Uaf z)
    rw [Uad (by omega)] at hR
    exact hR
theorem Zj0 (G:Glob K mg) (DD:Def K mg "longer_paths" Zcw ["paths", "left", "wishes"])
  : Zft P w K mg base:=by
 refine DD.ok (k:=0) sc_longer_paths (fun vs H Q E h=>Zam h (fun ds R X h=>?_)) (fun f cdv A outer s H vs Q E hr h=>?_)
 ·obtain ⟨l,ps,ls,ws,rfl,hs,hl,hpl,hll,hR⟩:=h
  rfl
 ·refine ⟨_,(Zac (Pu.pz 3 sc_longer_paths.nd (Zbd Zad))
   (Zac (Pu.pz 4 sc_longer_paths.nd Zv1)
   (Zac (Zb9 PassesOwn.never rfl (Pu.Za1 (K:=K) (pv 0)) (Zan (i:=5) sc_longer_paths.nd rfl (by first | exact Or.inl rfl | exact Or.inr rfl))
   (Zaf (Zb9 PassesOwn.never rfl (Pu.Za1 (K:=K) (pv 1)) (Zan (i:=6) sc_longer_paths.nd rfl (by first | exact Or.inl rfl | exact Or.inr rfl))
   (Zaf (Zbw (PW.pt (Zrk (Zxb (Zuh (Zff hr) (pv 6) (pv 4))) (Zm1 (Zat (Pu.Zpj (K:=K) (show _ < cLine from Zff hr)) (Zdf (Za (Za4 (Own.Zar (K:=K)) (pv 5) (Zss Zl5 Zah) (fun _ _=>rfl)) (Za (pv 6) Zad))) (pv 2) (by with_unfolding_all rfl)))))
   (Zac (Zq (Zff hr) (pv 4) (pv 6) Zhs rfl)
   (Zaf (Zbn (Zlk PySem.F.plainAttrs_list PySem.F.slot_list_append PySem.F.type_list_append Zb7 (pv 3) (Za (Zau Zl4 (pv 5) (Zbd (Za (pv 6) Zad))) Zad)))))
   Zaz)))))
   (Zaf (Zap (pv 3)))))),Pu.Zax (n:=3) h
   (Zaj (Zao (Zbf Zae) (Zag 3))
    (Zaj (Zao Zwr (Zag 4))
    (Zaj (Za2 1 (Za2 0 (Zde [5,6] (Zcv (Zab 0)) (Zag 5)
    (Za2 1 (Zde [6] (Zcv (Zab 1)) (Zag 6)
    (Zb6 (Zuo (st_b (Zth (Zab 6) (Zab 4))) (Zay (Zqj (Zdb (Zaa (Za6 (Zab 5) (Zlz Zai)) (Zaa (Zab 6) Zae))) (Zab 2)))) (Zaj (Zpn 4 (Zab 6) Zhl)
    (Za2 6 (Zeo 3 (Zmb (Zab 5) (Zbf (Zaa (Zab 6) Zae)))))) Za3))))))
    (Zdh 3)))) (by decide) (fun ds R X h=>?_)⟩
  obtain ⟨l,ps,ls,ws,rfl,hs,hl,hpl,hll,hR⟩:=h
  refine ⟨rfl,?_⟩
  refine ⟨by simp,rfl,Zem (xs:=ps) (emb:=em l) (fun i γ'=>∃ lg kvs,γ'=[some (.bor (.lst (ps.map (em l)))),some (.bor (.lst (ls.map D.int))),some (.bor (.lst (ws.map prD))),some (.own (lg.map (em l))),some (.own (.dK kvs)),none,none]/\LGs ws l (Pd ps ls i 0) ls lg kvs)
   ⟨[],[],rfl,LGs.start⟩ ?_ ?_⟩
  ·rintro i hi γ' ⟨lg,kvs,rfl,G⟩
   have hp:ps[i]?=some ps[i]:=Uaa hi
   have hpi:=hpl ps[i] (Uaw hi)
   generalize ps[i]=p at hp hpi ⊢
   refine ⟨rfl,Zem (xs:=ls) (emb:=D.int) (fun j γ'=>∃ lg kvs,γ'=[some (.bor (.lst (ps.map (em l)))),some (.bor (.lst (ls.map D.int))),some (.bor (.lst (ws.map prD))),some (.own (lg.map (em l))),some (.own (.dK kvs)),some (.bor (em l p)),none]/\LGs ws l (Pd ps ls i j) ls lg kvs) ⟨lg,kvs,rfl,G⟩ ?_ ?_⟩
   ·rintro j hj γ' ⟨lg,kvs,rfl,G⟩
    have hh:ls[j]?=some ls[j]:=Uaa hj
    generalize ls[j]=h at hh ⊢
    have hlen:=G.len_le
    have hkl:=G.len
    refine ⟨.inl h,rfl,ite2 (fun g=>?_) (fun g=>?_)⟩
    ·have g':(valV kvs (.inl h)).isSome=false:=by
      cases e:(valV kvs (.inl h)).isSome with
      | false=>rfl
      | true=>rw [e] at g;cases g
     refine ⟨_,Zqu l p,by simp,_,.lp (lastI l p,h) ws,ite2 (fun g2=>?_) (fun g2=>?_)⟩
     ·refine ⟨.inl h,.bl true,rfl,rfl,by omega,by simp,Zeu _,rfl,by simp;omega,by rw [Uab];omega,lg++[p++[h]],_,?_,G.put hp hh hs hl g' (Uap g2)⟩
      rw [Uaq]
      have e:em l (p++[h])=.lst ((l :: p).map D.int++[.int h]):=by
       unfold em
       rw [← Ubf,Uaq]
       rfl
      rw [Ubz,e]
      rfl
     ·exact ⟨lg,kvs,rfl,G.skip hp hh hs (.inr fun z=>g2 (Uaf z))⟩
    ·have g':(valV kvs (.inl h)).isSome=true:=by
      cases e:(valV kvs (.inl h)).isSome with
      | true=>rfl
      | false=>rw [e] at g;exact absurd rfl g
     exact iteF ⟨lg,kvs,rfl,G.skip hp hh hs (.inl g')⟩
   ·rintro γ' ⟨lg,kvs,rfl,G⟩
    refine ⟨lg,kvs,rfl,G.congr fun p' x=>?_⟩
    unfold Pd
    rw [Ubk,Uc0]
    obtain ⟨hi',ei⟩:=Uas.mp hp
    rw [Uau hi,Ua0,Uag,hp,ei]
    constructor
    ·rintro (⟨a,b⟩ | ⟨a,b⟩)
     ·exact .inl ⟨.inl a,b⟩
     ·exact .inl ⟨.inr (Option.some.inj a).symm,b⟩
    ·rintro (⟨a | a,b⟩ | ⟨_,a⟩)
     ·exact .inl ⟨a,b⟩
     ·exact .inr ⟨Ube some a.symm,b⟩
     ·cases a
  ·rintro γ' ⟨lg,kvs,rfl,G⟩
   refine hR lg (G.g.congr fun p' x=>?_) G.len_le
   unfold Pd
   rw [Ubk,Uc0]
   exact ⟨(fun z=>z.elim id fun w=>by cases w.2),.inl⟩
theorem Zsk (G:Glob K mg) (DD:Def K mg "sets_of" Zhp ["holders"])
  : Zly P w K mg base:=by
 refine DD.ok (k:=0) sc_sets_of (fun vs H Q E h=>Zam h (fun ds R X h=>?_)) (fun f cdv A outer s H vs Q E hr h=>?_)
 ·obtain ⟨hs,rfl,hz,hR⟩:=h
  rfl
 ·refine ⟨_,(Zac (Pu.pz 1 sc_sets_of.nd (Zbd (Za (Zdf Zad) Zad)))
   (Zac (Zb9 PassesOwn.never rfl (Pu.Za1 (K:=K) (pv 0)) (Zan (i:=2) sc_sets_of.nd rfl (by first | exact Or.inl rfl | exact Or.inr rfl))
   (Zaf (Pu.pz 1 sc_sets_of.nd (Zau Zl4 (pv 1) (Own.Zbs (N':=["members", "holder"]) (φ:=[none,some 2]) rfl (Own.CompOk.of (by rfl)) (Pu.Za1 (K:=K) (pv 1)) (fun _ _ _ _ _=>⟨(Zan (i:=0) (show (["members", "holder"]:List Str).Nodup from by decide +kernel) rfl (by first | exact Or.inl rfl | exact Or.inr rfl)),Own.Zbg,(Zau (Own.Zxt (K:=K)) (pv 0) (Zdf (Za (pv 1) Zad)))⟩))))))
   (Zaf (Zap (pv 1))))),Pu.Zax (n:=1) h
   (Zaj (Zao (Zbf (Zaa (Zdb Zae) Zae)) (Zag 1))
    (Zaj (Za2 0 (Zde [2] (Zcv (Zab 0)) (Zag 2)
    (Za2 2 (Zao (Zmb (Zab 1) (Zbm (Zbu (Zab 1)) (Zag 0) Zep (Zxp (Zab 0) (Zdb (Zaa (Zab 1) Zae))))) (Zag 1)))))
    (Zdh 1))) (by decide) (fun ds R X h=>?_)⟩
  obtain ⟨hs,rfl,hz,hR⟩:=h
  refine ⟨rfl,?_⟩
  refine ⟨by simp,by simp,rfl,Zem (xs:=hs) (emb:=D.int) (fun i γ'=>γ'=[some (.bor (.lst (hs.map D.int))),some (.own ((setsM (hs.take i)).map tD)),none]) rfl ?_ ?_⟩
  ·rintro i hi γ' rfl
   have hlen:(setsM (hs.take i)).length<=1024:=by
    rw [Zny,Ua4]
    exact Nat.pow_le_pow_right (j:=10) (by decide) (by omega)
   have hel:∀ ms∈setsM (hs.take i),ms.length<=10:=fun ms hm=>by
    have:=(Zfi _ ms hm).length_le
    rw [Ua4] at this
    omega
   rw [Uau hi,Zcu]
   generalize setsM (hs.take i)=S at hlen hel ⊢
   generalize hs[i]=h
   refine Zbq (xs:=S) (emb:=tD) (fun ms=>some (tD (ms++[h]))) (by omega) (fun ms hm=>?_) ?_
   ·refine ⟨by simp,_,_,Zx2 ms,rfl,?_,_,rfl,?_⟩
    ·have:=hel ms hm
     rw [Uab]
     show ms.length + 1<=100000
     omega
    ·unfold tD
     rw [Uaq]
     rfl
   ·rw [mapD]
    refine ⟨rfl,rfl,?_,?_⟩
    ·rw [Uab,Uab]
     omega
    ·show [_,_,_]=[_,_,_]
     rw [Uaq,Ua8]
     rfl
  ·rintro γ' rfl
   rw [Ubk]
   exact hR
theorem Zs8 (G:Glob K mg) (DD:Def K mg "without" Zhr ["members", "holder"])
  : Zf7 P w K mg base:=by
 refine DD.ok (k:=0) Zs4 (fun vs H Q E h=>Zam h (fun ds R X h=>?_)) (fun f cdv A outer s H vs Q E hr h=>?_)
 ·obtain ⟨ms,h,rfl,hz,hR⟩:=h
  rfl
 ·refine ⟨_,(Zaf (Zap (Zbb (Pu.Zjx (K:=K)) (by rfl) G.tuple boot_tuple (Za (Own.Zbs (N':=["member", "holder"]) (φ:=[none,some 1]) rfl (Own.CompOk.of (by rfl)) (Pu.Zj5 (K:=K) (pv 0)) (fun _ _ _ _ _=>⟨(Zan (i:=0) (show (["member", "holder"]:List Str).Nodup from by decide +kernel) rfl (by first | exact Or.inl rfl | exact Or.inr rfl)),(Own.Zc7 (Zat (Pu.Zi0 (K:=K) (show _ < cLine from hr.units0)) (pv 0) (pv 1) (nomark _))),(pv 0)⟩)) Zad)))),Pu.Zax (n:=2) h
   (Za0 (Zrn (Zaa (Zbm (SndI.c (Zod (Zab 0))) (Zag 0) (Zay (Ziv (Zab 0) (Zab 1))) (Zab 0)) Zae))) (by decide) (fun ds R X h=>?_)⟩
  obtain ⟨ms,h,rfl,hz,hR⟩:=h
  refine ⟨rfl,?_⟩
  rw [Zg9]
  refine ⟨_,rfl,Zbq (s:=.sh .non) (xs:=ms) (emb:=D.int) (fun m=>if decide (m≠h)=true then some (.int m) else none) (by omega) (fun m hm=>?_) ?_⟩
  ·show if (!decide (m=h))=true then _ else _
   by_cases e:m=h
   ·rw [Uaf e]
    exact iteF (by simp [e])
   ·rw [Uam e]
    exact iteT ⟨_,rfl,Uae (Uaf e)⟩
  ·rw [pickD (fun m=>decide (m≠h))]
   exact ⟨rfl,hR⟩
theorem Zj7 (G:Glob K mg) (DD:Def K mg "may_lie_last" Zcy ["members", "holder", "wishes"])
  : Zfr P w K mg base:=by
 refine DD.ok (k:=0) Zk4 (fun vs H Q E h=>Zam h (fun ds R X h=>?_)) (fun f cdv A outer s H vs Q E hr h=>?_)
 ·obtain ⟨ms,h,ws,rfl,hz,hR⟩:=h
  rfl
 ·refine ⟨_,(Zaf (Zap (Ztm (Zaq (Own.Znq (K:=K) rfl) (by rfl) G.any boot_any (Za (Own.Zbs (N':=["ahead", "behind", "holder", "members"]) (φ:=[none,none,some 1,some 0]) rfl (Own.CompOk.of (by rfl)) (Pu.Za1 (K:=K) (pv 2)) (fun _ _ _ _ _=>⟨(Own.Zgt (K:=K) (n:=2) rfl (Zbc (Zan (i:=0) (show (["ahead", "behind", "holder", "members"]:List Str).Nodup from by decide +kernel) rfl (by first | exact Or.inl rfl | exact Or.inr rfl)) (Zbc (Zan (i:=1) (show (["ahead", "behind", "holder", "members"]:List Str).Nodup from by decide +kernel) rfl (by first | exact Or.inl rfl | exact Or.inr rfl)) Zfy))),Own.Zbg,(Zud (Zkn (Pu.Zl2 (K:=K) (show _ < cLine from hr.units0)) (pv 0) (pv 2) (nomark _)) (Ztt (Zkn (Pu.Zpj (K:=K) (show _ < cLine from Zff hr)) (pv 1) (pv 3) (by with_unfolding_all rfl))))⟩)) Zad))))),Pu.Zax (n:=3) h
   (Za0 (Zqp (Zuy (Zaa (Zbm (Zbu (Zab 2)) (Zma (Zbt (Zag 0) (Zbt (Zag 1) Zib))) Zep (Zqd (Zl7 (Zab 0) (Zab 2)) (Zqj (Zab 1) (Zab 3)))) Zae)))) (by decide) (fun ds R X h=>?_)⟩
  obtain ⟨ms,h,ws,rfl,hz,hR⟩:=h
  refine ⟨rfl,?_⟩
  rw [Zg9]
  refine Zbq (xs:=ws) (emb:=prD) (fun q=>some (.bl (decide (q.1=h) && decide (q.2∈ms)))) (by omega) (fun q hq=>?_) ?_
  ·refine ⟨rfl,?_⟩
   show if true=true then (if decide (q.1=h)=true then _ else _) else (some (D.bl (decide (q.1=h) && decide (q.2∈ms)))=none)
   refine iteT (ite2 (fun g=>⟨_,.ti _ _,?_⟩) (fun g=>?_))
   ·refine ⟨_,rfl,?_⟩
    rw [g,Ucp]
    rfl
   ·refine ⟨_,rfl,?_⟩
    rw [Udr.mpr g,Udk]
  ·rw [mapD]
   refine ⟨ws.map fun q=>decide (q.1=h) && decide (q.2∈ms),by rw [Ua8];rfl,?_⟩
   rw [List.any_map]
   exact hR
theorem Zi2 (G:Glob K mg) (DD:Def K mg "may_lie_first" Zcn ["members", "holder", "wishes"])
  : Zfc P w K mg base:=by
 refine DD.ok (k:=0) Zi9 (fun vs H Q E h=>Zam h (fun ds R X h=>?_)) (fun f cdv A outer s H vs Q E hr h=>?_)
 ·obtain ⟨ms,h,ws,rfl,hz,hR⟩:=h
  rfl
 ·refine ⟨_,(Zaf (Zap (Ztm (Zaq (Own.Znq (K:=K) rfl) (by rfl) G.any boot_any (Za (Own.Zbs (N':=["ahead", "behind", "holder", "members"]) (φ:=[none,none,some 1,some 0]) rfl (Own.CompOk.of (by rfl)) (Pu.Za1 (K:=K) (pv 2)) (fun _ _ _ _ _=>⟨(Own.Zgt (K:=K) (n:=2) rfl (Zbc (Zan (i:=0) (show (["ahead", "behind", "holder", "members"]:List Str).Nodup from by decide +kernel) rfl (by first | exact Or.inl rfl | exact Or.inr rfl)) (Zbc (Zan (i:=1) (show (["ahead", "behind", "holder", "members"]:List Str).Nodup from by decide +kernel) rfl (by first | exact Or.inl rfl | exact Or.inr rfl)) Zfy))),Own.Zbg,(Zud (Zkn (Pu.Zl2 (K:=K) (show _ < cLine from hr.units0)) (pv 1) (pv 2) (nomark _)) (Ztt (Zkn (Pu.Zpj (K:=K) (show _ < cLine from Zff hr)) (pv 0) (pv 3) (by with_unfolding_all rfl))))⟩)) Zad))))),Pu.Zax (n:=3) h
   (Za0 (Zqp (Zuy (Zaa (Zbm (Zbu (Zab 2)) (Zma (Zbt (Zag 0) (Zbt (Zag 1) Zib))) Zep (Zqd (Zl7 (Zab 1) (Zab 2)) (Zqj (Zab 0) (Zab 3)))) Zae)))) (by decide) (fun ds R X h=>?_)⟩
  obtain ⟨ms,h,ws,rfl,hz,hR⟩:=h
  refine ⟨rfl,?_⟩
  rw [Zg9]
  refine Zbq (xs:=ws) (emb:=prD) (fun q=>some (.bl (decide (q.2=h) && decide (q.1∈ms)))) (by omega) (fun q hq=>?_) ?_
  ·refine ⟨rfl,?_⟩
   show if true=true then (if decide (q.2=h)=true then _ else _) else (some (D.bl (decide (q.2=h) && decide (q.1∈ms)))=none)
   refine iteT (ite2 (fun g=>⟨_,.ti _ _,?_⟩) (fun g=>?_))
   ·refine ⟨_,rfl,?_⟩
    rw [g,Ucp]
    rfl
   ·refine ⟨_,rfl,?_⟩
    rw [Udr.mpr g,Udk]
  ·rw [mapD]
   refine ⟨ws.map fun q=>decide (q.2=h) && decide (q.1∈ms),by rw [Ua8];rfl,?_⟩
   rw [List.any_map]
   exact hR
theorem Zh5 (G:Glob K mg) (DD:Pu.DefM K (Meth K (ExcR.clsOf mg "Village") "strips") "strips" "Village.strips" Zcg ["self"])
  : Zb P w K mg base:=by
 refine Pu.DefM.ok DD (k:=0) Zh1 (fun vs H Q E h=>Zam h (fun ds R X h=>?_)) (fun f cdv A outer s H vs Q E hr h=>?_)
 ·obtain ⟨bk,fs,ws,f,rfl,hR⟩:=h
  rfl
 ·refine ⟨_,(Zaf (Zap (Zbb (Pu.Zch (K:=K)) (by rfl) G.list boot_list (Za (Za4 (Own.Zar (K:=K)) (Zix (pv 0) rfl) (Zss Zl5 Zah) (fun _ _=>rfl)) Zad)))),Pu.Zax (n:=1) h
   (Za0 (Zf1 (Zaa (Za6 (Zov 1 G.cl_Village G.n_Village_fields Zev (Zab 0)) (Zlz Zai)) Zae))) (by decide) (fun ds R X h=>?_)⟩
  obtain ⟨bk,fs,ws,f,rfl,hR⟩:=h
  refine ⟨rfl,?_⟩
  exact ⟨rfl,rfl,_,rfl,_,Zrz plD fs f,Zen _,hR⟩
theorem Zie (G:Glob K mg) (DD:Pu.DefM K (Meth K (ExcR.clsOf mg "Village") "wishes") "wishes" "Village.wishes" Zce ["self"])
  : Zbl P w K mg base:=by
 refine Pu.DefM.ok DD (k:=0) Zh6 (fun vs H Q E h=>Zam h (fun ds R X h=>?_)) (fun f cdv A outer s H vs Q E hr h=>?_)
 ·obtain ⟨bk,fs,ws,f,rfl,hR⟩:=h
  rfl
 ·refine ⟨_,(Zaf (Zap (Zbb (Pu.Zch (K:=K)) (by rfl) G.list boot_list (Za (Za4 (Own.Zar (K:=K)) (Zix (pv 0) rfl) (Zss Zl5 Zah) (fun _ _=>rfl)) Zad)))),Pu.Zax (n:=1) h
   (Za0 (Zf1 (Zaa (Za6 (Zov 2 G.cl_Village G.n_Village_wished Zeq (Zab 0)) (Zlz Zai)) Zae))) (by decide) (fun ds R X h=>?_)⟩
  obtain ⟨bk,fs,ws,f,rfl,hR⟩:=h
  refine ⟨rfl,?_⟩
  exact ⟨rfl,rfl,_,rfl,_,Zrz plD ws f,Zen _,hR⟩
theorem Zi6 (G:Glob K mg) (DD:Pu.DefM K (Meth K (ExcR.clsOf mg "Village") "deeds") "deeds" "Village.deeds" Zcj ["self"])
  : Zjg P w K mg base:=by
 refine Pu.DefM.ok DD (k:=0) Zje (fun vs H Q E h=>Zam h (fun ds R X h=>?_)) (fun f cdv A outer s H vs Q E hr h=>?_)
 ·obtain ⟨bk,fs,ws,rfl,hR⟩:=h
  rfl
 ·refine ⟨_,(Zaf (Zap (Zbb (Pu.Zch (K:=K)) (by rfl) G.list boot_list (Za (Zix (pv 0) rfl) Zad)))),Pu.Zax (n:=1) h
   (Za0 (Zf1 (Zaa (Zov 0 G.cl_Village G.n_Village_book Zcq (Zab 0)) Zae))) (by decide) (fun ds R X h=>?_)⟩
  obtain ⟨bk,fs,ws,rfl,hR⟩:=h
  refine ⟨rfl,?_⟩
  exact ⟨rfl,rfl,_,rfl,Zl1 _,hR⟩
theorem Zfl (G:Glob K mg) (DD:Pu.DefM K (Meth K (ExcR.clsOf mg "Village") "check_room") "check_room" "Village.check_room" Zbh ["self"])
  : Zda P w K mg base:=by
 refine Pu.DefM.okX DD (k:=0) Zfh (fun vs H Q E h=>Zam h (fun ds R X h=>?_)) (fun f cdv A outer s H vs Q E hr h=>?_)
 ·obtain ⟨bk,fs,ws,rfl,hR⟩:=h
  rfl
 ·refine ⟨_,(Zaf (Zbw (Zat Zwk (Zaq (Own.Za7 (K:=K)) (by rfl) G.len PySem.boot_len (Za (Zix (pv 0) rfl) Zad)) (ExcR.Zcx G.MOST_DEEDS) (nomark _))
   (Zaf (ExcR.Zdv G.g_BookFull.c G.m_BookFull ExcR.Zdq rfl (Za (ExcR.pe_f (ExcR.Ziu (ExcR.Zo0 (ExcR.Zcx G.MOST_DEEDS) (ExcR.Ziu ExcR.Zn1)))) Zad)))
   Zaz)),Pu.Zax (n:=1) h
   (Zb6 (Zay (Zwz (Zcs (Zaa (Zov 0 G.cl_Village G.n_Village_book Zcq (Zab 0)) Zae)) Zai)) (Zdt (Zaa (se_f (Zif (Zpk Zai (Zif Zpa)))) Zae)) Za3) (by decide) (fun ds R X h=>?_)⟩
  obtain ⟨bk,fs,ws,rfl,hR⟩:=h
  refine ⟨rfl,?_⟩
  have hl:(bk.map dD).length=bk.length:=Uab ..
  unfold roomE at hR
  refine ⟨rfl,rfl,_,rfl,ite2 (fun g=>?_) (fun g=>?_)⟩
  ·have g':(100:Int)<=((bk.map dD).length:Int):=Uap g
   rw [Uae (by omega)] at hR
   exact ⟨by decide,by decide,by decide,by decide,by decide,by simp,hR⟩
  ·have g':¬ (100:Int)<=((bk.map dD).length:Int):=fun z=>g (Uaf z)
   rw [Uad (by omega)] at hR
   exact hR
theorem Zjb (G:Glob K mg) (DD:Pu.DefM K (Meth K (ExcR.clsOf mg "Village") "enter") "enter" "Village.enter" Zcr ["self", "deed", "field", "wishes"])
  : Zfa P w K mg base:=by
 refine Pu.DefM.ok DD (k:=0) Zji (fun vs H Q E h=>Pu.Zqq (n:=3) h (fun o ss R X h=>?_)) (fun f cdv A outer s H vs Q E hr h=>?_)
 ·obtain ⟨x,b1,b2,b3,bk,fs,ws,q,f,w,rfl,rfl,h1,h2,h3,hR⟩:=h
  rfl
 ·refine ⟨_,(Zac (Zbn (Zlk PySem.F.plainAttrs_list PySem.F.slot_list_append PySem.F.type_list_append Zb7 (Zix (pv 0) rfl) (Za (pv 1) Zad)))
   (Zac (Zbn (Zlk PySem.F.plainAttrs_list PySem.F.slot_list_append PySem.F.type_list_append Zb7 (Zix (pv 0) rfl) (Za (pv 2) Zad)))
   (Zac (Zbn (Zlk PySem.F.plainAttrs_list PySem.F.slot_list_append PySem.F.type_list_append Zb7 (Zix (pv 0) rfl) (Za (pv 3) Zad)))
   (Zaf (Zap (Zaq (Own.Za7 (K:=K)) (by rfl) G.len PySem.boot_len (Za (Zix (pv 0) rfl) Zad))))))),Pu.Zqi (n:=3) h
   (Zaj (Za2 1 (Zjo (Zqh 0 0 G.cl_Village G.n_Village_book Zcq (Zab 1))))
    (Zaj (Za2 2 (Zjo (Zqh 0 1 G.cl_Village G.n_Village_fields Zev (Zab 2))))
    (Zaj (Za2 3 (Zjo (Zqh 0 2 G.cl_Village G.n_Village_wished Zeq (Zab 3))))
    (Zxr (Zcs (Zaa (Zov 0 G.cl_Village G.n_Village_book Zcq (Zab 0)) Zae)))))) (by decide) (fun o ss R X h=>?_)⟩
  obtain ⟨x,b1,b2,b3,bk,fs,ws,q,f,w,rfl,rfl,h1,h2,h3,hR⟩:=h
  refine ⟨rfl,?_⟩
  have k1:(bk.map dD).length < 10000000:=by rw [Uab];omega
  have k2:(fs.map plD).length < 10000000:=by rw [Uab];omega
  have k3:(ws.map plD).length < 10000000:=by rw [Uab];omega
  refine ⟨rfl,rfl,_,rfl,k1,rfl,rfl,_,rfl,k2,rfl,rfl,_,rfl,k3,rfl,rfl,_,rfl,_,rfl,⟨rfl,by simp⟩,?_⟩
  have e:(((bk.map dD++[dD q]).length:Nat):Int)=(bk.length:Int) + 1:=by rw [Uat,Uab];simp
  show R (.ins x _ vF [(b1,bk.map dD++[dD q]),(b2,fs.map plD++[plD f]),(b3,ws.map plD++[plD w])]) (.int (((bk.map dD++[dD q]).length:Nat):Int))
  rw [e]
  have e1:bk.map dD++[dD q]=(bk++[q]).map dD:=by rw [Uaq];rfl
  have e2:fs.map plD++[plD f]=(fs++[f]).map plD:=by rw [Uaq];rfl
  have e3:ws.map plD++[plD w]=(ws++[w]).map plD:=by rw [Uaq];rfl
  rw [e1,e2,e3]
  exact hR
theorem Ztg (G:Glob K mg) (DD:Def K mg "_law_at" Zjn ["_law_script", "_law_k"])
  : Zh P w K mg base:=by
 refine DD.ok (k:=0) Zur (fun vs H Q E h=>Zam h (fun ds R X h=>?_)) (fun f cdv A outer s H vs Q E hr h=>?_)
 ·obtain ⟨ns,k,rfl,hk,hR⟩:=h
  rfl
 ·refine ⟨_,(Zac (Zbw (Zat Zta (pv 1) (Zaq (Own.Za7 (K:=K)) (by rfl) G.len PySem.boot_len (Za (pv 0) Zad)) (nomark _))
   (Zaf (Zap (Za4 (Own.Zar (K:=K)) (pv 0) (pv 1) (fun _ _=>rfl))))
   Zaz)
   (Zaf (Zap Zah))),Pu.Zax (n:=2) h
   (Zaj (Zb6 (Zay (Zsw (Zab 1) (Zcs (Zaa (Zab 0) Zae)))) (Za0 (Za6 (Zab 0) (Zab 1))) Za3)
    (Za0 Zai)) (by decide) (fun ds R X h=>?_)⟩
  obtain ⟨ns,k,rfl,hk,hR⟩:=h
  refine ⟨rfl,?_⟩
  refine ite2 (fun g=>?_) (fun _=>hR 0)
  have g':k < (ns.length:Int):=Uap g
  exact ⟨_,Zps hk (Uaa (show k.toNat < ns.length by omega)),hR _⟩
theorem Zo (G:Glob K mg) (DD:Def K mg "_law_whole" Zf ["_law_found"])
  : Ziw P w K mg base:=by
 refine DD.ok (k:=0) Znt (fun vs H Q E h=>Zam h (fun ds R X h=>?_)) (fun f cdv A outer s H vs Q E hr h=>?_)
 ·obtain ⟨i,rfl,hR⟩:=h
  rfl
 ·refine ⟨_,(Zaf (Zap (Zud (Zaq (Pu.Zdz (K:=K)) (by rfl) G.isinstance boot_isinstance (Za (pv 0) (Za (Zgs (v:=.ty "int") rfl G.int boot_int rfl) Zad))) (Ztt (Ztm (Zaq (Pu.Zdz (K:=K)) (by rfl) G.isinstance boot_isinstance (Za (pv 0) (Za (Zgs (v:=.ty "bool") rfl G.bool boot_bool rfl) Zad)))))))),Pu.Zax (n:=1) h
   (Za0 (Zqd (Zk5 (Zaa (Zab 0) (Zaa Zqs Zae))) (Zqp (Zk5 (Zaa (Zab 0) (Zaa Zqs Zae)))))) (by decide) (fun ds R X h=>?_)⟩
  obtain ⟨i,rfl,hR⟩:=h
  refine ⟨rfl,?_⟩
  exact ⟨_,.same _,_,.ib,hR⟩
theorem Zs7 (G:Glob K mg) (DD:Def K mg "_law_mix" Zgy ["_law_cell", "_law_place"])
  : Zi P w K mg base:=by
 refine DD.ok (k:=0) sc_law_mix (fun vs H Q E h=>Zam h (fun ds R X h=>?_)) (fun f cdv A outer s H vs Q E hr h=>?_)
 ·obtain ⟨c,p,rfl,hR⟩:=h
  rfl
 ·refine ⟨_,(Zac (Pu.pz 2 sc_law_mix.nd (Zau Zb8 (Zau Zhi (Zau Zca (Zau Zca (Zau Zb8 (pv 0) Zah) (Zau Zhi Zah (pv 1))) Zah) Zah) Zah))
   (Zaf (Zap (Zau Zb8 (Zau Zhi (Zau Zca (Zau Zca (pv 2) (Zau Zhi Zah (pv 1))) Zah) Zah) Zah)))),Pu.Zax (n:=2) h
   (Zaj (Zao (Zcb (Zkq (Zci (Zci (Zcb (Zab 0) Zai) (Zkq Zai (Zab 1))) Zai) Zai) Zai) (Zag 2))
    (Za0 (Zcb (Zkq (Zci (Zci (Zab 2) (Zkq Zai (Zab 1))) Zai) Zai) Zai))) (by decide) (fun ds R X h=>?_)⟩
  obtain ⟨c,p,rfl,hR⟩:=h
  refine ⟨rfl,?_⟩
  exact ⟨(by show (0:Int) < 2147483647;decide),.inl ⟨by decide,by decide⟩,.inr ⟨by decide,by decide⟩,(by show (0:Int) < 2147483647;decide),.inl ⟨by decide,by decide⟩,.inr ⟨by decide,by decide⟩,(by show (0:Int) < 2147483647;decide),hR _⟩
theorem Zql (G:Glob K mg) (DD:Def K mg "_law_menu" Zg ["_law_cell"])
  : Zku P w K mg base:=by
 refine DD.ok (k:=0) sc_law_menu (fun vs H Q E h=>Zam h (fun ds R X h=>?_)) (fun f cdv A outer s H vs Q E hr h=>?_)
 ·obtain ⟨c,rfl,hR⟩:=h
  rfl
 ·refine ⟨_,(Zac (Pu.pz 1 sc_law_menu.nd (Za4 (Own.Zar (K:=K)) (Zbd (Za Zah (Za Zah (Za Zah (Za Zah (Za Zah Zad)))))) (Zau Zb8 (Zau Zel (pv 0) Zah) Zah) (fun _ _=>rfl)))
   (Zac (Pu.pz 2 sc_law_menu.nd (Za4 (Own.Zar (K:=K)) (Zbd (Za Zah (Za Zah (Za Zah (Za Zah (Za Zah Zad)))))) (Zau Zb8 (Zau Zel (pv 0) Zah) Zah) (fun _ _=>rfl)))
   (Zaf (Zap (Zbd (Za (Zau Zca Zah (Zau Zb8 (pv 0) Zah)) (Za (Za4 (Own.Zar (K:=K)) (Zbd (Za Zah (Za Zah (Za Zah (Za Zah Zad))))) (Zau Zb8 (Zau Zel (pv 0) Zah) Zah) (fun _ _=>rfl)) (Za (Zau Zb8 (Zau Zel (pv 0) Zah) Zah) (Za (pv 1) (Za (pv 2) Zad)))))))))),Pu.Zax (n:=1) h
   (Zaj (Zao (Za6 (Zbf (Zaa Zai (Zaa Zai (Zaa Zai (Zaa Zai (Zaa Zai Zae)))))) (Zcb (Zeg (Zab 0) Zai) Zai)) (Zag 1))
    (Zaj (Zao (Za6 (Zbf (Zaa Zai (Zaa Zai (Zaa Zai (Zaa Zai (Zaa Zai Zae)))))) (Zcb (Zeg (Zab 0) Zai) Zai)) (Zag 2))
    (Za2 2 (Za2 1 (Za0 (Zbf (Zaa (Zci Zai (Zcb (Zab 0) Zai)) (Zaa (Za6 (Zbf (Zaa Zai (Zaa Zai (Zaa Zai (Zaa Zai Zae))))) (Zcb (Zeg (Zab 0) Zai) Zai)) (Zaa (Zcb (Zeg (Zab 0) Zai) Zai) (Zaa (Zab 1) (Zaa (Zab 2) Zae))))))))))) (by decide) (fun ds R X h=>?_)⟩
  obtain ⟨c,rfl,hR⟩:=h
  refine ⟨rfl,?_⟩
  have h1:0<=c / 10 % 4/\c / 10 % 4 < 4:=by omega
  have h2:0<=c / 400 % 5/\c / 400 % 5 < 5:=by omega
  have hb:∀ v∈([1,3,7,9]:List Int),1<=v/\v<=9/\(v=1\/v=3\/v=7\/v=9):=by decide
  have hde:∀ i:Int,0<=i->i < 5->∃ d e:Int,atI [D.int 1000,.int 3,.int 1,.int 2,.int 3] i=some (.int d)/\atI [D.int 1,.int 1,.int 1,.int 1,.int 998] i=some (.int e)/\(1<=d/\d<=1000)/\1<=e/\e + d<=1001:=fun i a b=>by
   have:i=0\/i=1\/i=2\/i=3\/i=4:=by omega
   rcases this with rfl | rfl | rfl | rfl | rfl
   ·exact ⟨1000,1,rfl,rfl,by decide,by decide,by decide⟩
   ·exact ⟨3,1,rfl,rfl,by decide,by decide,by decide⟩
   ·exact ⟨1,1,rfl,rfl,by decide,by decide,by decide⟩
   ·exact ⟨2,1,rfl,rfl,by decide,by decide,by decide⟩
   ·exact ⟨3,998,rfl,rfl,by decide,by decide,by decide⟩
  obtain ⟨d,e,e1,e2,hd,he⟩:=hde _ h2.1 h2.2
  have hbb:=hb _ (Uaw (l:=([1,3,7,9]:List Int)) (n:=(c / 10 % 4).toNat) (by show (c / 10 % 4).toNat < 4;omega))
  refine ⟨by simp,⟨by decide,by decide⟩,(by show (0:Int) < 5;decide),_,e1,by simp,⟨by decide,by decide⟩,(by show (0:Int) < 5;decide),_,e2,(by show (0:Int) < 10;decide),by simp,⟨by decide,by decide⟩,(by show (0:Int) < 4;decide),_,Zgn (f:=D.int) (xs:=[1,3,7,9]) h1.1 h1.2,⟨by decide,by decide⟩,(by show (0:Int) < 10;decide),by simp,?_⟩
  exact hR [_,_,_,_,_] ⟨_,_,_,_,_,rfl,by omega,hbb,by omega,hd,he⟩
theorem Zmq (G:Glob K mg) (DD:Def K mg "_law_holder" Zd7 ["_law_menu_here", "_law_k"])
  : Zey P w K mg base:=by
 refine DD.ok (k:=0) Zm6 (fun vs H Q E h=>Zam h (fun ds R X h=>?_)) (fun f cdv A outer s H vs Q E hr h=>?_)
 ·obtain ⟨m,k,rfl,hM,hR⟩:=h
  rfl
 ·refine ⟨_,(Zaf (Zap (Zau Zca Zah (Zau Zb8 (Zau Zca (Zau Zhi (pv 1) (Za4 (Own.Zar (K:=K)) (pv 0) Zah (fun _ _=>rfl))) (Za4 (Own.Zar (K:=K)) (pv 0) Zah (fun _ _=>rfl))) Zah)))),Pu.Zax (n:=2) h
   (Za0 (Zci Zai (Zcb (Zci (Zkq (Zab 1) (Za6 (Zab 0) Zai)) (Za6 (Zab 0) Zai)) Zai))) (by decide) (fun ds R X h=>?_)⟩
  obtain ⟨m,k,rfl,hM,hR⟩:=h
  refine ⟨rfl,?_⟩
  obtain ⟨a,b,c,d,e,rfl,ha,hb,hc,hd,he⟩:=hM
  exact ⟨_,rfl,.inr ⟨by omega,by omega⟩,_,rfl,(by show (0:Int) < 10;decide),hR _ (by omega) (by omega) rfl⟩
theorem Zlt (G:Glob K mg) (DD:Def K mg "_law_carried" Zds ["_law_told", "_law_strips_here"])
  : Zgh P w K mg base:=by
 refine DD.ok (k:=0) sc_law_carried (fun vs H Q E h=>Zam h (fun ds R X h=>?_)) (fun f cdv A outer s H vs Q E hr h=>?_)
 ·obtain ⟨ps,f,ms,k,rfl,hF,hz,hM,hk,hR⟩:=h
  rfl
 ·refine ⟨_,(Zac (Pu.pz 2 sc_law_carried.nd (Zbb (Own.Zs3 rfl) (by rfl) G.list boot_list (Za (Zbb Own.Zpu (by rfl) G.range boot_range (Za Zah (Za (Zau Zca (Zaq (Own.Za7 (K:=K)) (by rfl) G.len PySem.boot_len (Za (pv 1) Zad)) Zah) Zad))) Zad)))
   (Zac (Pu.pz 3 sc_law_carried.nd Zah)
   (Zac (Zb9 PassesOwn.never rfl (Pu.Za1 (K:=K) (pv 0)) (Own.Zgt (K:=K) (n:=4) rfl (Zbc (Zan (i:=4) sc_law_carried.nd rfl (by first | exact Or.inl rfl | exact Or.inr rfl)) (Zbc (Zan (i:=5) sc_law_carried.nd rfl (by first | exact Or.inl rfl | exact Or.inr rfl)) (Zbc (Zan (i:=6) sc_law_carried.nd rfl (by first | exact Or.inl rfl | exact Or.inr rfl)) (Zbc (Zan (i:=7) sc_law_carried.nd rfl (by first | exact Or.inl rfl | exact Or.inr rfl)) Zfy)))))
   (Zac (Zbw (PW.pt (Zhq (Zat Zta (pv 4) Zah (nomark _)) (Zfd (Zat Zwk (pv 4) (Zaq (Own.Za7 (K:=K)) (by rfl) G.len PySem.boot_len (Za (pv 2) Zad)) (nomark _)))))
   (Zaf (Zap Zw9))
   Zaz)
   (Zac (Zbw (PW.pt (Zhq (Zat (Pu.Zi0 (K:=K) (show _ < cLine from hr.units0)) (Za4 (Own.Zar (K:=K)) (pv 2) (Zau Zdm (pv 4) Zah) (fun _ _=>rfl)) (pv 5) (nomark _)) (Zfd (Zat (Pu.Zi0 (K:=K) (show _ < cLine from hr.units0)) (Za4 (Own.Zar (K:=K)) (pv 2) (pv 4) (fun _ _=>rfl)) (pv 6) (nomark _)))))
   (Zaf (Zap Zw9))
   Zaz)
   (Zac (Pu.pz 3 sc_law_carried.nd (Zau Zca (pv 3) (Zau Zhi (Za4 (Own.Zar (K:=K)) (Za4 (Own.Zar (K:=K)) (pv 1) (Zau Zdm (pv 5) Zah) (fun _ _=>rfl)) Zah (fun _ _=>rfl)) (Za4 (Own.Zar (K:=K)) (Za4 (Own.Zar (K:=K)) (pv 1) (Zau Zdm (pv 6) Zah) (fun _ _=>rfl)) Zah (fun _ _=>rfl)))))
   (Zac (Zxj (pv 6) (Zx (pv 2) (Zau Zdm (pv 4) Zah) Zq7))
   (Zaf (Zxj (pv 5) (Zx (pv 2) (pv 4) Zq7))))))))
   (Zaf (Zap (Zbd (Za (pv 2) (Za (pv 3) Zad)))))))),Pu.Zax (n:=2) h
   (Zaj (Zao (Zx7 (Zaa Zai (Zaa (Zci (Zcs (Zaa (Zab 1) Zae)) Zai) Zae))) (Zag 2))
    (Zaj (Zao Zai (Zag 3))
    (Zaj (Za2 0 (Zde [4,5,6,7] (Zcv (Zab 0)) (Zma (Zbt (Zag 4) (Zbt (Zag 5) (Zbt (Zag 6) (Zbt (Zag 7) Zib)))))
    (Zaj (Zb6 (Zhf (Zay (Zsw (Zab 4) Zai)) (Zay (Zwz (Zab 4) (Zcs (Zaa (Zab 2) Zae))))) (Za0 Zxf) Za3)
    (Zaj (Zb6 (Zhf (Zay (Ziv (Za6 (Zab 2) (Zdn (Zab 4) Zai)) (Zab 5))) (Zay (Ziv (Za6 (Zab 2) (Zab 4)) (Zab 6)))) (Za0 Zxf) Za3)
    (Zaj (Zao (Zci (Zab 3) (Zkq (Za6 (Za6 (Zab 1) (Zdn (Zab 5) Zai)) Zai) (Za6 (Za6 (Zab 1) (Zdn (Zab 6) Zai)) Zai))) (Zag 3))
    (Zaj (Zu9 2 (Zdn (Zab 4) Zai) (Zab 6))
    (Zu9 2 (Zab 4) (Zab 5))))))))
    (Za2 3 (Za2 2 (Za0 (Zbf (Zaa (Zab 2) (Zaa (Zab 3) Zae))))))))) (by decide) (fun ds R X h=>?_)⟩
  obtain ⟨ps,f,ms,k,rfl,hF,hz,hM,hk,hR⟩:=h
  refine ⟨rfl,?_⟩
  have hlm:(ps.map prD).length=ps.length:=Uab ..
  have lt:(ms.take k).length=k:=by rw [Ua4];omega
  refine ⟨⟨by decide,by decide,by omega,by omega⟩,by omega,?_⟩
  have e0:((((ps.map prD).length:Nat):Int) + 1 - 1).toNat=ps.length:=by rw [hlm];omega
  refine ⟨rfl,Zem (xs:=ms.take k) (emb:=mvD) (fun i γ'=>∃ su:List Int×Int,γ'=[some (.bor (.lst ((ms.take k).map mvD))),some (.bor (plD ps)),some (.own (su.1.map D.int)),some (.sh (.int su.2)),none,none,none,none]/\su.1.Perm (runI 1 ps.length)/\walkM ps ((ms.take i).map (·.1)) (runI 1 ps.length,0)=some su/\Mv ps f su.1 (ms.drop i)) ⟨(runI 1 ps.length,0),?_,List.Perm.refl _,rfl,hM⟩ ?_ ?_⟩
  ·show _=([some (.bor (.lst ((ms.take k).map mvD))),some (.bor (plD ps)),some (.own ((runI 1 ps.length).map D.int)),some (.sh (.int 0)),none,none,none,none]:List (Option S))
   rw [← e0]
   rfl
  ·rintro i hi γ' ⟨st,rfl,hp,hw,hMi⟩
   rw [lt] at hi
   have hl:st.1.length=ps.length:=by rw [hp.length_eq,Zc0]
   have ed:ms.drop i=ms[i] :: ms.drop (i + 1):=Uba (by omega)
   rw [ed] at hMi
   obtain ⟨p,em,h1,h2,hMn⟩:=hMi.next
   have et:(ms.take k)[i]'(by omega)=((p:Int),st.1.getD (p - 1) 0,st.1.getD p 0,exM ps st.1 p):=by rw [Ub1];exact em
   have ew:walkM ps ((ms.take (i + 1)).map (·.1)) (runI 1 ps.length,0)=some (swapM st.1 p,st.2 + exM ps st.1 p):=by
    rw [Uau (by omega),Uaq,Ubz,Zor ps _ _ _ st hw,Zct,em,Uad (by show ¬ ((p:Int) < 1\/(ps.length:Int)<=(p:Int));omega),Zhn]
    rfl
   rw [et]
   have b1:p - 1 < st.1.length:=by omega
   have g1:st.1.getD (p - 1) 0=st.1[p - 1]:=by rw [Uac,Uaa b1];rfl
   have g2:st.1.getD p 0=st.1[p]:=by rw [Uac,Uaa h2];rfl
   have ix:∀ (i:Nat) (k:Int),i < st.1.length->k=(i:Int)->atI (st.1.map D.int) k=some (.int (st.1.getD i 0)):=fun i k hi e=>by
    rw [e]
    exact Zeh (f:=D.int) (Zfn (by rw [Uac,Uaa hi];rfl))
   have lst:(st.1.map D.int).length=ps.length:=by rw [Uab];exact hl
   have inn:∀ i:Nat,i < st.1.length->1<=st.1.getD i 0/\st.1.getD i 0<=ps.length:=fun i hi=>by
    have hm:st.1.getD i 0∈st.1:=by rw [Uac,Uaa hi];exact Uaw hi
    exact runI_mem.mp (hp.mem_iff.mp hm)
   have sx:∀ z:Int,1<=z/\z<=ps.length->atI (ps.map prD) (z - 1)=some (prD (ps.getD (z - 1).toNat (0,0)))/\(1<=(ps.getD (z - 1).toNat (0,0)).2/\(ps.getD (z - 1).toNat (0,0)).2<=1000):=fun z hz=>by
    have hi:(z - 1).toNat < ps.length:=by omega
    have e:ps.getD (z - 1).toNat (0,0)=ps[(z - 1).toNat]:=by rw [Uac,Uaa hi];rfl
    rw [e]
    have:=hF _ (Uaw hi)
    exact ⟨Zgn (f:=prD) (xs:=ps) (by omega) (by omega),this.2.2.1,this.2.2.2⟩
   obtain ⟨s1,s2⟩:=sx _ (inn (p - 1) b1)
   obtain ⟨s3,s4⟩:=sx _ (inn p h2)
   have x1:ixN (st.1.map D.int).length ((p:Int) - 1)=some (p - 1):=by
    unfold ixN
    rw [lst,Uae (by omega),Uae (by omega)]
    congr 1
    omega
   have x2:∀ d:D,ixN ((st.1.map D.int).set (p - 1) d).length (p:Int)=some p:=fun d=>by
    unfold ixN
    rw [Ubw,lst,Uae (by omega),Uae (by omega)]
    rfl
   refine ⟨rfl,ite2 (fun g=>absurd (Uap g) (by omega)) (fun _=>ite2 (fun g=>absurd (Uap g) (by omega)) (fun _=>?_))⟩
   refine ⟨_,ix (p - 1) _ b1 (by omega),iteNS rfl ⟨_,ix p _ h2 rfl,iteNS rfl ?_⟩⟩
   refine ⟨_,s1,_,rfl,_,s3,_,rfl,.inl ⟨by show -(2 ^ 64) < (ps.getD _ (0,0)).2;omega,by show (ps.getD _ (0,0)).2 < 2 ^ 64;omega⟩,?_⟩
   refine ⟨p - 1,_,x1,rfl,p,_,x2 _,rfl,(swapM st.1 p,st.2 + exM ps st.1 p),?_,(Zfq h1 h2).trans hp,ew,hMn⟩
   have e1:((st.1.map D.int).set (p - 1) (.int (st.1.getD p 0))).set p (.int (st.1.getD (p - 1) 0))=(swapM st.1 p).map D.int:=by
    rw [← Zu1 h1 h2,List.map_set,List.map_set,g1,g2]
   show _=([some (.bor (.lst ((ms.take k).map mvD))),some (.bor (plD ps)),some (.own ((swapM st.1 p).map D.int)),some (.sh (.int (st.2 + exM ps st.1 p))),none,none,none,none]:List (Option S))
   rw [← e1]
   rfl
  ·rintro γ' ⟨su,rfl,hp,hw,hMi⟩
   rw [lt] at hw hMi
   obtain ⟨ns',c',w1,w2,w3,w4⟩:=hM.cut (Zc0 _) 0 k hk
   rw [hw] at w1
   cases w1
   exact ⟨by simp,hR _ _ hw hp hMi w3⟩
theorem Zj6 (G:Glob K mg) (DD:Def K mg "check_strips" Zc6 ["strips"])
  (c_check_holder:Zd0 P w K mg base)
  (c_check_width:Zgj P w K mg base)
  : Zf0 P w K mg base:=by
 refine ExcR.Def.okX DD (k:=1) sc_check_strips (fun vs H Q E h=>Zam h (fun ds R X h=>?_)) (fun f cdv A outer s H vs Q E hr h=>?_)
 ·obtain ⟨ps,rfl,hz,hR⟩:=h
  rfl
 ·refine ⟨_,(Zac (Zbw (Zat Zna (Zaq (Own.Za7 (K:=K)) (by rfl) G.len PySem.boot_len (Za (pv 0) Zad)) (ExcR.Zcx G.STRIPS) (nomark _))
   (Zaf (ExcR.Zdv G.g_TooManyStrips.c G.m_TooManyStrips ExcR.Zdq rfl (Za (ExcR.pe_f (ExcR.Ziu (ExcR.Zo0 (ExcR.Zcx G.STRIPS) (ExcR.Ziu ExcR.Zn1)))) Zad)))
   Zaz)
   (Zaf (Zb9 ExcR.Zuk rfl (Pu.Za1 (K:=K) (pv 0)) (Own.Zgt (K:=K) (n:=2) rfl (Zbc (Zan (i:=1) sc_check_strips.nd rfl (by first | exact Or.inl rfl | exact Or.inr rfl)) (Zbc (Zan (i:=2) sc_check_strips.nd rfl (by first | exact Or.inl rfl | exact Or.inr rfl)) Zfy)))
   (Zac (Zbn (Own.Zav c_check_holder (hr.mono (by decide)) ExcR.Zeb (Za (pv 1) Zad)))
   (Zaf (Zbn (Own.Zav c_check_width (hr.mono (by decide)) ExcR.Zeb (Za (pv 2) Zad)))))))),Pu.Zax (n:=1) h
   (Zaj (Zb6 (Zay (Zo3 (Zcs (Zaa (Zab 0) Zae)) Zai)) (Zdt (Zaa (se_f (Zif (Zpk Zai (Zif Zpa)))) Zae)) Za3)
    (Za2 0 (Zde [1,2] (Zcv (Zab 0)) (Zma (Zbt (Zag 1) (Zbt (Zag 2) Zib)))
    (Zaj (Zei (Ze8 (Zaa (Zab 1) Zae)))
    (Zei (Ze8 (Zaa (Zab 2) Zae))))))) (by decide) (fun ds R X h=>?_)⟩
  obtain ⟨ps,rfl,hz,hR⟩:=h
  refine ⟨rfl,?_⟩
  have hl:(ps.map prD).length=ps.length:=Uab ..
  unfold stripE at hR
  refine ite2 (fun g=>?_) (fun g=>?_)
  ·have g':(40:Int) < ((ps.map prD).length:Int):=Uap g
   rw [Uae (by omega)] at hR
   exact ⟨by decide,by decide,by decide,by decide,by decide,by simp,hR⟩
  ·have g':¬ (40:Int) < ((ps.map prD).length:Int):=fun z=>g (Uaf z)
   rw [Uad (by omega)] at hR
   refine ⟨rfl,Zem (xs:=ps) (emb:=prD) (fun i γ'=>γ'=[some (.bor (plD ps)),none,none]/\firstE (ps.drop i)=firstE ps) ⟨rfl,rfl⟩ ?_ ?_⟩
   ·rintro i hi γ' ⟨rfl,hf⟩
    have ed:ps.drop i=ps[i] :: ps.drop (i + 1):=Uba hi
    rw [ed,Zpz] at hf
    generalize ps[i]=p at hf ⊢
    refine ⟨rfl,p.1,rfl,?_⟩
    unfold holdE
    by_cases c:1<=p.1/\p.1<=10
    ·rw [Uad (fun z=>z c)] at hf
     rw [Uae c]
     refine ⟨p.2,rfl,?_⟩
     unfold widthE
     by_cases c2:1<=p.2/\p.2<=1000
     ·rw [Uad (fun z=>z c2)] at hf
      rw [Uae c2]
      exact ⟨rfl,hf⟩
     ·rw [Uae c2] at hf
      rw [Uad c2]
      rw [← hf] at hR
      exact hR
    ·rw [Uae c] at hf
     rw [Uad c]
     rw [← hf] at hR
     exact hR
   ·rintro γ' ⟨rfl,hf⟩
    rw [Udv] at hf
    rw [← hf] at hR
    exact hR
theorem Zlv (G:Glob K mg) (DD:Def K mg "check_order" Zdp ["strips", "order"])
  (c_holders_of:Zbz P w K mg base)
  : Zgm P w K mg base:=by
 refine ExcR.Def.okX DD (k:=1) Zlc (fun vs H Q E h=>Zam h (fun ds R X h=>?_)) (fun f cdv A outer s H vs Q E hr h=>?_)
 ·obtain ⟨ps,os,rfl,hF,hz,hl,hR⟩:=h
  rfl
 ·refine ⟨_,(Zaf (Zbw (Zat (Pu.Zi0 (K:=K) (show _ < cLine from hr.units0)) (Zaq (Pu.Zea (K:=K) (w:=w) rfl) (by rfl) G.sorted boot_sorted (Za (pv 1) Zad)) (Own.Zav c_holders_of (hr.mono (by decide)) pass0 (Za (pv 0) Zad)) (nomark _))
   (Zaf (ExcR.Zdv G.g_BadOrder.c G.m_BadOrder ExcR.Zdq rfl (Za Zog Zad)))
   Zaz)),Pu.Zax (n:=2) h
   (Zb6 (Zay (Ziv (Zhm (Zaa (Zab 1) Zae)) (Zak (Zaa (Zab 0) Zae)))) (Zdt (Zaa Zoa Zae)) Za3) (by decide) (fun ds R X h=>?_)⟩
  obtain ⟨ps,os,rfl,hF,hz,hl,hR⟩:=h
  refine ⟨rfl,?_⟩
  refine ⟨os,rfl,hl,fun ns h1 h2=>⟨ps,rfl,hF,hz,_,_,rfl,rfl,?_⟩⟩
  have q:=Zw0 (ps:=ps) h1 h2
  unfold orderE at hR
  refine ite2 (fun g=>?_) (fun g=>?_)
  ·have g':¬ ns=holdM ps:=fun z=>by rw [Uae rfl,Uaf z] at g;cases g
   rw [Uad (fun z=>g' (q.mpr z))] at hR
   exact ⟨by simp,hR⟩
  ·have g':ns=holdM ps:=Classical.byContradiction fun z=>g (by rw [Uae rfl,Uam z];rfl)
   rw [Uae (q.mp g')] at hR
   exact hR
theorem Zlm (G:Glob K mg) (DD:Def K mg "walk_places" Zdr ["strips", "places"])
  (c_own_numbers:Zej P w K mg base)
  (c_check_neighbours:Zd1 P w K mg base)
  (c_exchange_cost:Zdj P w K mg base)
  (c_exchanged:Zfo P w K mg base)
  : Zgp P w K mg base:=by
 refine ExcR.Def.okX DD (k:=1) sc_walk_places (fun vs H Q E h=>Zam h (fun ds R X h=>?_)) (fun f cdv A outer s H vs Q E hr h=>?_)
 ·obtain ⟨ps,pl,rfl,hF,hz,hpl,hR⟩:=h
  rfl
 ·refine ⟨_,(Zac (Pu.pz 2 sc_walk_places.nd (Own.Zav c_own_numbers (hr.mono (by decide)) pass0 (Za (pv 0) Zad)))
   (Zac (Pu.pz 3 sc_walk_places.nd Zah)
   (Zac (Zb9 ExcR.Zuk rfl (Pu.Za1 (K:=K) (pv 1)) (Zan (i:=4) sc_walk_places.nd rfl (by first | exact Or.inl rfl | exact Or.inr rfl))
   (Zac (Zbn (Own.Zav c_check_neighbours (hr.mono (by decide)) ExcR.Zeb (Za (pv 0) (Za (pv 4) Zad))))
   (Zac (Ztj (i:=3) sc_walk_places.nd rfl (by first | exact Or.inl rfl | exact Or.inr rfl) (Own.Zav c_exchange_cost (hr.mono (by decide)) pass0 (Za (pv 0) (Za (pv 2) (Za (pv 4) Zad)))) Zts)
   (Zaf (Pu.pz 2 sc_walk_places.nd (Own.Zav c_exchanged (hr.mono (by decide)) pass0 (Za (pv 2) (Za (pv 4) Zad))))))))
   (Zaf (Zap (Zdf (Za (pv 2) (Za (pv 3) Zad)))))))),Pu.Zax (n:=2) h
   (Zaj (Zao (Zak (Zaa (Zab 0) Zae)) (Zag 2))
    (Zaj (Zao Zai (Zag 3))
    (Zaj (Za2 1 (Zde [4] (Zcv (Zab 1)) (Zag 4)
    (Zaj (Zei (Ze8 (Zaa (Zab 0) (Zaa (Zab 4) Zae))))
    (Zaj (Zyx (Zak (Zaa (Zab 0) (Zaa (Zab 2) (Zaa (Zab 4) Zae)))))
    (Zao (Zak (Zaa (Zab 2) (Zaa (Zab 4) Zae))) (Zag 2))))))
    (Za2 3 (Za2 2 (Za0 (Zdb (Zaa (Zab 2) (Zaa (Zab 3) Zae))))))))) (by decide) (fun ds R X h=>?_)⟩
  obtain ⟨ps,pl,rfl,hF,hz,hpl,hR⟩:=h
  refine ⟨rfl,?_⟩
  refine ⟨ps,rfl,by omega,?_⟩
  refine ⟨rfl,Zem (xs:=pl) (emb:=D.int) (fun i γ'=>∃ st:List Int×Int,γ'=[some (.bor (.lst (ps.map prD))),some (.bor (.lst (pl.map D.int))),some (.own (st.1.map D.int)),some (.sh (.int st.2)),none]/\st.1.Perm (runI 1 ps.length)/\walkM ps pl (runI 1 ps.length,0)=walkM ps (pl.drop i) st) ⟨(runI 1 ps.length,0),rfl,List.Perm.refl _,by rw [List.drop_zero]⟩ ?_ ?_⟩
  ·rintro i hi γ' ⟨st,rfl,hp,hw⟩
   have ed:pl.drop i=pl[i] :: pl.drop (i + 1):=Uba hi
   rw [ed] at hw
   generalize pl[i]=p at hw ⊢
   refine ⟨ps,p,rfl,?_⟩
   by_cases c:p < 1\/(ps.length:Int)<=p
   ·rw [Uae c]
    rw [Zct,Uae c] at hw
    rw [hw] at hR
    exact hR
   ·rw [Uad c]
    rw [Zct,Uad c] at hw
    have hl:st.1.length=ps.length:=by rw [hp.length_eq,Zc0]
    refine ⟨ps,st.1,p,rfl,hF,fun n hn=>runI_mem.mp (hp.mem_iff.mp hn),by omega,by omega,st.1,p,rfl,by omega,by omega,by omega,(swapM st.1 p.toNat,st.2 + exM ps st.1 p.toNat),rfl,(Zfq (by omega) (by omega)).trans hp,hw⟩
  ·rintro γ' ⟨st,rfl,hp,hw⟩
   rw [Udv] at hw
   rw [Zhn] at hw
   rw [hw] at hR
   exact ⟨by simp,hR⟩
theorem Zn7 (G:Glob K mg) (DD:Def K mg "ring_from" Ze7 ["least", "holders", "wishes"])
  (c_longer_paths:Zft P w K mg base)
  : Zig P w K mg base:=by
 refine DD.ok (k:=1) sc_ring_from (fun vs H Q E h=>Zam h (fun ds R X h=>?_)) (fun f cdv A outer s H vs Q E hr h=>?_)
 ·obtain ⟨l,hs,ws,rfl,hnd,hz,hR⟩:=h
  rfl
 ·refine ⟨_,(Zac (Pu.pz 3 sc_ring_from.nd (Zbd (Za (Zbd (Za (pv 0) Zad)) Zad)))
   (Zac (Pu.pz 4 sc_ring_from.nd (Zaq (Pu.Zea (K:=K) (w:=w) rfl) (by rfl) G.sorted boot_sorted (Za (Own.Zbs (N':=["holder", "least"]) (φ:=[none,some 0]) rfl (Own.CompOk.of (by rfl)) (Pu.Za1 (K:=K) (pv 1)) (fun _ _ _ _ _=>⟨(Zan (i:=0) (show (["holder", "least"]:List Str).Nodup from by decide +kernel) rfl (by first | exact Or.inl rfl | exact Or.inr rfl)),(Own.Zc7 (Zat Zna (pv 0) (pv 1) (nomark _))),(pv 0)⟩)) Zad)))
   (Zac (Zm5 PassesOwn.never (Pu.Zb4 (K:=K) (pv 3))
   (Zac (Own.Zb0 (N':=["path", "wishes", "least"]) (φ:=[none,some 2,some 0]) (i:=5) sc_ring_from.nd rfl rfl rfl (Own.CompOk.of (by rfl)) (Pu.Za1 (K:=K) (pv 3)) (fun _ _ _ _ _=>⟨(Zan (i:=0) (show (["path", "wishes", "least"]:List Str).Nodup from by decide +kernel) rfl (by first | exact Or.inl rfl | exact Or.inr rfl)),(Own.Zc7 (Zat (Pu.Zpj (K:=K) (show _ < cLine from Zff hr)) (Zdf (Za (Za4 (Own.Zar (K:=K)) (pv 0) (Zss Zl5 Zah) (fun _ _=>rfl)) (Za (pv 2) Zad))) (pv 1) (by with_unfolding_all rfl))),(pv 0)⟩))
   (Zac (Zbw (Pu.Zb4 (K:=K) (pv 5))
   (Zaf (Zap (Za4 (Own.Zar (K:=K)) (pv 5) Zah (fun _ _=>rfl))))
   Zaz)
   (Zac (Pu.pz 3 sc_ring_from.nd (Own.Zav c_longer_paths (hr.mono (by decide)) pass0 (Za (pv 3) (Za (pv 4) (Za (pv 2) Zad)))))
   (Zac (Pu.pz 6 sc_ring_from.nd (Own.Zbs (N':=["path"]) (φ:=[none]) rfl (Own.CompOk.of (by rfl)) (Pu.Za1 (K:=K) (pv 3)) (fun _ _ _ _ _=>⟨(Zan (i:=0) (show (["path"]:List Str).Nodup from by decide +kernel) rfl (by first | exact Or.inl rfl | exact Or.inr rfl)),Own.Zbg,(Za4 (Own.Zar (K:=K)) (pv 0) (Zss Zl5 Zah) (fun _ _=>rfl))⟩)))
   (Zaf (Own.Zb0 (N':=["holder", "reached"]) (φ:=[none,some 6]) (i:=4) sc_ring_from.nd rfl rfl rfl (Own.CompOk.of (by rfl)) (Pu.Za1 (K:=K) (pv 4)) (fun _ _ _ _ _=>⟨(Zan (i:=0) (show (["holder", "reached"]:List Str).Nodup from by decide +kernel) rfl (by first | exact Or.inl rfl | exact Or.inr rfl)),(Own.Zc7 (Zat (Pu.Zo9 (K:=K) (show _ < cLine from Zff hr)) (pv 0) (pv 1) (by with_unfolding_all rfl))),(pv 0)⟩))))))))
   (Zaf (Zap (Zbd Zad)))))),Pu.Zax (n:=3) h
   (Zaj (Za2 0 (Zao (Zbf (Zaa (Zbf (Zaa (Zab 0) Zae)) Zae)) (Zag 3)))
    (Zaj (Zao (Zhm (Zaa (Zbm (Zbu (Zab 1)) (Zag 0) (Zay (Zo3 (Zab 0) (Zab 1))) (Zab 0)) Zae)) (Zag 4))
    (Zaj (Zne [5,6] (Zb5 (Zab 3))
    (Zaj (Za2 0 (Zao (Zbm (Zbu (Zab 3)) (Zag 0) (Zay (Zqj (Zdb (Zaa (Za6 (Zab 0) (Zlz Zai)) (Zaa (Zab 2) Zae))) (Zab 1))) (Zab 0)) (Zag 5)))
    (Zaj (Zb6 (Zb5 (Zab 5)) (Zpv (Za6 (Zab 5) Zai)) Za3)
    (Zaj (Zao (Zak (Zaa (Zab 3) (Zaa (Zab 4) (Zaa (Zab 2) Zae)))) (Zag 3))
    (Zaj (Zao (Zbm (Zbu (Zab 3)) (Zag 0) Zep (Za6 (Zab 0) (Zlz Zai))) (Zag 6))
    (Zao (Zbm (Zbu (Zab 4)) (Zag 0) (Zay (Zqj (Zab 0) (Zab 1))) (Zab 0)) (Zag 4)))))))
    (Zpv (Zbf Zae))))) (by decide) (fun ds R X h=>?_)⟩
  obtain ⟨l,hs,ws,rfl,hnd,hz,hR⟩:=h
  refine ⟨rfl,?_⟩
  refine ⟨by simp,by simp,Zbq (xs:=hs) (emb:=D.int) (fun h=>if decide (l < h)=true then some (.int h) else none) (by omega) (fun h _=>ite2 (fun g=>⟨_,rfl,Uae g⟩) (fun g=>Uad g)) ?_⟩
  rw [pickI fun h=>decide (l < h)]
  refine ⟨hs.filter fun h=>decide (l < h),rfl,Udn (Ubn _ _) (by omega),fun ls hp hsrt=>?_⟩
  have hlt:ls.Pairwise (· < ·):=Zc2 hsrt (hp.nodup_iff.mpr (hnd.filter _))
  have hm:∀ h,h∈ls↔Gr hs l h:=fun h=>by
   rw [hp.mem_iff,Ua7,decide_eq_true_eq]
   exact Iff.rfl
  have hlen:ls.length<=hs.length:=by
   rw [hp.length_eq]
   exact Ubn _ _
  refine Zmn (fun γ'=>∃ k ps ls,γ'=[some (.sh (.int l)),some (.bor (.lst (hs.map D.int))),some (.bor (.lst (ws.map prD))),some (.own (ps.map (em l))),some (.own (ls.map D.int)),none,none]/\Lev hs ws l k ps ls/\ps.length<=60/\ls.length<=hs.length/\(k + ls.length<=hs.length\/(ps=[]/\k<=hs.length + 1)))
   (fun γ=>2 * lenAt 4 γ + min 1 (lenAt 3 γ)) ⟨0,[[]],ls,rfl,Lev.start hlt hm,by simp,hlen,.inl (by omega)⟩ ?_
  rintro γ' ⟨k,ps,ls,rfl,L,hpl,hll,hk⟩
  have emp:(!(ps.map (em l)).isEmpty)=decide (ps≠[]):=by cases ps<;>simp
  show if (!(ps.map (em l)).isEmpty)=true then _ else _
  rw [emp]
  refine ite2 (fun g=>?_) (fun g=>?_)
  ·have hne:ps≠[]:=Uap g
   have hk':k + ls.length<=hs.length:=hk.elim id fun z=>absurd z.1 hne
   have hpk:∀ p∈ps,p.length<=60:=fun p hp=>by rw [(L.way p hp).1];omega
   refine Zbq (xs:=ps) (emb:=em l) (fun p=>if decide ((lastI l p,l)∈ws)=true then some (em l p) else none) (by omega) (fun p hp=>⟨_,Zqu l p,by simp,_,.lp (lastI l p,l) ws,ite2 (fun g=>⟨_,rfl,Uae g⟩) (fun g=>Uad g)⟩) ?_
   rw [pickD fun p=>decide ((lastI l p,l)∈ws)]
   generalize ef:(ps.filter fun p=>decide ((lastI l p,l)∈ws))=fs
   have emp2:(!(fs.map (em l)).isEmpty)=decide (fs≠[]):=by cases fs<;>simp
   show if (!(fs.map (em l)).isEmpty)=true then _ else _
   rw [emp2]
   refine ite2 (fun g2=>?_) (fun g2=>?_)
   ·have hfe:fs≠[]:=Uap g2
    cases fs with
    | nil=>exact absurd rfl hfe
    | cons p r=>
     obtain ⟨i,hi,e1,e2,e3⟩:=Zil ef
     have hp:p∈ps:=by rw [← e1];exact Uaw hi
     refine ⟨em l p,Zpm _ _,hR (l :: p) (L.found hi e1 (Uap e2) fun j hj hji z=>?_) (by have:=(L.way p hp).1;simp;omega)⟩
     have:=e3 j hj hji
     rw [Uaf z] at this
     cases this
   ·have hfe:fs=[]:=Classical.byContradiction fun z=>g2 (Uaf z)
    have hn:∀ p∈ps,(lastI l p,l)∉ws:=fun p hp z=>by
     have:p∈fs:=by rw [← ef];exact Ua7.mpr ⟨hp,Uaf z⟩
     rw [hfe] at this
     cases this
    refine ⟨l,ps,ls,ws,rfl,L.srt,L.lsrt,fun p hp=>Ual (hpk p hp) (by decide),by omega,fun lg G hlg=>?_⟩
    refine Zbq (xs:=lg) (emb:=em l) (fun p=>some (.int (lastI l p))) (by omega) (fun p _=>⟨_,Zqu l p,_,rfl,rfl⟩) ?_
    have e1:lg.filterMap (fun p=>some (D.int (lastI l p)))=(lg.map (lastI l)).map D.int:=by rw [Ubq,Ua8];rfl
    rw [e1]
    refine Zbq (xs:=ls) (emb:=D.int) (fun h=>if decide (¬ h∈lg.map (lastI l))=true then some (.int h) else none) (by omega) (fun h _=>⟨_,.li h _,?_⟩) ?_
    ·by_cases c:h∈lg.map (lastI l)
     ·simp only [Uaf c]
      exact iteF (Uad (by simp [c]))
     ·simp only [Uam c]
      exact iteT ⟨_,rfl,Uae (by simp [c])⟩
    rw [pickI fun h=>decide (¬ h∈lg.map (lastI l))]
    have L':=L.next hn G rfl
    have hsub:∀ h∈lg.map (lastI l),h∈ls:=fun h hh=>by
     obtain ⟨q,hq,e⟩:=Ua5.mp hh
     obtain ⟨p,x,⟨_,a⟩,rfl,_⟩:=G.mem q hq
     rw [Zbo] at e
     rw [← e]
     exact a
    have hfl:=Ubn (fun h=>decide (¬ h∈lg.map (lastI l))) ls
    have hless:lg≠[]->(ls.filter fun h=>decide (¬ h∈lg.map (lastI l))).length < ls.length:=fun hne=>by
     obtain ⟨q,hq⟩:=List.exists_mem_of_ne_nil lg hne
     have hm:lastI l q∈ls:=hsub _ (Udi hq)
     refine Nat.lt_of_le_of_ne hfl fun z=>?_
     have:=List.filter_eq_self.mp (List.Sublist.eq_of_length (Udg (l:=ls)) z) (lastI l q) hm
     rw [decide_eq_true_eq] at this
     exact this (Udi hq)
    refine ⟨⟨k + 1,lg,_,rfl,L',by omega,by omega,?_⟩,?_⟩
    ·by_cases c:lg=[]
     ·exact .inr ⟨c,by omega⟩
     ·have:=hless c
      exact .inl (by omega)
    ·show 2 * ((ls.filter fun h=>decide (¬ h∈lg.map (lastI l))).map D.int).length + min 1 (lg.map (em l)).length < 2 * (ls.map D.int).length + min 1 (ps.map (em l)).length
     rw [Uab,Uab,Uab,Uab]
     have:0 < ps.length:=List.length_pos_iff.mpr hne
     by_cases c:lg=[]
     ·rw [c]
      rw [c] at hfl
      simp only [List.length_nil]
      omega
     ·have:=hless c
      omega
  ·have hpe:ps=[]:=Classical.byContradiction fun z=>g (Uaf z)
   subst hpe
   exact ⟨by simp,hR [] L.over (by simp)⟩
theorem Zoy (G:Glob K mg) (DD:Def K mg "with_wish" Ze6 ["wishes", "ahead", "behind"])
  (c_check_holder:Zd0 P w K mg base)
  : Zis P w K mg base:=by
 refine ExcR.Def.okX DD (k:=1) Zpf (fun vs H Q E h=>Zam h (fun ds R X h=>?_)) (fun f cdv A outer s H vs Q E hr h=>?_)
 ·obtain ⟨ws,a,b,rfl,hz,hR⟩:=h
  rfl
 ·refine ⟨_,(Zac (Zbn (Own.Zav c_check_holder (hr.mono (by decide)) ExcR.Zeb (Za (pv 1) Zad)))
   (Zac (Zbn (Own.Zav c_check_holder (hr.mono (by decide)) ExcR.Zeb (Za (pv 2) Zad)))
   (Zac (Zbw (Zat (Pu.Zl2 (K:=K) (show _ < cLine from hr.units0)) (pv 1) (pv 2) (nomark _))
   (Zaf (ExcR.Zdv G.g_LikeHolders.c G.m_LikeHolders ExcR.Zdq rfl (Za Zog Zad)))
   Zaz)
   (Zac (Zbw (Zat (Pu.Zpj (K:=K) (show _ < cLine from Zff hr)) (Zdf (Za (pv 1) (Za (pv 2) Zad))) (pv 0) (by with_unfolding_all rfl))
   (Zaf (ExcR.Zdv G.g_WishStands.c G.m_WishStands ExcR.Zdq rfl (Za Zog Zad)))
   Zaz)
   (Zac (Zbw (Zat Zwk (Zaq (Own.Za7 (K:=K)) (by rfl) G.len PySem.boot_len (Za (pv 0) Zad)) (ExcR.Zcx G.MOST_WISHES) (nomark _))
   (Zaf (ExcR.Zdv G.g_TooManyWishes.c G.m_TooManyWishes ExcR.Zdq rfl (Za (ExcR.pe_f (ExcR.Ziu (ExcR.Zo0 (ExcR.Zcx G.MOST_WISHES) (ExcR.Ziu ExcR.Zn1)))) Zad)))
   Zaz)
   (Zaf (Zap (Zau Zl4 (pv 0) (Zbd (Za (Zdf (Za (pv 1) (Za (pv 2) Zad))) Zad)))))))))),Pu.Zax (n:=3) h
   (Zaj (Zei (Ze8 (Zaa (Zab 1) Zae)))
    (Zaj (Zei (Ze8 (Zaa (Zab 2) Zae)))
    (Zaj (Zb6 (Zay (Zl7 (Zab 1) (Zab 2))) (Zdt (Zaa Zoa Zae)) Za3)
    (Zaj (Zb6 (Zay (Zqj (Zdb (Zaa (Zab 1) (Zaa (Zab 2) Zae))) (Zab 0))) (Zdt (Zaa Zoa Zae)) Za3)
    (Zaj (Zb6 (Zay (Zwz (Zcs (Zaa (Zab 0) Zae)) Zai)) (Zdt (Zaa (se_f (Zif (Zpk Zai (Zif Zpa)))) Zae)) Za3)
    (Za2 2 (Za2 1 (Za0 (Zmb (Zab 0) (Zbf (Zaa (Zdb (Zaa (Zab 1) (Zaa (Zab 2) Zae))) Zae))))))))))) (by decide) (fun ds R X h=>?_)⟩
  obtain ⟨ws,a,b,rfl,hz,hR⟩:=h
  refine ⟨rfl,?_⟩
  have hl:(ws.map prD).length=ws.length:=Uab ..
  unfold wishE at hR
  refine ⟨a,rfl,?_⟩
  unfold holdE
  by_cases c1:1<=a/\a<=10
  ·rw [Uad (fun z=>z c1)] at hR
   rw [Uae c1]
   refine ⟨b,rfl,?_⟩
   unfold holdE
   by_cases c2:1<=b/\b<=10
   ·rw [Uad (fun z=>z c2)] at hR
    rw [Uae c2]
    refine ite2 (fun g=>?_) (fun g=>?_)
    ·rw [Uae (Uap g)] at hR
     exact ⟨by simp,hR⟩
    ·rw [Uad (fun z=>g (Uaf z))] at hR
     refine ⟨by simp,_,.lp (a,b) ws,ite2 (fun g2=>?_) (fun g2=>?_)⟩
     ·rw [Uae (Uap g2)] at hR
      exact ⟨by simp,hR⟩
     ·rw [Uad (fun z=>g2 (Uaf z))] at hR
      refine ite2 (fun g3=>?_) (fun g3=>?_)
      ·have g3':(20:Int)<=((ws.map prD).length:Int):=Uap g3
       rw [Uae (by omega)] at hR
       exact ⟨by decide,by decide,by decide,by decide,by decide,by simp,hR⟩
      ·have g3':¬ (20:Int)<=((ws.map prD).length:Int):=fun z=>g3 (Uaf z)
       rw [Uad (by omega)] at hR
       refine ⟨by simp,by simp,Zen _,rfl,Ual (Udl (Ual (Ub4 hl) hz) (Uah 1)) (by decide),?_⟩
       rw [Uaq] at hR
       exact hR
   ·rw [Uae c2] at hR
    rw [Uad c2]
    exact hR
  ·rw [Uae c1] at hR
   rw [Uad c1]
   exact hR
theorem Zmy (G:Glob K mg) (DD:Def K mg "pair_costs" Zd8 ["strips"])
  (c_holders_of:Zbz P w K mg base)
  (c_pair_cost:Zns P w K mg base)
  : Ze0 P w K mg base:=by
 refine DD.ok (k:=1) sc_pair_costs (fun vs H Q E h=>Zam h (fun ds R X h=>?_)) (fun f cdv A outer s H vs Q E hr h=>?_)
 ·obtain ⟨ps,rfl,hF,hz,hR⟩:=h
  rfl
 ·refine ⟨_,(Zac (Pu.pz 1 sc_pair_costs.nd (Own.Zav c_holders_of (hr.mono (by decide)) pass0 (Za (pv 0) Zad)))
   (Zac (Pu.pz 2 sc_pair_costs.nd Zww)
   (Zac (Zb9 PassesOwn.never rfl (Pu.Za1 (K:=K) (pv 1)) (Zan (i:=3) sc_pair_costs.nd rfl (by first | exact Or.inl rfl | exact Or.inr rfl))
   (Zaf (Zb9 PassesOwn.never rfl (Pu.Za1 (K:=K) (pv 1)) (Zan (i:=4) sc_pair_costs.nd rfl (by first | exact Or.inl rfl | exact Or.inr rfl))
   (Zaf (Zq (Zff hr) (pv 2) (Zdf (Za (pv 3) (Za (pv 4) Zad))) (Own.Zav c_pair_cost (hr.mono (by decide)) pass0 (Za (pv 0) (Za (pv 3) (Za (pv 4) Zad)))) rfl)))))
   (Zaf (Zap (pv 2)))))),Pu.Zax (n:=1) h
   (Zaj (Zao (Zak (Zaa (Zab 0) Zae)) (Zag 1))
    (Zaj (Zao Zvq (Zag 2))
    (Zaj (Za2 1 (Zde [3,4] (Zcv (Zab 1)) (Zag 3)
    (Za2 1 (Zde [4] (Zcv (Zab 1)) (Zag 4)
    (Za2 4 (Za2 3 (Zpn 2 (Zdb (Zaa (Zab 3) (Zaa (Zab 4) Zae))) (Zak (Zaa (Zab 0) (Zaa (Zab 3) (Zaa (Zab 4) Zae)))))))))))
    (Zdh 2)))) (by decide) (fun ds R X h=>?_)⟩
  obtain ⟨ps,rfl,hF,hz,hR⟩:=h
  refine ⟨rfl,?_⟩
  refine ⟨ps,rfl,hF,hz,?_⟩
  have hh:=Zdd ps
  generalize holdM ps=hs at hh hR ⊢
  refine ⟨rfl,Zem (xs:=hs) (emb:=D.int) (fun i γ'=>∃ kvs:List (List Key×V),γ'=[some (.bor (.lst (ps.map prD))),some (.sh (.lst (hs.map D.int))),some (.own (.dT kvs)),none,none]/\kvs.length<=i * 10/\
   ∀ x∈hs.take i,∀ y∈hs,valV kvs [.inl x,.inl y]=some (.int (pcM ps x y ps.length))) ⟨[],rfl,by simp,by simp⟩ ?_ ?_⟩
  ·rintro i hi γ' ⟨kvs,rfl,hl,hv⟩
   refine ⟨rfl,Zem (xs:=hs) (emb:=D.int) (fun j γ'=>∃ kvs:List (List Key×V),γ'=[some (.bor (.lst (ps.map prD))),some (.sh (.lst (hs.map D.int))),some (.own (.dT kvs)),some (.sh (.int hs[i])),none]/\kvs.length<=i * 10 + j/\
    (∀ x∈hs.take i,∀ y∈hs,valV kvs [.inl x,.inl y]=some (.int (pcM ps x y ps.length)))/\∀ y∈hs.take j,valV kvs [.inl hs[i],.inl y]=some (.int (pcM ps hs[i] y ps.length))) ⟨kvs,rfl,by omega,hv,by simp⟩ ?_ ?_⟩
   ·rintro j hj γ' ⟨kvs,rfl,hl,hv,hw⟩
    refine ⟨ps,_,_,rfl,hF,by simp,_,_,rfl,rfl,by omega,_,rfl,Ual (Ze4 _ _ _) (by omega),fun x hx y hy=>?_,fun y hy=>?_⟩
    ·rw [Zjq]
     by_cases e:([.inl x,.inl y]:List Key)=[.inl hs[i],.inl hs[j]]
     ·rw [Uae e]
      simp only [List.cons.injEq,Sum.inl.injEq,and_true] at e
      rw [e.1,e.2]
     ·rw [Uad e]
      exact hv x hx y hy
    ·rw [Zjq]
     by_cases e:([.inl hs[i],.inl y]:List Key)=[.inl hs[i],.inl hs[j]]
     ·rw [Uae e]
      simp only [List.cons.injEq,Sum.inl.injEq,and_true] at e
      rw [e.2]
     ·rw [Uad e]
      rw [Uau hj,Ua0,Uag] at hy
      rcases hy with hy | hy
      ·exact hw y hy
      ·subst hy
       exact absurd rfl e
   ·rintro γ' ⟨kvs,rfl,hl,hv,hw⟩
    rw [Ubk] at hw
    refine ⟨kvs,rfl,by omega,fun x hx y hy=>?_⟩
    rw [Uau hi,Ua0,Uag] at hx
    rcases hx with hx | hx
    ·exact hv x hx y hy
    ·subst hx
     exact hw y hy
  ·rintro γ' ⟨kvs,rfl,hl,hv⟩
   rw [Ubk] at hv
   exact hR kvs hv
theorem Zia (G:Glob K mg) (DD:Def K mg "cost_with_last" Zcc ["members", "last", "least", "pairs"])
  (c_without:Zf7 P w K mg base)
  : Zes P w K mg base:=by
 refine DD.ok (k:=1) sc_cost_with_last (fun vs H Q E h=>Zam h (fun ds R X h=>?_)) (fun f cdv A outer s H vs Q E hr h=>?_)
 ·obtain ⟨ms,l,le,pa,c,v,rfl,hz,hv,hc,hR⟩:=h
  rfl
 ·refine ⟨_,(Zac (Pu.pz 4 sc_cost_with_last.nd (Own.Zav c_without (hr.mono (by decide)) pass0 (Za (pv 0) (Za (pv 1) Zad))))
   (Zaf (Zap (Zau Zca (Zkb (Zff hr) (pv 2) (pv 4) (fun _ _=>rfl)) (Zaq (Own.Zpd (K:=K) rfl) (by rfl) G.sum boot_sum (Za (Own.Zbs (N':=["other", "pairs", "last"]) (φ:=[none,some 3,some 1]) rfl (Own.CompOk.of (by rfl)) (Pu.Zj5 (K:=K) (pv 4)) (fun _ _ _ _ _=>⟨(Zan (i:=0) (show (["other", "pairs", "last"]:List Str).Nodup from by decide +kernel) rfl (by first | exact Or.inl rfl | exact Or.inr rfl)),Own.Zbg,(Zkb (Zff hr) (pv 1) (Zdf (Za (pv 0) (Za (pv 2) Zad))) (fun _ _=>rfl))⟩)) Zad)))))),Pu.Zax (n:=4) h
   (Zaj (Zao (Zak (Zaa (Zab 0) (Zaa (Zab 1) Zae))) (Zag 4))
    (Za2 1 (Za0 (Zci (Zkm (Zab 2) (Zab 4)) (Zt4 (Zaa (Zbm (SndI.c (Zod (Zab 4))) (Zag 0) Zep (Zkm (Zab 1) (Zdb (Zaa (Zab 0) (Zaa (Zab 2) Zae))))) Zae)))))) (by decide) (fun ds R X h=>?_)⟩
  obtain ⟨ms,l,le,pa,c,v,rfl,hz,hv,hc,hR⟩:=h
  refine ⟨rfl,?_⟩
  rw [Zg9]
  have hz':(lessM ms l).length<=1000:=Ual less_sub.length_le hz
  refine ⟨ms,l,rfl,hz,_,_,Zjm _,hv,rfl,_,rfl,Zbq (s:=.sh .non) (xs:=lessM ms l) (emb:=D.int) (fun m=>some (.int (c m))) (by omega) (fun m hm=>?_) ?_⟩
  ·exact ⟨by simp,_,_,rfl,hc m hm,rfl,_,rfl,rfl⟩
  ·rw [mapD]
   exact ⟨(lessM ms l).map c,by rw [Ua8];rfl,hR⟩
theorem Zgz (G:Glob K mg) (DD:Def K mg "cost_with_first" Zb2 ["members", "first", "least", "pairs"])
  (c_without:Zf7 P w K mg base)
  : Zd4 P w K mg base:=by
 refine DD.ok (k:=1) sc_cost_with_first (fun vs H Q E h=>Zam h (fun ds R X h=>?_)) (fun f cdv A outer s H vs Q E hr h=>?_)
 ·obtain ⟨ms,l,le,pa,c,v,rfl,hz,hv,hc,hR⟩:=h
  rfl
 ·refine ⟨_,(Zac (Pu.pz 4 sc_cost_with_first.nd (Own.Zav c_without (hr.mono (by decide)) pass0 (Za (pv 0) (Za (pv 1) Zad))))
   (Zaf (Zap (Zau Zca (Zkb (Zff hr) (pv 2) (pv 4) (fun _ _=>rfl)) (Zaq (Own.Zpd (K:=K) rfl) (by rfl) G.sum boot_sum (Za (Own.Zbs (N':=["other", "pairs", "first"]) (φ:=[none,some 3,some 1]) rfl (Own.CompOk.of (by rfl)) (Pu.Zj5 (K:=K) (pv 4)) (fun _ _ _ _ _=>⟨(Zan (i:=0) (show (["other", "pairs", "first"]:List Str).Nodup from by decide +kernel) rfl (by first | exact Or.inl rfl | exact Or.inr rfl)),Own.Zbg,(Zkb (Zff hr) (pv 1) (Zdf (Za (pv 2) (Za (pv 0) Zad))) (fun _ _=>rfl))⟩)) Zad)))))),Pu.Zax (n:=4) h
   (Zaj (Zao (Zak (Zaa (Zab 0) (Zaa (Zab 1) Zae))) (Zag 4))
    (Za2 1 (Za0 (Zci (Zkm (Zab 2) (Zab 4)) (Zt4 (Zaa (Zbm (SndI.c (Zod (Zab 4))) (Zag 0) Zep (Zkm (Zab 1) (Zdb (Zaa (Zab 2) (Zaa (Zab 0) Zae))))) Zae)))))) (by decide) (fun ds R X h=>?_)⟩
  obtain ⟨ms,l,le,pa,c,v,rfl,hz,hv,hc,hR⟩:=h
  refine ⟨rfl,?_⟩
  rw [Zg9]
  have hz':(lessM ms l).length<=1000:=Ual less_sub.length_le hz
  refine ⟨ms,l,rfl,hz,_,_,Zjm _,hv,rfl,_,rfl,Zbq (s:=.sh .non) (xs:=lessM ms l) (emb:=D.int) (fun m=>some (.int (c m))) (by omega) (fun m hm=>?_) ?_⟩
  ·exact ⟨by simp,_,_,rfl,hc m hm,rfl,_,rfl,rfl⟩
  ·rw [mapD]
   exact ⟨(lessM ms l).map c,by rw [Ua8];rfl,hR⟩
theorem Zp0 (G:Glob K mg) (DD:Def K mg "_law_draw" Zf3 ["_law_script", "_law_k"])
  (c_law_mix:Zi P w K mg base)
  (c_law_at:Zh P w K mg base)
  : Ze5 P w K mg base:=by
 refine DD.ok (k:=1) Zpl (fun vs H Q E h=>Zam h (fun ds R X h=>?_)) (fun f cdv A outer s H vs Q E hr h=>?_)
 ·obtain ⟨ns,k,rfl,hk,hR⟩:=h
  rfl
 ·refine ⟨_,(Zac (Zbw (Zat (Pu.Zl2 (K:=K) (show _ < cLine from hr.units0)) (Zau Zb8 (Own.Zav c_law_at (hr.mono (by decide)) pass0 (Za (pv 0) (Za Zah Zad))) Zah) Zah (nomark _))
   (Zaf (Zap (Own.Zav c_law_at (hr.mono (by decide)) pass0 (Za (pv 0) (Za (Zau Zca Zah (pv 1)) Zad)))))
   Zaz)
   (Zaf (Zap (Own.Zav c_law_mix (hr.mono (by decide)) pass0 (Za (Own.Zav c_law_at (hr.mono (by decide)) pass0 (Za (pv 0) (Za Zah Zad))) (Za (pv 1) Zad)))))),Pu.Zax (n:=2) h
   (Zaj (Zb6 (Zay (Zl7 (Zcb (Zak (Zaa (Zab 0) (Zaa Zai Zae))) Zai) Zai)) (Za0 (Zak (Zaa (Zab 0) (Zaa (Zci Zai (Zab 1)) Zae)))) Za3)
    (Za0 (Zak (Zaa (Zak (Zaa (Zab 0) (Zaa Zai Zae))) (Zaa (Zab 1) Zae))))) (by decide) (fun ds R X h=>?_)⟩
  obtain ⟨ns,k,rfl,hk,hR⟩:=h
  refine ⟨rfl,?_⟩
  refine ⟨ns,0,rfl,by decide,fun v=>⟨(by show (0:Int) < 2;decide),ite2 (fun _=>?_) (fun _=>?_)⟩⟩
  ·exact ⟨ns,_,rfl,by omega,fun v=>hR v⟩
  ·exact ⟨ns,1,rfl,by decide,fun u=>⟨_,_,rfl,fun v=>hR v⟩⟩
theorem Zpb (G:Glob K mg) (DD:Def K mg "_law_spare" Ze2 ["_law_script"])
  (c_law_mix:Zi P w K mg base)
  (c_law_at:Zh P w K mg base)
  : Zii P w K mg base:=by
 refine DD.ok (k:=1) Zoj (fun vs H Q E h=>Zam h (fun ds R X h=>?_)) (fun f cdv A outer s H vs Q E hr h=>?_)
 ·obtain ⟨ns,rfl,hR⟩:=h
  rfl
 ·refine ⟨_,(Zac (Zbw (Zat (Pu.Zl2 (K:=K) (show _ < cLine from hr.units0)) (Zau Zb8 (Own.Zav c_law_at (hr.mono (by decide)) pass0 (Za (pv 0) (Za Zah Zad))) Zah) Zah (nomark _))
   (Zaf (Zap (Zau Zel (Own.Zav c_law_at (hr.mono (by decide)) pass0 (Za (pv 0) (Za Zah Zad))) Zah)))
   Zaz)
   (Zaf (Zap (Own.Zav c_law_mix (hr.mono (by decide)) pass0 (Za (Own.Zav c_law_at (hr.mono (by decide)) pass0 (Za (pv 0) (Za Zah Zad))) (Za Zah Zad)))))),Pu.Zax (n:=1) h
   (Zaj (Zb6 (Zay (Zl7 (Zcb (Zak (Zaa (Zab 0) (Zaa Zai Zae))) Zai) Zai)) (Za0 (Zeg (Zak (Zaa (Zab 0) (Zaa Zai Zae))) Zai)) Za3)
    (Za0 (Zak (Zaa (Zak (Zaa (Zab 0) (Zaa Zai Zae))) (Zaa Zai Zae))))) (by decide) (fun ds R X h=>?_)⟩
  obtain ⟨ns,rfl,hR⟩:=h
  refine ⟨rfl,?_⟩
  exact ⟨ns,0,rfl,by decide,fun v=>⟨(by show (0:Int) < 2;decide),ite2 (fun _=>⟨ns,0,rfl,by decide,fun u=>⟨⟨by decide,by decide⟩,hR _⟩⟩) (fun _=>⟨ns,1,rfl,by decide,fun u=>⟨_,_,rfl,fun z=>hR _⟩⟩)⟩⟩
theorem Zso (G:Glob K mg) (DD:Def K mg "_law_row" Zg8 ["_law_found", "_law_due"])
  (c_law_whole:Ziw P w K mg base)
  : Zic P w K mg base:=by
 refine DD.ok (k:=1) sc_law_row (fun vs H Q E h=>Zam h (fun ds R X h=>?_)) (fun f cdv A outer s H vs Q E hr h=>?_)
 ·obtain ⟨xs,rfl,hz,hR⟩:=h
  rfl
 ·refine ⟨_,(Zac (Zbw (PW.pt (Zhq (Zd6 (Pu.Zb4 (K:=K) (Zaq (Pu.Zdz (K:=K)) (by rfl) G.isinstance boot_isinstance (Za (pv 0) (Za (Zgs (v:=.ty "list") rfl G.list boot_list rfl) Zad))))) (Zfd (Zat (Pu.Zi0 (K:=K) (show _ < cLine from hr.units0)) (Zaq (Own.Za7 (K:=K)) (by rfl) G.len PySem.boot_len (Za (pv 0) Zad)) (Zaq (Own.Za7 (K:=K)) (by rfl) G.len PySem.boot_len (Za (pv 1) Zad)) (nomark _)))))
   (Zaf (Zap Zhs))
   Zaz)
   (Zac (Zb9 PassesOwn.never rfl (Zer rfl G.range (Za (Zaq (Own.Za7 (K:=K)) (by rfl) G.len PySem.boot_len (Za (pv 1) Zad)) Zad)) (Zan (i:=2) sc_law_row.nd rfl (by first | exact Or.inl rfl | exact Or.inr rfl))
   (Zaf (Zbw (PW.pt (Zhq (Zd6 (Pu.Zb4 (K:=K) (Own.Zav c_law_whole (hr.mono (by decide)) pass0 (Za (Za4 (Own.Zar (K:=K)) (pv 0) (pv 2) (fun _ _=>rfl)) Zad)))) (Zfd (Zat (Pu.Zi0 (K:=K) (show _ < cLine from hr.units0)) (Za4 (Own.Zar (K:=K)) (pv 0) (pv 2) (fun _ _=>rfl)) (Za4 (Own.Zar (K:=K)) (pv 1) (pv 2) (fun _ _=>rfl)) (nomark _)))))
   (Zaf (Zap Zhs))
   Zaz)))
   (Zaf (Zap Zhs)))),Pu.Zax (n:=2) h
   (Zaj (Zb6 (Zhf (Zed (Zb5 (Zk5 (Zaa (Zab 0) (Zaa Zqs Zae))))) (Zay (Ziv (Zcs (Zaa (Zab 0) Zae)) (Zcs (Zaa (Zab 1) Zae))))) (Za0 Zhl) Za3)
    (Zaj (Zde [2] (Zhd (Zaa (Zcs (Zaa (Zab 1) Zae)) Zae)) (Zag 2)
    (Zb6 (Zhf (Zed (Zb5 (Zak (Zaa (Za6 (Zab 0) (Zab 2)) Zae)))) (Zay (Ziv (Za6 (Zab 0) (Zab 2)) (Za6 (Zab 1) (Zab 2))))) (Za0 Zhl) Za3))
    (Za0 Zhl))) (by decide) (fun ds R X h=>?_)⟩
  obtain ⟨xs,rfl,hz,hR⟩:=h
  refine ⟨rfl,?_⟩
  have hl:(xs.map D.int).length=xs.length:=Uab ..
  refine ⟨_,.same _,iteF (iteNS rfl ?_)⟩
  refine ⟨⟨by omega,by omega⟩,Zm4 (fun i γ'=>γ'=[some (.bor (.lst (xs.map D.int))),some (.bor (.lst (xs.map D.int))),none]) rfl ?_ ?_⟩
  ·rintro i γ' hi rfl
   have hi':i < (((xs.map D.int).length:Nat):Int).toNat:=hi
   have ez:(0:Int) + (i:Int)=(i:Int):=by omega
   have hb:i < xs.length:=by omega
   have ha:atI (xs.map D.int) (0 + (i:Int))=some (.int xs[i]):=by rw [ez];exact Zzo hb
   exact ⟨_,ha,_,rfl,iteF ⟨_,ha,_,ha,iteNS rfl rfl⟩⟩
  ·rintro γ' rfl
   exact hR
theorem Zkf (G:Glob K mg) (DD:Def K mg "_law_keepable" Zd ["_law_wishes_here", "_law_holders"])
  (c_law_no_ring:Zlw P w K mg base)
  : Zfs P w K mg base:=by
 refine DD.ok (k:=1) sc_law_keepable (fun vs H Q E h=>Zam h (fun ds R X h=>?_)) (fun f cdv A outer s H vs Q E hr h=>?_)
 ·obtain ⟨ws,hs,rfl,hw,hz,hR⟩:=h
  rfl
 ·refine ⟨_,(Zac (Pu.pz 2 sc_law_keepable.nd (Zbd Zad))
   (Zac (Zb9 PassesOwn.never rfl (Pu.Za1 (K:=K) (pv 0)) (Zan (i:=3) sc_law_keepable.nd rfl (by first | exact Or.inl rfl | exact Or.inr rfl))
   (Zaf (Zbw (Pu.Zb4 (K:=K) (Own.Zav c_law_no_ring (hr.mono (by decide)) pass0 (Za (pv 1) (Za (Zau Zl4 (pv 2) (Zbd (Za (pv 3) Zad))) Zad))))
   (Zaf (Zbn (Zlk PySem.F.plainAttrs_list PySem.F.slot_list_append PySem.F.type_list_append Zb7 (pv 2) (Za (pv 3) Zad))))
   Zaz)))
   (Zaf (Zap (pv 2))))),Pu.Zax (n:=2) h
   (Zaj (Zao (Zbf Zae) (Zag 2))
    (Zaj (Za2 0 (Zde [3] (Zcv (Zab 0)) (Zag 3)
    (Zb6 (Zb5 (Zak (Zaa (Zab 1) (Zaa (Zmb (Zab 2) (Zbf (Zaa (Zab 3) Zae))) Zae)))) (Za2 3 (Zeo 2 (Zab 3))) Za3)))
    (Zdh 2))) (by decide) (fun ds R X h=>?_)⟩
  obtain ⟨ws,hs,rfl,hw,hz,hR⟩:=h
  refine ⟨rfl,?_⟩
  refine ⟨by simp,rfl,Zem (xs:=ws) (emb:=prD) (fun i γ'=>∃ ks:List (Int×Int),γ'=[some (.bor (.lst (ws.map prD))),some (.bor (.lst (hs.map D.int))),some (.own (ks.map prD)),none]/\ks.Sublist (ws.take i)/\peelsM ks hs hs.length=[]) ⟨[],rfl,List.nil_sublist _,?_⟩ ?_ ?_⟩
  ·cases hs with
   | nil=>rfl
   | cons a r=>
    show peelM [] _=[]
    exact List.filter_eq_nil_iff.mpr fun x _=>by simp [insideM]
  ·rintro i hi γ' ⟨ks,rfl,hs1,hp⟩
   have hl:=hs1.length_le
   rw [Ua4] at hl
   have n1:ks.Sublist (ws.take (i + 1)):=hs1.trans (List.take_sublist_take_left (by omega))
   have n2:(ks++[ws[i]]).Sublist (ws.take (i + 1)):=by
    rw [Uau hi]
    exact hs1.append (List.Sublist.refl _)
   generalize ws[i]=q at n2 ⊢
   have em:ks.map prD++[prD q]=(ks++[q]).map prD:=by rw [Uaq];rfl
   refine ⟨by simp,rfl,rfl,?_,hs,ks++[q],?_,hz,?_,ite2 (fun g=>⟨?_,ks++[q],?_,n2,Uap g⟩) (fun g=>⟨ks,rfl,n1,hp⟩)⟩
   ·rw [Uab]
    show ks.length + 1<=100000
    omega
   ·exact Ube (fun z=>[D.lst (hs.map D.int),D.lst z]) em
   ·rw [Uat]
    show ks.length + 1<=50
    omega
   ·rw [Uab]
    omega
   ·rw [← em]
    rfl
  ·rintro γ' ⟨ks,rfl,hs1,hp⟩
   rw [Ubk] at hs1
   exact hR ks hs1 hp
theorem Zm2 (G:Glob K mg) (DD:Def K mg "told_moves" Zd3 ["strips", "order"])
  (c_check_order:Zgm P w K mg base)
  (c_own_numbers:Zej P w K mg base)
  (c_first_wrong_place:Zdl P w K mg base)
  (c_exchanged:Zfo P w K mg base)
  (c_exchange_cost:Zdj P w K mg base)
  : Zg0 P w K mg base:=by
 refine DD.ok (k:=2) sc_told_moves (fun vs H Q E h=>Zam h (fun ds R X h=>?_)) (fun f cdv A outer s H vs Q E hr h=>?_)
 ·obtain ⟨ps,o,rfl,hF,hz,hp,hR⟩:=h
  rfl
 ·refine ⟨_,(Zac (Zbn (Own.Zav c_check_order (hr.mono (by decide)) Pu.Zhk (Za (pv 0) (Za (pv 1) Zad))))
   (Zac (Own.Zb0 (N':=["holder", "width", "order"]) (φ:=[none,none,some 1]) (i:=2) sc_told_moves.nd rfl rfl rfl (Own.CompOk.of (by rfl)) (Pu.Za1 (K:=K) (pv 0)) (fun _ _ _ _ _=>⟨(Own.Zgt (K:=K) (n:=2) rfl (Zbc (Zan (i:=0) (show (["holder", "width", "order"]:List Str).Nodup from by decide +kernel) rfl (by first | exact Or.inl rfl | exact Or.inr rfl)) (Zbc (Zan (i:=1) (show (["holder", "width", "order"]:List Str).Nodup from by decide +kernel) rfl (by first | exact Or.inl rfl | exact Or.inr rfl)) Zfy))),Own.Zbg,(Own.Zxc (K:=K) PySem.F.plainAttrs_list PySem.F.slot_list_index PySem.F.type_list_index (Own.Zn2 (K:=K)) (pv 2) (Za (pv 0) Zad))⟩))
   (Zac (Pu.pz 3 sc_told_moves.nd (Own.Zav c_own_numbers (hr.mono (by decide)) pass0 (Za (pv 0) Zad)))
   (Zac (Pu.pz 4 sc_told_moves.nd (Zbd Zad))
   (Zac (Pu.pz 5 sc_told_moves.nd (Own.Zav c_first_wrong_place (hr.mono (by decide)) pass0 (Za (pv 3) (Za (pv 2) Zad))))
   (Zac (Zm5 PassesOwn.never (Zat Zna (pv 5) Zah (nomark _))
   (Zac (Zbn (Zlk PySem.F.plainAttrs_list PySem.F.slot_list_append PySem.F.type_list_append Zb7 (pv 4) (Za (Zdf (Za (pv 5) (Za (Za4 (Own.Zar (K:=K)) (pv 3) (Zau Zdm (pv 5) Zah) (fun _ _=>rfl)) (Za (Za4 (Own.Zar (K:=K)) (pv 3) (pv 5) (fun _ _=>rfl)) (Za (Own.Zav c_exchange_cost (hr.mono (by decide)) pass0 (Za (pv 0) (Za (pv 3) (Za (pv 5) Zad)))) Zad))))) Zad)))
   (Zac (Pu.pz 3 sc_told_moves.nd (Own.Zav c_exchanged (hr.mono (by decide)) pass0 (Za (pv 3) (Za (pv 5) Zad))))
   (Zaf (Pu.pz 5 sc_told_moves.nd (Own.Zav c_first_wrong_place (hr.mono (by decide)) pass0 (Za (pv 3) (Za (pv 2) Zad))))))))
   (Zaf (Zap (pv 4))))))))),Pu.Zax (n:=2) h
   (Zaj (Zei (Zak (Zaa (Zab 0) (Zaa (Zab 1) Zae))))
    (Zaj (Zao (Zbm (Zbu (Zab 0)) (Zma (Zbt (Zag 0) (Zbt (Zag 1) Zib))) Zep (Zwy (Zab 2) (Zaa (Zab 0) Zae))) (Zag 2))
    (Zaj (Zao (Zak (Zaa (Zab 0) Zae)) (Zag 3))
    (Zaj (Zao (Zbf Zae) (Zag 4))
    (Zaj (Zao (Zak (Zaa (Zab 3) (Zaa (Zab 2) Zae))) (Zag 5))
    (Zaj (Zne [] (Zay (Zo3 (Zab 5) Zai))
    (Zaj (Za2 5 (Zeo 4 (Zdb (Zaa (Zab 5) (Zaa (Za6 (Zab 3) (Zdn (Zab 5) Zai)) (Zaa (Za6 (Zab 3) (Zab 5)) (Zaa (Zak (Zaa (Zab 0) (Zaa (Zab 3) (Zaa (Zab 5) Zae)))) Zae)))))))
    (Zaj (Zao (Zak (Zaa (Zab 3) (Zaa (Zab 5) Zae))) (Zag 3))
    (Zao (Zak (Zaa (Zab 3) (Zaa (Zab 2) Zae))) (Zag 5)))))
    (Zdh 4))))))) (by decide) (fun ds R X h=>?_)⟩
  obtain ⟨ps,o,rfl,hF,hz,hp,hR⟩:=h
  refine ⟨rfl,?_⟩
  have hh:=Zdd ps
  have hol:=hp.length_eq
  have hin:=Zu hF hp
  refine ⟨ps,o,rfl,hF,by omega,by omega,?_⟩
  rw [Zqm hp]
  refine Zbq (xs:=ps) (emb:=prD) (fun q=>some (.int (o.idxOf q.1:Nat))) (by omega) (fun q hq=>?_) ?_
  ·exact ⟨rfl,⟨_,rfl⟩,o,rfl,hin q hq,_,rfl,rfl⟩
  rw [mapD (fun q:Int×Int=>D.int (o.idxOf q.1:Nat))]
  have er:ps.map (fun q:Int×Int=>D.int (o.idxOf q.1:Nat))=(ps.map fun q:Int×Int=>((o.idxOf q.1:Nat):Int)).map D.int:=by rw [Ua8];rfl
  rw [er]
  generalize ers:(ps.map fun q:Int×Int=>((o.idxOf q.1:Nat):Int))=rs
  have lrs:rs.length=ps.length:=by rw [← ers,Uab]
  have rk:∀ m:Int,1<=m/\m<=ps.length->rs.getD (m - 1).toNat 0=rkN ps o m:=fun m hm=>by
   have hi:(m - 1).toNat < ps.length:=by omega
   rw [← ers]
   unfold rkN hdN
   rw [Uac,Uac,Uaj,Uaa hi]
   rfl
  have keys:∀ ns:List Int,ns.Perm (runI 1 ps.length)->ns.map (fun m=>rs.getD (m - 1).toNat 0)=ns.map (rkN ps o):=fun ns hn=>Ucb fun m hm=>rk m (runI_mem.mp (hn.mem_iff.mp hm))
  have inr:∀ ns:List Int,ns.Perm (runI 1 ps.length)->∀ m∈ns,1<=m/\m<=rs.length:=fun ns hn m hm=>by
   have:=runI_mem.mp (hn.mem_iff.mp hm)
   omega
  refine ⟨ps,rfl,by omega,by simp,?_⟩
  refine ⟨_,rs,rfl,inr _ (.refl _),by rw [Zc0];omega,fun p0 hw0=>?_⟩
  rw [keys _ (.refl _)] at hw0
  have e0:∀ ns:List Int,ns.Perm (runI 1 ps.length)->cntN (fun m=>rs.getD (m - 1).toNat 0) ns=cntN (rkN ps o) ns:=fun ns hn=>by
   unfold cntN
   congr 1
   exact Ucb fun m hm=>by show (rs.getD (m - 1).toNat 0,(1:Int))=_;rw [rk m (runI_mem.mp (hn.mem_iff.mp hm))]
  have b0:=Zkr (rkN ps o) (runI 1 ps.length)
  have nn:((ps.length:Int)) * ps.length<=1600:=by
   have:=Int.mul_le_mul (a:=(ps.length:Int)) (b:=ps.length) (c:=40) (d:=40) (by omega) (by omega) (by omega) (by omega)
   omega
  rw [Zc0] at b0
  refine Zmn (fun γ'=>∃ (ns:List Int) (ms0:List Mo) (p:Nat),FW (ns.map (rkN ps o)) p/\ns.Perm (runI 1 ps.length)/\(∀ ms,Mv ps (rkN ps o) ns ms->Mv ps (rkN ps o) (runI 1 ps.length) (ms0++ms))/\(ms0.length:Int) + cntN (rkN ps o) ns=cntN (rkN ps o) (runI 1 ps.length)/\γ'=[some (.bor (plD ps)),some (.bor (.lst (o.map D.int))),some (.own (rs.map D.int)),some (.own (ns.map D.int)),some (.own (ms0.map mvD)),some (.sh (.int p))]) mvN ⟨runI 1 ps.length,[],p0,hw0,.refl _,fun ms h=>h,by simp,rfl⟩ ?_
  rintro γ' ⟨ns,ms0,p,hw,hn,hM,hc,rfl⟩
  have hl:ns.length=ps.length:=by rw [hn.length_eq,Zc0]
  have b1:=Zkr (rkN ps o) ns
  refine ite2 (fun g=>?_) (fun g=>?_)
  ·have g':0 < ((p:Nat):Int):=Uap g
   obtain ⟨h1,h2,h3⟩:=hw.2.resolve_left (by omega)
   rw [Uab] at h2
   rw [Zd2 h2,Zd2 (by omega)] at h3
   have hs:=Zra (rkN ps o) h1 h2 h3
   have hn2:(swapM ns p).Perm (runI 1 ps.length):=(Zfq h1 h2).trans hn
   have b2:=Zkr (rkN ps o) (swapM ns p)
   have ix:∀ (i:Nat) (k:Int),i < ns.length->k=(i:Int)->atI (ns.map D.int) k=some (.int (ns.getD i 0)):=fun i k hi e=>by
    rw [e]
    exact Zeh (f:=D.int) (Zfn (by rw [Uac,Uaa hi];rfl))
   have lm:(ms0.map mvD).length=ms0.length:=Uab ..
   have inn:∀ m∈ns,1<=m/\m<=ps.length:=fun m hm=>runI_mem.mp (hn.mem_iff.mp hm)
   refine ⟨_,ix (p - 1) _ (by omega) (by omega),_,ix p _ h2 rfl,?_⟩
   refine ⟨ps,ns,p,rfl,hF,inn,by omega,by omega,by simp,by omega,?_⟩
   refine ⟨ns,p,rfl,by omega,by omega,by omega,?_⟩
   rw [Ua2]
   refine ⟨swapM ns p,rs,rfl,inr _ hn2,by rw [Zk6 h1 h2];omega,fun p' hw'=>?_⟩
   rw [keys _ hn2] at hw'
   refine ⟨⟨swapM ns p,ms0++[((p:Int),ns.getD (p - 1) 0,ns.getD p 0,exM ps ns p)],p',hw',hn2,fun ms hms=>?_,?_,?_⟩,?_⟩
   ·rw [Udp]
    exact hM _ (.step ns p ms hw (by omega) hms)
   ·rw [Uat,Ubs]
    omega
   ·rw [Uaq]
    rfl
   ·show (cntN _ (((swapM ns p).map D.int).map toI)).toNat < (cntN _ ((ns.map D.int).map toI)).toNat
    rw [Zmv,Zmv,Zmv,e0 _ hn2,e0 _ hn]
    omega
  ·have g':¬ 0 < ((p:Nat):Int):=fun z=>g (Uaf z)
   have hp0:p=0:=by omega
   subst hp0
   have:=hM [] (.done ns hw)
   rw [Ubi] at this
   exact hR ms0 this
theorem Zpc (G:Glob K mg) (DD:Def K mg "find_ring" Zez ["holders", "wishes"])
  (c_ring_from:Zig P w K mg base)
  : Zfz P w K mg base:=by
 refine DD.ok (k:=2) sc_find_ring (fun vs H Q E h=>Zam h (fun ds R X h=>?_)) (fun f cdv A outer s H vs Q E hr h=>?_)
 ·obtain ⟨hs,ws,rfl,hnd,hz,hR⟩:=h
  rfl
 ·refine ⟨_,(Zac (Pu.pz 2 sc_find_ring.nd (Zbd Zad))
   (Zac (Zb9 PassesOwn.never rfl (Pu.Za1 (K:=K) (Zaq (Pu.Zea (K:=K) (w:=w) rfl) (by rfl) G.sorted boot_sorted (Za (pv 0) Zad))) (Zan (i:=3) sc_find_ring.nd rfl (by first | exact Or.inl rfl | exact Or.inr rfl))
   (Zac (Pu.pz 4 sc_find_ring.nd (Own.Zav c_ring_from (hr.mono (by decide)) pass0 (Za (pv 3) (Za (pv 0) (Za (pv 1) Zad)))))
   (Zaf (Zbw (PW.pt (Zrk (Pu.Zb4 (K:=K) (pv 4)) (Zm1 (PW.pt (Zhq (Zd6 (Pu.Zb4 (K:=K) (pv 2))) (Zfd (Zat Zta (Zaq (Own.Za7 (K:=K)) (by rfl) G.len PySem.boot_len (Za (pv 4) Zad)) (Zaq (Own.Za7 (K:=K)) (by rfl) G.len PySem.boot_len (Za (pv 2) Zad)) (nomark _))))))))
   (Zaf (Pu.pz 2 sc_find_ring.nd (pv 4)))
   Zaz))))
   (Zaf (Zap (pv 2))))),Pu.Zax (n:=2) h
   (Zaj (Zao (Zbf Zae) (Zag 2))
    (Zaj (Za2 2 (Zde [3,4] (Zcv (Zhm (Zaa (Zab 0) Zae))) (Zag 3)
    (Zaj (Zao (Zak (Zaa (Zab 3) (Zaa (Zab 0) (Zaa (Zab 1) Zae)))) (Zag 4))
    (Zb6 (Zuo (Zb5 (Zab 4)) (Zhf (Zed (Zb5 (Zab 2))) (Zay (Zsw (Zcs (Zaa (Zab 4) Zae)) (Zcs (Zaa (Zab 2) Zae)))))) (Za2 4 (Zao (Zab 4) (Zag 2))) Za3))))
    (Za2 2 (Zdh 2)))) (by decide) (fun ds R X h=>?_)⟩
  obtain ⟨hs,ws,rfl,hnd,hz,hR⟩:=h
  refine ⟨rfl,?_⟩
  refine ⟨by simp,hs,rfl,by omega,fun ns hp hsrt=>?_⟩
  have hlt:ns.Pairwise (· < ·):=Zc2 hsrt (hp.nodup_iff.mpr hnd)
  refine ⟨rfl,Zem (xs:=ns) (emb:=D.int) (fun i γ'=>∃ r,γ'=[some (.bor (.lst (hs.map D.int))),some (.bor (.lst (ws.map prD))),some (.sh (.lst (r.map D.int))),none,none]/\r.length<=60/\FRi hs ws (ns.take i) r) ⟨[],rfl,by simp,.inl ⟨rfl,fun l hl=>by rw [Uc0] at hl;cases hl⟩⟩ ?_ ?_⟩
  ·rintro i hi γ' ⟨r,rfl,hrl,F⟩
   have hbef:∀ m∈ns.take i,m < ns[i]:=fun m hm=>by
    obtain ⟨j,hj,e⟩:=Ubd.mp hm
    rw [Ua4] at hj
    rw [Ub1] at e
    rw [← e]
    exact Ubl.mp hlt j i (by omega) hi (by omega)
   rw [Uau hi]
   generalize ns[i]=l at hbef ⊢
   refine ⟨l,hs,ws,rfl,hnd,hz,fun f hf hfl=>?_⟩
   have ef:(!(f.map D.int).isEmpty)=decide (f≠[]):=by cases f<;>simp
   have er:(!(r.map D.int).isEmpty)=decide (r≠[]):=by cases r<;>simp
   show if (!(f.map D.int).isEmpty)=true then _ else _
   rw [ef]
   refine ite2 (fun g=>?_) (fun g=>iteF ⟨r,rfl,hrl,F.keep hbef hf (.inl (Classical.byContradiction fun z=>g (Uaf z)))⟩)
   have hfe:f≠[]:=Uap g
   show if (!(!(r.map D.int).isEmpty))=true then _ else _
   rw [er]
   by_cases hre:r=[]
   ·rw [Uam (fun z=>z hre)]
    exact iteT (iteT ⟨f,rfl,hfl,F.take hbef hf ⟨hfe,.inl hre⟩⟩)
   ·rw [Uaf hre]
    refine iteF ?_
    show if decide (((f.map D.int).length:Int) < ((r.map D.int).length:Int))=true then _ else _
    rw [Uab,Uab]
    refine ite2 (fun g2=>?_) (fun g2=>?_)
    ·have:=Uap g2
     exact ⟨f,rfl,hfl,F.take hbef hf ⟨hfe,.inr (by omega)⟩⟩
    ·have:¬ (f.length:Int) < (r.length:Int):=fun z=>g2 (Uaf z)
     exact ⟨r,rfl,hrl,F.keep hbef hf (.inr ⟨hre,by omega⟩)⟩
  ·rintro γ' ⟨r,rfl,hrl,F⟩
   rw [Ubk] at F
   exact hR r (F.all fun z=>hp.mem_iff) hrl
theorem Zla (G:Glob K mg) (DD:Def K mg "least_costs" Zdw ["strips", "wishes", "pairs"])
  (c_sets_of:Zly P w K mg base)
  (c_holders_of:Zbz P w K mg base)
  (c_may_lie_last:Zfr P w K mg base)
  (c_cost_with_last:Zes P w K mg base)
  : Zek P w K mg base:=by
 refine DD.ok (k:=2) sc_least_costs (fun vs H Q E h=>Zam h (fun ds R X h=>?_)) (fun f cdv A outer s H vs Q E hr h=>?_)
 ·obtain ⟨ps,ws,pa,c,rfl,hF,hz,hw,hu,hc,hL,hR⟩:=h
  rfl
 ·refine ⟨_,(Zac (Pu.pz 3 sc_least_costs.nd (Own.Zwn (Zff hr) (Zdf Zad) Zah))
   (Zac (Zb9 PassesOwn.never rfl (Pu.Za1 (K:=K) (Zf6 (Pu.Zf5 (K:=K)) (Own.Zav c_sets_of (hr.mono (by decide)) pass0 (Za (Own.Zav c_holders_of (hr.mono (by decide)) pass0 (Za (pv 0) Zad)) Zad)) (Zht Zah) Zh3)) (Zan (i:=4) sc_least_costs.nd rfl (by first | exact Or.inl rfl | exact Or.inr rfl))
   (Zac (Own.Zb0 (N':=["holder", "members", "wishes"]) (φ:=[none,some 4,some 1]) (i:=5) sc_least_costs.nd rfl rfl rfl (Own.CompOk.of (by rfl)) (Pu.Zj5 (K:=K) (pv 4)) (fun _ _ _ _ _=>⟨(Zan (i:=0) (show (["holder", "members", "wishes"]:List Str).Nodup from by decide +kernel) rfl (by first | exact Or.inl rfl | exact Or.inr rfl)),(Own.Zc7 (Pu.Zb4 (K:=K) (Own.Zav c_may_lie_last (hr.mono (by decide)) pass0 (Za (pv 1) (Za (pv 0) (Za (pv 2) Zad)))))),(pv 0)⟩))
   (Zaf (Zq (Zff hr) (pv 3) (pv 4) (Zaq (Own.Zuq (K:=K) rfl) (by rfl) G.min boot_min (Za (Own.Zbs (N':=["last", "members", "least", "pairs"]) (φ:=[none,some 4,some 3,some 2]) rfl (Own.CompOk.of (by rfl)) (Pu.Za1 (K:=K) (pv 5)) (fun _ _ _ _ _=>⟨(Zan (i:=0) (show (["last", "members", "least", "pairs"]:List Str).Nodup from by decide +kernel) rfl (by first | exact Or.inl rfl | exact Or.inr rfl)),Own.Zbg,(Own.Zav c_cost_with_last (hr.mono (by decide)) pass0 (Za (pv 1) (Za (pv 0) (Za (pv 2) (Za (pv 3) Zad)))))⟩)) Zad)) rfl))))
   (Zaf (Zap (pv 3))))),Pu.Zax (n:=3) h
   (Zaj (Zao (Zwa (Zdb Zae) Zai) (Zag 3))
    (Zaj (Zde [4,5] (Zcv (Zgc (Zak (Zaa (Zak (Zaa (Zab 0) Zae)) Zae)) (Zhx Zai) Zhu)) (Zag 4)
    (Zaj (Zao (Zbm (SndI.c (Zod (Zab 4))) (Zag 0) (Zb5 (Zak (Zaa (Zab 1) (Zaa (Zab 0) (Zaa (Zab 2) Zae))))) (Zab 0)) (Zag 5))
    (Zpn 3 (Zab 4) (Zyc (Zaa (Zbm (Zbu (Zab 5)) (Zag 0) Zep (Zak (Zaa (Zab 1) (Zaa (Zab 0) (Zaa (Zab 2) (Zaa (Zab 3) Zae)))))) Zae)))))
    (Zdh 3))) (by decide) (fun ds R X h=>?_)⟩
  obtain ⟨ps,ws,pa,c,rfl,hF,hz,hw,hu,hc,hL,hR⟩:=h
  refine ⟨rfl,?_⟩
  refine ⟨by simp,_,_,rfl,rfl,?_⟩
  refine ⟨ps,rfl,hF,hz,_,rfl,Zdd ps,?_⟩
  have hh:=Zdd ps
  have nd:(holdM ps).Nodup:=(Za9 ps).imp (fun h=>Ucm h)
  generalize holdM ps=hs at hh nd hc hL hR ⊢
  have hsl:=Zny hs
  have hsub:=Zfi hs
  have hbef:=Zjz nd
  have hsn:=Zj8 nd
  have hlen:(setsM hs).length<=1024:=by
   rw [hsl]
   exact Nat.pow_le_pow_right (j:=10) (by decide) hh
  obtain ⟨T,eT⟩:=Zr5 hs
  rw [eT] at hsub hbef hsn hlen hR ⊢
  refine ⟨rfl,rfl,?_⟩
  have ec:Pu.cutD (List.map tD ([] :: T)) (some 1) none=T.map tD:=by
   rw [Zg6,Zke _ (by decide)]
   rfl
  rw [ec]
  refine Zem (xs:=T) (emb:=tD) (fun i γ'=>∃ kvs:List (List Key×V),γ'=[some (.bor (.lst (ps.map prD))),some (.bor (.lst (ws.map prD))),some (.bor (.dT pa)),some (.own (.dT kvs)),none,none]/\Tab ws c ([] :: T.take i) kvs) ⟨_,rfl,Zyh ws c⟩ ?_ ?_
  ·rintro i hi γ' ⟨kvs,rfl,ht⟩
   have em:([] :: T)[i + 1]?=some T[i]:=by rw [Uce,Uaa hi]
   have hmem:T[i]∈[] :: T:=Uax em
   have hsm:=hsub _ hmem
   have hne:T[i]≠[]:=fun e=>(Ua9.mp hsn).1 (e ▸ Uaw hi)
   have hnew:T[i]∉[] :: T.take i:=fun z=>by
    rcases Uan.mp z with z | z
    ·exact hne z
    ·obtain ⟨j,hj,e⟩:=Ubd.mp z
     rw [Ua4] at hj
     rw [Ub1] at e
     exact Ubl.mp (Ua9.mp hsn).2 j i (by omega) hi (by omega) e
   have hml:T[i].length<=10:=Ual hsm.length_le hh
   have hless:∀ l∈T[i],lessM T[i] l∈[] :: T.take i:=fun l hl=>by
    obtain ⟨j,hj,e⟩:=hbef (i + 1) _ em l hl
    have:([] :: T.take i)=([] :: T).take (i + 1):=by rw [List.take_succ_cons]
    rw [this]
    refine Uax (i:=j) ?_
    rw [Ubt hj]
    exact e
   have ndm:T[i].Nodup:=nd.sublist hsm
   have hkl:kvs.length<=1024:=by
    have:=Ube List.length ht.keys
    rw [Uab,Uab,Uaz,Ua4] at this
    rw [Uaz] at hlen
    omega
   have etk:[] :: T.take (i + 1)=([] :: T.take i)++[T[i]]:=by rw [Uau hi];rfl
   rw [etk]
   generalize T[i]=ms at *
   obtain ⟨vs,hvs⟩:=Zr fun l hl=>ht.val _ (hless l hl)
   obtain ⟨l0,hl0,hl0'⟩:=hL ms hsm hne
   refine ⟨_,rfl,Zbq (s:=.sh .non) (xs:=ms) (emb:=D.int) (fun h=>if lastM ws ms h=true then some (.int h) else none) (by omega) (fun h hm=>?_) ?_⟩
   ·refine ⟨ms,h,ws,rfl,hw,?_⟩
    refine ite2 (fun g=>⟨_,rfl,Uae g⟩) (fun g=>Uad g)
   ·rw [pickD (fun h=>lastM ws ms h)]
    refine Zbq (xs:=ms.filter (fun h=>lastM ws ms h)) (emb:=D.int) (fun l=>some (.int (vs l + ((lessM ms l).map (c · l)).sum))) (Ual (Ubn _ _) (by omega)) (fun l hl=>?_) ?_
    ·obtain ⟨hl1,hl2⟩:=Ua7.mp hl
     exact ⟨ms,l,kvs,pa,(c · l),vs l,rfl,by omega,(hvs l hl1).1,fun m hm=>hc m (hsm.subset (less_sub.subset hm)) l (hsm.subset hl1),_,rfl,rfl⟩
    ·rw [mapD]
     refine ⟨(ms.filter (fun h=>lastM ws ms h)).map fun l=>vs l + ((lessM ms l).map (c · l)).sum,by rw [Ua8];rfl,?_,fun M hM hle=>⟨_,_,Zjm ms,rfl,by omega,_,rfl,ht.put hnew (Zr3 ndm hu (fun l hl=>(hvs l hl).2) ?_ ?_)⟩⟩
     ·rw [Uab]
      exact List.length_pos_of_mem (Ua7.mpr ⟨hl0,lastM_iff.mpr hl0'⟩)
     ·obtain ⟨l,hl,e⟩:=Ua5.mp hM
      obtain ⟨hl1,hl2⟩:=Ua7.mp hl
      exact ⟨l,hl1,hl2,e.symm⟩
     ·intro l hl hlast
      exact hle _ (Ua5.mpr ⟨l,Ua7.mpr ⟨hl,hlast⟩,rfl⟩)
  ·rintro γ' ⟨kvs,rfl,ht⟩
   rw [Ubk] at ht
   exact hR kvs ht
theorem Zk8 (G:Glob K mg) (DD:Pu.DefM K (Mk K (ExcR.clsOf mg "Village")) "__init__" "Village.__init__" Zc1 ["self", "strips"])
  (c_check_strips:Zf0 P w K mg base)
  : Zfu P w K mg base:=by
 refine Pu.DefM.okX DD (k:=2) Zju (fun vs H Q E h=>Pu.Zqq (n:=1) h (fun o ss R X h=>?_)) (fun f cdv A outer s H vs Q E hr h=>?_)
 ·obtain ⟨x,ps,rfl,rfl,hz,hR⟩:=h
  rfl
 ·refine ⟨_,(Zac (Zbn (Own.Zav c_check_strips (hr.mono (by decide)) ExcR.Zeb (Za (pv 1) Zad)))
   (Zac (Ztl (pv 0) (Zbd Zad) rfl)
   (Zac (Ztl (pv 0) (Zbd (Za (Zbb (Pu.Zch (K:=K)) (by rfl) G.list boot_list (Za (pv 1) Zad)) Zad)) rfl)
   (Zaf (Ztl (pv 0) (Zbd (Za (Zbd Zad) Zad)) rfl))))),Pu.Zqi (n:=1) h
   (Zaj (Zei (Ze8 (Zaa (Zab 1) Zae)))
    (Zaj (Zp7 0 G.cl_Village G.n_Village_book Zka (Zbf Zae))
    (Zaj (Zp7 0 G.cl_Village G.n_Village_fields Zhv (Zbf (Zaa (Zf1 (Zaa (Zab 1) Zae)) Zae)))
    (Zp7 0 G.cl_Village G.n_Village_wished Zid (Zbf (Zaa (Zbf Zae) Zae)))))) (by decide) (fun o ss R X h=>?_)⟩
  obtain ⟨x,ps,rfl,rfl,hz,hR⟩:=h
  refine ⟨rfl,?_⟩
  refine ⟨ps,rfl,hz,?_⟩
  cases e:stripE ps with
  | some c=>
   rw [e] at hR
   exact ⟨_,rfl,⟨rfl,by simp⟩,hR⟩
  | none=>
   rw [e] at hR
   refine ⟨by simp,rfl,rfl,by decide,fun b1=>?_⟩
   refine ⟨rfl,by simp,rfl,rfl,by decide,fun b2=>?_⟩
   refine ⟨by simp,by simp,rfl,rfl,by decide,fun b3=>?_⟩
   exact ⟨_,rfl,⟨rfl,by simp⟩,hR b1 b2 b3⟩
theorem Zjr (G:Glob K mg) (DD:Pu.DefM K (Meth K (ExcR.clsOf mg "Village") "wish") "wish" "Village.wish" Zc5 ["self", "ahead", "behind"])
  (c_Village_check_room:Zda P w K mg base)
  (c_with_wish:Zis P w K mg base)
  (c_Village_enter:Zfa P w K mg base)
  (c_Village_wishes:Zbl P w K mg base)
  (c_Village_strips:Zb P w K mg base)
  : Zfj P w K mg base:=by
 refine Pu.DefM.okX DD (k:=2) sc_Village_wish (fun vs H Q E h=>Pu.Zqq (n:=2) h (fun o ss R X h=>?_)) (fun f cdv A outer s H vs Q E hr h=>?_)
 ·obtain ⟨x,b1,b2,b3,bk,fs,ws,f,w,p,h,rfl,rfl,hb,hf,hw,hz,hR⟩:=h
  rfl
 ·refine ⟨_,(Zac (Zbn (Pu.Zby c_Village_check_room G.cl_Village (hr.mono (by decide)) ExcR.Zeb (pv 0)))
   (Zac (Pu.pz 3 sc_Village_wish.nd (Own.Zav c_with_wish (hr.mono (by decide)) ExcR.Zeb (Za (Pu.Zby c_Village_wishes G.cl_Village (hr.mono (by decide)) pass0 (pv 0)) (Za (pv 1) (Za (pv 2) Zad)))))
   (Zaf (Zap (Pu.Zw4 c_Village_enter G.cl_Village (hr.mono (by decide)) pass0 (pv 0) (Za (Zdf (Za Zog (Za (pv 1) (Za (pv 2) Zad)))) (Za (Pu.Zby c_Village_strips G.cl_Village (hr.mono (by decide)) pass0 (pv 0)) (Za (pv 3) Zad)))))))),Pu.Zqi (n:=2) h
   (Zaj (Zei (Zyj Zfg (Zab 0) Zae))
    (Zaj (Zao (Ze8 (Zaa (Zbj Zb1 (Zab 0) Zae) (Zaa (Zab 1) (Zaa (Zab 2) Zae)))) (Zag 3))
    (Za2 2 (Za2 1 (Za2 3 (Zws (Zq1 0 Zi7 (Zaa (Zdb (Zaa Zoa (Zaa (Zab 1) (Zaa (Zab 2) Zae)))) (Zaa (Zbj Zbk (Zab 0) Zae) (Zaa (Zab 3) Zae)))))))))) (by decide) (fun o ss R X h=>?_)⟩
  obtain ⟨x,b1,b2,b3,bk,fs,ws,f,w,p,h,rfl,rfl,hb,hf,hw,hz,hR⟩:=h
  refine ⟨rfl,?_⟩
  unfold vwishE at hR
  refine ⟨rfl,rfl,bk,fs++[f],ws++[w],rfl,?_⟩
  unfold roomE
  by_cases c:100<=bk.length
  ·rw [Uae c] at hR ⊢
   exact ⟨_,rfl,⟨rfl,by simp⟩,hR⟩
  ·rw [Uad c] at hR ⊢
   refine ⟨rfl,rfl,bk,fs++[f],ws,w,rfl,w,p,h,rfl,hz,?_⟩
   cases e:wishE w p h with
   | some c=>
    rw [e] at hR
    exact ⟨_,rfl,⟨rfl,by simp⟩,hR⟩
   | none=>
    rw [e] at hR
    refine ⟨rfl,rfl,by simp,rfl,rfl,bk,fs,ws++[w],f,rfl,?_⟩
    exact ⟨x,b1,b2,b3,bk,fs++[f],ws++[w],("wish",[p,h]),f,w++[(p,h)],rfl,rfl,hb,by rw [Uat];simp;omega,by rw [Uat];simp;omega,_,rfl,⟨rfl,by simp⟩,hR⟩
theorem Znj (G:Glob K mg) (DD:Def K mg "_law_strips" Zef ["_law_script", "_law_menu_here", "_law_many"])
  (c_law_draw:Ze5 P w K mg base)
  (c_law_holder:Zey P w K mg base)
  : Zgx P w K mg base:=by
 refine DD.ok (k:=2) sc_law_strips (fun vs H Q E h=>Zam h (fun ds R X h=>?_)) (fun f cdv A outer s H vs Q E hr h=>?_)
 ·obtain ⟨ns,m,n,rfl,hM,h0,h1,hR⟩:=h
  rfl
 ·refine ⟨_,(Zac (Pu.pz 3 sc_law_strips.nd (Zbd Zad))
   (Zac (Zb9 PassesOwn.never rfl (Zer rfl G.range (Za (pv 2) Zad)) (Zan (i:=4) sc_law_strips.nd rfl (by first | exact Or.inl rfl | exact Or.inr rfl))
   (Zac (Pu.pz 5 sc_law_strips.nd (Own.Zav c_law_draw (hr.mono (by decide)) pass0 (Za (pv 0) (Za (Zau Zca Zah (pv 4)) Zad))))
   (Zac (Pu.pz 6 sc_law_strips.nd (Zau Zca (Za4 (Own.Zar (K:=K)) (pv 1) Zah (fun _ _=>rfl)) (Zau Zb8 (Zau Zel (pv 5) (Za4 (Own.Zar (K:=K)) (pv 1) Zah (fun _ _=>rfl))) (Za4 (Own.Zar (K:=K)) (pv 1) Zah (fun _ _=>rfl)))))
   (Zaf (Zbn (Zlk PySem.F.plainAttrs_list PySem.F.slot_list_append PySem.F.type_list_append Zb7 (pv 3) (Za (Zdf (Za (Own.Zav c_law_holder (hr.mono (by decide)) pass0 (Za (pv 1) (Za (Zau Zb8 (pv 5) (Za4 (Own.Zar (K:=K)) (pv 1) Zah (fun _ _=>rfl))) Zad))) (Za (pv 6) Zad))) Zad)))))))
   (Zaf (Zap (pv 3))))),Pu.Zax (n:=3) h
   (Zaj (Zao (Zbf Zae) (Zag 3))
    (Zaj (Zde [4,5,6] (Zhd (Zaa (Zab 2) Zae)) (Zag 4)
    (Zaj (Zao (Zak (Zaa (Zab 0) (Zaa (Zci Zai (Zab 4)) Zae))) (Zag 5))
    (Zaj (Zao (Zci (Za6 (Zab 1) Zai) (Zcb (Zeg (Zab 5) (Za6 (Zab 1) Zai)) (Za6 (Zab 1) Zai))) (Zag 6))
    (Za2 6 (Zeo 3 (Zdb (Zaa (Zak (Zaa (Zab 1) (Zaa (Zcb (Zab 5) (Za6 (Zab 1) Zai)) Zae))) (Zaa (Zab 6) Zae))))))))
    (Zdh 3))) (by decide) (fun ds R X h=>?_)⟩
  obtain ⟨ns,m,n,rfl,hM,h0,h1,hR⟩:=h
  refine ⟨rfl,?_⟩
  have hMM:=hM
  obtain ⟨a,b,c,d,e,rfl,ha,hb,hc,hd,he⟩:=hM
  refine ⟨by simp,⟨by omega,by omega⟩,Zm4 (fun i γ'=>∃ ps:List (Int×Int),γ'=[some (.bor (.scr ns)),some (.bor (.lst (([a,b,c,d,e]:List Int).map D.int))),some (.sh (.int n)),some (.own (ps.map prD)),none,none,none]/\Field ps/\ps.length=i) ⟨[],rfl,(fun q hq=>by cases hq),rfl⟩ ?_ ?_⟩
  ·rintro i γ' hi ⟨ps,rfl,hF,hl⟩
   have hlm:(ps.map prD).length=ps.length:=Uab ..
   have hi':i < n.toNat:=hi
   refine ⟨ns,_,rfl,by omega,fun v=>?_⟩
   have q1:=Uct (v / a) (show d≠0 by omega)
   have q2:=Uch (v / a) (show 0 < d by omega)
   refine ⟨_,rfl,_,rfl,⟨by omega,by omega⟩,_,rfl,(by show 0 < d;omega),_,rfl,(by show 0 < a;omega),[a,b,c,d,e],_,rfl,hMM,fun h l1 l2 _=>⟨by simp,by omega,ps++[(h,e + v / a % d)],?_,fun q hq=>?_,by rw [Uat,hl];rfl⟩⟩
   ·rw [Uaq]
    rfl
   ·rcases Ua0.mp hq with hq | hq
    ·exact hF q hq
    ·rw [Uag] at hq
     subst hq
     exact ⟨l1,l2,by show 1<=e + v / a % d;omega,by show e + v / a % d<=1000;omega⟩
  ·rintro γ' ⟨ps,rfl,hF,hl⟩
   exact hR ps hF hl
theorem Zmz (G:Glob K mg) (DD:Def K mg "_law_wishes" Zd5 ["_law_script", "_law_menu_here"])
  (c_law_draw:Ze5 P w K mg base)
  (c_law_holder:Zey P w K mg base)
  : Zhh P w K mg base:=by
 refine DD.ok (k:=2) sc_law_wishes (fun vs H Q E h=>Zam h (fun ds R X h=>?_)) (fun f cdv A outer s H vs Q E hr h=>?_)
 ·obtain ⟨ns,m,rfl,hM,hR⟩:=h
  rfl
 ·refine ⟨_,(Zac (Pu.pz 2 sc_law_wishes.nd (Own.Zav c_law_draw (hr.mono (by decide)) pass0 (Za (pv 0) (Za Zah Zad))))
   (Zac (Pu.pz 3 sc_law_wishes.nd (Za4 (Own.Zar (K:=K)) (Zbd (Za Zah (Za (Zaq (Ztq rfl) (by rfl) G.max boot_max (Za Zah (Za (Za4 (Own.Zar (K:=K)) (pv 1) Zah (fun _ _=>rfl)) Zad))) Zad))) (Zau Zb8 (Zau Zel (pv 2) Zah) Zah) (fun _ _=>rfl)))
   (Zac (Pu.pz 4 sc_law_wishes.nd (Zbd Zad))
   (Zac (Zb9 PassesOwn.never rfl (Zer rfl G.range (Za (Zau Zb8 (pv 2) Zah) Zad)) (Zan (i:=5) sc_law_wishes.nd rfl (by first | exact Or.inl rfl | exact Or.inr rfl))
   (Zac (Pu.pz 6 sc_law_wishes.nd (Own.Zav c_law_draw (hr.mono (by decide)) pass0 (Za (pv 0) (Za (Zau Zca Zah (pv 5)) Zad))))
   (Zac (Pu.pz 7 sc_law_wishes.nd (Zau Zb8 (pv 6) (pv 3)))
   (Zac (Pu.pz 8 sc_law_wishes.nd (Zau Zb8 (Zau Zca (Zau Zca (pv 7) Zah) (Zau Zb8 (Zau Zel (pv 6) (pv 3)) (Zau Zdm (pv 3) Zah))) (pv 3)))
   (Own.Zry (Zbw (PW.pt (Zrk (Zat Zna (Zau Zb8 (Zau Zel (pv 2) Zah) Zah) Zah (nomark _)) (Zm1 (Zat Zna (pv 7) (pv 8) (nomark _)))))
   (Zaf (Zy1 (i:=7) (j:=8) rfl sc_law_wishes.nd rfl rfl (by decide) rfl rfl (Za (pv 8) (Za (pv 7) Zad)) (by rfl)))
   Zaz)
   (Zac (Pu.pz 9 sc_law_wishes.nd (Zdf (Za (Own.Zav c_law_holder (hr.mono (by decide)) pass0 (Za (pv 1) (Za (pv 7) Zad))) (Za (Own.Zav c_law_holder (hr.mono (by decide)) pass0 (Za (pv 1) (Za (pv 8) Zad))) Zad))))
   (Zaf (Zbw (Zat (Pu.Zo9 (K:=K) (show _ < cLine from Zff hr)) (pv 9) (pv 4) (by with_unfolding_all rfl))
   (Zaf (Zbn (Zlk PySem.F.plainAttrs_list PySem.F.slot_list_append PySem.F.type_list_append Zb7 (pv 4) (Za (pv 9) Zad))))
   Zaz))))))))
   (Zaf (Zap (pv 4))))))),Pu.Zax (n:=2) h
   (Zaj (Zao (Zak (Zaa (Zab 0) (Zaa Zai Zae))) (Zag 2))
    (Zaj (Zao (Za6 (Zbf (Zaa Zai (Zaa (Zyn (Zaa Zai (Zaa (Za6 (Zab 1) Zai) Zae))) Zae))) (Zcb (Zeg (Zab 2) Zai) Zai)) (Zag 3))
    (Zaj (Zao (Zbf Zae) (Zag 4))
    (Zaj (Zde [5,6,7,8,9] (Zhd (Zaa (Zcb (Zab 2) Zai) Zae)) (Zag 5)
    (Zaj (Zao (Zak (Zaa (Zab 0) (Zaa (Zci Zai (Zab 5)) Zae))) (Zag 6))
    (Zaj (Zao (Zcb (Zab 6) (Zab 3)) (Zag 7))
    (Zaj (Zao (Zcb (Zci (Zci (Zab 7) Zai) (Zcb (Zeg (Zab 6) (Zab 3)) (Zdn (Zab 3) Zai))) (Zab 3)) (Zag 8))
    (Zu8 (Zb6 (Zuo (Zay (Zo3 (Zcb (Zeg (Zab 2) Zai) Zai) Zai)) (Zay (Zo3 (Zab 7) (Zab 8)))) (Za2 7 (Za2 8 (Zzj (Zaa (Zab 8) (Zaa (Zab 7) Zae))))) Za3)
    (Zaj (Zao (Zdb (Zaa (Zak (Zaa (Zab 1) (Zaa (Zab 7) Zae))) (Zaa (Zak (Zaa (Zab 1) (Zaa (Zab 8) Zae))) Zae))) (Zag 9))
    (Zb6 (Zay (Zqj (Zab 9) (Zab 4))) (Za2 9 (Zeo 4 (Zab 9))) Za3)))))))
    (Zdh 4))))) (by decide) (fun ds R X h=>?_)⟩
  obtain ⟨ns,m,rfl,hM,hR⟩:=h
  refine ⟨rfl,?_⟩
  have hMM:=hM
  obtain ⟨a,b,c,d,e,rfl,ha,hb,hc,hd,he⟩:=hM
  refine ⟨ns,1,rfl,by decide,fun how=>?_⟩
  have hpool:∃ p:Int,atI [D.int 10,.int (if a > 2 then a else 2)] (how / 63 % 2)=some (.int p)/\2<=p/\p<=10:=by
   have:how / 63 % 2=0\/how / 63 % 2=1:=by omega
   rcases this with e | e<;>rw [e]
   ·exact ⟨10,rfl,by decide,by decide⟩
   ·exact ⟨_,rfl,by split<;>omega,by split<;>omega⟩
  obtain ⟨pool,ep,hp⟩:=hpool
  refine ⟨_,rfl,by simp,⟨by decide,by decide⟩,(by show (0:Int) < 2;decide),_,ep,by simp,(by show (0:Int) < 21;decide),⟨by omega,by omega⟩,Zm4 (fun i γ'=>∃ ws:List (Int×Int),γ'=[some (.bor (.scr ns)),some (.bor (.lst (([a,b,c,d,e]:List Int).map D.int))),some (.sh (.int how)),some (.sh (.int pool)),some (.own (ws.map prD)),none,none,none,none,none]/\Wishes ws/\ws.length<=i) ⟨[],rfl,Zs,Uah _⟩ ?_ ?_⟩
  ·rintro i γ' hi ⟨ws,rfl,hW,hl⟩
   have hi':i < (how % 21).toNat:=hi
   have hlm:(ws.map prD).length=ws.length:=Uab ..
   refine ⟨ns,_,rfl,by omega,fun cell=>?_⟩
   refine ⟨(by show 0 < pool;omega),⟨by omega,by omega⟩,(by show 0 < pool - 1;omega),(by show 0 < pool;omega),?_⟩
   have fit:(0<=cell % pool/\cell % pool<=9)/\(0<=(cell % pool + 1 + cell / pool % (pool - 1)) % pool/\(cell % pool + 1 + cell / pool % (pool - 1)) % pool<=9)/\cell % pool≠(cell % pool + 1 + cell / pool % (pool - 1)) % pool:=by
    have g1:=Uct cell (show pool≠0 by omega)
    have g2:=Uch cell (show 0 < pool by omega)
    have g3:=Uct (cell / pool) (show pool - 1≠0 by omega)
    have g4:=Uch (cell / pool) (show 0 < pool - 1 by omega)
    obtain ⟨⟨k1,k2⟩,k3⟩:=two_ne ⟨g1,g2⟩ ⟨g3,g4⟩
    exact ⟨⟨g1,by omega⟩,⟨k1,by omega⟩,k3⟩
   refine Zua (fun γ'=>∃ (o t:Int) (t1 t2:Option S),((0<=o/\o<=9)/\(0<=t/\t<=9)/\o≠t)/\γ'=[some (.bor (.scr ns)),some (.bor (.lst (([a,b,c,d,e]:List Int).map D.int))),some (.sh (.int how)),some (.sh (.int pool)),some (.own (ws.map prD)),t1,t2,some (.sh (.int o)),some (.sh (.int t)),none]) ?_ ?_
   ·refine ⟨⟨by decide,by decide⟩,(by show (0:Int) < 3;decide),ite2 (fun _=>ite2 (fun _=>?_) (fun _=>?_)) (fun _=>iteF ?_)⟩
    ·exact ⟨_,_,_,_,⟨fit.2.1,fit.1,fun z=>fit.2.2 z.symm⟩,rfl⟩
    ·exact ⟨_,_,_,_,fit,rfl⟩
    ·exact ⟨_,_,_,_,fit,rfl⟩
   ·rintro γ' ⟨o,t,t1,t2,hot,rfl⟩
    refine ⟨_,_,rfl,hMM,fun h1 l1 l2 e1=>⟨_,_,rfl,hMM,fun h2 l3 l4 e2=>?_⟩⟩
    have b3:=Zvt hMM hot.1 hot.2.1 hot.2.2
    refine ⟨by simp,_,.lp (h1,h2) ws,ite2 (fun g=>?_) (fun g=>?_)⟩
    ·have g':(h1,h2)∉ws:=fun z=>by rw [Uae rfl,Uaf z] at g;cases g
     refine ⟨by omega,ws++[(h1,h2)],?_,Zr6 hW (Zlx ⟨l1,l2⟩ ⟨l3,l4⟩ (by rw [e1,e2];exact b3) g' (by omega)),?_⟩
     ·rw [Uaq]
      rfl
     ·rw [Uat,Ubs]
      omega
    ·exact ⟨ws,rfl,hW,by omega⟩
  ·rintro γ' ⟨ws,rfl,hW,hl⟩
   exact hR ws hW
theorem Zfk (G:Glob K mg) (DD:Def K mg "_law_moves_are_rows" Zbi ["_law_told"])
  (c_law_row:Zic P w K mg base)
  : Zdc P w K mg base:=by
 refine DD.ok (k:=2) sc_law_moves_are_rows (fun vs H Q E h=>Zam h (fun ds R X h=>?_)) (fun f cdv A outer s H vs Q E hr h=>?_)
 ·obtain ⟨ms,rfl,hR⟩:=h
  rfl
 ·refine ⟨_,(Zac (Zbw (Zd6 (Pu.Zb4 (K:=K) (Zaq (Pu.Zdz (K:=K)) (by rfl) G.isinstance boot_isinstance (Za (pv 0) (Za (Zgs (v:=.ty "list") rfl G.list boot_list rfl) Zad)))))
   (Zaf (Zap Zhs))
   Zaz)
   (Zac (Zb9 PassesOwn.never rfl (Pu.Za1 (K:=K) (pv 0)) (Zan (i:=1) sc_law_moves_are_rows.nd rfl (by first | exact Or.inl rfl | exact Or.inr rfl))
   (Zaf (Zbw (PW.pt (Zhq (Zd6 (Pu.Zb4 (K:=K) (Zaq (Pu.Zdz (K:=K)) (by rfl) G.isinstance boot_isinstance (Za (pv 1) (Za (Zgs (v:=.ty "tuple") rfl G.tuple boot_tuple rfl) Zad))))) (Zhq (Zat (Pu.Zi0 (K:=K) (show _ < cLine from hr.units0)) (Zaq (Own.Za7 (K:=K)) (by rfl) G.len PySem.boot_len (Za (pv 1) Zad)) Zah (nomark _)) (Zfd (Zd6 (Pu.Zb4 (K:=K) (Own.Zav c_law_row (hr.mono (by decide)) pass0 (Za (Zbb (Pu.Zch (K:=K)) (by rfl) G.list boot_list (Za (pv 1) Zad)) (Za (Zbb (Pu.Zch (K:=K)) (by rfl) G.list boot_list (Za (pv 1) Zad)) Zad)))))))))
   (Zaf (Zap Zhs))
   Zaz)))
   (Zaf (Zap Zhs)))),Pu.Zax (n:=1) h
   (Zaj (Zb6 (Zed (Zb5 (Zk5 (Zaa (Zab 0) (Zaa Zqs Zae))))) (Za0 Zhl) Za3)
    (Zaj (Za2 0 (Zde [1] (Zcv (Zab 0)) (Zag 1)
    (Zb6 (Zhf (Zed (Zb5 (Zk5 (Zaa (Zab 1) (Zaa Zqs Zae))))) (Zhf (Zay (Ziv (Zcs (Zaa (Zab 1) Zae)) Zai)) (Zed (Zb5 (Zak (Zaa (Zf1 (Zaa (Zab 1) Zae)) (Zaa (Zf1 (Zaa (Zab 1) Zae)) Zae))))))) (Za0 Zhl) Za3)))
    (Za0 Zhl))) (by decide) (fun ds R X h=>?_)⟩
  obtain ⟨ms,rfl,hR⟩:=h
  refine ⟨rfl,?_⟩
  refine ⟨true,.same _,iteF ⟨rfl,Zem (xs:=ms) (emb:=mvD) (fun i γ'=>γ'=[some (.bor (.lst (ms.map mvD))),none]) rfl ?_ ?_⟩⟩
  ·rintro i hi γ' rfl
   refine ⟨true,.same _,iteF ?_⟩
   exact ⟨rfl,rfl,[ms[i].1,ms[i].2.1,ms[i].2.2.1,ms[i].2.2.2],rfl,by simp,iteF rfl⟩
  ·rintro γ' rfl
   exact hR
theorem Zjk (G:Glob K mg) (DD:Def K mg "check_no_ring" Zco ["strips", "wishes"])
  (c_find_ring:Zfz P w K mg base)
  (c_holders_of:Zbz P w K mg base)
  : Zdi P w K mg base:=by
 refine DD.ok (k:=3) sc_check_no_ring (fun vs H Q E h=>Zam h (fun ds R X h=>?_)) (fun f cdv A outer s H vs Q E hr h=>?_)
 ·obtain ⟨ps,ws,rfl,hF,hz,hu,hN,hR⟩:=h
  rfl
 ·refine ⟨_,(Zac (Pu.pz 2 sc_check_no_ring.nd (Own.Zav c_find_ring (hr.mono (by decide)) pass0 (Za (Own.Zav c_holders_of (hr.mono (by decide)) pass0 (Za (pv 0) Zad)) (Za (pv 1) Zad))))
   (Zaf (Zbw (Pu.Zb4 (K:=K) (pv 2))
   (Zaf Zv2)
   Zaz))),Pu.Zax (n:=2) h
   (Zaj (Zao (Zak (Zaa (Zak (Zaa (Zab 0) Zae)) (Zaa (Zab 1) Zae))) (Zag 2))
    (Zb6 (Zb5 (Zab 2)) Zwo Za3)) (by decide) (fun ds R X h=>?_)⟩
  obtain ⟨ps,ws,rfl,hF,hz,hu,hN,hR⟩:=h
  refine ⟨rfl,?_⟩
  refine ⟨ps,rfl,hF,hz,_,ws,rfl,(Za9 ps).imp (fun h=>Ucm h),Ual (Zdd ps) (by decide),fun r hr hl=>?_⟩
  have e:=(hr.none_iff hu).mpr hN
  subst e
  exact iteF (A:=False) hR
theorem Zjv (G:Glob K mg) (DD:Pu.DefM K (Meth K (ExcR.clsOf mg "Village") "ring") "ring" "Village.ring" Zc3 ["self"])
  (c_find_ring:Zfz P w K mg base)
  (c_holders_of:Zbz P w K mg base)
  (c_Village_wishes:Zbl P w K mg base)
  (c_Village_strips:Zb P w K mg base)
  : Zkl P w K mg base:=by
 refine Pu.DefM.ok DD (k:=3) Zkh (fun vs H Q E h=>Zam h (fun ds R X h=>?_)) (fun f cdv A outer s H vs Q E hr h=>?_)
 ·obtain ⟨bk,fs,ws,f,w,rfl,hF,hz,hR⟩:=h
  rfl
 ·refine ⟨_,(Zaf (Zap (Own.Zav c_find_ring (hr.mono (by decide)) pass0 (Za (Own.Zav c_holders_of (hr.mono (by decide)) pass0 (Za (Pu.Zby c_Village_strips G.cl_Village (hr.mono (by decide)) pass0 (pv 0)) Zad)) (Za (Pu.Zby c_Village_wishes G.cl_Village (hr.mono (by decide)) pass0 (pv 0)) Zad))))),Pu.Zax (n:=1) h
   (Zpv (Zak (Zaa (Zak (Zaa (Zbj Zbk (Zab 0) Zae) Zae)) (Zaa (Zbj Zb1 (Zab 0) Zae) Zae)))) (by decide) (fun ds R X h=>?_)⟩
  obtain ⟨bk,fs,ws,f,w,rfl,hF,hz,hR⟩:=h
  refine ⟨rfl,?_⟩
  refine ⟨rfl,rfl,bk,fs,ws++[w],f,rfl,f,rfl,hF,hz,rfl,rfl,bk,fs++[f],ws,w,rfl,?_⟩
  exact ⟨_,w,rfl,(Za9 f).imp (fun h=>Ucm h),Ual (Zdd f) (by decide),fun r hr hl=>hR r hr hl⟩
theorem Zmr (G:Glob K mg) (DD:Def K mg "cost_table" Zd9 ["strips", "wishes"])
  (c_check_no_ring:Zdi P w K mg base)
  (c_least_costs:Zek P w K mg base)
  (c_pair_costs:Ze0 P w K mg base)
  : Zhc P w K mg base:=by
 refine DD.ok (k:=4) sc_cost_table (fun vs H Q E h=>Zam h (fun ds R X h=>?_)) (fun f cdv A outer s H vs Q E hr h=>?_)
 ·obtain ⟨ps,ws,rfl,hF,hz,hw,hu,hN,hR⟩:=h
  rfl
 ·refine ⟨_,(Zac (Zbn (Own.Zav c_check_no_ring (hr.mono (by decide)) pass0 (Za (pv 0) (Za (pv 1) Zad))))
   (Zac (Pu.pz 2 sc_cost_table.nd (Own.Zav c_least_costs (hr.mono (by decide)) pass0 (Za (pv 0) (Za (pv 1) (Za (Own.Zav c_pair_costs (hr.mono (by decide)) pass0 (Za (pv 0) Zad)) Zad)))))
   (Zaf (Zap (Zbb (Own.Zsb rfl) (by rfl) G.list boot_list (Za (Own.Zwj (K:=K) (pv 2)) Zad)))))),Pu.Zax (n:=2) h
   (Zaj (Zei (Zak (Zaa (Zab 0) (Zaa (Zab 1) Zae))))
    (Zaj (Zao (Zak (Zaa (Zab 0) (Zaa (Zab 1) (Zaa (Zak (Zaa (Zab 0) Zae)) Zae)))) (Zag 2))
    (Za0 (Zxq (Zab 2))))) (by decide) (fun ds R X h=>?_)⟩
  obtain ⟨ps,ws,rfl,hF,hz,hw,hu,hN,hR⟩:=h
  refine ⟨rfl,?_⟩
  refine ⟨ps,ws,rfl,hF,hz,hu,hN,ps,rfl,hF,hz,fun pa hpa=>⟨ps,ws,pa,pcc ps,rfl,hF,hz,hw,hu,hpa,Zm hu hN,fun kvs T=>?_⟩⟩
  have nd:(holdM ps).Nodup:=(Za9 ps).imp (fun h=>Ucm h)
  obtain ⟨vs,e,hv⟩:=T.vals (Zj8 nd)
  obtain ⟨e1,e2⟩:=Zl e
  refine ⟨kvs,rfl,e1,?_⟩
  rw [e2]
  exact hR vs hv
theorem Zmu (G:Glob K mg) (DD:Def K mg "best_order" Zee ["strips", "wishes"])
  (c_check_no_ring:Zdi P w K mg base)
  (c_pair_costs:Ze0 P w K mg base)
  (c_least_costs:Zek P w K mg base)
  (c_holders_of:Zbz P w K mg base)
  (c_without:Zf7 P w K mg base)
  (c_may_lie_first:Zfc P w K mg base)
  (c_cost_with_first:Zd4 P w K mg base)
  : Zg3 P w K mg base:=by
 refine DD.ok (k:=4) sc_best_order (fun vs H Q E h=>Zam h (fun ds R X h=>?_)) (fun f cdv A outer s H vs Q E hr h=>?_)
 ·obtain ⟨ps,ws,rfl,hF,hz,hw,hu,hN,hR⟩:=h
  rfl
 ·refine ⟨_,(Zac (Zbn (Own.Zav c_check_no_ring (hr.mono (by decide)) pass0 (Za (pv 0) (Za (pv 1) Zad))))
   (Zac (Pu.pz 2 sc_best_order.nd (Own.Zav c_pair_costs (hr.mono (by decide)) pass0 (Za (pv 0) Zad)))
   (Zac (Pu.pz 3 sc_best_order.nd (Own.Zav c_least_costs (hr.mono (by decide)) pass0 (Za (pv 0) (Za (pv 1) (Za (pv 2) Zad)))))
   (Zac (Pu.pz 4 sc_best_order.nd (Zbb (Pu.Zjx (K:=K)) (by rfl) G.tuple boot_tuple (Za (Own.Zav c_holders_of (hr.mono (by decide)) pass0 (Za (pv 0) Zad)) Zad)))
   (Zac (Pu.pz 5 sc_best_order.nd (Zbd Zad))
   (Zac (Zm5 PassesOwn.never (Pu.Zb4 (K:=K) (pv 4))
   (Zac (Own.Zb0 (N':=["holder", "members", "wishes"]) (φ:=[none,some 4,some 1]) (i:=6) sc_best_order.nd rfl rfl rfl (Own.CompOk.of (by rfl)) (Pu.Zj5 (K:=K) (pv 4)) (fun _ _ _ _ _=>⟨(Zan (i:=0) (show (["holder", "members", "wishes"]:List Str).Nodup from by decide +kernel) rfl (by first | exact Or.inl rfl | exact Or.inr rfl)),(Own.Zc7 (Pu.Zb4 (K:=K) (Own.Zav c_may_lie_first (hr.mono (by decide)) pass0 (Za (pv 1) (Za (pv 0) (Za (pv 2) Zad)))))),(pv 0)⟩))
   (Zac (Own.Zb0 (N':=["first", "members", "least", "pairs"]) (φ:=[none,some 4,some 3,some 2]) (i:=7) sc_best_order.nd rfl rfl rfl (Own.CompOk.of (by rfl)) (Pu.Za1 (K:=K) (pv 6)) (fun _ _ _ _ _=>⟨(Zan (i:=0) (show (["first", "members", "least", "pairs"]:List Str).Nodup from by decide +kernel) rfl (by first | exact Or.inl rfl | exact Or.inr rfl)),(Own.Zc7 (Zat (Pu.Zl2 (K:=K) (show _ < cLine from hr.units0)) (Own.Zav c_cost_with_first (hr.mono (by decide)) pass0 (Za (pv 1) (Za (pv 0) (Za (pv 2) (Za (pv 3) Zad))))) (Zkb (Zff hr) (pv 2) (pv 1) (fun _ _=>rfl)) (nomark _))),(pv 0)⟩))
   (Zac (Zbn (Zlk PySem.F.plainAttrs_list PySem.F.slot_list_append PySem.F.type_list_append Zb7 (pv 5) (Za (Za4 (Own.Zar (K:=K)) (pv 7) Zah (fun _ _=>rfl)) Zad)))
   (Zaf (Pu.pz 4 sc_best_order.nd (Own.Zav c_without (hr.mono (by decide)) pass0 (Za (pv 4) (Za (Za4 (Own.Zar (K:=K)) (pv 7) Zah (fun _ _=>rfl)) Zad)))))))))
   (Zaf (Zap (pv 5))))))))),Pu.Zax (n:=2) h
   (Zaj (Zei (Zak (Zaa (Zab 0) (Zaa (Zab 1) Zae))))
    (Zaj (Zao (Zak (Zaa (Zab 0) Zae)) (Zag 2))
    (Zaj (Zao (Zak (Zaa (Zab 0) (Zaa (Zab 1) (Zaa (Zab 2) Zae)))) (Zag 3))
    (Zaj (Zao (Zrn (Zaa (Zak (Zaa (Zab 0) Zae)) Zae)) (Zag 4))
    (Zaj (Zao (Zbf Zae) (Zag 5))
    (Zaj (Zne [6,7] (Zb5 (Zab 4))
    (Zaj (Zao (Zbm (SndI.c (Zod (Zab 4))) (Zag 0) (Zb5 (Zak (Zaa (Zab 1) (Zaa (Zab 0) (Zaa (Zab 2) Zae))))) (Zab 0)) (Zag 6))
    (Zaj (Zao (Zbm (Zbu (Zab 6)) (Zag 0) (Zay (Zl7 (Zak (Zaa (Zab 1) (Zaa (Zab 0) (Zaa (Zab 2) (Zaa (Zab 3) Zae))))) (Zkm (Zab 2) (Zab 1)))) (Zab 0)) (Zag 7))
    (Zaj (Zeo 5 (Za6 (Zab 7) Zai))
    (Zao (Zak (Zaa (Zab 4) (Zaa (Za6 (Zab 7) Zai) Zae))) (Zag 4))))))
    (Zdh 5))))))) (by decide) (fun ds R X h=>?_)⟩
  obtain ⟨ps,ws,rfl,hF,hz,hw,hu,hN,hR⟩:=h
  refine ⟨rfl,?_⟩
  refine ⟨ps,ws,rfl,hF,hz,hu,hN,ps,rfl,hF,hz,fun pa hpa=>⟨ps,ws,pa,pcc ps,rfl,hF,hz,hw,hu,hpa,Zm hu hN,fun kvs T=>⟨ps,rfl,hF,hz,?_⟩⟩⟩
  have hh:=Zdd ps
  have hri:=Za9 ps
  have nd:(holdM ps).Nodup:=hri.imp (fun h=>Ucm h)
  have hpa':∀ x∈holdM ps,∀ y∈holdM ps,valV pa [.inl x,.inl y]=some (.int (pcc ps x y)):=hpa
  generalize pcc ps=c at *
  generalize holdM ps=hs at *
  refine ⟨rfl,by simp,Zmn (fun γ'=>∃ (ms o:List Int),γ'=[some (.bor (.lst (ps.map prD))),some (.bor (.lst (ws.map prD))),some (.own (.dT pa)),some (.own (.dT kvs)),some (.sh (tD ms)),some (.own (o.map D.int)),none,none]/\ms∈setsM hs/\o.length + ms.length<=10/\
   ∀ p,Best ws c ms p->Best ws c hs (o++p)) tupLen ⟨hs,[],rfl,List.mem_of_getLast? (Zhb hs),by simpa using hh,fun p hp=>hp⟩ ?_⟩
  rintro γ' ⟨ms,o,rfl,hms,hol,hB⟩
  show if (!(ms.map D.int).isEmpty)=true then _ else _
  refine ite2 (fun g=>?_) (fun g=>?_)
  ·have hsm:=Zfi hs ms hms
   have hne:ms≠[]:=fun e=>by subst e;simp at g
   have ndm:ms.Nodup:=nd.sublist hsm
   have hrm:=hri.sublist hsm
   have hless:∀ l∈ms,lessM ms l∈setsM hs:=fun l hl=>by
    obtain ⟨k,hk,e⟩:=Ubd.mp hms
    obtain ⟨j,_,ej⟩:=Zjz nd k ms (by rw [Uaa hk,e]) l hl
    exact Uax ej
   obtain ⟨vs,hvs⟩:=Zr fun l hl=>T.val _ (hless l hl)
   obtain ⟨V,hV1,hV2⟩:=T.val ms hms
   have hv2:∀ l∈ms,Least ws c (lessM ms l) (vs l):=fun l hl=>(hvs l hl).2
   have hsome:∃ f rest,(ms.filter (fun h=>firstM ws ms h)).filter (fun f=>decide (vs f + ((lessM ms f).map (c f)).sum=V))=f :: rest:=by
    obtain ⟨q,q1,q2,q3⟩:=hV2.is
    cases q with
    | nil=>exact absurd q1.nil_eq.symm hne
    | cons g p=>
     obtain ⟨r1,r2,r3,_⟩:=Zv ndm hu hv2 hV2 q1 q2 q3
     exact List.exists_cons_of_ne_nil (List.ne_nil_of_mem (Ua7.mpr ⟨Ua7.mpr ⟨r1,r2⟩,Uaf r3⟩))
   obtain ⟨f,rest,ef⟩:=hsome
   have hfm:f∈(ms.filter (fun h=>firstM ws ms h)).filter (fun f=>decide (vs f + ((lessM ms f).map (c f)).sum=V)):=by rw [ef];exact Ua1 ..
   obtain ⟨hfm,hf3⟩:=Ua7.mp hfm
   obtain ⟨hf1,hf2⟩:=Ua7.mp hfm
   have hmin:∀ g∈ms,firstM ws ms g=true->vs g + ((lessM ms g).map (c g)).sum=V->f<=g:=fun g h1 h2 h3=>by
    have hg:g∈(ms.filter (fun h=>firstM ws ms h)).filter (fun f=>decide (vs f + ((lessM ms f).map (c f)).sum=V)):=Ua7.mpr ⟨Ua7.mpr ⟨h1,h2⟩,Uaf h3⟩
    have hr:(f :: rest).Pairwise (· < ·):=by
     rw [← ef]
     exact (hrm.filter _).filter _
    rw [ef] at hg
    rcases Uan.mp hg with e | hg
    ·omega
    ·have:=(Ub5.mp hr).1 g hg
     omega
   refine ⟨_,rfl,Zbq (s:=.sh .non) (xs:=ms) (emb:=D.int) (fun h=>if firstM ws ms h=true then some (.int h) else none) (by omega) (fun h hm=>?_) ?_⟩
   ·refine ⟨ms,h,ws,rfl,hw,?_⟩
    refine ite2 (fun g=>⟨_,rfl,Uae g⟩) (fun g=>Uad g)
   ·rw [pickD (fun h=>firstM ws ms h)]
    refine Zbq (xs:=ms.filter (fun h=>firstM ws ms h)) (emb:=D.int) (fun f=>if decide (vs f + ((lessM ms f).map (c f)).sum=V)=true then some (.int f) else none) (Ual (Ubn _ _) (by omega)) (fun l hl=>?_) ?_
    ·obtain ⟨hl1,hl2⟩:=Ua7.mp hl
     refine ⟨ms,l,kvs,pa,c l,vs l,rfl,by omega,(hvs l hl1).1,fun m hm=>hpa' l (hsm.subset hl1) m (hsm.subset (less_sub.subset hm)),_,_,Zjm ms,hV1,rfl,?_⟩
     refine ite2 (fun g=>⟨_,rfl,Uae g⟩) (fun g=>Uad g)
    ·rw [pickD (fun f=>decide (vs f + ((lessM ms f).map (c f)).sum=V)),ef]
     refine ⟨_,Zpm _ _,by rw [Uab];omega,_,Zpm _ _,ms,f,rfl,by omega,⟨lessM ms f,o++[f],?_,hless f hf1,?_,fun p hp=>?_⟩,?_⟩
     ·rw [Uaq]
      rfl
     ·have:=(Zck ndm hf1).length_eq
      rw [Uat]
      rw [Uaz] at this
      show o.length + 1 + _<=10
      omega
     ·rw [Udp]
      exact hB _ (Ztr ndm hu hv2 hV2 hf1 hf2 (Uap hf3) hmin hp)
     ·have:=(Zck ndm hf1).length_eq
      rw [Uaz] at this
      show ((lessM ms f).map D.int).length < (ms.map D.int).length
      rw [Uab,Uab]
      omega
  ·have e:ms=[]:=by
    cases ms with
    | nil=>rfl
    | cons a r=>exact absurd rfl g
   subst e
   have:=hB [] (Zwx ws c)
   rw [Ubi] at this
   exact hR o this
theorem Zpt (G:Glob K mg) (DD:Def K mg "_law_made" Zgd ["_law_strips_here", "_law_wishes_here"])
  (c_Village_init:Zfu P w K mg base)
  (c_Village_wish:Zfj P w K mg base)
  : Zkv P w K mg base:=by
 refine DD.ok (k:=4) sc_law_made (fun vs H Q E h=>Zam h (fun ds R X h=>?_)) (fun f cdv A outer s H vs Q E hr h=>?_)
 ·obtain ⟨ps,ws,rfl,hF,hz,hW,hR⟩:=h
  rfl
 ·refine ⟨_,(Zac (Pu.pz 2 sc_law_made.nd (Pu.Zy4 c_Village_init G.m_Village (hr.mono (by decide)) Pu.Zhk (Za (Zbb (Pu.Zch (K:=K)) (by rfl) G.list boot_list (Za (pv 0) Zad)) Zad)))
   (Zac (Zb9 PassesOwn.never rfl (Pu.Za1 (K:=K) (pv 1)) (Own.Zgt (K:=K) (n:=2) rfl (Zbc (Zan (i:=3) sc_law_made.nd rfl (by first | exact Or.inl rfl | exact Or.inr rfl)) (Zbc (Zan (i:=4) sc_law_made.nd rfl (by first | exact Or.inl rfl | exact Or.inr rfl)) Zfy)))
   (Zaf (Zbn (Pu.Zw4 c_Village_wish G.cl_Village (hr.mono (by decide)) Pu.Zhk (pv 2) (Za (pv 3) (Za (pv 4) Zad))))))
   (Zaf (Zap (pv 2))))),Pu.Zax (n:=2) h
   (Zaj (Zao (Zv0 (Zaa (Zf1 (Zaa (Zab 0) Zae)) Zae)) (Zag 2))
    (Zaj (Za2 1 (Zde [3,4] (Zcv (Zab 1)) (Zma (Zbt (Zag 3) (Zbt (Zag 4) Zib)))
    (Za2 4 (Za2 3 (Zjo (Zq1 2 Zkp (Zaa (Zab 3) (Zaa (Zab 4) Zae))))))))
    (Zdh 2))) (by decide) (fun ds R X h=>?_)⟩
  obtain ⟨ps,ws,rfl,hF,hz,hW,hR⟩:=h
  refine ⟨rfl,?_⟩
  refine ⟨Zen _,fun x=>⟨x,ps,rfl,rfl,by omega,?_⟩⟩
  rw [Zop hF hz]
  refine fun b1 b2 b3=>⟨rfl,?_⟩
  have hw:=hW.1
  refine ⟨rfl,Zem (xs:=ws) (emb:=prD) (fun i γ'=>∃ (bk:List (Str×List Int)) (fs us:List (List (Int×Int))),γ'=[some (.bor (plD ps)),some (.bor (plD ws)),some (.own (vO (ExcR.clsOf mg "Village") x b1 b2 b3 bk (fs++[ps]) (us++[ws.take i]))),none,none]/\bk.length=i/\fs.length=i/\us.length=i) ⟨[],[],[],rfl,rfl,rfl,rfl⟩ ?_ ?_⟩
  ·rintro i hi γ' ⟨bk,fs,us,rfl,h1,h2,h3⟩
   refine ⟨rfl,rfl,rfl,x,b1,b2,b3,bk,fs,us,ps,ws.take i,ws[i].1,ws[i].2,rfl,rfl,by omega,by omega,by omega,by rw [Ua4];omega,?_⟩
   unfold vwishE
   rw [Uad (by omega),Zsi hW hi]
   refine ⟨bk++[(("wish" : Str),[ws[i].1,ws[i].2])],fs++[ps],us++[ws.take i],?_,by simp [h1],by simp [h2],by simp [h3]⟩
   rw [Uau hi]
   rfl
  ·rintro γ' ⟨bk,fs,us,rfl,h1,h2,h3⟩
   have:=hR x b1 b2 b3 bk fs us (by omega) (by omega) (by omega)
   rw [Ubk]
   exact this
theorem Zmt (G:Glob K mg) (DD:Def K mg "least_cost" Ze ["strips", "wishes"])
  (c_cost_table:Zhc P w K mg base)
  : Zg5 P w K mg base:=by
 refine DD.ok (k:=5) Zng (fun vs H Q E h=>Zam h (fun ds R X h=>?_)) (fun f cdv A outer s H vs Q E hr h=>?_)
 ·obtain ⟨ps,ws,rfl,hF,hz,hw,hu,hN,hR⟩:=h
  rfl
 ·refine ⟨_,(Zaf (Zap (Za4 (Own.Zar (K:=K)) (Own.Zav c_cost_table (hr.mono (by decide)) pass0 (Za (pv 0) (Za (pv 1) Zad))) (Zss Zl5 Zah) (fun _ _=>rfl)))),Pu.Zax (n:=2) h
   (Za0 (Za6 (Zak (Zaa (Zab 0) (Zaa (Zab 1) Zae))) (Zlz Zai))) (by decide) (fun ds R X h=>?_)⟩
  obtain ⟨ps,ws,rfl,hF,hz,hw,hu,hN,hR⟩:=h
  refine ⟨rfl,?_⟩
  refine ⟨ps,ws,rfl,hF,hz,hw,hu,hN,fun vs hv=>?_⟩
  have e1:=Zhb (holdM ps)
  rw [List.getLast?_eq_getElem?] at e1
  have hi:=(Uas.mp e1).1
  have hl:=hv.1
  obtain ⟨v,h2⟩:∃ v,vs[(setsM (holdM ps)).length - 1]?=some v:=⟨_,Uaa (by omega)⟩
  have L:=hv.2 _ _ _ e1 h2
  rw [← hl] at h2
  exact ⟨_,Zeh (f:=D.int) (Zrz h2),hR _ L⟩
theorem Zj (G:Glob K mg) (DD:Pu.DefM K (Meth K (ExcR.clsOf mg "Village") "order") "order" "Village.order" Zcl ["self"])
  (c_best_order:Zg3 P w K mg base)
  (c_Village_strips:Zb P w K mg base)
  (c_Village_wishes:Zbl P w K mg base)
  : Zdg P w K mg base:=by
 refine Pu.DefM.ok DD (k:=5) Zjh (fun vs H Q E h=>Zam h (fun ds R X h=>?_)) (fun f cdv A outer s H vs Q E hr h=>?_)
 ·obtain ⟨bk,fs,ws,f,w,rfl,hF,hz,hw,hu,hN,hR⟩:=h
  rfl
 ·refine ⟨_,(Zaf (Zap (Own.Zav c_best_order (hr.mono (by decide)) pass0 (Za (Pu.Zby c_Village_strips G.cl_Village (hr.mono (by decide)) pass0 (pv 0)) (Za (Pu.Zby c_Village_wishes G.cl_Village (hr.mono (by decide)) pass0 (pv 0)) Zad))))),Pu.Zax (n:=1) h
   (Za0 (Zak (Zaa (Zbj Zbk (Zab 0) Zae) (Zaa (Zbj Zb1 (Zab 0) Zae) Zae)))) (by decide) (fun ds R X h=>?_)⟩
  obtain ⟨bk,fs,ws,f,w,rfl,hF,hz,hw,hu,hN,hR⟩:=h
  refine ⟨rfl,?_⟩
  exact ⟨rfl,rfl,bk,fs,ws++[w],f,rfl,rfl,rfl,bk,fs++[f],ws,w,rfl,f,w,rfl,hF,hz,hw,hu,hN,hR⟩
theorem Zkx (G:Glob K mg) (DD:Pu.DefM K (Meth K (ExcR.clsOf mg "Village") "cost") "cost" "Village.cost" Zc8 ["self"])
  (c_least_cost:Zg5 P w K mg base)
  (c_Village_strips:Zb P w K mg base)
  (c_Village_wishes:Zbl P w K mg base)
  : Zfm P w K mg base:=by
 refine Pu.DefM.ok DD (k:=6) Zj4 (fun vs H Q E h=>Zam h (fun ds R X h=>?_)) (fun f cdv A outer s H vs Q E hr h=>?_)
 ·obtain ⟨bk,fs,ws,f,w,rfl,hF,hz,hw,hu,hN,hR⟩:=h
  rfl
 ·refine ⟨_,(Zaf (Zap (Own.Zav c_least_cost (hr.mono (by decide)) pass0 (Za (Pu.Zby c_Village_strips G.cl_Village (hr.mono (by decide)) pass0 (pv 0)) (Za (Pu.Zby c_Village_wishes G.cl_Village (hr.mono (by decide)) pass0 (pv 0)) Zad))))),Pu.Zax (n:=1) h
   (Za0 (Zak (Zaa (Zbj Zbk (Zab 0) Zae) (Zaa (Zbj Zb1 (Zab 0) Zae) Zae)))) (by decide) (fun ds R X h=>?_)⟩
  obtain ⟨bk,fs,ws,f,w,rfl,hF,hz,hw,hu,hN,hR⟩:=h
  refine ⟨rfl,?_⟩
  exact ⟨rfl,rfl,bk,fs,ws++[w],f,rfl,rfl,rfl,bk,fs++[f],ws,w,rfl,f,w,rfl,hF,hz,hw,hu,hN,hR⟩
theorem Zja (G:Glob K mg) (DD:Pu.DefM K (Meth K (ExcR.clsOf mg "Village") "moves") "moves" "Village.moves" Zcp ["self"])
  (c_told_moves:Zg0 P w K mg base)
  (c_Village_strips:Zb P w K mg base)
  (c_Village_order:Zdg P w K mg base)
  : Zfe P w K mg base:=by
 refine Pu.DefM.ok DD (k:=6) Zi8 (fun vs H Q E h=>Zam h (fun ds R X h=>?_)) (fun f cdv A outer s H vs Q E hr h=>?_)
 ·obtain ⟨bk,fs,ws,f,w,rfl,hF,hz,hw,hu,hN,hR⟩:=h
  rfl
 ·refine ⟨_,(Zaf (Zap (Own.Zav c_told_moves (hr.mono (by decide)) pass0 (Za (Pu.Zby c_Village_strips G.cl_Village (hr.mono (by decide)) pass0 (pv 0)) (Za (Pu.Zby c_Village_order G.cl_Village (hr.mono (by decide)) pass0 (pv 0)) Zad))))),Pu.Zax (n:=1) h
   (Za0 (Zak (Zaa (Zbj Zbk (Zab 0) Zae) (Zaa (Zbj Zdk (Zab 0) Zae) Zae)))) (by decide) (fun ds R X h=>?_)⟩
  obtain ⟨bk,fs,ws,f,w,rfl,hF,hz,hw,hu,hN,hR⟩:=h
  refine ⟨rfl,?_⟩
  exact ⟨rfl,rfl,bk,fs,ws++[w],f,rfl,rfl,rfl,bk,fs,ws,f,w,rfl,hF,by omega,hw,hu,hN,fun o hB=>⟨f,o,rfl,hF,hz,hB.perm,fun ms hm=>hR o ms hB hm⟩⟩
theorem Zyz (G:Glob K mg) (DD:Def K mg "law" Zlp ["_law_script"])
  (c_law_menu:Zku P w K mg base)
  (c_law_strips:Zgx P w K mg base)
  (c_law_keepable:Zfs P w K mg base)
  (c_law_made:Zkv P w K mg base)
  (c_Village_order:Zdg P w K mg base)
  (c_Village_moves:Zfe P w K mg base)
  (c_law_carried:Zgh P w K mg base)
  (c_walk_places:Zgp P w K mg base)
  (c_law_price:Zn6 P w K mg base)
  (c_law_row:Zic P w K mg base)
  (c_law_draw:Ze5 P w K mg base)
  (c_law_wishes:Zhh P w K mg base)
  (c_law_present:Zlb P w K mg base)
  (c_law_moves_are_rows:Zdc P w K mg base)
  (c_law_spare:Zii P w K mg base)
  (c_law_at:Zh P w K mg base)
  (c_Village_cost:Zfm P w K mg base)
  : Zyt P w K mg base:=by
 refine DD.ok (k:=7) sc_law (fun vs H Q E h=>Zam h (fun ds R X h=>?_)) (fun f cdv A outer s H vs Q E hr h=>?_)
 ·obtain ⟨ns,rfl,hR⟩:=h
  rfl
 ·refine ⟨_,(Zac (Pu.pz 1 sc_law.nd (Own.Zav c_law_menu (hr.mono (by decide)) pass0 (Za (Own.Zav c_law_draw (hr.mono (by decide)) pass0 (Za (pv 0) (Za Zah Zad))) Zad)))
   (Zac (Pu.pz 2 sc_law.nd (Own.Zav c_law_strips (hr.mono (by decide)) pass0 (Za (pv 0) (Za (pv 1) (Za (Zau Zb8 (Zau Zel (Own.Zav c_law_at (hr.mono (by decide)) pass0 (Za (pv 0) (Za Zah Zad))) Zah) Zah) Zad)))))
   (Zac (Pu.pz 3 sc_law.nd (Own.Zav c_law_keepable (hr.mono (by decide)) pass0 (Za (Own.Zav c_law_wishes (hr.mono (by decide)) pass0 (Za (pv 0) (Za (pv 1) Zad))) (Za (Own.Zav c_law_present (hr.mono (by decide)) pass0 (Za (pv 2) Zad)) Zad))))
   (Zac (Pu.pz 4 sc_law.nd (Own.Zav c_law_made (hr.mono (by decide)) pass0 (Za (pv 2) (Za (pv 3) Zad))))
   (Zac (Pu.pz 5 sc_law.nd (Pu.Zby c_Village_order G.cl_Village (hr.mono (by decide)) pass0 (pv 4)))
   (Zac (Pu.pz 6 sc_law.nd (Pu.Zby c_Village_moves G.cl_Village (hr.mono (by decide)) pass0 (pv 4)))
   (Zac (Zbw (PW.pt (Zhq (Zd6 (Pu.Zb4 (K:=K) (Zaq (Pu.Zdz (K:=K)) (by rfl) G.isinstance boot_isinstance (Za (pv 5) (Za (Zgs (v:=.ty "list") rfl G.list boot_list rfl) Zad))))) (Zfd (Zd6 (Pu.Zb4 (K:=K) (Own.Zav c_law_row (hr.mono (by decide)) pass0 (Za (Zaq (Pu.Zea (K:=K) (w:=w) rfl) (by rfl) G.sorted boot_sorted (Za (pv 5) Zad)) (Za (Own.Zav c_law_present (hr.mono (by decide)) pass0 (Za (pv 2) Zad)) Zad))))))))
   (Zaf (Zap Zhs))
   Zaz)
   (Zac (Zbw (Zd6 (Pu.Zb4 (K:=K) (Own.Zav c_law_moves_are_rows (hr.mono (by decide)) pass0 (Za (pv 6) Zad))))
   (Zaf (Zap Zhs))
   Zaz)
   (Own.Zry (Pu.pz 7 sc_law.nd (Zau Zb8 (Own.Zav c_law_spare (hr.mono (by decide)) pass0 (Za (pv 0) Zad)) (Zau Zca (Zaq (Own.Za7 (K:=K)) (by rfl) G.len PySem.boot_len (Za (pv 6) Zad)) Zah)))
   (Zac (Pu.pz 8 sc_law.nd (Own.Zav c_law_carried (hr.mono (by decide)) pass0 (Za (Zf6 (Pu.Zf5 (K:=K)) (pv 6) Zh3 (Zht (pv 7))) (Za (pv 2) Zad))))
   (Zac (Zbw (Zxb (Zy6 (pv 8)))
   (Zaf (Zap Zhs))
   Zaz)
   (Zac (Own.Zb0 (N':=["_law_move"]) (φ:=[none]) (i:=9) sc_law.nd rfl rfl rfl (Own.CompOk.of (by rfl)) (Pu.Za1 (K:=K) (Zf6 (Pu.Zf5 (K:=K)) (pv 6) Zh3 (Zht (pv 7)))) (fun _ _ _ _ _=>⟨(Zan (i:=0) (show (["_law_move"]:List Str).Nodup from by decide +kernel) rfl (by first | exact Or.inl rfl | exact Or.inr rfl)),Own.Zbg,(Za4 (Own.Zar (K:=K)) (pv 0) Zah (fun _ _=>rfl))⟩))
   (Zac (Pu.pz 10 sc_law.nd (Own.Zav c_walk_places (hr.mono (by decide)) Pu.Zhk (Za (Zbb (Pu.Zch (K:=K)) (by rfl) G.list boot_list (Za (pv 2) Zad)) (Za (pv 9) Zad))))
   (Zac (Zbw (PW.pt (Zhq (Zd6 (Pu.Zb4 (K:=K) (Zaq (Pu.Zdz (K:=K)) (by rfl) G.isinstance boot_isinstance (Za (pv 10) (Za (Zgs (v:=.ty "tuple") rfl G.tuple boot_tuple rfl) Zad))))) (Zhq (Zat (Pu.Zi0 (K:=K) (show _ < cLine from hr.units0)) (Zaq (Own.Za7 (K:=K)) (by rfl) G.len PySem.boot_len (Za (pv 10) Zad)) Zah (nomark _)) (Zfd (Zd6 (Pu.Zb4 (K:=K) (Own.Zav c_law_row (hr.mono (by decide)) pass0 (Za (Za4 (Own.Zar (K:=K)) (pv 10) Zah (fun _ _=>rfl)) (Za (Za4 (Own.Zar (K:=K)) (pv 8) Zah (fun _ _=>rfl)) Zad)))))))))
   (Zaf (Zap Zhs))
   Zaz)
   (Zac (Pu.pz 11 sc_law.nd (Own.Zav c_law_made (hr.mono (by decide)) pass0 (Za (Own.Zbs (N':=["_law_number", "_law_strips_here"]) (φ:=[none,some 2]) rfl (Own.CompOk.of (by rfl)) (Pu.Za1 (K:=K) (Za4 (Own.Zar (K:=K)) (pv 8) Zah (fun _ _=>rfl))) (fun _ _ _ _ _=>⟨(Zan (i:=0) (show (["_law_number", "_law_strips_here"]:List Str).Nodup from by decide +kernel) rfl (by first | exact Or.inl rfl | exact Or.inr rfl)),Own.Zbg,(Za4 (Own.Zar (K:=K)) (pv 1) (Zau Zdm (pv 0) Zah) (fun _ _=>rfl))⟩)) (Za (pv 3) Zad))))
   (Zac (Pu.pz 12 sc_law.nd (Own.Zav c_law_price (hr.mono (by decide)) pass0 (Za (pv 2) (Za (pv 5) Zad))))
   (Zac (Zbw (Zd6 (Pu.Zb4 (K:=K) (Own.Zav c_law_row (hr.mono (by decide)) pass0 (Za (Zbd (Za (Pu.Zby c_Village_cost G.cl_Village (hr.mono (by decide)) pass0 (pv 4)) (Za (Za4 (Own.Zar (K:=K)) (pv 10) Zah (fun _ _=>rfl)) Zad))) (Za (Zbd (Za (pv 12) (Za (Za4 (Own.Zar (K:=K)) (pv 8) Zah (fun _ _=>rfl)) Zad))) Zad)))))
   (Zaf (Zap Zhs))
   Zaz)
   (Zac (Pu.pz 13 sc_law.nd (Pu.Zby c_Village_moves G.cl_Village (hr.mono (by decide)) pass0 (pv 11)))
   (Zac (Zbw (PW.pt (Zhq (Zd6 (Pu.Zb4 (K:=K) (Own.Zav c_law_moves_are_rows (hr.mono (by decide)) pass0 (Za (pv 13) Zad)))) (Zfd (Zd6 (Pu.Zb4 (K:=K) (Own.Zav c_law_row (hr.mono (by decide)) pass0 (Za (Zbd (Za (Pu.Zby c_Village_cost G.cl_Village (hr.mono (by decide)) pass0 (pv 11)) Zad)) (Za (Zbd (Za (Zau Zdm (pv 12) (Za4 (Own.Zar (K:=K)) (pv 8) Zah (fun _ _=>rfl))) Zad)) Zad))))))))
   (Zaf (Zap Zhs))
   Zaz)
   (Zac (Zbw (Zat (Pu.Zy8 (show _ < cLine from hr.units0) (show _ < cLine from Zff hr)) (Own.Zbs (N':=["_law_move"]) (φ:=[none]) rfl (Own.CompOk.of (by rfl)) (Pu.Za1 (K:=K) (pv 13)) (fun _ _ _ _ _=>⟨(Zan (i:=0) (show (["_law_move"]:List Str).Nodup from by decide +kernel) rfl (by first | exact Or.inl rfl | exact Or.inr rfl)),Own.Zbg,(Zdf (Za (Za4 (Own.Zar (K:=K)) (pv 0) Zah (fun _ _=>rfl)) (Za (Za4 (Own.Zar (K:=K)) (pv 0) Zah (fun _ _=>rfl)) Zad)))⟩)) (Own.Zbs (N':=["_law_move"]) (φ:=[none]) rfl (Own.CompOk.of (by rfl)) (Pu.Za1 (K:=K) (Zf6 (Pu.Zf5 (K:=K)) (pv 6) (Zht (pv 7)) Zh3)) (fun _ _ _ _ _=>⟨(Zan (i:=0) (show (["_law_move"]:List Str).Nodup from by decide +kernel) rfl (by first | exact Or.inl rfl | exact Or.inr rfl)),Own.Zbg,(Zdf (Za (Za4 (Own.Zar (K:=K)) (pv 0) Zah (fun _ _=>rfl)) (Za (Za4 (Own.Zar (K:=K)) (pv 0) Zah (fun _ _=>rfl)) Zad)))⟩)) (nomark _))
   (Zaf (Zap Zhs))
   Zaz)
   (Zaf (Zap (Own.Zav c_law_row (hr.mono (by decide)) pass0 (Za (Pu.Zby c_Village_order G.cl_Village (hr.mono (by decide)) pass0 (pv 11)) (Za (pv 5) Zad))))))))))))))))))))))))),Pu.Zax (n:=1) h
   (Zaj (Zao (Zak (Zaa (Zak (Zaa (Zab 0) (Zaa Zai Zae))) Zae)) (Zag 1))
    (Zaj (Zao (Zak (Zaa (Zab 0) (Zaa (Zab 1) (Zaa (Zcb (Zeg (Zak (Zaa (Zab 0) (Zaa Zai Zae))) Zai) Zai) Zae)))) (Zag 2))
    (Zaj (Zao (Zak (Zaa (Zak (Zaa (Zab 0) (Zaa (Zab 1) Zae))) (Zaa (Zak (Zaa (Zab 2) Zae)) Zae))) (Zag 3))
    (Zaj (Zao (Zak (Zaa (Zab 2) (Zaa (Zab 3) Zae))) (Zag 4))
    (Zaj (Zao (Zbj Zdk (Zab 4) Zae) (Zag 5))
    (Zaj (Zao (Zbj Zfb (Zab 4) Zae) (Zag 6))
    (Zaj (Zb6 (Zhf (Zed (Zb5 (Zk5 (Zaa (Zab 5) (Zaa Zqs Zae))))) (Zed (Zb5 (Zak (Zaa (Zhm (Zaa (Zab 5) Zae)) (Zaa (Zak (Zaa (Zab 2) Zae)) Zae)))))) (Za0 Zhl) Za3)
    (Zaj (Zb6 (Zed (Zb5 (Zak (Zaa (Zab 6) Zae)))) (Za0 Zhl) Za3)
    (Zu8 (Zao (Zcb (Zak (Zaa (Zab 0) Zae)) (Zci (Zcs (Zaa (Zab 6) Zae)) Zai)) (Zag 7))
    (Zaj (Zao (Zak (Zaa (Zgc (Zab 6) Zhu (Zhx (Zab 7))) (Zaa (Zab 2) Zae))) (Zag 8))
    (Zaj (Zb6 (st_b (Zyr (Zab 8))) (Za0 Zhl) Za3)
    (Zaj (Zao (Zbm (Zbu (Zgc (Zab 6) Zhu (Zhx (Zab 7)))) (Zag 0) Zep (Za6 (Zab 0) Zai)) (Zag 9))
    (Zaj (Zao (Zak (Zaa (Zf1 (Zaa (Zab 2) Zae)) (Zaa (Zab 9) Zae))) (Zag 10))
    (Zaj (Zb6 (Zhf (Zed (Zb5 (Zk5 (Zaa (Zab 10) (Zaa Zqs Zae))))) (Zhf (Zay (Ziv (Zcs (Zaa (Zab 10) Zae)) Zai)) (Zed (Zb5 (Zak (Zaa (Za6 (Zab 10) Zai) (Zaa (Za6 (Zab 8) Zai) Zae))))))) (Za0 Zhl) Za3)
    (Zaj (Zao (Zak (Zaa (Zbm (Zbu (Za6 (Zab 8) Zai)) (Zag 0) Zep (Za6 (Zab 1) (Zdn (Zab 0) Zai))) (Zaa (Zab 3) Zae))) (Zag 11))
    (Zaj (Zao (Zak (Zaa (Zab 2) (Zaa (Zab 5) Zae))) (Zag 12))
    (Zaj (Zb6 (Zed (Zb5 (Zak (Zaa (Zbf (Zaa (Zbj Zfv (Zab 4) Zae) (Zaa (Za6 (Zab 10) Zai) Zae))) (Zaa (Zbf (Zaa (Zab 12) (Zaa (Za6 (Zab 8) Zai) Zae))) Zae))))) (Za0 Zhl) Za3)
    (Zaj (Zao (Zbj Zfb (Zab 11) Zae) (Zag 13))
    (Zaj (Zb6 (Zhf (Zed (Zb5 (Zak (Zaa (Zab 13) Zae)))) (Zed (Zb5 (Zak (Zaa (Zbf (Zaa (Zbj Zfv (Zab 11) Zae) Zae)) (Zaa (Zbf (Zaa (Zdn (Zab 12) (Za6 (Zab 8) Zai)) Zae)) Zae)))))) (Za0 Zhl) Za3)
    (Zaj (Zb6 (Zay (Zze (Zbm (Zbu (Zab 13)) (Zag 0) Zep (Zdb (Zaa (Za6 (Zab 0) Zai) (Zaa (Za6 (Zab 0) Zai) Zae)))) (Zbm (Zbu (Zgc (Zab 6) (Zhx (Zab 7)) Zhu)) (Zag 0) Zep (Zdb (Zaa (Za6 (Zab 0) Zai) (Zaa (Za6 (Zab 0) Zai) Zae)))))) (Za0 Zhl) Za3)
    (Za0 (Zak (Zaa (Zbj Zdk (Zab 11) Zae) (Zaa (Zab 5) Zae)))))))))))))))))))))))) (by decide) (fun ds R X h=>?_)⟩
  obtain ⟨ns,rfl,hR⟩:=h
  refine ⟨rfl,?_⟩
  refine ⟨ns,0,rfl,by decide,fun c0=>⟨c0,rfl,fun m hM=>?_⟩⟩
  refine ⟨ns,0,rfl,by decide,fun a0=>⟨⟨by decide,by decide⟩,(by show (0:Int) < 41;decide),ns,m,_,rfl,hM,by omega,by omega,fun ps hF hlen=>?_⟩⟩
  have hz:ps.length<=40:=by omega
  have hh:=Zdd ps
  have nd:(holdM ps).Nodup:=(Za9 ps).imp (fun h=>Ucm h)
  refine ⟨ns,m,rfl,hM,fun ws0 hW0=>⟨ps,rfl,by omega,ws0,holdM ps,rfl,by have:=hW0.1;omega,by omega,fun W hsub hpeel=>?_⟩⟩
  have hks:∀ q∈W,q∈ws0:=fun q hq=>hsub.subset hq
  have lk:=hsub.length_le
  have lk2:=hW0.1
  have hW:Wishes W:=⟨by omega,hW0.2.1.sublist hsub,fun q hq=>hW0.2.2 q (hks q hq)⟩
  have hu:∀ q∈W,q.1≠q.2:=fun q hq=>(hW.2.2 q hq).2
  have hN:¬ ∃ r,Ring (holdM ps) W r:=(Zvx hu).mp hpeel
  refine ⟨ps,W,rfl,hF,hz,hW,fun x b1 b2 b3 bk fs us l1 l2 l3=>?_⟩
  refine ⟨rfl,rfl,bk,fs,us,ps,W,rfl,hF,by omega,by omega,hu,hN,fun o hB=>?_⟩
  have hol:=hB.perm.length_eq
  refine ⟨rfl,rfl,bk,fs,us,ps,W,rfl,hF,hz,by omega,hu,hN,fun o' ms hB' hMv=>?_⟩
  obtain rfl:=Pu.Best.uniq hB' hB
  refine ⟨true,.same _,iteF ⟨o',rfl,by omega,fun ss hp hs=>?_⟩⟩
  have es:=Zo2 hB.perm hp hs
  subst es
  refine ⟨ps,rfl,by omega,holdM ps,rfl,by omega,iteF ?_⟩
  refine ⟨ms,rfl,iteF ?_⟩
  have lms:(ms.length:Int)<=780:=by
   have h1:=hMv.len
   have h2:=Zpr (rkN ps o') (runI 1 ps.length)
   rw [Zc0] at h2
   have h3:=Zun ps.length (by omega)
   omega
  have lmm:(ms.map mvD).length=ms.length:=Uab ..
  refine Zua (fun γ'=>∃ k:Nat,k<=ms.length/\γ'=[some (.bor (.scr ns)),some (.own (m.map D.int)),some (.own (ps.map prD)),some (.own (W.map prD)),some (.own (vO (ExcR.clsOf mg "Village") x b1 b2 b3 bk (fs++[ps]) (us++[W]))),some (.own (o'.map D.int)),some (.own (ms.map mvD)),some (.sh (.int (k:Nat))),none,none,none,none,none,none]) ?_ ?_
  ·refine ⟨ns,rfl,fun sp=>⟨(by show 0 < (((ms.map mvD).length:Nat):Int) + 1;omega),?_⟩⟩
   have q1:=Uct sp (show (((ms.map mvD).length:Nat):Int) + 1≠0 by omega)
   have q2:=Uch sp (show 0 < (((ms.map mvD).length:Nat):Int) + 1 by omega)
   refine ⟨(sp % ((((ms.map mvD).length:Nat):Int) + 1)).toNat,by omega,?_⟩
   rw [Int.toNat_of_nonneg q1]
   rfl
  rintro γ' ⟨k,hk,rfl⟩
  have ec:cutD (ms.map mvD) none (some (k:Nat))=(ms.take k).map mvD:=by
   rw [Zg6,Zum _ (by omega),Ua2]
  have ec2:cutD (ms.map mvD) (some (k:Nat)) none=(ms.drop k).map mvD:=by
   rw [Zg6,Zke _ (by omega),Ua2]
  have ltk:(ms.take k).length=k:=by rw [Ua4];omega
  refine ⟨rfl,?_⟩
  rw [ec]
  refine ⟨ps,rkN ps o',ms,k,rfl,hF,hz,hMv,hk,fun st c hw hpm hMk hinv=>?_⟩
  refine ⟨rfl,?_⟩
  show CompW _ _ _ _ _ (cutD (ms.map mvD) none (some (k:Nat))).length _ _
  rw [ec]
  refine Zbq (xs:=ms.take k) (emb:=mvD) (fun q=>some (.int q.1)) (by omega) (fun q hq=>⟨_,rfl,_,rfl,rfl⟩) ?_
  rw [mapD (fun q:Mo=>D.int q.1)]
  have ep:(ms.take k).map (fun q:Mo=>D.int q.1)=((ms.take k).map (·.1)).map D.int:=by rw [Ua8];rfl
  rw [ep]
  have lst:st.length=ps.length:=by rw [hpm.length_eq,Zc0]
  refine ⟨rfl,ps,_,rfl,hF,by omega,by rw [Uab];omega,?_⟩
  rw [hw]
  refine ⟨true,.same _,iteF ⟨_,rfl,_,rfl,st,rfl,by omega,iteF ?_⟩⟩
  obtain ⟨f1,f2,f3,f4,f5⟩:=Ztd hF hB hpm hw hinv
  have hN':¬ ∃ r,Ring (holdM (fldN ps st)) W r:=by rw [f2];exact hN
  refine ⟨_,rfl,?_⟩
  refine Zbq (xs:=st) (emb:=D.int) (fun z=>some (prD (ps.getD (z - 1).toNat (0,0)))) (by omega) (fun z hz'=>?_) ?_
  ·have hb:=runI_mem.mp (hpm.mem_iff.mp hz')
   have hi:(z - 1).toNat < ps.length:=by omega
   have e:ps.getD (z - 1).toNat (0,0)=ps[(z - 1).toNat]:=by rw [Uac,Uaa hi];rfl
   exact ⟨_,Zgn (f:=prD) (xs:=ps) (by omega) (by omega),_,rfl,by rw [e]⟩
  rw [mapD (fun z:Int=>prD (ps.getD (z - 1).toNat (0,0)))]
  have ef:st.map (fun z:Int=>prD (ps.getD (z - 1).toNat (0,0)))=(fldN ps st).map prD:=by unfold fldN;rw [Ua8];rfl
  rw [ef]
  refine ⟨fldN ps st,W,rfl,f1,by omega,hW,fun y d1 d2 d3 bk' fs' us' k1 k2 k3=>?_⟩
  have epri:=Zqw hF hB.perm
  refine ⟨ps,o',rfl,hF,by omega,Zu hF hB.perm,?_⟩
  have hL:Least W (pcc ps) (holdM ps) (priM ps o' ps.length):=by rw [← epri];exact ⟨⟨o',hB.perm,hB.keeps,rfl⟩,hB.le⟩
  have epri':=Zqw f1 f4.perm
  have hL':Least W (pcc (fldN ps st)) (holdM (fldN ps st)) (priM ps o' ps.length - c):=by rw [← f5,← epri'];exact ⟨⟨o',f4.perm,f4.keeps,rfl⟩,f4.le⟩
  generalize priM ps o' ps.length=v at hL hL'
  refine ⟨rfl,rfl,bk,fs,us,ps,W,rfl,hF,by omega,by omega,hu,hN,fun v1 h1=>?_⟩
  obtain rfl:=h1.uniq hL
  refine ⟨_,rfl,by simp,_,rfl,by simp,[v1,c],rfl,by simp,iteF ?_⟩
  refine ⟨rfl,rfl,bk',fs',us',fldN ps st,W,rfl,f1,by omega,by omega,hu,hN',fun o2 ms2 hB2 hM2=>?_⟩
  obtain rfl:=Pu.Best.uniq hB2 f4
  refine ⟨ms2,rfl,iteF ?_⟩
  refine ⟨rfl,rfl,bk',fs',us',fldN ps st,W,rfl,f1,by omega,by omega,hu,hN',fun v2 h2=>?_⟩
  obtain rfl:=h2.uniq hL'
  refine ⟨by simp,_,rfl,by simp,[v1 - c],rfl,by simp,iteF ?_⟩
  have ek:keyL (fldN ps st) (rkN (fldN ps st) o2) (runI 1 (fldN ps st).length)=keyL ps (rkN ps o2) st:=(Zrt (fldN ps st) o2).trans (Zrc ps o2 st)
  have eq:=hM2.like hMk ek
  have l2':(ms2.length:Int)<=780:=by
   have h1:=hM2.len
   have h2:=Zpr (rkN (fldN ps st) o2) (runI 1 (fldN ps st).length)
   rw [Zc0] at h2
   have h3:=Zun (fldN ps st).length (by omega)
   omega
  refine Zbq (xs:=ms2) (emb:=mvD) (fun q=>some (prD (q.1,q.2.2.2))) (by omega) (fun q hq=>⟨_,rfl,_,rfl,by simp,_,rfl,rfl⟩) ?_
  rw [mapD (fun q:Mo=>prD (q.1,q.2.2.2))]
  refine ⟨rfl,?_⟩
  show CompW _ _ _ _ _ (cutD (ms.map mvD) (some (k:Nat)) none).length _ _
  rw [ec2]
  refine Zbq (xs:=ms.drop k) (emb:=mvD) (fun q=>some (prD (q.1,q.2.2.2))) (by rw [Ucn];omega) (fun q hq=>⟨_,rfl,_,rfl,by simp,_,rfl,rfl⟩) ?_
  rw [mapD (fun q:Mo=>prD (q.1,q.2.2.2))]
  have em1:ms2.map (fun q:Mo=>prD (q.1,q.2.2.2))=(ms2.map fun q=>(q.1,q.2.2.2)).map prD:=by rw [Ua8];rfl
  have em2:(ms.drop k).map (fun q:Mo=>prD (q.1,q.2.2.2))=(ms2.map fun q=>(q.1,q.2.2.2)).map prD:=by rw [eq,Ua8];rfl
  rw [em1,em2]
  refine ⟨_,rfl,rfl,by rw [Uab];omega,?_⟩
  refine ⟨rfl,rfl,bk',fs',us',fldN ps st,W,rfl,f1,by omega,by omega,hu,hN',fun o3 hB3=>?_⟩
  obtain rfl:=Pu.Best.uniq hB3 f4
  exact ⟨o3,rfl,by omega,hR⟩
end
end T
namespace T
open PySem PySem.Spec PyProof.Rows L2 Own M
theorem Zzc {l:PySem.W.OpenLaw} {w:World} {K:PySem.W.Frag} {h:Heap} {mg:Str->Option Value} {fa:Addr} (X:K.In h) (G0:h.Ns mainGlobals mg) (hfa:mg "law" = some (.ref fa))
  {C_Village:Addr} (a_Village:PySem.W.nsIn K mainGlobals "Village" = some (some (.ref C_Village)))
  (pg_Village:PySem.W.plainGet K C_Village Str.empty=true) (hd_Village:PySem.W.hasDictIn K C_Village=true) (po_Village:PySem.W.plainOver K C_Village=true) (sa_Village:PySem.W.findIn K (.ref C_Village) "__setattr__" = some (some (.builtin "object.__setattr__"))) (mk_Village:PySem.W.makesIn K C_Village=true) (kc_Village:PySem.W.keepIn K (.ref C_Village)=true)
  (nA_Village_book:PySem.W.findIn K (.ref C_Village) "book" = some none)
  (nA_Village_fields:PySem.W.findIn K (.ref C_Village) "fields" = some none)
  (nA_Village_wished:PySem.W.findIn K (.ref C_Village) "wished" = some none)
  (a0:Pu.DI K "check_holder" Zc9)
  (a1:Pu.DI K "check_width" Zdu)
  (a2:Pu.DI K "check_strips" Zc6)
  (a3:Pu.DI K "holders_of" Zec)
  (a4:Pu.DI K "check_order" Zdp)
  (a5:Pu.DI K "pair_cost" Ze3)
  (a6:Pu.DI K "own_numbers" Zdx)
  (a7:Pu.DI K "exchange_cost" Zcm)
  (a8:Pu.DI K "exchanged" Zex)
  (a9:Pu.DI K "first_wrong_place" Zbr)
  (a10:Pu.DI K "told_moves" Zd3)
  (a11:Pu.DI K "check_neighbours" Zbv)
  (a12:Pu.DI K "walk_places" Zdr)
  (a13:Pu.DI K "longer_paths" Zcw)
  (a14:Pu.DI K "ring_from" Ze7)
  (a15:Pu.DI K "find_ring" Zez)
  (a16:Pu.DI K "check_no_ring" Zco)
  (a17:Pu.DI K "with_wish" Ze6)
  (a18:Pu.DI K "pair_costs" Zd8)
  (a19:Pu.DI K "sets_of" Zhp)
  (a20:Pu.DI K "without" Zhr)
  (a21:Pu.DI K "may_lie_last" Zcy)
  (a22:Pu.DI K "may_lie_first" Zcn)
  (a23:Pu.DI K "cost_with_last" Zcc)
  (a24:Pu.DI K "cost_with_first" Zb2)
  (a25:Pu.DI K "least_costs" Zdw)
  (a26:Pu.DI K "cost_table" Zd9)
  (a27:Pu.DI K "best_order" Zee)
  (a28:Pu.DI K "least_cost" Ze)
  (a29:Pu.MI K C_Village "__init__" "Village.__init__" Zc1)
  (a30:Pu.MI K C_Village "strips" "Village.strips" Zcg)
  (a31:Pu.MI K C_Village "wishes" "Village.wishes" Zce)
  (a32:Pu.MI K C_Village "deeds" "Village.deeds" Zcj)
  (a33:Pu.MI K C_Village "check_room" "Village.check_room" Zbh)
  (a34:Pu.MI K C_Village "enter" "Village.enter" Zcr)
  (a35:Pu.MI K C_Village "wish" "Village.wish" Zc5)
  (a36:Pu.MI K C_Village "ring" "Village.ring" Zc3)
  (a37:Pu.MI K C_Village "order" "Village.order" Zcl)
  (a38:Pu.MI K C_Village "cost" "Village.cost" Zc8)
  (a39:Pu.MI K C_Village "moves" "Village.moves" Zcp)
  (a40:Pu.DI K "_law_at" Zjn)
  (a41:Pu.DI K "_law_whole" Zf)
  (a42:Pu.DI K "_law_mix" Zgy)
  (a43:Pu.DI K "_law_draw" Zf3)
  (a44:Pu.DI K "_law_spare" Ze2)
  (a45:Pu.DI K "_law_menu" Zg)
  (a46:Pu.DI K "_law_holder" Zd7)
  (a47:Pu.DI K "_law_strips" Zef)
  (a48:Pu.DI K "_law_wishes" Zd5)
  (a49:Pu.DI K "_law_row" Zg8)
  (a50:Pu.DI K "_law_present" Zdy)
  (a51:Pu.DI K "_law_price" Ze9)
  (a52:Pu.DI K "_law_no_ring" Zdo)
  (a53:Pu.DI K "_law_keepable" Zd)
  (a54:Pu.DI K "_law_made" Zgd)
  (a55:Pu.DI K "_law_moves_are_rows" Zbi)
  (a56:Pu.DI K "_law_carried" Zds)
  {f57:Addr} {od57 an57:Option Addr} {sl57:Array (Option Value)} {oc57 kV57 dc57 pm57 cd57 ct57:Value}
  (a57:PySem.W.nsIn K mainGlobals "law" = some (some (.ref f57)))
  (l57:K.lookup f57=some ⟨oc57,od57,.func (PySem.W.fnOf "law" "law" (defArgs Zlp) (defBody Zlp) (defScope Zlp) .none kV57 dc57 pm57 an57 cd57 ct57),sl57⟩)
  (c57:PySem.W.codeIn K cd57 "law" = true) (k57:PySem.W.keepIn K (.ref f57)=true)
  (z_any:PySem.W.nsIn K mainGlobals "any" = some none)
  (z_bool:PySem.W.nsIn K mainGlobals "bool" = some none)
  (z_int:PySem.W.nsIn K mainGlobals "int" = some none)
  (z_isinstance:PySem.W.nsIn K mainGlobals "isinstance" = some none)
  (z_len:PySem.W.nsIn K mainGlobals "len" = some none)
  (z_list:PySem.W.nsIn K mainGlobals "list" = some none)
  (z_max:PySem.W.nsIn K mainGlobals "max" = some none)
  (z_min:PySem.W.nsIn K mainGlobals "min" = some none)
  (z_range:PySem.W.nsIn K mainGlobals "range" = some none)
  (z_set:PySem.W.nsIn K mainGlobals "set" = some none)
  (z_sorted:PySem.W.nsIn K mainGlobals "sorted" = some none)
  (z_sum:PySem.W.nsIn K mainGlobals "sum" = some none)
  (z_tuple:PySem.W.nsIn K mainGlobals "tuple" = some none)
  {t_HOLDERS:Tok} (z_HOLDERS:PySem.W.nsIn K mainGlobals "HOLDERS" = some (some (.int 10 t_HOLDERS)))
  {t_STRIPS:Tok} (z_STRIPS:PySem.W.nsIn K mainGlobals "STRIPS" = some (some (.int 40 t_STRIPS)))
  {t_WIDEST:Tok} (z_WIDEST:PySem.W.nsIn K mainGlobals "WIDEST" = some (some (.int 1000 t_WIDEST)))
  {t_MOST_WISHES:Tok} (z_MOST_WISHES:PySem.W.nsIn K mainGlobals "MOST_WISHES" = some (some (.int 20 t_MOST_WISHES)))
  {t_MOST_DEEDS:Tok} (z_MOST_DEEDS:PySem.W.nsIn K mainGlobals "MOST_DEEDS" = some (some (.int 100 t_MOST_DEEDS)))
  {C_TooManyStrips:Addr} {d_TooManyStrips:ClassData} (a_TooManyStrips:PySem.W.nsIn K mainGlobals "TooManyStrips" = some (some (.ref C_TooManyStrips))) (q_TooManyStrips:PySem.W.excIn K C_TooManyStrips [.type "ValueError",.type "Exception",.type "BaseException",.type "object"] "ValueError.__new__" = true)
  (ga_TooManyStrips:PySem.W.findIn K (.ref C_TooManyStrips) "__getattribute__" = some (some (.builtin "BaseException.__getattribute__"))) (gt_TooManyStrips:PySem.W.findIn K (.ref C_TooManyStrips) "__getattr__" = some none)
  (cl_TooManyStrips:PySem.W.findIn K (.ref C_TooManyStrips) "__class__" = some (some (.builtin "object.__class__"))) (i_TooManyStrips:PySem.W.clsIn K C_TooManyStrips=some d_TooManyStrips)
  {C_BadHolder:Addr} {d_BadHolder:ClassData} (a_BadHolder:PySem.W.nsIn K mainGlobals "BadHolder" = some (some (.ref C_BadHolder))) (q_BadHolder:PySem.W.excIn K C_BadHolder [.type "ValueError",.type "Exception",.type "BaseException",.type "object"] "ValueError.__new__" = true)
  (ga_BadHolder:PySem.W.findIn K (.ref C_BadHolder) "__getattribute__" = some (some (.builtin "BaseException.__getattribute__"))) (gt_BadHolder:PySem.W.findIn K (.ref C_BadHolder) "__getattr__" = some none)
  (cl_BadHolder:PySem.W.findIn K (.ref C_BadHolder) "__class__" = some (some (.builtin "object.__class__"))) (i_BadHolder:PySem.W.clsIn K C_BadHolder=some d_BadHolder)
  {C_BadWidth:Addr} {d_BadWidth:ClassData} (a_BadWidth:PySem.W.nsIn K mainGlobals "BadWidth" = some (some (.ref C_BadWidth))) (q_BadWidth:PySem.W.excIn K C_BadWidth [.type "ValueError",.type "Exception",.type "BaseException",.type "object"] "ValueError.__new__" = true)
  (ga_BadWidth:PySem.W.findIn K (.ref C_BadWidth) "__getattribute__" = some (some (.builtin "BaseException.__getattribute__"))) (gt_BadWidth:PySem.W.findIn K (.ref C_BadWidth) "__getattr__" = some none)
  (cl_BadWidth:PySem.W.findIn K (.ref C_BadWidth) "__class__" = some (some (.builtin "object.__class__"))) (i_BadWidth:PySem.W.clsIn K C_BadWidth=some d_BadWidth)
  {C_NoStrip:Addr} {d_NoStrip:ClassData} (a_NoStrip:PySem.W.nsIn K mainGlobals "NoStrip" = some (some (.ref C_NoStrip))) (q_NoStrip:PySem.W.excIn K C_NoStrip [.type "ValueError",.type "Exception",.type "BaseException",.type "object"] "ValueError.__new__" = true)
  (ga_NoStrip:PySem.W.findIn K (.ref C_NoStrip) "__getattribute__" = some (some (.builtin "BaseException.__getattribute__"))) (gt_NoStrip:PySem.W.findIn K (.ref C_NoStrip) "__getattr__" = some none)
  (cl_NoStrip:PySem.W.findIn K (.ref C_NoStrip) "__class__" = some (some (.builtin "object.__class__"))) (i_NoStrip:PySem.W.clsIn K C_NoStrip=some d_NoStrip)
  {C_BadOrder:Addr} {d_BadOrder:ClassData} (a_BadOrder:PySem.W.nsIn K mainGlobals "BadOrder" = some (some (.ref C_BadOrder))) (q_BadOrder:PySem.W.excIn K C_BadOrder [.type "ValueError",.type "Exception",.type "BaseException",.type "object"] "ValueError.__new__" = true)
  (ga_BadOrder:PySem.W.findIn K (.ref C_BadOrder) "__getattribute__" = some (some (.builtin "BaseException.__getattribute__"))) (gt_BadOrder:PySem.W.findIn K (.ref C_BadOrder) "__getattr__" = some none)
  (cl_BadOrder:PySem.W.findIn K (.ref C_BadOrder) "__class__" = some (some (.builtin "object.__class__"))) (i_BadOrder:PySem.W.clsIn K C_BadOrder=some d_BadOrder)
  {C_LikeHolders:Addr} {d_LikeHolders:ClassData} (a_LikeHolders:PySem.W.nsIn K mainGlobals "LikeHolders" = some (some (.ref C_LikeHolders))) (q_LikeHolders:PySem.W.excIn K C_LikeHolders [.type "ValueError",.type "Exception",.type "BaseException",.type "object"] "ValueError.__new__" = true)
  (ga_LikeHolders:PySem.W.findIn K (.ref C_LikeHolders) "__getattribute__" = some (some (.builtin "BaseException.__getattribute__"))) (gt_LikeHolders:PySem.W.findIn K (.ref C_LikeHolders) "__getattr__" = some none)
  (cl_LikeHolders:PySem.W.findIn K (.ref C_LikeHolders) "__class__" = some (some (.builtin "object.__class__"))) (i_LikeHolders:PySem.W.clsIn K C_LikeHolders=some d_LikeHolders)
  {C_WishStands:Addr} {d_WishStands:ClassData} (a_WishStands:PySem.W.nsIn K mainGlobals "WishStands" = some (some (.ref C_WishStands))) (q_WishStands:PySem.W.excIn K C_WishStands [.type "ValueError",.type "Exception",.type "BaseException",.type "object"] "ValueError.__new__" = true)
  (ga_WishStands:PySem.W.findIn K (.ref C_WishStands) "__getattribute__" = some (some (.builtin "BaseException.__getattribute__"))) (gt_WishStands:PySem.W.findIn K (.ref C_WishStands) "__getattr__" = some none)
  (cl_WishStands:PySem.W.findIn K (.ref C_WishStands) "__class__" = some (some (.builtin "object.__class__"))) (i_WishStands:PySem.W.clsIn K C_WishStands=some d_WishStands)
  {C_TooManyWishes:Addr} {d_TooManyWishes:ClassData} (a_TooManyWishes:PySem.W.nsIn K mainGlobals "TooManyWishes" = some (some (.ref C_TooManyWishes))) (q_TooManyWishes:PySem.W.excIn K C_TooManyWishes [.type "ValueError",.type "Exception",.type "BaseException",.type "object"] "ValueError.__new__" = true)
  (ga_TooManyWishes:PySem.W.findIn K (.ref C_TooManyWishes) "__getattribute__" = some (some (.builtin "BaseException.__getattribute__"))) (gt_TooManyWishes:PySem.W.findIn K (.ref C_TooManyWishes) "__getattr__" = some none)
  (cl_TooManyWishes:PySem.W.findIn K (.ref C_TooManyWishes) "__class__" = some (some (.builtin "object.__class__"))) (i_TooManyWishes:PySem.W.clsIn K C_TooManyWishes=some d_TooManyWishes)
  {C_BookFull:Addr} {d_BookFull:ClassData} (a_BookFull:PySem.W.nsIn K mainGlobals "BookFull" = some (some (.ref C_BookFull))) (q_BookFull:PySem.W.excIn K C_BookFull [.type "ValueError",.type "Exception",.type "BaseException",.type "object"] "ValueError.__new__" = true)
  (ga_BookFull:PySem.W.findIn K (.ref C_BookFull) "__getattribute__" = some (some (.builtin "BaseException.__getattribute__"))) (gt_BookFull:PySem.W.findIn K (.ref C_BookFull) "__getattr__" = some none)
  (cl_BookFull:PySem.W.findIn K (.ref C_BookFull) "__class__" = some (some (.builtin "object.__class__"))) (i_BookFull:PySem.W.clsIn K C_BookFull=some d_BookFull)
  : ∃ fd:FuncData,(∀ (s:Shared) (v:Value),BindsTo s fd ⟨[v],[]⟩ [("_law_script",v)])/\∀ base:Heap,K.In base->base.Ns mainGlobals mg->FnOk l.prog w K mg base CX0 8 fa fd ["_law_script"] (Pu.lawSp K):=by
 have e:=hfa.symm.trans (PySem.W.mg_of X G0 a57)
 cases e
 have e_TooManyStrips:=ExcR.Zcz (PySem.W.mg_of X G0 a_TooManyStrips)
 have e_BadHolder:=ExcR.Zcz (PySem.W.mg_of X G0 a_BadHolder)
 have e_BadWidth:=ExcR.Zcz (PySem.W.mg_of X G0 a_BadWidth)
 have e_NoStrip:=ExcR.Zcz (PySem.W.mg_of X G0 a_NoStrip)
 have e_BadOrder:=ExcR.Zcz (PySem.W.mg_of X G0 a_BadOrder)
 have e_LikeHolders:=ExcR.Zcz (PySem.W.mg_of X G0 a_LikeHolders)
 have e_WishStands:=ExcR.Zcz (PySem.W.mg_of X G0 a_WishStands)
 have e_TooManyWishes:=ExcR.Zcz (PySem.W.mg_of X G0 a_TooManyWishes)
 have e_BookFull:=ExcR.Zcz (PySem.W.mg_of X G0 a_BookFull)
 have e_Village:=ExcR.Zcz (PySem.W.mg_of X G0 a_Village)
 have G:Glob K mg:=⟨PySem.W.mg_none_of X G0 z_any,PySem.W.mg_none_of X G0 z_bool,PySem.W.mg_none_of X G0 z_int,PySem.W.mg_none_of X G0 z_isinstance,PySem.W.mg_none_of X G0 z_len,PySem.W.mg_none_of X G0 z_list,PySem.W.mg_none_of X G0 z_max,PySem.W.mg_none_of X G0 z_min,PySem.W.mg_none_of X G0 z_range,PySem.W.mg_none_of X G0 z_set,PySem.W.mg_none_of X G0 z_sorted,PySem.W.mg_none_of X G0 z_sum,PySem.W.mg_none_of X G0 z_tuple,⟨_,PySem.W.mg_of X G0 z_HOLDERS,⟨_,rfl⟩⟩,⟨_,PySem.W.mg_of X G0 z_STRIPS,⟨_,rfl⟩⟩,⟨_,PySem.W.mg_of X G0 z_WIDEST,⟨_,rfl⟩⟩,⟨_,PySem.W.mg_of X G0 z_MOST_WISHES,⟨_,rfl⟩⟩,⟨_,PySem.W.mg_of X G0 z_MOST_DEEDS,⟨_,rfl⟩⟩,(by rw [e_TooManyStrips];exact PySem.W.mg_of X G0 a_TooManyStrips),(by rw [e_TooManyStrips];exact ⟨⟨q_TooManyStrips⟩,ga_TooManyStrips,gt_TooManyStrips,cl_TooManyStrips,by rw [i_TooManyStrips];rfl⟩),(by rw [e_BadHolder];exact PySem.W.mg_of X G0 a_BadHolder),(by rw [e_BadHolder];exact ⟨⟨q_BadHolder⟩,ga_BadHolder,gt_BadHolder,cl_BadHolder,by rw [i_BadHolder];rfl⟩),(by rw [e_BadWidth];exact PySem.W.mg_of X G0 a_BadWidth),(by rw [e_BadWidth];exact ⟨⟨q_BadWidth⟩,ga_BadWidth,gt_BadWidth,cl_BadWidth,by rw [i_BadWidth];rfl⟩),(by rw [e_NoStrip];exact PySem.W.mg_of X G0 a_NoStrip),(by rw [e_NoStrip];exact ⟨⟨q_NoStrip⟩,ga_NoStrip,gt_NoStrip,cl_NoStrip,by rw [i_NoStrip];rfl⟩),(by rw [e_BadOrder];exact PySem.W.mg_of X G0 a_BadOrder),(by rw [e_BadOrder];exact ⟨⟨q_BadOrder⟩,ga_BadOrder,gt_BadOrder,cl_BadOrder,by rw [i_BadOrder];rfl⟩),(by rw [e_LikeHolders];exact PySem.W.mg_of X G0 a_LikeHolders),(by rw [e_LikeHolders];exact ⟨⟨q_LikeHolders⟩,ga_LikeHolders,gt_LikeHolders,cl_LikeHolders,by rw [i_LikeHolders];rfl⟩),(by rw [e_WishStands];exact PySem.W.mg_of X G0 a_WishStands),(by rw [e_WishStands];exact ⟨⟨q_WishStands⟩,ga_WishStands,gt_WishStands,cl_WishStands,by rw [i_WishStands];rfl⟩),(by rw [e_TooManyWishes];exact PySem.W.mg_of X G0 a_TooManyWishes),(by rw [e_TooManyWishes];exact ⟨⟨q_TooManyWishes⟩,ga_TooManyWishes,gt_TooManyWishes,cl_TooManyWishes,by rw [i_TooManyWishes];rfl⟩),(by rw [e_BookFull];exact PySem.W.mg_of X G0 a_BookFull),(by rw [e_BookFull];exact ⟨⟨q_BookFull⟩,ga_BookFull,gt_BookFull,cl_BookFull,by rw [i_BookFull];rfl⟩),(by rw [e_Village];exact PySem.W.mg_of X G0 a_Village),(by rw [e_Village];exact ⟨pg_Village,hd_Village,po_Village,sa_Village⟩),(by rw [e_Village];exact nA_Village_book),(by rw [e_Village];exact nA_Village_fields),(by rw [e_Village];exact nA_Village_wished)⟩
 have D0:Def K mg "check_holder" Zc9 ["holder"]:=a0.d X G0 fun _ _ _ _ _ _ us hl=>by obtain ⟨_,rfl⟩:=Pu.len1 hl;rfl
 have D1:Def K mg "check_width" Zdu ["width"]:=a1.d X G0 fun _ _ _ _ _ _ us hl=>by obtain ⟨_,rfl⟩:=Pu.len1 hl;rfl
 have D2:Def K mg "check_strips" Zc6 ["strips"]:=a2.d X G0 fun _ _ _ _ _ _ us hl=>by obtain ⟨_,rfl⟩:=Pu.len1 hl;rfl
 have D3:Def K mg "holders_of" Zec ["strips"]:=a3.d X G0 fun _ _ _ _ _ _ us hl=>by obtain ⟨_,rfl⟩:=Pu.len1 hl;rfl
 have D4:Def K mg "check_order" Zdp ["strips", "order"]:=a4.d X G0 fun _ _ _ _ _ _ us hl=>by obtain ⟨_,_,rfl⟩:=Pu.len2 hl;rfl
 have D5:Def K mg "pair_cost" Ze3 ["strips", "ahead", "behind"]:=a5.d X G0 fun _ _ _ _ _ _ us hl=>by obtain ⟨_,_,_,rfl⟩:=Pu.len3 hl;rfl
 have D6:Def K mg "own_numbers" Zdx ["strips"]:=a6.d X G0 fun _ _ _ _ _ _ us hl=>by obtain ⟨_,rfl⟩:=Pu.len1 hl;rfl
 have D7:Def K mg "exchange_cost" Zcm ["strips", "numbers", "place"]:=a7.d X G0 fun _ _ _ _ _ _ us hl=>by obtain ⟨_,_,_,rfl⟩:=Pu.len3 hl;rfl
 have D8:Def K mg "exchanged" Zex ["numbers", "place"]:=a8.d X G0 fun _ _ _ _ _ _ us hl=>by obtain ⟨_,_,rfl⟩:=Pu.len2 hl;rfl
 have D9:Def K mg "first_wrong_place" Zbr ["numbers", "ranks"]:=a9.d X G0 fun _ _ _ _ _ _ us hl=>by obtain ⟨_,_,rfl⟩:=Pu.len2 hl;rfl
 have D10:Def K mg "told_moves" Zd3 ["strips", "order"]:=a10.d X G0 fun _ _ _ _ _ _ us hl=>by obtain ⟨_,_,rfl⟩:=Pu.len2 hl;rfl
 have D11:Def K mg "check_neighbours" Zbv ["strips", "place"]:=a11.d X G0 fun _ _ _ _ _ _ us hl=>by obtain ⟨_,_,rfl⟩:=Pu.len2 hl;rfl
 have D12:Def K mg "walk_places" Zdr ["strips", "places"]:=a12.d X G0 fun _ _ _ _ _ _ us hl=>by obtain ⟨_,_,rfl⟩:=Pu.len2 hl;rfl
 have D13:Def K mg "longer_paths" Zcw ["paths", "left", "wishes"]:=a13.d X G0 fun _ _ _ _ _ _ us hl=>by obtain ⟨_,_,_,rfl⟩:=Pu.len3 hl;rfl
 have D14:Def K mg "ring_from" Ze7 ["least", "holders", "wishes"]:=a14.d X G0 fun _ _ _ _ _ _ us hl=>by obtain ⟨_,_,_,rfl⟩:=Pu.len3 hl;rfl
 have D15:Def K mg "find_ring" Zez ["holders", "wishes"]:=a15.d X G0 fun _ _ _ _ _ _ us hl=>by obtain ⟨_,_,rfl⟩:=Pu.len2 hl;rfl
 have D16:Def K mg "check_no_ring" Zco ["strips", "wishes"]:=a16.d X G0 fun _ _ _ _ _ _ us hl=>by obtain ⟨_,_,rfl⟩:=Pu.len2 hl;rfl
 have D17:Def K mg "with_wish" Ze6 ["wishes", "ahead", "behind"]:=a17.d X G0 fun _ _ _ _ _ _ us hl=>by obtain ⟨_,_,_,rfl⟩:=Pu.len3 hl;rfl
 have D18:Def K mg "pair_costs" Zd8 ["strips"]:=a18.d X G0 fun _ _ _ _ _ _ us hl=>by obtain ⟨_,rfl⟩:=Pu.len1 hl;rfl
 have D19:Def K mg "sets_of" Zhp ["holders"]:=a19.d X G0 fun _ _ _ _ _ _ us hl=>by obtain ⟨_,rfl⟩:=Pu.len1 hl;rfl
 have D20:Def K mg "without" Zhr ["members", "holder"]:=a20.d X G0 fun _ _ _ _ _ _ us hl=>by obtain ⟨_,_,rfl⟩:=Pu.len2 hl;rfl
 have D21:Def K mg "may_lie_last" Zcy ["members", "holder", "wishes"]:=a21.d X G0 fun _ _ _ _ _ _ us hl=>by obtain ⟨_,_,_,rfl⟩:=Pu.len3 hl;rfl
 have D22:Def K mg "may_lie_first" Zcn ["members", "holder", "wishes"]:=a22.d X G0 fun _ _ _ _ _ _ us hl=>by obtain ⟨_,_,_,rfl⟩:=Pu.len3 hl;rfl
 have D23:Def K mg "cost_with_last" Zcc ["members", "last", "least", "pairs"]:=a23.d X G0 fun _ _ _ _ _ _ us hl=>by obtain ⟨_,_,_,_,rfl⟩:=Pu.len4 hl;rfl
 have D24:Def K mg "cost_with_first" Zb2 ["members", "first", "least", "pairs"]:=a24.d X G0 fun _ _ _ _ _ _ us hl=>by obtain ⟨_,_,_,_,rfl⟩:=Pu.len4 hl;rfl
 have D25:Def K mg "least_costs" Zdw ["strips", "wishes", "pairs"]:=a25.d X G0 fun _ _ _ _ _ _ us hl=>by obtain ⟨_,_,_,rfl⟩:=Pu.len3 hl;rfl
 have D26:Def K mg "cost_table" Zd9 ["strips", "wishes"]:=a26.d X G0 fun _ _ _ _ _ _ us hl=>by obtain ⟨_,_,rfl⟩:=Pu.len2 hl;rfl
 have D27:Def K mg "best_order" Zee ["strips", "wishes"]:=a27.d X G0 fun _ _ _ _ _ _ us hl=>by obtain ⟨_,_,rfl⟩:=Pu.len2 hl;rfl
 have D28:Def K mg "least_cost" Ze ["strips", "wishes"]:=a28.d X G0 fun _ _ _ _ _ _ us hl=>by obtain ⟨_,_,rfl⟩:=Pu.len2 hl;rfl
 have D29:Pu.DefM K (Mk K (ExcR.clsOf mg "Village")) "__init__" "Village.__init__" Zc1 ["self", "strips"]:=a29.i e_Village mk_Village kc_Village fun _ _ _ _ _ _ us hl=>by obtain ⟨_,_,rfl⟩:=Pu.len2 hl;rfl
 have D30:Pu.DefM K (Meth K (ExcR.clsOf mg "Village") "strips") "strips" "Village.strips" Zcg ["self"]:=a30.d e_Village fun _ _ _ _ _ _ us hl=>by obtain ⟨_,rfl⟩:=Pu.len1 hl;rfl
 have D31:Pu.DefM K (Meth K (ExcR.clsOf mg "Village") "wishes") "wishes" "Village.wishes" Zce ["self"]:=a31.d e_Village fun _ _ _ _ _ _ us hl=>by obtain ⟨_,rfl⟩:=Pu.len1 hl;rfl
 have D32:Pu.DefM K (Meth K (ExcR.clsOf mg "Village") "deeds") "deeds" "Village.deeds" Zcj ["self"]:=a32.d e_Village fun _ _ _ _ _ _ us hl=>by obtain ⟨_,rfl⟩:=Pu.len1 hl;rfl
 have D33:Pu.DefM K (Meth K (ExcR.clsOf mg "Village") "check_room") "check_room" "Village.check_room" Zbh ["self"]:=a33.d e_Village fun _ _ _ _ _ _ us hl=>by obtain ⟨_,rfl⟩:=Pu.len1 hl;rfl
 have D34:Pu.DefM K (Meth K (ExcR.clsOf mg "Village") "enter") "enter" "Village.enter" Zcr ["self", "deed", "field", "wishes"]:=a34.d e_Village fun _ _ _ _ _ _ us hl=>by obtain ⟨_,_,_,_,rfl⟩:=Pu.len4 hl;rfl
 have D35:Pu.DefM K (Meth K (ExcR.clsOf mg "Village") "wish") "wish" "Village.wish" Zc5 ["self", "ahead", "behind"]:=a35.d e_Village fun _ _ _ _ _ _ us hl=>by obtain ⟨_,_,_,rfl⟩:=Pu.len3 hl;rfl
 have D36:Pu.DefM K (Meth K (ExcR.clsOf mg "Village") "ring") "ring" "Village.ring" Zc3 ["self"]:=a36.d e_Village fun _ _ _ _ _ _ us hl=>by obtain ⟨_,rfl⟩:=Pu.len1 hl;rfl
 have D37:Pu.DefM K (Meth K (ExcR.clsOf mg "Village") "order") "order" "Village.order" Zcl ["self"]:=a37.d e_Village fun _ _ _ _ _ _ us hl=>by obtain ⟨_,rfl⟩:=Pu.len1 hl;rfl
 have D38:Pu.DefM K (Meth K (ExcR.clsOf mg "Village") "cost") "cost" "Village.cost" Zc8 ["self"]:=a38.d e_Village fun _ _ _ _ _ _ us hl=>by obtain ⟨_,rfl⟩:=Pu.len1 hl;rfl
 have D39:Pu.DefM K (Meth K (ExcR.clsOf mg "Village") "moves") "moves" "Village.moves" Zcp ["self"]:=a39.d e_Village fun _ _ _ _ _ _ us hl=>by obtain ⟨_,rfl⟩:=Pu.len1 hl;rfl
 have D40:Def K mg "_law_at" Zjn ["_law_script", "_law_k"]:=a40.d X G0 fun _ _ _ _ _ _ us hl=>by obtain ⟨_,_,rfl⟩:=Pu.len2 hl;rfl
 have D41:Def K mg "_law_whole" Zf ["_law_found"]:=a41.d X G0 fun _ _ _ _ _ _ us hl=>by obtain ⟨_,rfl⟩:=Pu.len1 hl;rfl
 have D42:Def K mg "_law_mix" Zgy ["_law_cell", "_law_place"]:=a42.d X G0 fun _ _ _ _ _ _ us hl=>by obtain ⟨_,_,rfl⟩:=Pu.len2 hl;rfl
 have D43:Def K mg "_law_draw" Zf3 ["_law_script", "_law_k"]:=a43.d X G0 fun _ _ _ _ _ _ us hl=>by obtain ⟨_,_,rfl⟩:=Pu.len2 hl;rfl
 have D44:Def K mg "_law_spare" Ze2 ["_law_script"]:=a44.d X G0 fun _ _ _ _ _ _ us hl=>by obtain ⟨_,rfl⟩:=Pu.len1 hl;rfl
 have D45:Def K mg "_law_menu" Zg ["_law_cell"]:=a45.d X G0 fun _ _ _ _ _ _ us hl=>by obtain ⟨_,rfl⟩:=Pu.len1 hl;rfl
 have D46:Def K mg "_law_holder" Zd7 ["_law_menu_here", "_law_k"]:=a46.d X G0 fun _ _ _ _ _ _ us hl=>by obtain ⟨_,_,rfl⟩:=Pu.len2 hl;rfl
 have D47:Def K mg "_law_strips" Zef ["_law_script", "_law_menu_here", "_law_many"]:=a47.d X G0 fun _ _ _ _ _ _ us hl=>by obtain ⟨_,_,_,rfl⟩:=Pu.len3 hl;rfl
 have D48:Def K mg "_law_wishes" Zd5 ["_law_script", "_law_menu_here"]:=a48.d X G0 fun _ _ _ _ _ _ us hl=>by obtain ⟨_,_,rfl⟩:=Pu.len2 hl;rfl
 have D49:Def K mg "_law_row" Zg8 ["_law_found", "_law_due"]:=a49.d X G0 fun _ _ _ _ _ _ us hl=>by obtain ⟨_,_,rfl⟩:=Pu.len2 hl;rfl
 have D50:Def K mg "_law_present" Zdy ["_law_strips_here"]:=a50.d X G0 fun _ _ _ _ _ _ us hl=>by obtain ⟨_,rfl⟩:=Pu.len1 hl;rfl
 have D51:Def K mg "_law_price" Ze9 ["_law_strips_here", "_law_order"]:=a51.d X G0 fun _ _ _ _ _ _ us hl=>by obtain ⟨_,_,rfl⟩:=Pu.len2 hl;rfl
 have D52:Def K mg "_law_no_ring" Zdo ["_law_holders", "_law_wishes_here"]:=a52.d X G0 fun _ _ _ _ _ _ us hl=>by obtain ⟨_,_,rfl⟩:=Pu.len2 hl;rfl
 have D53:Def K mg "_law_keepable" Zd ["_law_wishes_here", "_law_holders"]:=a53.d X G0 fun _ _ _ _ _ _ us hl=>by obtain ⟨_,_,rfl⟩:=Pu.len2 hl;rfl
 have D54:Def K mg "_law_made" Zgd ["_law_strips_here", "_law_wishes_here"]:=a54.d X G0 fun _ _ _ _ _ _ us hl=>by obtain ⟨_,_,rfl⟩:=Pu.len2 hl;rfl
 have D55:Def K mg "_law_moves_are_rows" Zbi ["_law_told"]:=a55.d X G0 fun _ _ _ _ _ _ us hl=>by obtain ⟨_,rfl⟩:=Pu.len1 hl;rfl
 have D56:Def K mg "_law_carried" Zds ["_law_told", "_law_strips_here"]:=a56.d X G0 fun _ _ _ _ _ _ us hl=>by obtain ⟨_,_,rfl⟩:=Pu.len2 hl;rfl
 have F57:=Zt1 (st:=Zlp) l57 c57 k57
 have b57:=F57.binds (ps:=["_law_script"]) fun _ _ _ _ _ _ us hl=>by obtain ⟨_,rfl⟩:=Pu.len1 hl;rfl
 have D57:Def K mg "law" Zlp ["_law_script"]:=⟨_,_,F57,PySem.W.mg_of X G0 a57,b57⟩
 refine ⟨PySem.W.fnOf "law" "law" (defArgs Zlp) (defBody Zlp) (defScope Zlp) .none kV57 dc57 pm57 an57 cd57 ct57,fun s v=>.of_eq rfl,fun base _ _=>?_⟩
 have C0:=Zkk (P:=l.prog) (w:=w) (base:=base) G D0
 have C1:=Zll (P:=l.prog) (w:=w) (base:=base) G D1
 have C3:=Znd (P:=l.prog) (w:=w) (base:=base) G D3
 have C5:=Znu (P:=l.prog) (w:=w) (base:=base) G D5
 have C6:=Zlq (P:=l.prog) (w:=w) (base:=base) G D6
 have C7:=Zi5 (P:=l.prog) (w:=w) (base:=base) G D7
 have C8:=Zou (P:=l.prog) (w:=w) (base:=base) G D8
 have C9:=Zgf (P:=l.prog) (w:=w) (base:=base) G D9
 have C11:=Zgw (P:=l.prog) (w:=w) (base:=base) G D11
 have C13:=Zj0 (P:=l.prog) (w:=w) (base:=base) G D13
 have C19:=Zsk (P:=l.prog) (w:=w) (base:=base) G D19
 have C20:=Zs8 (P:=l.prog) (w:=w) (base:=base) G D20
 have C21:=Zj7 (P:=l.prog) (w:=w) (base:=base) G D21
 have C22:=Zi2 (P:=l.prog) (w:=w) (base:=base) G D22
 have C30:=Zh5 (P:=l.prog) (w:=w) (base:=base) G D30
 have C31:=Zie (P:=l.prog) (w:=w) (base:=base) G D31
 have C32:=Zi6 (P:=l.prog) (w:=w) (base:=base) G D32
 have C33:=Zfl (P:=l.prog) (w:=w) (base:=base) G D33
 have C34:=Zjb (P:=l.prog) (w:=w) (base:=base) G D34
 have C40:=Ztg (P:=l.prog) (w:=w) (base:=base) G D40
 have C41:=Zo (P:=l.prog) (w:=w) (base:=base) G D41
 have C42:=Zs7 (P:=l.prog) (w:=w) (base:=base) G D42
 have C45:=Zql (P:=l.prog) (w:=w) (base:=base) G D45
 have C46:=Zmq (P:=l.prog) (w:=w) (base:=base) G D46
 have C50:=Zlj (P:=l.prog) (w:=w) (base:=base) G D50
 have C51:=Zpe (P:=l.prog) (w:=w) (base:=base) G D51
 have C52:=Zlu (P:=l.prog) (w:=w) (base:=base) G D52
 have C56:=Zlt (P:=l.prog) (w:=w) (base:=base) G D56
 have C2:=Zj6 (P:=l.prog) (w:=w) (base:=base) G D2 C0 C1
 have C4:=Zlv (P:=l.prog) (w:=w) (base:=base) G D4 (Zb3 C3)
 have C12:=Zlm (P:=l.prog) (w:=w) (base:=base) G D12 C6 C11 C7 C8
 have C14:=Zn7 (P:=l.prog) (w:=w) (base:=base) G D14 C13
 have C17:=Zoy (P:=l.prog) (w:=w) (base:=base) G D17 C0
 have C18:=Zmy (P:=l.prog) (w:=w) (base:=base) G D18 (Zb3 C3) (Zoz C5)
 have C23:=Zia (P:=l.prog) (w:=w) (base:=base) G D23 C20
 have C24:=Zgz (P:=l.prog) (w:=w) (base:=base) G D24 C20
 have C43:=Zp0 (P:=l.prog) (w:=w) (base:=base) G D43 C42 C40
 have C44:=Zpb (P:=l.prog) (w:=w) (base:=base) G D44 C42 C40
 have C49:=Zso (P:=l.prog) (w:=w) (base:=base) G D49 C41
 have C53:=Zkf (P:=l.prog) (w:=w) (base:=base) G D53 (Zlh C52)
 have C10:=Zm2 (P:=l.prog) (w:=w) (base:=base) G D10 C4 C6 C9 C8 C7
 have C15:=Zpc (P:=l.prog) (w:=w) (base:=base) G D15 C14
 have C25:=Zla (P:=l.prog) (w:=w) (base:=base) G D25 C19 (Zb3 C3) C21 C23
 have C29:=Zk8 (P:=l.prog) (w:=w) (base:=base) G D29 C2
 have C35:=Zjr (P:=l.prog) (w:=w) (base:=base) G D35 C33 C17 C34 C31 C30
 have C47:=Znj (P:=l.prog) (w:=w) (base:=base) G D47 C43 C46
 have C48:=Zmz (P:=l.prog) (w:=w) (base:=base) G D48 C43 C46
 have C55:=Zfk (P:=l.prog) (w:=w) (base:=base) G D55 C49
 have C16:=Zjk (P:=l.prog) (w:=w) (base:=base) G D16 C15 (Zb3 C3)
 have C36:=Zjv (P:=l.prog) (w:=w) (base:=base) G D36 C15 (Zb3 C3) C31 C30
 have C26:=Zmr (P:=l.prog) (w:=w) (base:=base) G D26 C16 C25 C18
 have C27:=Zmu (P:=l.prog) (w:=w) (base:=base) G D27 C16 C18 C25 (Zb3 C3) C20 C22 C24
 have C54:=Zpt (P:=l.prog) (w:=w) (base:=base) G D54 C29 C35
 have C28:=Zmt (P:=l.prog) (w:=w) (base:=base) G D28 C26
 have C37:=Zj (P:=l.prog) (w:=w) (base:=base) G D37 C27 C30 C31
 have C38:=Zkx (P:=l.prog) (w:=w) (base:=base) G D38 C28 C30 C31
 have C39:=Zja (P:=l.prog) (w:=w) (base:=base) G D39 C10 C30 C37
 have C57:=Zyz (P:=l.prog) (w:=w) (base:=base) G D57 C45 C47 C53 C54 C37 C39 C56 C12 (Zp C51) C49 C43 C48 (Zls C50) C55 C44 C40 C38
 exact (C57.at (PySem.W.mg_of X G0 a57) F57 D57).imp fun _ _ _ _ z=>Pu.Zy9 z
end T
namespace PySem.W.Fast
def tw17511141976990912412:=0
def tw10716273704212303872:=0
def tw11187389292775347200:=0
def tw11285700178548829216:=0
def tw1192062142884923520:=0
def tw5048138935011581088:=0
def tw9893670579179529440:=0
def tw7063530761395321088:=0
def tw11455395650549045504:=0
def tw10834459489718349184:=0
def tw4995194056236388736:=0
def tw6113433028469128576:=0
def tw15662998867138790848:=0
def tw11410337472236224992:=0
def tw8778244228451245600:=0
def tw4600774148658283072:=0
def tw6989411237986400832:=0
def tw9462549998897054368:=0
def tw10160328228506349280:=0
def tw15021875314229132000:=0
def tw862330634292438784:=0
def tw15955197088624858880:=0
def tw12357036913578433280:=0
def tw1350076335060676352:=0
def tw14436828072507619104:=0
def tw15803560535468856096:=0
def tw17527063709509695296:=0
def tw3895197290445364128:=0
def tw6953533927111543744:=0
def tw2245962510774067136:=0
def tw17456998474441842785:=0
def tw8743654353979433089:=0
def tw8294515771620836513:=0
def tw5840703024800506177:=0
def tw13149392872185768257:=0
def tw16594734358397852001:=0
def tw4931576021614638465:=0
def tw9374452227996928417:=0
def tw5848824932977354305:=0
def tw9342566132927251009:=0
def tw569896808772928097:=0
def tw15075292227136865889:=0
def tw10427442814438039169:=0
def tw1026945981320634017:=0
def tw3773074245699803841:=0
def tw8668364175276515169:=0
def tw3712101714150842273:=0
def tw3475957729408804833:=0
def tw6013888941975038018:=0
def tw16739589677689146466:=0
def tw18401366718570677378:=0
def tw11143648251708613858:=0
def tw14050041073237249250:=0
def tw1681913936563141858:=0
def tw15835737249559774498:=0
def tw10556870985771194658:=0
def tw7995103180648279426:=0
def tw17884702273492380066:=0
def tw11745395293500009922:=0
def tw10241355290500635138:=0
def tw5244124660809753090:=0
def tw18154307698413545058:=0
def tw6931737405819934306:=0
def tw14605277824676359842:=0
def tw2870812420423842466:=0
def tw13294671953013116642:=0
def tw9917158328661251810:=0
def tw12588953406287577890:=0
def tw7058612568996341538:=0
def tw3577191283383663490:=0
def tw10578091345212834754:=0
def tw14119165673575342179:=0
def tw10500342767429880995:=0
def tw14633495031051842755:=0
def tw8144660893421330659:=0
def tw4046722385471931683:=0
def tw12561877891193253155:=0
def tw16801076864798046499:=0
def tw13112124215342054787:=0
def tw7960356222072350083:=0
def tw18306645252638507427:=0
def tw16391175449502628259:=0
def tw5186172855111375299:=0
def tw2455106526947274179:=0
def tw9683521221610667459:=0
def tw16243469948378094083:=0
def tw6516504011731831331:=0
def tw17889959834092885571:=0
def tw7198787664209061475:=0
def tw18010529331013149283:=0
def tw12042278052178978403:=0
def tw17305065527385452163:=0
def tw16486626696985560931:=0
def tw17053680938702174083:=0
def tw3369577489934389155:=0
def tw3597756424359435171:=0
def tw5509194960144944067:=0
def tw3431847062030301155:=0
def tw15781918977865627684:=0
def tw2155615308526617732:=0
def tw9241899854017874116:=0
def tw9939889952136702180:=0
def tw14814553095691808996:=0
def tw18122818845625115908:=0
def tw15823644496165202180:=0
def tw1724560777625292068:=0
def tw2001287412028202276:=0
def tw143980461469043076:=0
def tw6154525246090328452:=0
def tw1503031368247904708:=0
def tw5188708379605209540:=0
def tw17837457494398474788:=0
def tw4122514605787064868:=0
def tw18419636964290057860:=0
def tw10405888098337651332:=0
def tw9465402109775444612:=0
def tw1172022514238099172:=0
def tw3625324484606032676:=0
def tw6572647147136172900:=0
def tw2459452029222540260:=0
def tw12032885091904457733:=0
def tw16685935281608091653:=0
def tw1791925700284127301:=0
def tw11759397744825928837:=0
def tw1807673584256147621:=0
def tw14393628440307952805:=0
def tw15731567409021803717:=0
def tw2103801844755710181:=0
def tw3547030725621502213:=0
def tw17020016114994645317:=0
def tw11457145009210499429:=0
def tw486898822465345893:=0
def tw11969254735248408965:=0
def tw12675937572837830053:=0
def tw6605481521938993637:=0
def tw10081726871032268293:=0
def tw68697345287667205:=0
def tw1607702743023916581:=0
def tw11072770701735063077:=0
def tw7430106139841234533:=0
def tw16613275133204671205:=0
def tw14538910759780418309:=0
def tw17801932286520334117:=0
def tw13245792168412406597:=0
def tw544229704112486309:=0
def tw8362546418233061349:=0
def tw16951264644697304102:=0
def tw3866937230191161414:=0
def tw4524550514234842214:=0
def tw58166646277761126:=0
def tw13254805080593954918:=0
def tw14742578827534431494:=0
def tw1504212501410960678:=0
def tw10913810669554078022:=0
def tw13829886532798871878:=0
def tw4673697055259786566:=0
def tw10429813866416374214:=0
def tw828217351483207110:=0
def tw11424230581814956518:=0
def tw9123508273078771430:=0
def tw3370801471758489350:=0
def tw11803092339306133350:=0
def tw14647453451083959174:=0
def tw17443575150661845958:=0
def tw18255932115757125606:=0
def tw1701954824560718855:=0
def tw14467974021312820295:=0
def tw10985864321947465799:=0
def tw1876257980390226055:=0
def tw984891935218260135:=0
def tw14556562383067058471:=0
def tw2895730319930181031:=0
def tw3539952005441243751:=0
def tw17774418998350871143:=0
def tw8784297886075066023:=0
def tw11088638347177767591:=0
def tw13699869087983974055:=0
def tw14659882788618064615:=0
def tw12871121807095282439:=0
def tw5221526083802265447:=0
def tw17351678639181313927:=0
def tw17617962311535537063:=0
def tw17921535382672282567:=0
def tw8591898039217057735:=0
def tw2774098856389747816:=0
def tw2852573611199228008:=0
def tw16620234736538313928:=0
def tw1185957854690540776:=0
def tw6447596330177637640:=0
def tw18077016322233909512:=0
def tw2697398066001520936:=0
def tw14692984168477468008:=0
def tw17329445409214130536:=0
def tw13234192956334293416:=0
def tw13060990677185416776:=0
def tw17569164272724893320:=0
def tw16931353886408389352:=0
def tw11113154814900908808:=0
def tw14066223562657578920:=0
def tw10612469982728300520:=0
def tw9934280304995887080:=0
def tw8684071397039000585:=0
def tw11641471195111726217:=0
def tw10331165523782290569:=0
def tw17781974964813735081:=0
def tw14225548211764421897:=0
def tw1179614400802949417:=0
def tw7329335296748202281:=0
def tw5071443715061050793:=0
def tw13365112222617046473:=0
def tw7971493799824701897:=0
def tw8914048664229723625:=0
def tw9338678147978463753:=0
def tw3539055282226733577:=0
def tw2653060602854705737:=0
def tw16901629059933871689:=0
def tw11638840779529694793:=0
def tw6701077028526214729:=0
def tw816255580546305641:=0
def tw11848374059987803785:=0
def tw2625172756872835721:=0
def tw5276837452226388649:=0
def tw8475306977715536585:=0
def tw4702808425723095785:=0
def tw5061007139948857129:=0
def tw5924933256582535977:=0
def tw3627391556434255721:=0
def tw2496216195044576169:=0
def tw11089961751231519657:=0
def tw7086430580353687465:=0
def tw1618487018089933737:=0
def tw8861269578915944393:=0
def tw7531812897802596394:=0
def tw3373234389105565738:=0
def tw8631759983304105034:=0
def tw2395689749375412330:=0
def tw5165049575709088970:=0
def tw14327569673628476618:=0
def tw17170305281191447818:=0
def tw7081074461954500970:=0
def tw5078204989671733610:=0
def tw5179084595519565194:=0
def tw5442948912756135370:=0
def tw17106165152621214186:=0
def tw6172228094848679402:=0
def tw3881457726656655882:=0
def tw12998217053179704842:=0
def tw9942807510807835178:=0
def tw14817567720575692362:=0
def tw9543471057338330762:=0
def tw12627172407412224682:=0
def tw14286775475908430570:=0
def tw2020860106667346666:=0
def tw5153521693484624810:=0
def tw2272804532486258602:=0
def tw18300734811421630410:=0
def tw431487950606699498:=0
def tw8876785031523479530:=0
def tw246427265038037994:=0
def tw2565281707098214411:=0
def tw11852898959215855659:=0
def tw594770533846346795:=0
def tw10005585208323016811:=0
def tw3383770804227341451:=0
def tw5815407381001318699:=0
def tw14887078019122682251:=0
def tw13118364046068952491:=0
def tw14899032673807404523:=0
def tw9434937417258574315:=0
def tw15791764050741930475:=0
def tw9466482876421410315:=0
def tw15775742105968488971:=0
def tw10371171996469288459:=0
def tw17699071264343257643:=0
def tw594733152889339435:=0
def tw3577870334812616299:=0
def tw13193174357211127467:=0
def tw13258187545356856011:=0
def tw1006421256378786539:=0
def tw6210269459359199979:=0
def tw2884200818961683211:=0
def tw4179770072637228843:=0
def tw8587340697059843915:=0
def tw10218692854694371179:=0
def tw17123081363249943499:=0
def tw4650217259577445355:=0
def tw3274813480128331755:=0
def tw15891843013034975244:=0
def tw6794275497567838220:=0
def tw11106337454974804012:=0
def tw12717189716307976300:=0
def tw12446565999265384588:=0
def tw778345556542767244:=0
def tw16380367850042646828:=0
def tw5265022512389507404:=0
def tw11530448406459926860:=0
def tw14647157084770519436:=0
def tw2028021304024672684:=0
def tw1044838623895892460:=0
def tw17774374029215227404:=0
def tw3467410895439281708:=0
def tw9897742293793768012:=0
def tw8327937190590798412:=0
def tw13107267226669618796:=0
def tw1095840848569609836:=0
def tw17255786718110439020:=0
def tw623045219583083212:=0
def tw15869965913904326412:=0
def tw10613582069100029708:=0
def tw16276492983654094732:=0
def tw12044830836913039244:=0
def tw3650180568799999916:=0
def tw7634657263228719084:=0
def tw7296401192663834604:=0
def tw5485454583217398797:=0
def tw13473801141798121517:=0
def tw18223476673009686605:=0
def tw6187958868935993421:=0
def tw2039106743358166125:=0
def tw18021905481371322605:=0
def tw9808187472598275373:=0
def tw14916614585426200909:=0
def tw6277525848960851277:=0
def tw9696742530805894509:=0
def tw17633682128311618029:=0
def tw15007017297566348781:=0
def tw4578166409312589293:=0
def tw15334281847488474605:=0
def tw7232835910444163661:=0
def tw6293547911467961965:=0
def tw16134014165893062253:=0
def tw118669896861293:=0
def tw3843683115124809357:=0
def tw6950437913007422093:=0
def tw17094664363801359053:=0
def tw11864825553698382605:=0
def tw2112220867564885933:=0
def tw7523890268730209229:=0
def tw9938721348272824301:=0
def tw1482200139485112301:=0
def tw9543710147612633166:=0
def tw5889527983655674030:=0
def tw12535206496414284046:=0
def tw12082092639086698798:=0
def tw16587177274370912558:=0
def tw15374217946701196654:=0
def tw4288851659486187918:=0
def tw15318837262175971790:=0
def tw8831726985305005614:=0
def tw11519360780169185870:=0
def tw3375774250929355342:=0
def tw15780796811776674478:=0
def tw14332179842791351022:=0
def tw11659355961225651982:=0
def tw18089921656670079982:=0
def tw3508061368046704655:=0
def tw5607534886004320303:=0
def tw11672016058029539407:=0
def tw6431143610978245807:=0
def tw14346324182248962255:=0
def tw1382199560423866639:=0
def tw4935172353048441103:=0
def tw14223138078932893999:=0
def tw16615570933196823919:=0
def tw16616861203395793295:=0
def tw4537899072887943695:=0
def tw12079728062875532815:=0
def tw7560508330120485423:=0
def tw916392675162019375:=0
def tw6492860781990110767:=0
def tw13568124232194744943:=0
def tw7128397722002489999:=0
def tw4293533031548814991:=0
def tw16061817453375851215:=0
def tw1704392250170885903:=0
def tw18344362067351300879:=0
def tw12839717558248020783:=0
def tw7107358804998332271:=0
def tw14226456190095007599:=0
def tw10620432242953272207:=0
def tw12635997001038040015:=0
def tw13760486229182234607:=0
def tw10584457355983344720:=0
def tw1305055305302683792:=0
def tw4247950718648236176:=0
def tw5654572154632448208:=0
def tw5010069678986986768:=0
def tw13961705365467971856:=0
def tw1693303906790362512:=0
def tw16487626633772099120:=0
def tw2027415511140566640:=0
def tw1324041838634467984:=0
def tw10504832724900513424:=0
def tw15719575629025262224:=0
def tw4670071301867270832:=0
def tw7863348333422470928:=0
def tw9023049302799188784:=0
def tw2052017157412487120:=0
def tw1388335708726769681:=0
def tw7320665837416070161:=0
def tw1377022350114669617:=0
def tw1886064287080307825:=0
def tw6453979183758107761:=0
def tw7690819689873978577:=0
def tw11847600185583818993:=0
def tw2620654596745700625:=0
def tw6581788195390027025:=0
def tw15350669790435552657:=0
def tw6871406891732346353:=0
def tw16455757720204310065:=0
def tw16923929564176949873:=0
def tw8146567004163392113:=0
def tw13218145435652852401:=0
def tw8231151682786256625:=0
def tw1488181431835894641:=0
def tw7916870761937391473:=0
def tw2120400669652090769:=0
def tw13621110777268182001:=0
def tw8308759751920267249:=0
def tw10215310255609260082:=0
def tw4424937262704945394:=0
def tw8659077740984883474:=0
def tw10936664231961942290:=0
def tw6557401935237752114:=0
def tw17349612695526582610:=0
def tw1645437501230409042:=0
def tw6321164693196016082:=0
def tw17723923104832724434:=0
def tw13070985355191544402:=0
def tw1908676731335594706:=0
def tw14607823352803194610:=0
def tw7728063240625928978:=0
def tw1137949134343301906:=0
def tw17146990210127756082:=0
def tw14981570929191898994:=0
def tw14971214795781198738:=0
def tw3459791837884113874:=0
def tw16657549829768957938:=0
def tw4130864860976055315:=0
def tw10840347093813952563:=0
def tw1439732626920386611:=0
def tw7226363040660525139:=0
def tw6952608664066844819:=0
def tw5928279425250526483:=0
def tw16739283445247186195:=0
def tw547223123641145715:=0
def tw3608914664634633587:=0
def tw13603953920964408947:=0
def tw13643935377066284691:=0
def tw16826641158141716339:=0
def tw18400175764277486451:=0
def tw5467868183445184403:=0
def tw18119565205613816852:=0
def tw7890202104316124212:=0
def tw7951854050244394036:=0
def tw14236903672182178900:=0
def tw15989034583844918356:=0
def tw10153628560110132308:=0
def tw6597005648064394388:=0
def tw3011297303351771284:=0
def tw5811402347217770644:=0
def tw17748821956566385844:=0
def tw3378024873360139508:=0
def tw13069548093815044372:=0
def tw11538409461838663956:=0
def tw9639780730003890484:=0
def tw16800207453303265588:=0
def tw4379106118569009492:=0
def tw12549294567676455252:=0
def tw16604897975089497460:=0
def tw84573567653551508:=0
def tw16403214157038735764:=0
def tw14991064936912115092:=0
def tw18160423082633300436:=0
def tw5582410675084922324:=0
def tw9387369936430290388:=0
def tw571631478884821460:=0
def tw9800205546337325556:=0
def tw18141805408369282580:=0
def tw12066069300081893908:=0
def tw6400337116008751636:=0
def tw8466101188591775252:=0
def tw4695516731086432916:=0
def tw8525931807744034484:=0
def tw15868330342328732340:=0
def tw15336509738366079732:=0
def tw2909827091010360052:=0
def tw105265381242489588:=0
def tw1577838660868136692:=0
def tw10542140742365497108:=0
def tw9434363295545850644:=0
def tw16821933027785132916:=0
def tw7724114470379144180:=0
def tw5471541161105045525:=0
def tw14673744261302442005:=0
def tw1039661921472532565:=0
def tw16361336264785079445:=0
def tw8928627404678104245:=0
def tw6531193148476456117:=0
def tw8452445100223856853:=0
def tw16219063175400107253:=0
def tw2933478618828768597:=0
def tw17315973132095514965:=0
def tw12204326727405667765:=0
def tw7309040321956426229:=0
def tw14858879155355592213:=0
def tw3310934110445167157:=0
def tw5589848241876405845:=0
def tw9944069093489408597:=0
def tw917985178979186293:=0
def tw1893858133869653621:=0
def tw4718846264650127029:=0
def tw17643475619666549429:=0
def tw11174237412190542517:=0
def tw2453593322833476277:=0
def tw10007245352212610773:=0
def tw8136257718232042229:=0
def tw9863631895193897781:=0
def tw13987064677230349173:=0
def tw17759235080341528501:=0
def tw12628258527493238709:=0
def tw10060375599182317557:=0
def tw6143947665177613301:=0
def tw8473963378551908374:=0
def tw7514085659445415990:=0
def tw10834680680456586358:=0
def tw1540861850216486006:=0
def tw11348305969203404950:=0
def tw12386072206658128054:=0
def tw3692377177288697046:=0
def tw8474732950443024630:=0
def tw5050270544051410198:=0
def tw6346678776369953078:=0
def tw13861026509888230742:=0
def tw15231705327285541206:=0
def tw4842240890832881014:=0
def tw7075604735390483830:=0
def tw14424665913228956054:=0
def tw1732571364705836438:=0
def tw15814018526272283062:=0
def tw3018503566657063382:=0
def tw13834188533726328278:=0
def tw15979850322179283446:=0
def tw7995474381000356374:=0
def tw3572376878768547350:=0
def tw9520611566131754582:=0
def tw402263501529269014:=0
def tw3612869970749566806:=0
def tw8226208095042929558:=0
def tw9767798845655197590:=0
def tw16620382520249451446:=0
def tw11885977461095103478:=0
def tw3245469113395031127:=0
def tw12868290769086377079:=0
def tw655427369757428887:=0
def tw602471406275123351:=0
def tw18336967134253656247:=0
def tw2768104553818076407:=0
def tw7277688376034124023:=0
def tw5548308310116254999:=0
def tw11415122554053413207:=0
def tw3746907656696426871:=0
def tw5901311564712158647:=0
def tw10357959588797062615:=0
def tw8123239090334655959:=0
def tw7115736419731696151:=0
def tw5659026733168554647:=0
def tw4356757806621343447:=0
def tw12988152837242516183:=0
def tw15471174210516248343:=0
def tw14122798771407796023:=0
def tw10868933694344668023:=0
def tw8088373998094027671:=0
def tw6525825677200111543:=0
def tw13286367707037452215:=0
def tw9340888890631946167:=0
def tw15067864592679605239:=0
def tw15784621480974706679:=0
def tw2106211175428927512:=0
def tw15053426316621557784:=0
def tw11356175228358189144:=0
def tw1121803124396558456:=0
def tw3101823528027250808:=0
def tw17851824304315522200:=0
def tw186951610073716984:=0
def tw252824268388095256:=0
def tw9583750077288894808:=0
def tw15607875491810418104:=0
def tw4237749681319486904:=0
def tw7989998990309653944:=0
def tw4609786889479476792:=0
def tw3831095545127313016:=0
def tw2911794287109811896:=0
def tw3210745527906768600:=0
def tw10434114798362877688:=0
def tw17034687388693446456:=0
def tw14983503476340507448:=0
def tw10075358612091761464:=0
def tw3517157107158477656:=0
def tw5978597652484958104:=0
def tw4431229643673225208:=0
def tw10873215083771592696:=0
def tw2482294191120088121:=0
def tw15419965321110002777:=0
def tw12455062238027849849:=0
def tw4083574337550474393:=0
def tw17028680417195286681:=0
def tw4203546237248729241:=0
def tw3176737369004363961:=0
def tw14453173600821657817:=0
def tw11823980901967195353:=0
def tw3113370805788896473:=0
def tw2111983366221043961:=0
def tw6036504788219097369:=0
def tw7821451571161015673:=0
def tw9091802095971334521:=0
def tw10523266822591648153:=0
def tw1289885977322293753:=0
def tw12935129463747063289:=0
def tw15815459444614820345:=0
def tw2357528220790685177:=0
def tw7029352255095159321:=0
def tw16024528307727561241:=0
def tw3622177584472461881:=0
def tw10110888754730800921:=0
def tw10582942873064382233:=0
def tw1981526001178328889:=0
def tw9020654342396115769:=0
def tw250490205683460953:=0
def tw18112944585622463353:=0
def tw6273526142167255961:=0
def tw12023902525435893657:=0
def tw18133564708085423001:=0
def tw9090503205516246937:=0
def tw17008174326691646522:=0
def tw606685982017913978:=0
def tw18173033347646005402:=0
def tw14810461868380693658:=0
def tw8715441896006169786:=0
def tw3978278153321829562:=0
def tw2769479104987750650:=0
def tw17783999647355718938:=0
def tw13121408705576284538:=0
def tw10787892188269187514:=0
def tw9261263473836004794:=0
def tw7015364407591133658:=0
def tw10636773577032700410:=0
def tw13902802482407986682:=0
def tw12451152565006457338:=0
def tw12851411380732913178:=0
def tw12296781718095108666:=0
def tw18209183661429760634:=0
def tw5320007316176384634:=0
def tw9536962567978615482:=0
def tw1143378635669982906:=0
def tw11625963011316697818:=0
def tw11010270867604190970:=0
def tw13485117013295821626:=0
def tw5685422730184689562:=0
def tw4366139058911222682:=0
def tw10754764786304497626:=0
def tw5521463966178228218:=0
def tw7580006775555247131:=0
def tw17144395211309964379:=0
def tw5206060684477431995:=0
def tw8638911309792588987:=0
def tw17958843424759005371:=0
def tw13399035292648765659:=0
def tw7573485383597588731:=0
def tw12389129914581825787:=0
def tw17586835176551082235:=0
def tw11407251029289864475:=0
def tw6413312605170429371:=0
def tw4133443302045517275:=0
def tw7935694928052310491:=0
def tw3019416712316550619:=0
def tw10044705937305807387:=0
def tw13012968759636301403:=0
def tw8464087473629411931:=0
def tw6509614484991694427:=0
def tw9742837692600765083:=0
def tw2895599145958162107:=0
def tw11681048574593000123:=0
def tw11467477956884341563:=0
def tw12084174459206376283:=0
def tw2745963043440011099:=0
def tw5310211724708050779:=0
def tw16946023990559543259:=0
def tw8976048259490641883:=0
def tw11636015366482620444:=0
def tw8731551660406903900:=0
def tw7295808820523865212:=0
def tw7646189724613338236:=0
def tw3364501014801876124:=0
def tw14583645222621887676:=0
def tw18159429929753387292:=0
def tw11338841795177572668:=0
def tw1941342038873449852:=0
def tw13477830891210821020:=0
def tw8834667562794384892:=0
def tw7416926757947209244:=0
def tw8932714439753114204:=0
def tw15400580755604769404:=0
def tw14136274246330064540:=0
def tw8303781042836259484:=0
def tw6314789416221994684:=0
def tw15187371463771543260:=0
def tw11930029286499869404:=0
def tw15752511769365439260:=0
def tw18077193914163072892:=0
def tw5875138446827110332:=0
def tw9035338296890358716:=0
def tw9489233165605242844:=0
def tw11142092580129193980:=0
def tw6490059797972557853:=0
def tw10603089033057181789:=0
def tw2228955078883282077:=0
def tw16070300159905191069:=0
def tw14225760018656411837:=0
def tw10331777358321681661:=0
def tw3655803026604307741:=0
def tw14049308668474142077:=0
def tw8047446063303125373:=0
def tw11468668208621694365:=0
def tw7611072241016978877:=0
def tw9156882440408192477:=0
def tw2012378738732253693:=0
def tw3170799132566087165:=0
def tw5749301138020089373:=0
def tw16773204231135199805:=0
def tw5369467193419869821:=0
def tw5817958195990330013:=0
def tw2328086512355051197:=0
def tw7422351959582638909:=0
def tw13963367687954827101:=0
def tw7269900611125871517:=0
def tw13692645291486262205:=0
def tw5554875560153985021:=0
def tw13779849588464046077:=0
def tw4107466232000729118:=0
def tw17846854718555441246:=0
def tw6241969875533460606:=0
def tw4973163254889470110:=0
def tw2172981675694904606:=0
def tw17429049694409054494:=0
def tw14127766843510664542:=0
def tw10579214250485989726:=0
def tw11086826377237053822:=0
def tw6668959434877686206:=0
def tw13830196730680260062:=0
def tw3672882432627194334:=0
def tw8569219569034029534:=0
def tw10798782270363908606:=0
def tw10738752698080922174:=0
def tw10177601407095455294:=0
def tw1768683267770267294:=0
def tw11176895741602851518:=0
def tw3275606501599511262:=0
def tw17498281863369709374:=0
def tw12198276872230687582:=0
def tw666134224140401502:=0
def tw3968238539540469630:=0
def tw4637009735563756478:=0
def tw10050818457636764606:=0
def tw11155449264885442591:=0
def tw9206825581414357087:=0
def tw8584721097818297471:=0
def tw15201608809012419743:=0
def tw11352909831655168191:=0
def tw1659755689982470335:=0
def tw18051670997714252991:=0
def tw1912449730425343199:=0
def tw12432389122919847199:=0
def tw973384843462607167:=0
def tw12938410322612209983:=0
def tw2608869392127515999:=0
def tw14509751631132331391:=0
def tw14696700326551398783:=0
def tw17156717906456627647:=0
def tw919292670934426079:=0
def tw10855722767196903903:=0
def tw17073750069154365951:=0
def tw17158360524083510879:=0
def tw18356271724708481727:=0
def tw10280575908765108959:=0
def tw16815212428497515327:=0
def tw255990444833240991:=0
def tw3425483576343218175:=0
end PySem.W.Fast
open PySem PySem.W PyProof.Rows
set_option maxRecDepth 100000 in
set_option maxHeartbeats 0 in
theorem PySem.Challenge.cw_stripmeld_k49_whole_stopped_halfway_holds : PySem.Challenge.rw_stripmeld_k49_whole_stopped_halfway.Holds := by
 w_on;o_law;k_head;(case hw=>w_witness2)
 k_fill
 refine L2.Zv4 (l:=PySem.Challenge.rw_stripmeld_k49_whole_stopped_halfway) (n:=63) (k:=8) (x:="_law_script") (CX:=L2.CX0) (sp:=Pu.lawSp) rfl (by decide) rfl ⟨rfl,by decide,by decide⟩ (fun w h Y=>PySem.W.kIn_of Y) ?F ?S ?C
 case F=>
  intro w mg fa h KX G hmg
  refine' T.Zzc KX G hmg ?a_Village ?pg_Village ?hd_Village ?po_Village ?sa_Village ?mk_Village ?kc_Village ?nA_Village_book ?nA_Village_fields ?nA_Village_wished ?a0 ?a1 ?a2 ?a3 ?a4 ?a5 ?a6 ?a7 ?a8 ?a9 ?a10 ?a11 ?a12 ?a13 ?a14 ?a15 ?a16 ?a17 ?a18 ?a19 ?a20 ?a21 ?a22 ?a23 ?a24 ?a25 ?a26 ?a27 ?a28 ?a29 ?a30 ?a31 ?a32 ?a33 ?a34 ?a35 ?a36 ?a37 ?a38 ?a39 ?a40 ?a41 ?a42 ?a43 ?a44 ?a45 ?a46 ?a47 ?a48 ?a49 ?a50 ?a51 ?a52 ?a53 ?a54 ?a55 ?a56 ?a57 ?l57 ?c57 ?k57 ?z_any ?z_bool ?z_int ?z_isinstance ?z_len ?z_list ?z_max ?z_min ?z_range ?z_set ?z_sorted ?z_sum ?z_tuple ?z_HOLDERS ?z_STRIPS ?z_WIDEST ?z_MOST_WISHES ?z_MOST_DEEDS ?a_TooManyStrips ?q_TooManyStrips ?ga_TooManyStrips ?gt_TooManyStrips ?cl_TooManyStrips ?i_TooManyStrips ?a_BadHolder ?q_BadHolder ?ga_BadHolder ?gt_BadHolder ?cl_BadHolder ?i_BadHolder ?a_BadWidth ?q_BadWidth ?ga_BadWidth ?gt_BadWidth ?cl_BadWidth ?i_BadWidth ?a_NoStrip ?q_NoStrip ?ga_NoStrip ?gt_NoStrip ?cl_NoStrip ?i_NoStrip ?a_BadOrder ?q_BadOrder ?ga_BadOrder ?gt_BadOrder ?cl_BadOrder ?i_BadOrder ?a_LikeHolders ?q_LikeHolders ?ga_LikeHolders ?gt_LikeHolders ?cl_LikeHolders ?i_LikeHolders ?a_WishStands ?q_WishStands ?ga_WishStands ?gt_WishStands ?cl_WishStands ?i_WishStands ?a_TooManyWishes ?q_TooManyWishes ?ga_TooManyWishes ?gt_TooManyWishes ?cl_TooManyWishes ?i_TooManyWishes ?a_BookFull ?q_BookFull ?ga_BookFull ?gt_BookFull ?cl_BookFull ?i_BookFull
  (case a_Village=>k_is)
  (case pg_Village=>k_is)
  (case hd_Village=>k_is)
  (case po_Village=>k_is)
  (case sa_Village=>k_is)
  (case mk_Village=>k_is)
  (case kc_Village=>k_is)
  (case nA_Village_book=>k_is)
  (case nA_Village_fields=>k_is)
  (case nA_Village_wished=>k_is)
  (case a0=>refine' Pu.di ?z0p ?z0q ?z0r ?z0s;(case z0p=>k_is);(case z0q=>k_is);(case z0r=>k_is);(case z0s=>k_is))
  (case a1=>refine' Pu.di ?z1p ?z1q ?z1r ?z1s;(case z1p=>k_is);(case z1q=>k_is);(case z1r=>k_is);(case z1s=>k_is))
  (case a2=>refine' Pu.di ?z2p ?z2q ?z2r ?z2s;(case z2p=>k_is);(case z2q=>k_is);(case z2r=>k_is);(case z2s=>k_is))
  (case a3=>refine' Pu.di ?z3p ?z3q ?z3r ?z3s;(case z3p=>k_is);(case z3q=>k_is);(case z3r=>k_is);(case z3s=>k_is))
  (case a4=>refine' Pu.di ?z4p ?z4q ?z4r ?z4s;(case z4p=>k_is);(case z4q=>k_is);(case z4r=>k_is);(case z4s=>k_is))
  (case a5=>refine' Pu.di ?z5p ?z5q ?z5r ?z5s;(case z5p=>k_is);(case z5q=>k_is);(case z5r=>k_is);(case z5s=>k_is))
  (case a6=>refine' Pu.di ?z6p ?z6q ?z6r ?z6s;(case z6p=>k_is);(case z6q=>k_is);(case z6r=>k_is);(case z6s=>k_is))
  (case a7=>refine' Pu.di ?z7p ?z7q ?z7r ?z7s;(case z7p=>k_is);(case z7q=>k_is);(case z7r=>k_is);(case z7s=>k_is))
  (case a8=>refine' Pu.di ?z8p ?z8q ?z8r ?z8s;(case z8p=>k_is);(case z8q=>k_is);(case z8r=>k_is);(case z8s=>k_is))
  (case a9=>refine' Pu.di ?z9p ?z9q ?z9r ?z9s;(case z9p=>k_is);(case z9q=>k_is);(case z9r=>k_is);(case z9s=>k_is))
  (case a10=>refine' Pu.di ?z10p ?z10q ?z10r ?z10s;(case z10p=>k_is);(case z10q=>k_is);(case z10r=>k_is);(case z10s=>k_is))
  (case a11=>refine' Pu.di ?z11p ?z11q ?z11r ?z11s;(case z11p=>k_is);(case z11q=>k_is);(case z11r=>k_is);(case z11s=>k_is))
  (case a12=>refine' Pu.di ?z12p ?z12q ?z12r ?z12s;(case z12p=>k_is);(case z12q=>k_is);(case z12r=>k_is);(case z12s=>k_is))
  (case a13=>refine' Pu.di ?z13p ?z13q ?z13r ?z13s;(case z13p=>k_is);(case z13q=>k_is);(case z13r=>k_is);(case z13s=>k_is))
  (case a14=>refine' Pu.di ?z14p ?z14q ?z14r ?z14s;(case z14p=>k_is);(case z14q=>k_is);(case z14r=>k_is);(case z14s=>k_is))
  (case a15=>refine' Pu.di ?z15p ?z15q ?z15r ?z15s;(case z15p=>k_is);(case z15q=>k_is);(case z15r=>k_is);(case z15s=>k_is))
  (case a16=>refine' Pu.di ?z16p ?z16q ?z16r ?z16s;(case z16p=>k_is);(case z16q=>k_is);(case z16r=>k_is);(case z16s=>k_is))
  (case a17=>refine' Pu.di ?z17p ?z17q ?z17r ?z17s;(case z17p=>k_is);(case z17q=>k_is);(case z17r=>k_is);(case z17s=>k_is))
  (case a18=>refine' Pu.di ?z18p ?z18q ?z18r ?z18s;(case z18p=>k_is);(case z18q=>k_is);(case z18r=>k_is);(case z18s=>k_is))
  (case a19=>refine' Pu.di ?z19p ?z19q ?z19r ?z19s;(case z19p=>k_is);(case z19q=>k_is);(case z19r=>k_is);(case z19s=>k_is))
  (case a20=>refine' Pu.di ?z20p ?z20q ?z20r ?z20s;(case z20p=>k_is);(case z20q=>k_is);(case z20r=>k_is);(case z20s=>k_is))
  (case a21=>refine' Pu.di ?z21p ?z21q ?z21r ?z21s;(case z21p=>k_is);(case z21q=>k_is);(case z21r=>k_is);(case z21s=>k_is))
  (case a22=>refine' Pu.di ?z22p ?z22q ?z22r ?z22s;(case z22p=>k_is);(case z22q=>k_is);(case z22r=>k_is);(case z22s=>k_is))
  (case a23=>refine' Pu.di ?z23p ?z23q ?z23r ?z23s;(case z23p=>k_is);(case z23q=>k_is);(case z23r=>k_is);(case z23s=>k_is))
  (case a24=>refine' Pu.di ?z24p ?z24q ?z24r ?z24s;(case z24p=>k_is);(case z24q=>k_is);(case z24r=>k_is);(case z24s=>k_is))
  (case a25=>refine' Pu.di ?z25p ?z25q ?z25r ?z25s;(case z25p=>k_is);(case z25q=>k_is);(case z25r=>k_is);(case z25s=>k_is))
  (case a26=>refine' Pu.di ?z26p ?z26q ?z26r ?z26s;(case z26p=>k_is);(case z26q=>k_is);(case z26r=>k_is);(case z26s=>k_is))
  (case a27=>refine' Pu.di ?z27p ?z27q ?z27r ?z27s;(case z27p=>k_is);(case z27q=>k_is);(case z27r=>k_is);(case z27s=>k_is))
  (case a28=>refine' Pu.di ?z28p ?z28q ?z28r ?z28s;(case z28p=>k_is);(case z28q=>k_is);(case z28r=>k_is);(case z28s=>k_is))
  (case a29=>refine' Pu.mi ?z29p ?z29q ?z29r ?z29s ?z29t;(case z29p=>k_is);(case z29q=>k_is);(case z29r=>k_is);(case z29s=>k_is);(case z29t=>k_is))
  (case a30=>refine' Pu.mi ?z30p ?z30q ?z30r ?z30s ?z30t;(case z30p=>k_is);(case z30q=>k_is);(case z30r=>k_is);(case z30s=>k_is);(case z30t=>k_is))
  (case a31=>refine' Pu.mi ?z31p ?z31q ?z31r ?z31s ?z31t;(case z31p=>k_is);(case z31q=>k_is);(case z31r=>k_is);(case z31s=>k_is);(case z31t=>k_is))
  (case a32=>refine' Pu.mi ?z32p ?z32q ?z32r ?z32s ?z32t;(case z32p=>k_is);(case z32q=>k_is);(case z32r=>k_is);(case z32s=>k_is);(case z32t=>k_is))
  (case a33=>refine' Pu.mi ?z33p ?z33q ?z33r ?z33s ?z33t;(case z33p=>k_is);(case z33q=>k_is);(case z33r=>k_is);(case z33s=>k_is);(case z33t=>k_is))
  (case a34=>refine' Pu.mi ?z34p ?z34q ?z34r ?z34s ?z34t;(case z34p=>k_is);(case z34q=>k_is);(case z34r=>k_is);(case z34s=>k_is);(case z34t=>k_is))
  (case a35=>refine' Pu.mi ?z35p ?z35q ?z35r ?z35s ?z35t;(case z35p=>k_is);(case z35q=>k_is);(case z35r=>k_is);(case z35s=>k_is);(case z35t=>k_is))
  (case a36=>refine' Pu.mi ?z36p ?z36q ?z36r ?z36s ?z36t;(case z36p=>k_is);(case z36q=>k_is);(case z36r=>k_is);(case z36s=>k_is);(case z36t=>k_is))
  (case a37=>refine' Pu.mi ?z37p ?z37q ?z37r ?z37s ?z37t;(case z37p=>k_is);(case z37q=>k_is);(case z37r=>k_is);(case z37s=>k_is);(case z37t=>k_is))
  (case a38=>refine' Pu.mi ?z38p ?z38q ?z38r ?z38s ?z38t;(case z38p=>k_is);(case z38q=>k_is);(case z38r=>k_is);(case z38s=>k_is);(case z38t=>k_is))
  (case a39=>refine' Pu.mi ?z39p ?z39q ?z39r ?z39s ?z39t;(case z39p=>k_is);(case z39q=>k_is);(case z39r=>k_is);(case z39s=>k_is);(case z39t=>k_is))
  (case a40=>refine' Pu.di ?z40p ?z40q ?z40r ?z40s;(case z40p=>k_is);(case z40q=>k_is);(case z40r=>k_is);(case z40s=>k_is))
  (case a41=>refine' Pu.di ?z41p ?z41q ?z41r ?z41s;(case z41p=>k_is);(case z41q=>k_is);(case z41r=>k_is);(case z41s=>k_is))
  (case a42=>refine' Pu.di ?z42p ?z42q ?z42r ?z42s;(case z42p=>k_is);(case z42q=>k_is);(case z42r=>k_is);(case z42s=>k_is))
  (case a43=>refine' Pu.di ?z43p ?z43q ?z43r ?z43s;(case z43p=>k_is);(case z43q=>k_is);(case z43r=>k_is);(case z43s=>k_is))
  (case a44=>refine' Pu.di ?z44p ?z44q ?z44r ?z44s;(case z44p=>k_is);(case z44q=>k_is);(case z44r=>k_is);(case z44s=>k_is))
  (case a45=>refine' Pu.di ?z45p ?z45q ?z45r ?z45s;(case z45p=>k_is);(case z45q=>k_is);(case z45r=>k_is);(case z45s=>k_is))
  (case a46=>refine' Pu.di ?z46p ?z46q ?z46r ?z46s;(case z46p=>k_is);(case z46q=>k_is);(case z46r=>k_is);(case z46s=>k_is))
  (case a47=>refine' Pu.di ?z47p ?z47q ?z47r ?z47s;(case z47p=>k_is);(case z47q=>k_is);(case z47r=>k_is);(case z47s=>k_is))
  (case a48=>refine' Pu.di ?z48p ?z48q ?z48r ?z48s;(case z48p=>k_is);(case z48q=>k_is);(case z48r=>k_is);(case z48s=>k_is))
  (case a49=>refine' Pu.di ?z49p ?z49q ?z49r ?z49s;(case z49p=>k_is);(case z49q=>k_is);(case z49r=>k_is);(case z49s=>k_is))
  (case a50=>refine' Pu.di ?z50p ?z50q ?z50r ?z50s;(case z50p=>k_is);(case z50q=>k_is);(case z50r=>k_is);(case z50s=>k_is))
  (case a51=>refine' Pu.di ?z51p ?z51q ?z51r ?z51s;(case z51p=>k_is);(case z51q=>k_is);(case z51r=>k_is);(case z51s=>k_is))
  (case a52=>refine' Pu.di ?z52p ?z52q ?z52r ?z52s;(case z52p=>k_is);(case z52q=>k_is);(case z52r=>k_is);(case z52s=>k_is))
  (case a53=>refine' Pu.di ?z53p ?z53q ?z53r ?z53s;(case z53p=>k_is);(case z53q=>k_is);(case z53r=>k_is);(case z53s=>k_is))
  (case a54=>refine' Pu.di ?z54p ?z54q ?z54r ?z54s;(case z54p=>k_is);(case z54q=>k_is);(case z54r=>k_is);(case z54s=>k_is))
  (case a55=>refine' Pu.di ?z55p ?z55q ?z55r ?z55s;(case z55p=>k_is);(case z55q=>k_is);(case z55r=>k_is);(case z55s=>k_is))
  (case a56=>refine' Pu.di ?z56p ?z56q ?z56r ?z56s;(case z56p=>k_is);(case z56q=>k_is);(case z56r=>k_is);(case z56s=>k_is))
  (case a57=>k_is)
  (case l57=>k_is)
  (case c57=>k_is)
  (case k57=>k_is)
  (case z_any=>k_is)
  (case z_bool=>k_is)
  (case z_int=>k_is)
  (case z_isinstance=>k_is)
  (case z_len=>k_is)
  (case z_list=>k_is)
  (case z_max=>k_is)
  (case z_min=>k_is)
  (case z_range=>k_is)
  (case z_set=>k_is)
  (case z_sorted=>k_is)
  (case z_sum=>k_is)
  (case z_tuple=>k_is)
  (case z_HOLDERS=>k_is)
  (case z_STRIPS=>k_is)
  (case z_WIDEST=>k_is)
  (case z_MOST_WISHES=>k_is)
  (case z_MOST_DEEDS=>k_is)
  (case a_TooManyStrips=>k_is)
  (case q_TooManyStrips=>k_exc)
  (case ga_TooManyStrips=>k_is)
  (case gt_TooManyStrips=>k_is)
  (case cl_TooManyStrips=>k_is)
  (case i_TooManyStrips=>k_is)
  (case a_BadHolder=>k_is)
  (case q_BadHolder=>k_exc)
  (case ga_BadHolder=>k_is)
  (case gt_BadHolder=>k_is)
  (case cl_BadHolder=>k_is)
  (case i_BadHolder=>k_is)
  (case a_BadWidth=>k_is)
  (case q_BadWidth=>k_exc)
  (case ga_BadWidth=>k_is)
  (case gt_BadWidth=>k_is)
  (case cl_BadWidth=>k_is)
  (case i_BadWidth=>k_is)
  (case a_NoStrip=>k_is)
  (case q_NoStrip=>k_exc)
  (case ga_NoStrip=>k_is)
  (case gt_NoStrip=>k_is)
  (case cl_NoStrip=>k_is)
  (case i_NoStrip=>k_is)
  (case a_BadOrder=>k_is)
  (case q_BadOrder=>k_exc)
  (case ga_BadOrder=>k_is)
  (case gt_BadOrder=>k_is)
  (case cl_BadOrder=>k_is)
  (case i_BadOrder=>k_is)
  (case a_LikeHolders=>k_is)
  (case q_LikeHolders=>k_exc)
  (case ga_LikeHolders=>k_is)
  (case gt_LikeHolders=>k_is)
  (case cl_LikeHolders=>k_is)
  (case i_LikeHolders=>k_is)
  (case a_WishStands=>k_is)
  (case q_WishStands=>k_exc)
  (case ga_WishStands=>k_is)
  (case gt_WishStands=>k_is)
  (case cl_WishStands=>k_is)
  (case i_WishStands=>k_is)
  (case a_TooManyWishes=>k_is)
  (case q_TooManyWishes=>k_exc)
  (case ga_TooManyWishes=>k_is)
  (case gt_TooManyWishes=>k_is)
  (case cl_TooManyWishes=>k_is)
  (case i_TooManyWishes=>k_is)
  (case a_BookFull=>k_is)
  (case q_BookFull=>k_exc)
  (case ga_BookFull=>k_is)
  (case gt_BookFull=>k_is)
  (case cl_BookFull=>k_is)
  (case i_BookFull=>k_is)
 case S=>exact fun K H a ns hl hO hS=>⟨a,ns,rfl,hS,fun _=>rfl⟩
 case C=>exact fun _ _ _ _ z=>z
