import PyProof.Rows.All
import Wide.All
import OpenK.AllK
import Wide.FinOn
import Lean
import PyProof.EqAt
import PyProof.EqKinds
import PyProof.TupleCall
import PyProof.ListRange
import PyProof.ReprRoads
import PyProof.SeqI3
import PySem.Challenge.RW_papercircle_k11_no_better_way

open List renaming getElem?_map→Qa,getElem?_eq_some_iff→Qc,mem_append→Qe,mem_of_getElem?→Qf,mem_append_right→Qg,mem_append_left→Qh,mem_map→Qi,getElem?_eq_getElem→Qj,nodup_append→Qk,map_cons→Ql,getElem?_set→Qm,mem_filter→Qn,getElem?_append_left→Qo,append_assoc→Qq,length_map→Qs,map_append→Qt,mem_cons_of_mem→Qv,mem_singleton→Qw,perm_iff_count→Qx,mem_cons_self→Qy,mem_cons→Qz,length_append→Ja,filter_sublist→Jb,mem_iff_getElem?→Jd,nil_append→Je,getElem?_append_right→Jf,size_toArray→Jg,cons_append→Jh,nodup_cons→Ji,count_append→Jj,length_cons→Jk,append_nil→Jm,getElem?_eq_none→Jo,map_map→Jp,length_singleton→Jq,length_replicate→Jt,ext_getElem?→Ju,length_take→Jv,filterMap_cons→Jw,perm_append_comm→Jx,length_filter_le→Jy,filter_append→Wa,map_set→Wb,flatMap_cons→Wc,take_add_one→Wd,lookup_cons→We,cons→Wf,mem_of_mem_take→Wg,take_length→Wh,mem_range→Wi,map_congr_left→Wk,singleton_append→Wl,getElem?_take_of_lt→Wn,map_nil→Wo,nodup_nil→Wq,getElem_inj→Wr,filter_cons→Ws,getElem?_zipWith→Wt,findIdx?_eq_some_iff_getElem→Wu,getElem?_set_ne→Wv,getElem?_mapIdx→Ww,getElem?_replicate→Wx,getElem?_cons_zero→Wy,eq_nil_iff_forall_not_mem→Wz,mem_filterMap→Nb,take_of_length_le→Nf,find?_cons→Ng,length_nil→Nh,any_cons→Ni,all_eq_true→Np,mem_or_eq_of_mem_set→Nq,drop_eq_getElem_cons→Nr,findIdx?_eq_none_iff→Nt,all_cons→Nu,foldl_cons→Nv,range_succ→Nx,set_cons_succ→Ny,length_mapIdx→Nz,take_sublist→Ga,count_nil→Gb,length_range→Gd,reverse→Ge,take_append_drop→Gf,map_take→Gh,mem_of_mem_drop→Gi,length_set→Gk,dropLast_concat_getLast→Gm,countP_eq_length_filter→Gn,findIdx?_cons→Gs,getD_eq_getElem?_getD→Gu,getLast?_eq_some_iff→Gv,sublist_append_right→Gw,reverse_cons→Gx,map_dropLast→Gz,length_drop→Qaa,mem_flatMap→Qab,mem_reverse→Qac,getElem?_cons_succ→Qad,nodup_range→Qae,getElem?_set_self→Qag,range_succ_eq_map→Qah,zipWith→Qaj,zipWith_cons_cons→Qak,drop_eq_nil_of_le→Qal,length_zip→Qam,zip_eq_zipWith→Qao
open PySem.W renaming Frag→Qd
open Bool renaming false_ne_true→Qp,and_eq_true→Jr,false_eq_true→Jz,eq_iff_iff→Gj,not_eq_true'→Gy,beq_eq_decide_eq→Qan
open Nat renaming le_refl→Qu,lt_of_lt_of_le→Jc,ne_of_lt→Jl,lt_irrefl→Js,lt_succ_of_lt→Wj,le_trans→Wm,zero_le→Nk,lt_succ_self→Nm,le_of_not_lt→Gg,not_lt_zero→Gp,le_of_lt→Gq,sub_self→Gr,lt_or_ge→Qai
open Int renaming toNat_natCast→Nj,eq_ofNat_of_zero_le→Qaf
set_option Elab.async false
set_option linter.all false
set_option maxRecDepth 100000

namespace L2
open PySem PySem.Spec PyProof.Rows
noncomputable abbrev Key:=Sum Int Str
noncomputable def keyIs:Key→Value→Bool
 | .inl k,v=>Value.isInt k v
 | .inr x,v=>Value.isStrOf x v
noncomputable def keyH(w:World):Key→Int
 | .inl k=>hashInt k
 | .inr x=>hashStr w x
theorem Z0v:∀ {k:Key} {v:Value},keyIs k v=true→(∃ i t,k=Sum.inl i∧v=Value.int i t)∨(∃ x t,k=Sum.inr x∧v=Value.str x t)
 | .inl i,v,h=>by
  obtain ⟨t,e⟩:=Value.isInt_shape (k:=i) (v:=v) h
  exact .inl ⟨i,t,rfl,e⟩
 | .inr x,v,h=>by
  obtain ⟨t,e⟩:=Value.isStrOf_shape (x:=x) (v:=v) h
  exact .inr ⟨x,t,rfl,e⟩
theorem Z8L(i:Int)(t:Tok):keyIs (.inl i) (.int i t)=true:=by simp [keyIs,Value.isInt]
theorem Z8M(x:Str)(t:Tok):keyIs (.inr x) (.str x t)=true:=by simp [keyIs,Value.isStrOf]
theorem Zbb(a b:Int):decide ((Sum.inl a:Key)=Sum.inl b)=(a == b):=by
 by_cases e:a=b
 ·subst e;simp
 ·have h:¬ (Sum.inl a:Key)=Sum.inl b:=fun q=>e (Sum.inl.inj q)
  rw [decide_eq_false h]
  exact (beq_eq_false_iff_ne.mpr e).symm
theorem Zbe(a b:Str):decide ((Sum.inr a:Key)=Sum.inr b)=decide (a=b):=by
 by_cases e:a=b
 ·subst e;simp
 ·have h:¬ (Sum.inr a:Key)=Sum.inr b:=fun q=>e (Sum.inr.inj q)
  rw [decide_eq_false h,decide_eq_false e]
theorem Zbc(a:Int)(b:Str):decide ((Sum.inl a:Key)=Sum.inr b)=false:=decide_eq_false (fun q=>nomatch q)
theorem Zbd(a:Str)(b:Int):decide ((Sum.inr a:Key)=Sum.inl b)=false:=decide_eq_false (fun q=>nomatch q)
noncomputable def Z0a(prog:Program)(w:World):PySem.KeyKind prog w Key where
 is:=keyIs
 hash:=keyH w
 inj:=fun v a b ha hb=>by
  rcases Z0v ha with ⟨i,t,rfl,rfl⟩ | ⟨x,t,rfl,rfl⟩
  ·rcases Z0v hb with ⟨j,u,rfl,e⟩ | ⟨y,u,rfl,e⟩
   ·injection e with e1 _;rw [e1]
   ·exact nomatch e
  ·rcases Z0v hb with ⟨j,u,rfl,e⟩ | ⟨y,u,rfl,e⟩
   ·exact nomatch e
   ·injection e with e1 _;rw [e1]
 byValue:=fun k v h=>by
  rcases Z0v h with ⟨i,t,rfl,rfl⟩ | ⟨x,t,rfl,rfl⟩ <;> rfl
 pyHash:=fun hv h=>by
  rcases Z0v hv with ⟨i,t,rfl,rfl⟩ | ⟨x,t,rfl,rfl⟩
  ·exact wpAny_pyHash_int h
  ·exact wpAny_pyHash_str h
 eqBool:=fun hu hv h=>by
  rcases Z0v hu with ⟨i,t,rfl,rfl⟩ | ⟨x,t,rfl,rfl⟩
  ·rcases Z0v hv with ⟨j,u,rfl,rfl⟩ | ⟨y,u,rfl,rfl⟩
   ·rw [Zbb] at h;exact wpAny_eqBool_int h
   ·rw [Zbc] at h;exact SeqAt.EqAt.int_str i t y u _ _ _ _ h
  ·rcases Z0v hv with ⟨j,u,rfl,rfl⟩ | ⟨y,u,rfl,rfl⟩
   ·rw [Zbd] at h;exact SeqAt.EqAt.str_int x t j u _ _ _ _ h
   ·rw [Zbe] at h;exact wpAny_eqBool_str h
 «strs»:=fun k x t v h=>by
  rcases Z0v h with ⟨i,u,rfl,e⟩ | ⟨y,u,rfl,e⟩
  ·exact nomatch e
  ·injection e with e1 _
   subst e1
   cases v <;> rfl
theorem Z6S(prog:Program)(w:World)(i:Int)(t:Tok):(Z0a prog w).is (.inl i) (.int i t)=true:=Z8L i t
theorem Z6T(prog:Program)(w:World)(x:Str)(t:Tok):(Z0a prog w).is (.inr x) (.str x t)=true:=Z8M x t
end L2
namespace L2
open PySem PySem.Spec PyProof.Rows
inductive V where
 | non | bl (b:Bool) | int (i:Int) | str (x:Str) | byt (b:Array UInt8) | flt (b:UInt64) | ref (a:Addr) | ty (n:String)
 deriving DecidableEq
noncomputable def RelV:V→Value→Prop
 | .non,u=>u=Value.none
 | .bl b,u=>u=Value.bool b
 | .int i,u=>∃ t,u=Value.int i t
 | .str x,u=>∃ t,u=Value.str x t
 | .byt b,u=>∃ t,u=Value.bytes b t
 | .flt b,u=>∃ t,u=Value.float b t
 | .ref a,u=>u=Value.ref a
 | .ty n,u=>u=Value.type n
noncomputable abbrev Vals:List V→List Value→Prop:=Paired RelV
theorem Vals.length{xs:List V}{us:List Value}(r:Vals xs us):xs.length=us.length:=Paired.length r
theorem Vals.get:∀ {xs:List V} {us:List Value} {i:Nat} {x:V},Vals xs us→xs[i]?=some x→∃ u,us[i]?=some u∧RelV x u
 | _,_,_,_,.nil,e=>by simp at e
 | _,_,0,_,.cons r _,e=>by simp at e;subst e;exact ⟨_,rfl,r⟩
 | _,_,i + 1,x,.cons _ t,e=>by
  obtain ⟨u,h1,h2⟩:=Vals.get (i:=i) (x:=x) t (by simpa using e)
  exact ⟨u,by simpa using h1,h2⟩
theorem Vals.set{x:V}{u:Value}(r:RelV x u):∀ {xs:List V} {us:List Value} (i:Nat),Vals xs us→Vals (xs.set i x) (us.set i u)
 | _,_,_,.nil=>.nil
 | _,_,0,.cons _ t=>.cons r t
 | _,_,i + 1,.cons q t=>.cons q (Vals.set r i t)
theorem Vals.append:∀ {xs ys:List V} {us ws:List Value},Vals xs us→Vals ys ws→Vals (xs++ys) (us++ws)
 | _,_,_,_,.nil,s=>s
 | _,_,_,_,.cons r t,s=>.cons r (Vals.append t s)
theorem Vals.take:∀ {xs:List V} {us:List Value} (n:Nat),Vals xs us→Vals (xs.take n) (us.take n)
 | _,_,0,_=>.nil
 | _,_,_ + 1,.nil=>.nil
 | _,_,n + 1,.cons r t=>.cons r (Vals.take n t)
theorem Vals.drop:∀ {xs:List V} {us:List Value} (n:Nat),Vals xs us→Vals (xs.drop n) (us.drop n)
 | _,_,0,r=>r
 | _,_,_ + 1,.nil=>.nil
 | _,_,n + 1,.cons _ t=>Vals.drop n t
noncomputable def RelO:Option V→Option Value→Prop
 | some v,some u=>RelV v u
 | none,none=>True
 | _,_=>False
noncomputable def KV{κ:Type}:List (κ×V)→List (κ×Value)→Prop:=Paired fun (p:κ×V) (q:κ×Value)=>p.1=q.1∧RelV p.2 q.2
noncomputable def kV:Key→V
 | .inl i=>.int i
 | .inr x=>.str x
inductive HO where
 | lst (xs:List V)
 | tup (xs:List V)
 | dK (kvs:List (Key×V)) | dT (kvs:List (List Key×V))
 | set (S:Int→Bool) (n:Nat)
 | ins (C dx:Addr) (fs:List (Str×V))
 | own (x:Addr)
 | xd (fs:List (Str×V))
 | met (f x:Addr)
 | rng (lo hi:Int)
 | frz (o:Obj) (u:HO)
 | tbl (ps:Array Value)
 | ext (φ:Heap→Prop)
noncomputable abbrev Hp:=Addr→Option HO
noncomputable def upd(H:Hp)(a:Addr)(o:HO):Hp:=fun b=>if b=a then some o else H b
theorem Zx{H:Hp}{a:Addr}{o:HO}:upd H a o a=some o:=by unfold upd;rw [if_pos rfl]
theorem Zc{H:Hp}{a b:Addr}{o:HO}(h:b≠a):upd H a o b=H b:=by unfold upd;rw [if_neg h]
theorem ne_of{H:Hp}{a b:Addr}{o u:HO}(h:H a=some o)(h':H b=some u)(d:o≠u):a≠b:=by
 intro e;subst e;rw [h] at h';exact d (Option.some.inj h')
theorem Z0d{H:Hp}{a b:Addr}{o:HO}(h:H a=some o)(h':H b=none):a≠b:=by
 intro e;subst e;rw [h] at h';cases h'
section
variable (P:Program)(w:World)
noncomputable def Z0h(H:Hp)(h:Heap)(a:Addr):HO→Prop
 | .lst xs=>xs.length≤sizeLine∧∃ (its:List Value) (n:Nat),Vals xs its∧h.get? a=some { cls:=.type "list",data:=.seq its.toArray n }
 | .tup xs=>xs.length≤sizeLine∧∃ its:List Value,Vals xs its∧IsTup h a its.toArray
 | .dK kvs=>kvs.length≤sizeLine∧(a == sysModules)=false∧∃ vs,KV kvs vs∧h.DictOf (Z0a P w) a vs
 | .dT kvs=>kvs.length≤sizeLine∧(a == sysModules)=false∧∃ xs:List (List Key×Addr×Value),
   Paired (fun (p:List Key×V) (q:List Key×Addr×Value)=>p.1=q.1∧H q.2.1=some (.tup (p.1.map kV))∧RelV p.2 q.2.2) kvs xs ∧
   ∃ o es ep,h.get? a=some o∧o.ExactDict∧o.data=.dict es ep∧es.toList=xs.map (entryOfKey (tupleKind (Z0a P w)))∧(xs.map (·.1)).Nodup
 | .set S n=>h.SetOf (intKind P w) a S n
 | .ins C dx fs=>H dx=some (.own a)∧fs.length≤1000∧dx≠a∧h.get? a=some (PySem.W.instObj C dx) ∧
   ∃ mA,h.Ns1 dx mA∧(∀ f,RelO (fs.lookup f) (mA f))∧PySem.Within mA (fs.map (·.1))
 | .own _=>∃ o,h.get? a=some o
 | .xd fs=>∃ mA,h.Ns1 a mA∧∀ f,RelO (fs.lookup f) (mA f)
 | .rng lo hi=>∃ t u v,h.get? a=some { cls:=.type "range",data:=.fields #[.int lo t,.int hi u,.int 1 v] }
 | .frz o u=>h.get? a=some o∧Z0h H h a u
 | .tbl ps=>h.get? a=some { cls:=.none,data:=.fields ps }
 | .met f x=>h.get? a=some (PySem.W.methodObj (.ref f) (.ref x))
 | .ext φ=>φ h∧(∃ o,h.get? a=some o)∧∀ h1 h2:Heap,φ h1→(∀ o,h1.get? a=some o→h2.get? a=some o)→φ h2
noncomputable def HOk(H:Hp)(h:Heap):Prop:=∀ a o,H a=some o→Z0h P w H h a o
end
section
variable {P:Program}{w:World}{H H':Hp}{h h':Heap}{a:Addr}{o:HO}
theorem Z0h.lt(x:Z0h P w H h a o):a < h.objs.size:=by
 cases o with
 | lst xs=>obtain ⟨_,_,_,_,e⟩:=x;exact Heap.lt_size e
 | tup xs=>obtain ⟨_,_,_,p⟩:=x;exact p.lt
 | dK kvs=>obtain ⟨_,_,_,_,o,_,_,e,_⟩:=x;exact Heap.lt_size e
 | dT kvs=>obtain ⟨_,_,_,_,o,_,_,e,_⟩:=x;exact Heap.lt_size e
 | set S n=>obtain ⟨o,_,_,_,e,_⟩:=x;exact Heap.lt_size e
 | ins C dx fs=>obtain ⟨_,_,_,e,_⟩:=x;exact Heap.lt_size e
 | own y=>obtain ⟨_,e⟩:=x;exact Heap.lt_size e
 | xd fs=>obtain ⟨_,⟨_,_,_,e,_⟩,_⟩:=x;exact Heap.lt_size e
 | rng lo hi=>obtain ⟨_,_,_,e⟩:=x;exact Heap.lt_size e
 | frz ob u=>obtain ⟨e,_⟩:=x;exact Heap.lt_size e
 | tbl ps=>exact Heap.lt_size (show h.get? a=some _ from x)
 | met f y=>exact Heap.lt_size (show h.get? a=some _ from x)
 | ext φ=>obtain ⟨_,⟨_,e⟩,_⟩:=x;exact Heap.lt_size e
theorem Paired.mapP{α β:Type}{F G:α→β→Prop}:∀ {l₁:List α} {l₂:List β},Paired F l₁ l₂→(∀ a b,F a b→G a b)→Paired G l₁ l₂
 | _,_,.nil,_=>.nil
 | _,_,.cons r t,f=>.cons (f _ _ r) (Paired.mapP t f)
theorem Z0h.stay(x:Z0h P w H h a o)(k:∀ b u,(b=a∨H b=some (.own a))→h.get? b=some u→h'.get? b=some u)
  (ho:∀ b,H b=some (.own a)→H' b=some (.own a)) (ht:∀ b xs,H b=some (.tup xs)→H' b=some (.tup xs)):Z0h P w H' h' a o:=by
 induction o with
 | lst xs=>obtain ⟨z,its,n,r,e⟩:=x;exact ⟨z,its,n,r,k _ _ (.inl rfl) e⟩
 | tup xs=>obtain ⟨z,its,r,ob,e,c⟩:=x;exact ⟨z,its,r,ob,k _ _ (.inl rfl) e,c⟩
 | dK kvs=>obtain ⟨z,y,vs,r,ob,es,ep,e,c⟩:=x;exact ⟨z,y,vs,r,ob,es,ep,k _ _ (.inl rfl) e,c⟩
 | dT kvs =>
  obtain ⟨z,y,xs,r,ob,es,ep,e,c⟩:=x
  exact ⟨z,y,xs,Paired.mapP r fun p q z=>⟨z.1,ht _ _ z.2.1,z.2.2⟩,ob,es,ep,k _ _ (.inl rfl) e,c⟩
 | set S n=>obtain ⟨ob,es,ep,t,e,c⟩:=x;exact ⟨ob,es,ep,t,k _ _ (.inl rfl) e,c⟩
 | ins C dx fs =>
  obtain ⟨d,z,ne,e,mA,⟨od,es,ep,e2,c⟩,r⟩:=x
  exact ⟨ho _ d,z,ne,k _ _ (.inl rfl) e,mA,⟨od,es,ep,k _ _ (.inr d) e2,c⟩,r⟩
 | own y=>obtain ⟨ob,e⟩:=x;exact ⟨ob,k _ _ (.inl rfl) e⟩
 | xd fs=>obtain ⟨mA,⟨od,es,ep,e,c⟩,r⟩:=x;exact ⟨mA,⟨od,es,ep,k _ _ (.inl rfl) e,c⟩,r⟩
 | rng lo hi=>obtain ⟨t,u,v,e⟩:=x;exact ⟨t,u,v,k _ _ (.inl rfl) e⟩
 | frz ob u ih=>obtain ⟨e,q⟩:=x;exact ⟨k _ _ (.inl rfl) e,ih q⟩
 | tbl ps =>
  have e:h.get? a=some { cls:=.none,data:=.fields ps }:=x
  show h'.get? a=some { cls:=.none,data:=.fields ps }
  exact k a _ (.inl rfl) e
 | met f y =>
  have e:h.get? a=some (PySem.W.methodObj (.ref f) (.ref y)):=x
  show h'.get? a=some (PySem.W.methodObj (.ref f) (.ref y))
  exact k a _ (.inl rfl) e
 | ext φ=>obtain ⟨p,⟨o,e⟩,st⟩:=x;exact ⟨st _ _ p fun o q=>k _ _ (.inl rfl) q,⟨o,k _ _ (.inl rfl) e⟩,st⟩
theorem HOk.lt(x:HOk P w H h)(e:H a=some o):a < h.objs.size:=(x a o e).lt
theorem HOk.fresh(x:HOk P w H h)(e:h.objs.size≤a):H a=none:=by
 cases q:H a with
 | none=>rfl
 | some u=>exact absurd (Jc (x.lt q) e) (Js _)
theorem HOk.kept(x:HOk P w H h)(k:∀ b u,h.get? b=some u→h'.get? b=some u):HOk P w H h':=fun a o e =>
 (x a o e).stay (fun b u _ q=>k b u q) (fun _ q=>q) fun _ _ q=>q
theorem HOk.laid(x:HOk P w H h)(k:∀ b u,h.get? b=some u→h'.get? b=some u)(hp:h.objs.size≤a)(new:Z0h P w (upd H a o) h' a o):HOk P w (upd H a o) h':=fun b u e=>by
 have hn:=x.fresh hp
 by_cases hb:b=a
 ·subst hb;rw [Zx] at e;cases e;exact new
 ·rw [Zc hb] at e
  exact (x b u e).stay (fun c v _ q=>k c v q) (fun c q=>by rw [Zc (Z0d q hn)];exact q) fun c xs q=>by rw [Zc (Z0d q hn)];exact q
end
noncomputable def Rd(H:Hp)(a:Addr)(u:HO):Prop:=H a=some u∨∃ o,H a=some (.frz o u)
theorem Rd.ok{P:Program}{w:World}{H:Hp}{h:Heap}{a:Addr}{u:HO}(r:Rd H a u)(x:HOk P w H h):Z0h P w H h a u:=by
 rcases r with r | ⟨o,r⟩
 ·exact x a u r
 ·obtain ⟨_,q⟩:=x a _ r
  exact q
noncomputable def Mut:Option HO→Prop
 | some (.lst _)=>True
 | some (.dK _)=>True
 | some (.dT _)=>True
 | some (.set _ _)=>True
 | some (.ins _ _ _)=>True
 | some (.ext _)=>True
 | _=>False
section
variable {P:Program}{w:World}{H:Hp}{h h':Heap}{x e:Addr}{o':HO}
theorem HOk.write(ok:HOk P w H h)(mu:Mut (H x))(he:e=x∨H e=some (.own x))(k:∀ b u,b≠e→h.get? b=some u→h'.get? b=some u)(heo:∃ u,h'.get? e=some u)
  (new:Z0h P w (upd H x o') h' x o'):HOk P w (upd H x o') h':=fun b u q=>by
 have nown:∀ c y,H c=some (.own y)→c≠x:=fun c y r z=>by subst z;rw [r] at mu;exact mu
 have ntup:∀ c xs,H c=some (.tup xs)→c≠x:=fun c xs r z=>by subst z;rw [r] at mu;exact mu
 by_cases hb:b=x
 ·subst hb;rw [Zx] at q;cases q;exact new
 ·rw [Zc hb] at q
  by_cases hbe:b=e
  ·have q':H b=some (.own x):=by
    rcases he with z | z
    ·exact absurd (hbe.trans z) hb
    ·rw [hbe];exact z
   rw [q] at q';cases q'
   obtain ⟨v,hv⟩:=heo
   exact ⟨v,by rw [hbe];exact hv⟩
  ·refine (ok b u q).stay (fun c v hc r=>k c v ?_ r) (fun c r=>by rw [Zc (nown c b r)];exact r) fun c xs r=>by rw [Zc (ntup c xs r)];exact r
   rcases hc with rfl | hc
   ·exact hbe
   ·rintro rfl
    rcases he with z | z
    ·exact nown c b hc z
    ·rw [hc] at z;cases z;exact hb rfl
end

structure Un(fs ex:List Addr)(H H':Hp)(h h':Heap):Prop where
 keep:∀ b o,h.get? b=some o→H b=none→b∉fs→b∉ex→h'.get? b=some o
 slot:∀ b o,h.get? b=some o→H b=none→b∈fs→b∉ex→∃ sl,h'.get? b=some { o with slots:=sl }
 free:∀ b o,h.get? b=some o→H b=none→b∉ex→H' b=none
 there:∀ b o,h.get? b=some o→b∉ex→∃ o',h'.get? b=some o'
 tups:∀ b xs,H b=some (.tup xs)→H' b=some (.tup xs)
 frzs:∀ b o u,H b=some (.frz o u)→H' b=some (.frz o u)
 tbls:∀ b ps,H b=some (.tbl ps)→∃ more,H' b=some (.tbl (ps++more))
section
variable {fs fs' ex ex':List Addr}{H H1 H2:Hp}{h h1 h2 h':Heap}{a x e:Addr}{o:HO}
theorem Un.any(u:Un fs ex H H1 h h1){b:Addr}{ob:Obj}(q:h.get? b=some ob)(n:H b=none)(hx:b∉ex):∃ sl,h1.get? b=some { ob with slots:=sl }:=by
 by_cases hb:b∈fs
 ·exact u.slot b ob q n hb hx
 ·exact ⟨ob.slots,u.keep b ob q n hb hx⟩
theorem Un.kept(k:∀ b u,h.get? b=some u→h'.get? b=some u):Un fs ex H H h h' :=
 ⟨fun b ob q _ _ _=>k b ob q,fun b ob q _ _ _=>⟨ob.slots,k b ob q⟩,fun _ _ _ n _=>n,fun b ob q _=>⟨ob,k b ob q⟩,fun _ _ q=>q,fun _ _ _ q=>q,fun _ ps q=>⟨#[],by rw [q];simp⟩⟩
theorem Un.refl:Un fs ex H H h h:=Un.kept fun _ _ q=>q
theorem Un.laid(k:∀ b u,h.get? b=some u→h'.get? b=some u)(hp:h.objs.size≤a)(hn:H a=none):Un fs ex H (upd H a o) h h' where
 keep:=fun b u q _ _ _=>k b u q
 slot:=fun b u q _ _ _=>⟨u.slots,k b u q⟩
 free:=fun b u q n _=>by rw [Zc (Jl (Jc (Heap.lt_size q) hp))];exact n
 there:=fun b u q _=>⟨u,k b u q⟩
 tups:=fun b xs q=>by rw [Zc (Z0d q hn)];exact q
 frzs:=fun b u xs q=>by rw [Zc (Z0d q hn)];exact q
 tbls:=fun b ps q=>⟨#[],by rw [Zc (Z0d q hn),q];simp⟩
theorem Un.write(mu:Mut (H x))(he:e=x∨H e=some (.own x))(k:∀ b u,b≠e→h.get? b=some u→h'.get? b=some u)(heo:∃ u,h'.get? e=some u):Un fs ex H (upd H x o) h h':=by
 have hx:∀ b,H b=none→b≠x:=fun b n z=>by subst z;rw [n] at mu;exact mu
 have hb:∀ b,H b=none→b≠e:=fun b n z=>by
  subst z
  rcases he with r | r
  ·exact hx b n r
  ·rw [n] at r;cases r
 have hm:∀ b u,H b=some u→¬ Mut (some u)→b≠x:=fun b u q nm z=>by subst z;rw [q] at mu;exact nm mu
 refine ⟨fun b u q n _ _=>k b u (hb b n) q,fun b u q n _ _=>⟨u.slots,k b u (hb b n) q⟩,fun b u q n _=>by rw [Zc (hx b n)];exact n,fun b u q _=>?_,
  fun b xs q=>by rw [Zc (hm b _ q fun z=>z)];exact q,fun b u xs q=>by rw [Zc (hm b _ q fun z=>z)];exact q,fun b ps q=>⟨#[],by rw [Zc (hm b _ q fun z=>z),q];simp⟩⟩
 by_cases hbe:b=e
 ·subst hbe;exact heo
 ·exact ⟨u,k b u hbe q⟩
end

noncomputable def trk(h:Heap)(H:Hp):List Addr:=(List.range h.objs.size).filter fun a=>(H a).isSome
noncomputable def hidT(h:Heap)(H:Hp):Heap:=PySem.W.hideAll h (trk h H)
theorem Z8y(h:Heap)(H:Hp):(hidT h H).objs.size=h.objs.size:=PySem.W.hideAll_size _ _
theorem Z9u{h:Heap}{H:Hp}{b:Addr}{o:Obj}(e:h.get? b=some o)(n:H b=none):(hidT h H).get? b=some o :=
 PySem.W.hideAll_get _ e fun hm=>by
  have q:(H b).isSome=true:=(Qn.mp hm).2
  rw [n] at q;simp at q
theorem Zak{h:Heap}{H:Hp}{b:Addr}{o:Obj}(e:(hidT h H).get? b=some o):h.get? b=some o∧H b=none:=by
 have e':h.get? b=some o:=PySem.W.of_hideAll (trk h H) e
 refine ⟨e',?_⟩
 cases q:H b with
 | none=>rfl
 | some x =>
  have hm:b∈trk h H:=Qn.mpr ⟨Wi.mpr (Heap.lt_size e'),by simp [q]⟩
  have z:(hidT h H).get? b=none:=PySem.W.hideAll_none (trk h H) hm
  rw [z] at e;cases e

noncomputable def allNews(g h:Heap)(L:Addr):List (Addr×Obj):=(List.range h.objs.size).filterMap fun a=>if a=L∨(g.get? a).isSome=true then none else (h.get? a).map fun o=>(a,o)
noncomputable def rest(g h:Heap)(L d:Addr):List (Addr×Obj):=(allNews g h L).filter fun p=>decide (p.1≠d)
end L2
namespace L2
open PySem PySem.Spec PyProof.Rows
structure Mod(K:Qd)(mg:Str→Option Value)(base:Heap):Prop where
 kin:K.In base
 glob:base.Ns mainGlobals mg
 blt:∃ mb,base.Ns builtinsNs mb∧∀ x:Str,x ≠ "__name__"→mb x=bootBuiltins x
 nolimit:base.NoLimit
structure Cx where
 prog:Program
 w:World
 K:Qd
 mg:Str→Option Value
 base:Heap
 A:Around
 N:List Str
 s₀:Shared
 H₀:Hp
 env:Env
 outer:List Env
 stack:List Env
 ex:List Addr
 fn:Str→Bool
 calm:Bool
 pn:List (Addr×Obj)
 xe:Value→Shared→Prop
noncomputable def frs(l:List Env):List Addr:=l.filterMap (·.frame)
noncomputable abbrev Cx.fs(X:Cx):List Addr:=frs X.outer
noncomputable def Vis(sc:Scope)(x:Str):Prop:=sc.names.lookup x=some .local∨sc.names.lookup x=some .cell∨sc.names.lookup x=some .free
noncomputable def Loc(sc:Scope)(x:Str):Prop:=sc.names.lookup x=some .local∨sc.names.lookup x=some .cell
noncomputable def Look(env:Env)(h:Heap)(m:Str→Option Value)(x:Str)(u:Value):Prop :=
 (env.kindOf x=some .local∧m x=some u)∨((env.kindOf x=some .cell∨env.kindOf x=some .free)∧∃ c,env.cells.lookup x=some c∧h.IsCell c (some u))
structure Cx.Ok(X:Cx):Prop where
 mod:Mod X.K X.mg X.base
 kind:X.env.scope.kind=.function
 glob:X.env.globals=mainGlobals
 blt:X.env.builtins=builtinsNs
 above:X.s₀.heap.objs.size≤X.env.locals
 inj:∀ x y c,X.env.cells.lookup x=some c→X.env.cells.lookup y=some c→x=y
 has:∀ x,(X.env.kindOf x=some .cell∨X.env.kindOf x=some .free)→∃ c,X.env.cells.lookup x=some c
 cab:∀ x c,X.fn x=true→X.env.cells.lookup x=some c→X.s₀.heap.objs.size≤c
 hd:X.calm=true→X.A.handled=none
 frames:X.A.frames=some X.stack
 stk:X.stack=X.outer∨(X.stack=X.env::X.outer∧X.env.frame=some X.env.locals)
 exf:∀ b∈X.ex,b≠X.env.locals∧∀ x c,X.env.cells.lookup x=some c→c≠b
 bs:∀ b o,X.base.get? b=some o→X.s₀.heap.get? b=some o∧X.H₀ b=none
 bsz:X.base.objs.size≤X.s₀.heap.objs.size
 noex:∀ b o,X.base.get? b=some o→b∉X.ex
 exfs:∀ b∈X.ex,b∉X.fs
 funs:X.s₀.heap.FunFrames X.base X.outer
 frf:∀ b∈X.fs,X.H₀ b=none
structure Inv(X:Cx)(pins:List (Addr×Obj))(σ:List (Option V))(H:Hp)(s:Shared):Prop where
 ok:X.Ok
 os:s.os=X.s₀.os
 bare:AllBare s.gens
 base:Un X.fs X.ex X.H₀ H X.s₀.heap s.heap
 loc:∃ m,s.heap.Ns X.env.locals m∧∀ (i:Nat) (x:Str) (v:V),X.N[i]?=some x→σ[i]?=some (some v)→Vis X.env.scope x→∃ u,RelV v u∧Look X.env s.heap m x u
 cell:∀ x c,X.env.cells.lookup x=some c→∃ v,s.heap.IsCell c v
 free:H X.env.locals=none
 freeC:∀ x c,X.env.cells.lookup x=some c→H c=none
 pin:∀ p∈X.pn++pins,s.heap.get? p.1=some p.2∧H p.1=none∧p.1≠X.env.locals∧p.1∉X.fs∧∀ v,p.2.data≠.cell v
 hok:HOk X.prog X.w H s.heap
 len:σ.length=X.N.length
section
variable {X:Cx}{pins:List (Addr×Obj)}{σ:List (Option V)}{H H':Hp}{s:Shared}{h':Heap}
theorem Cx.Ok.nofr(ok:X.Ok){b:Addr}{o:Obj}(e:X.base.get? b=some o):b∉X.fs:=fun hb=>by
 have:=(ok.funs.mem hb).1
 rw [e] at this;cases this
theorem Inv.bs(I:Inv X pins σ H s):∀ b o,X.base.get? b=some o→s.heap.get? b=some o∧H b=none:=fun b o e =>
 ⟨I.base.keep b o (I.ok.bs b o e).1 (I.ok.bs b o e).2 (I.ok.nofr e) (I.ok.noex b o e),I.base.free b o (I.ok.bs b o e).1 (I.ok.bs b o e).2 (I.ok.noex b o e)⟩
theorem Inv.bk(I:Inv X pins σ H s):∀ b o,X.base.get? b=some o→s.heap.get? b=some o:=fun b o e=>(I.bs b o e).1
theorem Inv.mod(I:Inv X pins σ H s):Mod X.K X.mg X.base:=I.ok.mod
theorem Inv.kIn(I:Inv X pins σ H s):X.K.In s.heap:=I.ok.mod.kin.keeps I.bk
theorem Inv.lt(I:Inv X pins σ H s):X.env.locals < s.heap.objs.size:=let ⟨_,hn,_⟩:=I.loc;hn.lt
theorem Inv.sz(I:Inv X pins σ H s):X.s₀.heap.objs.size≤s.heap.objs.size:=Wm I.ok.above (Gq I.lt)
theorem Inv.nofs(I:Inv X pins σ H s){a:Addr}(h:s.heap.objs.size≤a):a∉X.fs:=fun hb=>by
 obtain ⟨_,o,ho,_⟩:=I.ok.funs.mem hb
 exact absurd (Jc (Heap.lt_size ho) (Wm I.sz h)) (Js _)
theorem Inv.cne(I:Inv X pins σ H s):∀ x c,X.env.cells.lookup x=some c→c≠X.env.locals:=fun x c e z=>by
 obtain ⟨v,o,ho,hd⟩:=I.cell x c e
 obtain ⟨m,⟨o',es,ep,ho',hd',_⟩,_⟩:=I.loc
 rw [z,ho'] at ho;cases ho;rw [hd'] at hd;cases hd
theorem Inv.funs(I:Inv X pins σ H s):s.heap.FunFrames X.base X.outer:=by
 have all:∀ (l:List Env),(∀ b∈frs l,b∈X.fs)→X.s₀.heap.FunFrames X.base l→s.heap.FunFrames X.base l:=by
  intro l
  induction l with
  | nil=>intro _ _;trivial
  | cons env r ih =>
   intro hs hl
   obtain ⟨hk,⟨L,o,hf,hn,ho,hd⟩,hr⟩:=hl
   have hL:L∈X.fs:=hs L (by unfold frs;rw [Jw,hf];exact Qy)
   obtain ⟨sl,e⟩:=I.base.slot L o ho (I.ok.frf L hL) hL fun z=>I.ok.exfs L z hL
   exact ⟨hk,⟨L,_,hf,hn,e,hd⟩,ih (fun b hb=>hs b (by unfold frs;rw [Jw,hf];exact Qv _ hb)) hr⟩
 exact all X.outer (fun _ hb=>hb) I.ok.funs
theorem Inv.stack(I:Inv X pins σ H s):s.heap.FunFrames X.base X.stack:=by
 rcases I.ok.stk with e | ⟨e,hf⟩
 ·rw [e];exact I.funs
 ·rw [e]
  obtain ⟨m,hn,_⟩:=I.loc
  refine .cons (by rw [I.ok.kind];decide) hf hn ?_ I.funs
  exact Heap.get?_none_of_le (Wm I.ok.bsz I.ok.above)
theorem Inv.stkSub(I:Inv X pins σ H s):∀ b∈frs X.stack,b∈X.env.locals::X.fs:=fun b hb=>by
 rcases I.ok.stk with e | ⟨e,hf⟩
 ·rw [e] at hb;exact Qv _ hb
 ·rw [e] at hb
  unfold frs at hb
  rw [Jw,hf] at hb
  exact hb
theorem Inv.stkFree(I:Inv X pins σ H s):∀ b∈frs X.stack,H b=none:=fun b hb=>by
 rcases Qz.mp (I.stkSub b hb) with e | hb
 ·rw [e];exact I.free
 ·obtain ⟨_,o,ho,_⟩:=I.ok.funs.mem hb
  exact I.base.free b o ho (I.ok.frf b hb) fun z=>I.ok.exfs b z hb
theorem Inv.step{g':Array GenState}{t':Nat}{d':Drawn}{ch:List Addr}(I:Inv X pins σ H s)
  (hch:∀ b∈ch,(b∈X.ex∨X.s₀.heap.objs.size≤b)∧b≠X.env.locals∧(∀ x c,X.env.cells.lookup x=some c→c≠b)∧∀ p∈X.pn++pins,p.1≠b)
  (keep:∀ b o,b≠X.env.locals→b∉X.fs→b∉ch→s.heap.get? b=some o→H b=none→h'.get? b=some o)
  (slot:∀ b o,b≠X.env.locals→b∈X.fs→b∉ch→s.heap.get? b=some o→H b=none→∃ sl,h'.get? b=some { o with slots:=sl }) (free:∀ b o,b∉ch→s.heap.get? b=some o→H b=none→H' b=none)
  (there:∀ b o,b∉ch→s.heap.get? b=some o→∃ o',h'.get? b=some o')
  (tups:∀ b xs,H b=some (.tup xs)→H' b=some (.tup xs)) (frzs:∀ b o u,H b=some (.frz o u)→H' b=some (.frz o u)) (tbls:∀ b ps,H b=some (.tbl ps)→∃ more,H' b=some (.tbl (ps++more)))
  (ns:∀ m,s.heap.Ns X.env.locals m→h'.Ns X.env.locals m) (hok:HOk X.prog X.w H' h') (hg:AllBare g') :
  Inv X pins σ H' { s with heap:=h',gens:=g',drawn:=d',toks:=t' }:=by
 have neL:∀ b o,X.s₀.heap.get? b=some o→b≠X.env.locals:=fun b o e=>Jl (Jc (Heap.lt_size e) I.ok.above)
 have neC:∀ b o,X.s₀.heap.get? b=some o→b∉X.ex→b∉ch:=fun b o e hx hb=>by
  rcases (hch b hb).1 with z | z
  ·exact hx z
  ·exact absurd (Jc (Heap.lt_size e) z) (Js _)
 have cellK:∀ x c,X.env.cells.lookup x=some c→∀ v,s.heap.IsCell c v→h'.IsCell c v:=fun x c e v ⟨o,ho,hd⟩=>by
  have nch:c∉ch:=fun z=>(hch c z).2.2.1 x c e rfl
  by_cases hc:c∈X.fs
  ·obtain ⟨sl,q⟩:=slot c o (I.cne x c e) hc nch ho (I.freeC x c e)
   exact ⟨_,q,hd⟩
  ·exact ⟨o,keep c o (I.cne x c e) hc nch ho (I.freeC x c e),hd⟩
 refine ⟨I.ok,I.os,hg,⟨fun b o e n hb hx=>?_,fun b o e n hb hx=>?_,fun b o e n hx=>?_,fun b o e hx=>?_,fun b xs e=>tups b xs (I.base.tups b xs e),fun b o xs e=>frzs b o xs (I.base.frzs b o xs e),fun b ps e=>?_⟩,?_,fun x c e=>?_,?_,fun x c e=>?_,fun p hp=>?_,hok,I.len⟩
 ·exact keep b o (neL b o e) hb (neC b o e hx) (I.base.keep b o e n hb hx) (I.base.free b o e n hx)
 ·obtain ⟨sl,e1⟩:=I.base.slot b o e n hb hx
  obtain ⟨sl',e2⟩:=slot b _ (neL b o e) hb (neC b o e hx) e1 (I.base.free b o e n hx)
  exact ⟨sl',e2⟩
 ·obtain ⟨o',e1⟩:=I.base.there b o e hx
  exact free b o' (neC b o e hx) e1 (I.base.free b o e n hx)
 ·obtain ⟨o',e1⟩:=I.base.there b o e hx
  exact there b o' (neC b o e hx) e1
 ·obtain ⟨m1,e1⟩:=I.base.tbls b ps e
  obtain ⟨m2,e2⟩:=tbls b _ e1
  exact ⟨m1++m2,by rw [e2,Array.append_assoc]⟩
 ·obtain ⟨m,hn,hl⟩:=I.loc
  refine ⟨m,ns m hn,fun i x v e1 e2 e3=>?_⟩
  obtain ⟨u,r,l⟩:=hl i x v e1 e2 e3
  refine ⟨u,r,?_⟩
  rcases l with l | ⟨k,c,e,z⟩
  ·exact .inl l
  ·exact .inr ⟨k,c,e,cellK x c e _ z⟩
 ·obtain ⟨v,z⟩:=I.cell x c e
  exact ⟨v,cellK x c e v z⟩
 ·obtain ⟨m,⟨o,_,_,ho,_⟩,_⟩:=I.loc
  exact free _ o (fun z=>(hch _ z).2.1 rfl) ho I.free
 ·obtain ⟨v,o,ho,hd⟩:=I.cell x c e
  exact free c o (fun z=>(hch c z).2.2.1 x c e rfl) ho (I.freeC x c e)
 ·obtain ⟨e,n,ne,nf,d⟩:=I.pin p hp
  have nch:p.1∉ch:=fun z=>(hch p.1 z).2.2.2 p hp rfl
  exact ⟨keep p.1 p.2 ne nf nch e n,free p.1 p.2 nch e n,ne,nf,d⟩
theorem Inv.un{t':Nat}(I:Inv X pins σ H s)(u:Un X.fs [] H H' s.heap h')(hok:HOk X.prog X.w H' h'):Inv X pins σ H' { s with heap:=h',toks:=t' }:=by
 obtain ⟨m,⟨o,es,ep,ho,r⟩,_⟩:=id I.loc
 obtain ⟨sl,hL⟩:=u.any ho I.free (by simp)
 exact I.step (g':=s.gens) (d':=s.drawn) (ch:=[]) (fun _ z=>nomatch z) (fun b o _ hb _ e n=>u.keep b o e n hb (by simp)) (fun b o _ hb _ e n=>u.slot b o e n hb (by simp)) (fun b o _ e n=>u.free b o e n (by simp)) (fun b o _ e=>u.there b o e (by simp)) u.tups u.frzs u.tbls (fun m' hm=>by
  obtain ⟨o',es',ep',ho',r'⟩:=hm
  rw [ho] at ho';cases ho'
  exact ⟨_,es',ep',hL,r'⟩) hok I.bare
theorem Inv.call{g':Array GenState}{t':Nat}{d':Drawn}{ch:List Addr}(I:Inv X pins σ H s)(u:Un (frs X.stack) ch H H' s.heap h')(hok:HOk X.prog X.w H' h')(hg:AllBare g')
  (hch:∀ b∈ch,(b∈X.ex∨X.s₀.heap.objs.size≤b)∧b≠X.env.locals∧(∀ x c,X.env.cells.lookup x=some c→c≠b)∧∀ p∈X.pn++pins,p.1≠b) :
  Inv X pins σ H' { s with heap:=h',gens:=g',drawn:=d',toks:=t' }:=by
 obtain ⟨m,⟨o,es,ep,ho,r⟩,_⟩:=id I.loc
 obtain ⟨sl,hL⟩:=u.any ho I.free fun z=>(hch _ z).2.1 rfl
 exact I.step (ch:=ch) hch (fun b o hL hb hc e n=>u.keep b o e n (fun z=>(Qz.mp (I.stkSub b z)).elim hL hb) hc) (fun b o _ _ hc e n=>u.any e n hc) (fun b o hc e n=>u.free b o e n hc) (fun b o hc e=>u.there b o e hc) u.tups u.frzs u.tbls (fun m' hm=>by
  obtain ⟨o',es',ep',ho',r'⟩:=hm
  rw [ho] at ho';cases ho'
  exact ⟨_,es',ep',hL,r'⟩) hok hg
theorem Inv.turned{t':Nat}{it:Addr}(I:Inv X pins σ H s)(k:∀ b o,b≠it→s.heap.get? b=some o→h'.get? b=some o)(hn:H it=none)(hL:it≠X.env.locals)
  (h1:it∈X.ex∨X.s₀.heap.objs.size≤it) (h2:∀ x c,X.env.cells.lookup x=some c→c≠it) (h3:∀ p∈X.pn++pins,p.1≠it):Inv X pins σ H { s with heap:=h',toks:=t' }:=by
 have nit:∀ b u,H b=some u→b≠it:=fun b u e z=>by rw [z,hn] at e;cases e
 refine I.step (g':=s.gens) (d':=s.drawn) (ch:=[it]) (fun b hb=>?_) (fun b o _ _ hc e _=>k b o (fun z=>hc (by simp [z])) e) (fun b o _ _ hc e _=>⟨o.slots,k b o (fun z=>hc (by simp [z])) e⟩) (fun _ _ _ _ n=>n)
  (fun b o hc e=>⟨o,k b o (fun z=>hc (by simp [z])) e⟩) (fun _ _ e=>e) (fun _ _ _ e=>e) (fun b ps e=>⟨#[],by rw [e];simp⟩) (fun m hm=>?_) (fun b u e=>?_) I.bare
 ·have e:b=it:=by simpa using hb
  subst e
  exact ⟨h1,hL,h2,h3⟩
 ·obtain ⟨o,es,ep,ho,r⟩:=hm
  exact ⟨o,es,ep,k _ o (Ne.symm hL) ho,r⟩
 ·refine (I.hok b u e).stay (fun c v hc q=>k c v ?_ q) (fun _ q=>q) fun _ _ q=>q
  rcases hc with z | z
  ·rw [z];exact nit b u e
  ·exact nit c _ z
theorem Inv.tok(I:Inv X pins σ H s)(t:Nat):Inv X pins σ H { s with toks:=t }:=I.un (h':=s.heap) (t':=t) Un.refl I.hok
theorem Inv.kept{t':Nat}(I:Inv X pins σ H s)(k:∀ b u,s.heap.get? b=some u→h'.get? b=some u):Inv X pins σ H { s with heap:=h',toks:=t' }:=I.un (Un.kept k) (I.hok.kept k)
theorem Inv.laid{a:Addr}{o:HO}{t':Nat}(I:Inv X pins σ H s)(k:∀ b u,s.heap.get? b=some u→h'.get? b=some u)(hp:s.heap.objs.size≤a)(new:Z0h X.prog X.w (upd H a o) h' a o) :
  Inv X pins σ (upd H a o) { s with heap:=h',toks:=t' }:=I.un (Un.laid k hp (I.hok.fresh hp)) (I.hok.laid k hp new)
theorem Inv.write{x e:Addr}{o:HO}{t':Nat}(I:Inv X pins σ H s)(mu:Mut (H x))(he:e=x∨H e=some (.own x))(k:∀ b u,b≠e→s.heap.get? b=some u→h'.get? b=some u)(heo:∃ u,h'.get? e=some u)
  (new:Z0h X.prog X.w (upd H x o) h' x o):Inv X pins σ (upd H x o) { s with heap:=h',toks:=t' }:=I.un (Un.write mu he k heo) (I.hok.write mu he k heo new)
theorem Inv.pins_of{pins':List (Addr×Obj)}(I:Inv X pins σ H s)(h:∀ p∈pins',s.heap.get? p.1=some p.2∧H p.1=none∧p.1≠X.env.locals∧p.1∉X.fs∧∀ v,p.2.data≠.cell v):Inv X pins' σ H s :=
 ⟨I.ok,I.os,I.bare,I.base,I.loc,I.cell,I.free,I.freeC,fun p hp=>(Qe.mp hp).elim (fun z=>I.pin p (Qh _ z)) (h p),I.hok,I.len⟩
theorem Z6m{N:List Str}(hN:N.Nodup){i j:Nat}{x:Str}(a:N[i]?=some x)(b:N[j]?=some x):i=j:=by
 obtain ⟨h1,e1⟩:=Qc.mp a
 obtain ⟨h2,e2⟩:=Qc.mp b
 exact (Wr hN).mp (e1.trans e2.symm)
theorem Z5r{M:Model}{A:Around}{E:Value→Shared→Prop}{i:Nat}{x:Str}{v:V}{u:Value}{Q:Unit→Shared→Prop}(I:Inv X pins σ H s)(hN:X.N.Nodup)(hi:X.N[i]?=some x)(hx:Loc X.env.scope x)(r:RelV v u)
  (h:∀ s',Inv X pins (σ.set i (some v)) H s'→(∃ a,Heap.SameBut a s.heap s'.heap∧(a=X.env.locals∨X.env.cells.lookup x=some a))→Q () s') (hf:X.fn x=true∨X.env.scope.names.lookup x=some .local:=by first | exact .inl rfl | exact .inr rfl | assumption):wpAny M A (storeName X.env x u) Q E s:=by
 obtain ⟨m,hn,hl⟩:=id I.loc
 have hcls:(X.env.scope.kind == .class || (X.env.scope.kind == .module && X.env.locals != X.env.globals))=false:=by rw [I.ok.kind];rfl
 have hiσ:i < σ.length:=by rw [I.len];exact (Qc.mp hi).1
 have cne:=I.cne
 have tracked:∀ {a:Addr} {h':Heap},(∃ o,s.heap.get? a=some o∧H a=none)→Heap.SameBut a s.heap h'→HOk X.prog X.w H h':=fun {a h'} ha hs b ob e=>by
  obtain ⟨_,_,hfree⟩:=ha
  refine (I.hok b ob e).stay (fun c w' hc q=>(hs.2 c ?_).trans q) (fun _ q=>q) fun _ _ q=>q
  rintro rfl
  rcases hc with rfl | hc
  ·rw [hfree] at e;cases e
  ·rw [hfree] at hc;cases hc
 rcases hx with hk | hk
 ·refine wpAny_storeName_local hk hn (fun h' hn' hs=>?_) hcls
  obtain ⟨oL,_,_,hoL,_⟩:=id hn
  refine h _ ⟨I.ok,I.os,I.bare,⟨fun b o e n hb hx=>?_,fun b o e n hb hx=>?_,I.base.free,fun b o e hx=>?_,I.base.tups,I.base.frzs,I.base.tbls⟩,⟨_,hn',fun j y v' e1 e2 e3=>?_⟩,fun y c e=>?_,I.free,I.freeC,fun p hp=>?_,tracked ⟨oL,hoL,I.free⟩ hs,by simpa using I.len⟩ ⟨_,hs,.inl rfl⟩
  ·exact (hs.2 b (Jl (Jc (Heap.lt_size e) I.ok.above))).trans (I.base.keep b o e n hb hx)
  ·obtain ⟨sl,e1⟩:=I.base.slot b o e n hb hx
   exact ⟨sl,(hs.2 b (Jl (Jc (Heap.lt_size e) I.ok.above))).trans e1⟩
  ·obtain ⟨o',e1⟩:=I.base.there b o e hx
   exact ⟨o',(hs.2 b (Jl (Jc (Heap.lt_size e) I.ok.above))).trans e1⟩
  ·by_cases hj:j=i
   ·subst hj
    rw [hi] at e1;cases e1
    rw [Qag hiσ] at e2
    cases e2
    exact ⟨u,r,.inl ⟨hk,by simp⟩⟩
   ·rw [Wv (Ne.symm hj)] at e2
    obtain ⟨u',r',q⟩:=hl j y v' e1 e2 e3
    refine ⟨u',r',?_⟩
    rcases q with ⟨k,e⟩ | ⟨k,c,e,z⟩
    ·refine .inl ⟨k,?_⟩
     have:y≠x:=fun e=>hj (Z6m hN e1 (e ▸ hi))
     simp [this,e]
    ·exact .inr ⟨k,c,e,z.sameBut hs (cne y c e)⟩
  ·obtain ⟨w',z⟩:=I.cell y c e
   exact ⟨w',z.sameBut hs (cne y c e)⟩
  ·obtain ⟨e,n,ne,nf,d⟩:=I.pin p hp
   exact ⟨(hs.2 p.1 ne).trans e,n,ne,nf,d⟩
 ·have hfn:X.fn x=true:=by
   rcases hf with z | z
   ·exact z
   ·rw [z] at hk;cases hk
  obtain ⟨c,hc⟩:=I.ok.has x (.inl hk)
  obtain ⟨w',z⟩:=I.cell x c hc
  refine wpAny_storeName_cell I.ok.kind hk hc z (fun h' hc' hs=>?_)
  obtain ⟨oc,hoc,hocd⟩:=id z
  refine h { s with heap:=h' } ⟨I.ok,I.os,I.bare,⟨fun b o e n hb hx=>?_,fun b o e n hb hx=>?_,I.base.free,fun b o e hx=>?_,I.base.tups,I.base.frzs,I.base.tbls⟩,⟨m,hn.sameBut hs (Ne.symm (cne x c hc)),fun j y v' e1 e2 e3=>?_⟩,fun y c' e=>?_,I.free,I.freeC,fun p hp=>?_,tracked ⟨oc,hoc,I.freeC x c hc⟩ hs,by simpa using I.len⟩ ⟨c,hs,.inr hc⟩
  ·exact (hs.2 b (Jl (Jc (Heap.lt_size e) (I.ok.cab x c hfn hc)))).trans (I.base.keep b o e n hb hx)
  ·obtain ⟨sl,e1⟩:=I.base.slot b o e n hb hx
   exact ⟨sl,(hs.2 b (Jl (Jc (Heap.lt_size e) (I.ok.cab x c hfn hc)))).trans e1⟩
  ·obtain ⟨o',e1⟩:=I.base.there b o e hx
   exact ⟨o',(hs.2 b (Jl (Jc (Heap.lt_size e) (I.ok.cab x c hfn hc)))).trans e1⟩
  ·by_cases hj:j=i
   ·subst hj
    rw [hi] at e1;cases e1
    rw [Qag hiσ] at e2
    cases e2
    exact ⟨u,r,.inr ⟨.inl hk,c,hc,hc'⟩⟩
   ·rw [Wv (Ne.symm hj)] at e2
    obtain ⟨u',r',q⟩:=hl j y v' e1 e2 e3
    refine ⟨u',r',?_⟩
    rcases q with q | ⟨k,c',e,z'⟩
    ·exact .inl q
    ·refine .inr ⟨k,c',e,z'.sameBut hs ?_⟩
     rintro rfl
     exact hj (Z6m hN e1 (I.ok.inj _ _ _ e hc ▸ hi))
  ·by_cases hcc:c'=c
   ·subst hcc;exact ⟨_,hc'⟩
   ·obtain ⟨w2,z2⟩:=I.cell y c' e
    exact ⟨w2,z2.sameBut hs hcc⟩
  ·obtain ⟨e,n,ne,nf,d⟩:=I.pin p hp
   refine ⟨(hs.2 p.1 ?_).trans e,n,ne,nf,d⟩
   intro q
   rw [q,hoc] at e
   have q':oc=p.2:=Option.some.inj e
   exact d w' (by rw [← q'];exact hocd)
theorem Z9R{M:Model}{A:Around}{E:Value→Shared→Prop}{i:Nat}{x:Str}{v:V}{u:Value}{Q:Unit→Shared→Prop}(I:Inv X pins σ H s)(hN:X.N.Nodup)(hi:X.N[i]?=some x)(hx:Loc X.env.scope x)(r:RelV v u)
  (h:∀ s',Inv X pins (σ.set i (some v)) H s'→Q () s') (hf:X.fn x=true∨X.env.scope.names.lookup x=some .local:=by first | exact .inl rfl | exact .inr rfl | assumption):wpAny M A (storeName X.env x u) Q E s :=
 Z5r I hN hi hx r (fun s' I' _=>h s' I') hf
theorem Inv.call'{s':Shared}{ch:List Addr}(I:Inv X pins σ H s)(ho:s'.os=s.os)(u:Un (frs X.stack) ch H H' s.heap s'.heap)(hok:HOk X.prog X.w H' s'.heap)(hg:AllBare s'.gens)
  (hch:∀ b∈ch,(b∈X.ex∨X.s₀.heap.objs.size≤b)∧b≠X.env.locals∧(∀ x c,X.env.cells.lookup x=some c→c≠b)∧∀ p∈X.pn++pins,p.1≠b):Inv X pins σ H' s':=by
 obtain ⟨h',g',d',t',o'⟩:=s'
 have e:o'=s.os:=ho
 subst e
 exact I.call (g':=g') (t':=t') (d':=d') u hok hg hch
end

noncomputable abbrev XK:=Value→Option Addr→Hp→Prop
noncomputable abbrev St:=List (Option V)
noncomputable abbrev VK:=V→Hp→Prop
noncomputable abbrev TE:=St→Hp→VK→Prop
noncomputable abbrev TT:=St→Hp→(Bool→Hp→Prop)→Prop
noncomputable abbrev TA:=St→Hp→(List V→Hp→Prop)→Prop
structure Ends where
 nx:St→Hp→Prop
 rt:VK
 bk:St→Hp→Prop:=fun _ _=>False
 ct:St→Hp→Prop:=fun _ _=>False
noncomputable abbrev TS:=Ends→St→Hp→Prop
noncomputable def EP(X:Cx)(pins:List (Addr×Obj))(σ:St)(Q:VK)(u:Value)(s':Shared):Prop:=∃ v H',Inv X pins σ H' s'∧RelV v u∧Q v H'
noncomputable def TP(X:Cx)(pins:List (Addr×Obj))(σ:St)(Q:Bool→Hp→Prop)(b:Bool)(s':Shared):Prop:=∃ H',Inv X pins σ H' s'∧Q b H'
noncomputable def AP(X:Cx)(pins:List (Addr×Obj))(σ:St)(Q:List V→Hp→Prop)(us:List Value)(s':Shared):Prop:=∃ vs H',Inv X pins σ H' s'∧Vals vs us∧Q vs H'
noncomputable def SP(X:Cx)(pins:List (Addr×Obj))(D:Ends)(f:Flow)(s':Shared):Prop :=
 match f with
 | .next=>∃ σ' H',Inv X pins σ' H' s'∧D.nx σ' H'
 | .brk=>∃ σ' H',Inv X pins σ' H' s'∧D.bk σ' H'
 | .cont=>∃ σ' H',Inv X pins σ' H' s'∧D.ct σ' H'
 | .ret u=>∃ v σ' H',Inv X pins σ' H' s'∧RelV v u∧D.rt v H'
noncomputable def PE(X:Cx)(e:Expr)(t:TE):Prop :=
 ∀ (pins:List (Addr×Obj)) (s:Shared) (σ:St) (H:Hp) (Q:VK),Inv X pins σ H s→t σ H Q→wpAny (model X.prog X.w) X.A (eval e X.env) (EP X pins σ Q) X.xe s
noncomputable def PT(X:Cx)(e:Expr)(t:TT):Prop :=
 ∀ (pins:List (Addr×Obj)) (s:Shared) (σ:St) (H:Hp) (Q:Bool→Hp→Prop),Inv X pins σ H s→t σ H Q→wpAny (model X.prog X.w) X.A (isTrue e X.env (eval e X.env)) (TP X pins σ Q) X.xe s
noncomputable def PW(X:Cx)(e:Expr)(t:TT):Prop :=
 ∀ (whole:Sem Value) (pins:List (Addr×Obj)) (s:Shared) (σ:St) (H:Hp) (Q:Bool→Hp→Prop),Inv X pins σ H s→t σ H Q→wpAny (model X.prog X.w) X.A (isTrue e X.env whole) (TP X pins σ Q) X.xe s
theorem PW.pt{X:Cx}{e:Expr}{t:TT}(h:PW X e t):PT X e t:=h _
noncomputable def PA(X:Cx)(es:List Expr)(t:TA):Prop :=
 ∀ (pos:Pos) (pins:List (Addr×Obj)) (s:Shared) (σ:St) (H:Hp) (Q:List V→Hp→Prop),Inv X pins σ H s→t σ H Q→wpAny (model X.prog X.w) X.A (spliced (backTo pos (starEach es X.env))) (AP X pins σ Q) X.xe s
noncomputable def PS(X:Cx)(st:Stmt)(t:TS):Prop :=
 ∀ (pins:List (Addr×Obj)) (s:Shared) (σ:St) (H:Hp) (D:Ends),Inv X pins σ H s→t D σ H→wpAny (model X.prog X.w) X.A (exec st X.env) (SP X pins D) X.xe s
noncomputable def PSs(X:Cx)(st:List Stmt)(t:TS):Prop :=
 ∀ (pins:List (Addr×Obj)) (s:Shared) (σ:St) (H:Hp) (D:Ends),Inv X pins σ H s→t D σ H→wpAny (model X.prog X.w) X.A (execs st X.env) (SP X pins D) X.xe s
theorem thn{α:Type}{t:Sem α}{Q Q':α→Shared→Prop}{M:Model}{A:Around}{E:Value→Shared→Prop}{s:Shared}(h:wpAny M A t Q E s)(hQ:∀ a s,Q a s→Q' a s):wpAny M A t Q' E s:=wpAny_mono h hQ fun _ _ x=>x
end L2
namespace L2
open PySem PySem.Spec PyProof.Rows
section
variable {X:Cx}

noncomputable def tVar(i:Nat):TE:=fun σ H Q=>∃ v,σ[i]?=some (some v)∧Q v H
noncomputable def tC(v:V):TE:=fun _ H Q=>Q v H
theorem ZbD{i:Nat}{x:Str}{pos:Pos}(hN:X.N[i]?=some x)(hv:Vis X.env.scope x)(hd:(x == ("__debug__":Str))=false:=by decide)(hcd:(x == ("__classdict__":Str))=false:=by decide):PE X (.Name x pos) (tVar i):=by
 intro pins s σ H Q I h
 obtain ⟨v,e,h⟩:=h
 obtain ⟨m,hn,hl⟩:=I.loc
 obtain ⟨u,r,l⟩:=hl i x v hN e hv
 have fin:EP X pins σ Q u s:=⟨v,H,I,r,h⟩
 rcases l with ⟨hk,hm⟩ | ⟨hk,c,hc,hcell⟩
 ·exact wpAny_Name (wpAny_loadName_local I.ok.kind hk hn hm fin) hd
 ·rcases hk with hk | hk
  ·exact wpAny_Name (wpAny_loadName_cell I.ok.kind hk hc hcell fin) hd
  ·exact wpAny_Name (wpAny_loadName_free I.ok.kind hk hc hcell fin hcd) hd
theorem Z8{i j pos}:PE X (.Constant (.int i) j pos) (tC (.int i)):=fun _ _ _ H _ I h=>wpAny_Constant_int ⟨.int i,H,I.tok _,⟨_,rfl⟩,h⟩
theorem Z1l{b j pos}:PE X (.Constant (.bool b) j pos) (tC (.bl b)):=fun _ _ _ H _ I h=>Constant_bool ⟨.bl b,H,I,rfl,h⟩
theorem Z1Q{j pos}:PE X (.Constant .none j pos) (tC .non):=fun _ _ _ H _ I h=>Constant_none ⟨.non,H,I,rfl,h⟩
noncomputable def Gl(X:Cx)(x:Str):Prop:=X.env.kindOf x=some .globalImplicit
theorem Zaj{E:Value→Shared→Prop}{pins:List (Addr×Obj)}{s:Shared}{σ:St}{H:Hp}{x:Str}{u:Value}{pos:Pos}{Q:Value→Shared→Prop}(I:Inv X pins σ H s)(hg:Gl X x)(hm:X.mg x=some u)(h:Q u s)
  (hd:(x == ("__debug__":Str))=false:=by decide):wpAny (model X.prog X.w) X.A (eval (.Name x pos) X.env) Q E s :=
 Calls.Name_function_global I.ok.kind hg (Calls.loadGlobal_global (by rw [I.ok.glob];exact I.mod.glob.keeps I.bk) hm h) hd
theorem Z48{E:Value→Shared→Prop}{pins:List (Addr×Obj)}{s:Shared}{σ:St}{H:Hp}{x:Str}{u:Value}{pos:Pos}{Q:Value→Shared→Prop}(I:Inv X pins σ H s)(hg:Gl X x)(hm:X.mg x=none)(hv:bootBuiltins x=some u)(h:Q u s)
  (hn:x ≠ "__name__":=by decide) (hd:(x == ("__debug__":Str))=false:=by decide):wpAny (model X.prog X.w) X.A (eval (.Name x pos) X.env) Q E s:=by
 obtain ⟨mb,h1,h2⟩:=I.mod.blt
 exact Calls.Name_function_global I.ok.kind hg (Calls.loadGlobal_builtin (by rw [I.ok.glob];exact I.mod.glob.keeps I.bk) hm (by rw [I.ok.blt];exact h1.keeps I.bk) ((h2 x hn).trans hv) h) hd
theorem Z0I{x:Str}{v:V}{u:Value}{pos:Pos}(hg:Gl X x)(hm:X.mg x=none)(hv:bootBuiltins x=some u)(r:RelV v u)(hn:x ≠ "__name__":=by decide)(hd:(x == ("__debug__":Str))=false:=by decide):PE X (.Name x pos) (tC v) :=
 fun _ _ _ H _ I h=>Z48 I hg hm hv ⟨v,H,I,r,h⟩ hn hd

variable {a b:Expr}{ta tb:TE}{pos:Pos}

noncomputable def PC(X:Cx)(op:CmpOp)(a b:Expr)(t:TE):Prop :=
 ∀ (pins:List (Addr×Obj)) (s:Shared) (σ:St) (H:Hp) (Q:VK),Inv X pins σ H s→t σ H Q →
  wpAny (model X.prog X.w) X.A (eval a X.env) (fun v s₁=>wpAny (model X.prog X.w) X.A (eval b X.env) (fun u s₂=>wpAny (model X.prog X.w) X.A (compareOp op v u) (EP X pins σ Q) X.xe s₂) X.xe s₁) X.xe s
theorem nobehind(b:Expr){op:CmpOp}(h:op≠.In)(h2:op≠.NotIn):behindInMarks op b=false:=by
 have e1:(op == CmpOp.In)=false:=by cases op <;> first | rfl | exact absurd rfl h
 have e2:(op == CmpOp.NotIn)=false:=by cases op <;> first | rfl | exact absurd rfl h2
 cases b <;> simp [behindInMarks,e1,e2]
noncomputable def tB(t:TE):TT:=fun σ H Q=>t σ H fun x H1=>∃ c,x=.bl c∧Q c H1
theorem ZbH{op:CmpOp}{t:TE}(h:PC X op a b t)(h1:behindInMarks op b=false:=by first | exact nobehind _ (by decide) (by decide) | rfl):PT X (.Compare a [op] [b] pos) (tB t):=by
 intro pins s σ H Q I hw
 refine wpAny_isTrue_Compare1 (thn (h pins s σ H _ I hw) fun v s1 h1=>thn h1 fun u s2 h2=>thn h2 fun c s3 ⟨x,H1,I1,r1,q1⟩=>?_) h1
 obtain ⟨d,rfl,q⟩:=q1
 cases r1
 exact wpAny_truthy_bool ⟨H1,I1,q⟩
theorem Z96{e:Expr}{t:TE}(h:PE X e t)(he:∀ whole,isTrue e X.env whole=(do let v ← whole;standAt e.pos;holding [v] (truthy v)):=by intro _;rfl):PT X e (tB t):=by
 intro pins s σ H Q I hw
 refine isTrue_plain (thn (h pins s σ H _ I hw) fun v s1 ⟨x,H1,I1,r1,q1⟩=>?_) (he _)
 obtain ⟨d,rfl,q⟩:=q1
 cases r1
 exact wpAny_truthy_bool ⟨H1,I1,q⟩

variable {tA tB':TT}{rest:List Expr}
noncomputable def tAnd(t u:TT):TT:=fun σ H Q=>t σ H fun c H1=>if c=true then u σ H1 Q else Q false H1
noncomputable def tOr(t u:TT):TT:=fun σ H Q=>t σ H fun c H1=>if c=true then Q true H1 else u σ H1 Q
noncomputable def tNot(t:TT):TT:=fun σ H Q=>t σ H fun c H1=>Q (!c) H1
theorem Zav(ha:PT X a tA):PW X (.BoolOp .And [a] pos) tA:=by
 intro wh pins s σ H Q I h
 refine isTrue_and (thn (ha pins s σ H Q I h) fun c s1 e=>?_)
 cases c with
 | true=>exact isTrue_and_nil e
 | false=>exact e
theorem Z4V(ha:PT X a tA):PW X (.BoolOp .Or [a] pos) tA:=by
 intro wh pins s σ H Q I h
 refine isTrue_or (thn (ha pins s σ H Q I h) fun c s1 e=>?_)
 cases c with
 | false=>exact isTrue_or_nil e
 | true=>exact e
theorem ZbK(ha:PT X a tA)(hb:PW X (.BoolOp .And (b::rest) pos) tB'):PW X (.BoolOp .And (a::b::rest) pos) (tAnd tA tB'):=by
 intro wh pins s σ H Q I h
 refine isTrue_and (thn (ha pins s σ H _ I h) fun c s1 ⟨H1,I1,q1⟩=>?_)
 cases c with
 | true=>exact hb wh pins s1 σ H1 Q I1 q1
 | false=>exact ⟨H1,I1,q1⟩
theorem pw_or(ha:PT X a tA)(hb:PW X (.BoolOp .Or (b::rest) pos) tB'):PW X (.BoolOp .Or (a::b::rest) pos) (tOr tA tB'):=by
 intro wh pins s σ H Q I h
 refine isTrue_or (thn (ha pins s σ H _ I h) fun c s1 ⟨H1,I1,q1⟩=>?_)
 cases c with
 | true=>exact ⟨H1,I1,q1⟩
 | false=>exact hb wh pins s1 σ H1 Q I1 q1
theorem ZbI(ha:PT X a tA):PT X (.UnaryOp .Not a pos) (tNot tA):=by
 intro pins s σ H Q I h
 exact isTrue_not (ha pins s σ H (fun c H1=>Q (!c) H1) I h)
noncomputable def tAndV(ta tb:TE):TE:=fun σ H Q=>ta σ H fun x H1=>∃ c,x=.bl c∧if c=true then tb σ H1 Q else Q (.bl false) H1
noncomputable def tOrV(ta tb:TE):TE:=fun σ H Q=>ta σ H fun x H1=>∃ c,x=.bl c∧if c=true then Q (.bl true) H1 else tb σ H1 Q
noncomputable def tNotV(ta:TE):TE:=fun σ H Q=>ta σ H fun x H1=>∃ c,x=.bl c∧Q (.bl (!c)) H1
theorem Z4U{op}{t:TE}(h:PE X a t):PE X (.BoolOp op [a] pos) t:=fun pins s σ H Q I hw=>BoolOp_one (h pins s σ H Q I hw)
theorem Z4T(ha:PE X a ta)(hb:PE X (.BoolOp .And (b::rest) pos) tb):PE X (.BoolOp .And (a::b::rest) pos) (tAndV ta tb):=by
 intro pins s σ H Q I h
 refine BoolOp_and (thn (ha pins s σ H _ I h) fun v s1 ⟨x,H1,I1,r1,q1⟩=>?_)
 obtain ⟨c,rfl,q1⟩:=q1
 cases r1
 refine wpAny_truthy_bool ?_
 cases c with
 | true=>exact hb pins s1 σ H1 Q I1 q1
 | false=>exact ⟨.bl false,H1,I1,rfl,q1⟩
theorem ZbB(ha:PE X a ta):PE X (.UnaryOp .Not a pos) (tNotV ta):=by
 intro pins s σ H Q I h
 refine UnaryOp_ (thn (ha pins s σ H _ I h) fun v s1 ⟨x,H1,I1,r1,q1⟩=>?_)
 obtain ⟨c,rfl,q1⟩:=q1
 cases r1
 exact not_of (wpAny_truthy_bool ⟨.bl (!c),H1,I1,rfl,q1⟩)
noncomputable def tIf(t:TT)(ta tb:TE):TE:=fun σ H Q=>t σ H fun c H1=>if c=true then ta σ H1 Q else tb σ H1 Q
end
end L2
namespace L2
open PySem PySem.Spec PyProof.Rows

noncomputable def SqL(K:Qd)(H:Hp)(a:Addr)(xs:List V):Prop :=
 Rd H a (.lst xs) ∨
  ∃ (o:Obj) (its:Array Value) (n:Nat),K.lookup a=some o∧o.cls=.type "list"∧o.dict=none∧o.data=.seq its n∧its.size≤sizeLine∧Vals xs its.toList
noncomputable def SqT(K:Qd)(H:Hp)(a:Addr)(xs:List V):Prop :=
 Rd H a (.tup xs) ∨
  ∃ (o:Obj) (its:Array Value) (n:Nat),K.lookup a=some o∧o.cls=.type "tuple"∧o.data=.seq its n∧its.size≤sizeLine∧Vals xs its.toList
noncomputable def absV:Value→Option V
 | .none=>some .non
 | .bool b=>some (.bl b)
 | .int i _=>some (.int i)
 | .str x _=>some (.str x)
 | .bytes b _=>some (.byt b)
 | .float b _=>some (.flt b)
 | .ref a=>some (.ref a)
 | .type n=>some (.ty n)
 | _=>none
theorem RelV.abs{x:V}{u:Value}(r:RelV x u):absV u=some x:=by
 cases x with
 | non=>cases r;rfl
 | bl _=>cases r;rfl
 | int _=>obtain ⟨t,rfl⟩:=r;rfl
 | str _=>obtain ⟨t,rfl⟩:=r;rfl
 | byt _=>obtain ⟨t,rfl⟩:=r;rfl
 | flt _=>obtain ⟨t,rfl⟩:=r;rfl
 | ref _=>cases r;rfl
 | ty _=>cases r;rfl
theorem RelV.inj{x y:V}{u:Value}(r:RelV x u)(q:RelV y u):x=y:=Option.some.inj (r.abs.symm.trans q.abs)
theorem Vals.inj:∀ {xs ys:List V} {us:List Value},Vals xs us→Vals ys us→xs=ys
 | _,_,_,.nil,.nil=>rfl
 | _,_,_,.cons r t,.cons r' t'=>by rw [r.inj r',Vals.inj t t']
section
variable {X:Cx}{pins:List (Addr×Obj)}{σ:St}{H:Hp}{s:Shared}{a:Addr}{xs ys:List V}
theorem SqL.of{K:Qd}(h:H a=some (.lst xs)):SqL K H a xs:=.inl (.inl h)
theorem SqT.of{K:Qd}(h:H a=some (.tup xs)):SqT K H a xs:=.inl (.inl h)
theorem Inv.list(I:Inv X pins σ H s)(h:SqL X.K H a xs):∃ its:List Value,Vals xs its∧PlainL s.heap a its.toArray∧xs.length≤sizeLine:=by
 rcases h with h | ⟨o,its,n,hk,hc,hd,hs,hz,r⟩
 ·obtain ⟨z,its,n,r,e⟩:=h.ok I.hok
  exact ⟨its,r,⟨_,n,e,rfl,rfl,rfl⟩,z⟩
 ·refine ⟨its.toList,r,⟨o,n,I.kIn a o hk,hc,hd,by simpa using hs⟩,?_⟩
  have e:=r.length
  simp only [Array.length_toList] at e
  omega
theorem Inv.tuple(I:Inv X pins σ H s)(h:SqT X.K H a xs):∃ its:List Value,Vals xs its∧IsTup s.heap a its.toArray∧xs.length≤sizeLine:=by
 rcases h with h | ⟨o,its,n,hk,hc,hs,hz,r⟩
 ·obtain ⟨z,its,r,p⟩:=h.ok I.hok
  exact ⟨its,r,p,z⟩
 ·refine ⟨its.toList,r,⟨o,I.kIn a o hk,hc,n,by simpa using hs⟩,?_⟩
  have e:=r.length
  simp only [Array.length_toList] at e
  omega
theorem Inv.list_inj(I:Inv X pins σ H s)(h:SqL X.K H a xs)(h':SqL X.K H a ys):xs=ys:=by
 obtain ⟨its,r,⟨o,n,e,_,_,d⟩,_⟩:=I.list h
 obtain ⟨its',r',⟨o',n',e',_,_,d'⟩,_⟩:=I.list h'
 rw [e] at e';cases e'
 rw [d] at d'
 injection d' with d1 _
 have:its=its':=by simpa using congrArg Array.toList d1
 subst this
 exact r.inj r'
theorem Inv.tuple_inj(I:Inv X pins σ H s)(h:SqT X.K H a xs)(h':SqT X.K H a ys):xs=ys:=by
 obtain ⟨its,r,⟨o,e,_,n,d⟩,_⟩:=I.tuple h
 obtain ⟨its',r',⟨o',e',_,n',d'⟩,_⟩:=I.tuple h'
 rw [e] at e';cases e'
 rw [d] at d'
 injection d' with d1 _
 have:its=its':=by simpa using congrArg Array.toList d1
 subst this
 exact r.inj r'
end

section
variable {X:Cx}{pins:List (Addr×Obj)}{σ:St}{H:Hp}{s:Shared}{E:Value→Shared→Prop}
end

section
variable {X:Cx}{st:Stmt}{rest:List Stmt}{t u:TS}{e:Expr}{te:TE}{pos:Pos}
noncomputable def tNext:TS:=fun D σ H=>D.nx σ H
noncomputable def tSeq(t u:TS):TS:=fun D σ H=>t { D with nx:=u D } σ H
theorem Z3s:PSs X [] tNext:=fun _ _ σ H _ I h=>wpAny_execs_nil ⟨σ,H,I,h⟩
theorem Z2Z(h1:PS X st t)(h2:PSs X rest u):PSs X (st::rest) (tSeq t u):=by
 intro pins s σ H D I h
 refine wpAny_execs_cons (thn (h1 pins s σ H { D with nx:=u D } I h) fun f s1 q=>?_)
 cases f with
 | next =>
  obtain ⟨σ',H',I',q⟩:=q
  exact h2 pins s1 σ' H' D I' q
 | ret v=>exact q
 | brk=>exact q
 | cont=>exact q
theorem Z2N(h1:PS X st t):PSs X [st] t:=by
 intro pins s σ H D I h
 refine wpAny_execs_cons (thn (h1 pins s σ H D I h) fun f s1 q=>?_)
 cases f with
 | next=>exact wpAny_execs_nil q
 | ret v=>exact q
 | brk=>exact q
 | cont=>exact q
noncomputable def tBreak:TS:=fun D σ H=>D.bk σ H
noncomputable def tCont:TS:=fun D σ H=>D.ct σ H
theorem Inv.quiet{pins:List (Addr×Obj)}{σ:St}{H:Hp}{s:Shared}(I:Inv X pins σ H s):interactive X.env=false:=by simp [interactive,I.ok.kind]
noncomputable def tDrop(te:TE):TS:=fun D σ H=>te σ H fun _ H1=>D.nx σ H1
theorem Z7M(he:PE X e te)(hs:swapsWith e none pos.line X.env=pure false:=by rfl):PS X (.Expr e pos) (tDrop te):=by
 intro pins s σ H D I h
 exact wpAny_Expr_any (thn (he pins s σ H _ I h) fun v s1 ⟨x,H1,I1,r1,q1⟩=>⟨σ,H1,I1,q1⟩) I.quiet hs
noncomputable def tRet(te:TE):TS:=fun D σ H=>te σ H D.rt
theorem Z3r(he:PE X e te):PS X (.Return (some e) pos) (tRet te):=by
 intro pins s σ H D I h
 exact wpAny_Return_some (thn (he pins s σ H _ I h) fun v s1 ⟨x,H1,I1,r1,q1⟩=>⟨x,σ,H1,I1,r1,q1⟩)
noncomputable def tRetN:TS:=fun D _ H=>D.rt .non H
noncomputable def tIfS(c:TT)(t u:TS):TS:=fun D σ H=>c σ H fun b H1=>if b=true then t D σ H1 else u D σ H1
theorem ps_if{c:Expr}{a b:List Stmt}{tc:TT}(hc:PT X c tc)(ha:PSs X a t)(hb:PSs X b u):PS X (.If c a b pos) (tIfS tc t u):=by
 intro pins s σ H D I h
 refine wpAny_If (thn (hc pins s σ H _ I h) fun d s1 ⟨H1,I1,q1⟩=>?_)
 cases d with
 | true=>exact ha pins s1 σ H1 D I1 q1
 | false=>exact hb pins s1 σ H1 D I1 q1
end

noncomputable abbrev TG:=V→St→Hp→(St→Hp→Prop)→Prop
noncomputable abbrev TGs:=List V→St→Hp→(St→Hp→Prop)→Prop
noncomputable def PG(X:Cx)(target:Expr)(t:TG):Prop :=
 ∀ (pins:List (Addr×Obj)) (s:Shared) (σ:St) (H:Hp) (v:V) (u:Value) (Q:St→Hp→Prop),Inv X pins σ H s→RelV v u→t v σ H Q →
  wpAny (model X.prog X.w) X.A (assign target X.env u) (fun _ s'=>∃ σ' H',Inv X pins σ' H' s'∧Q σ' H') X.xe s
noncomputable def PGs(X:Cx)(ts:List Expr)(t:TGs):Prop :=
 ∀ (pins:List (Addr×Obj)) (s:Shared) (σ:St) (H:Hp) (vs:List V) (us:List Value) (Q:St→Hp→Prop),Inv X pins σ H s→Vals vs us→t vs σ H Q →
  wpAny (model X.prog X.w) X.A (assignInOrder ((assignEach ts X.env).map (·.2)) us) (fun _ s'=>∃ σ' H',Inv X pins σ' H' s'∧Q σ' H') X.xe s
noncomputable abbrev TSet:=V→V→V→Hp→(Hp→Prop)→Prop
noncomputable def PSet(X:Cx)(t:TSet):Prop :=
 ∀ (pins:List (Addr×Obj)) (s:Shared) (σ:St) (H:Hp) (o i v:V) (ov iv u:Value) (Q:Hp→Prop),Inv X pins σ H s→RelV o ov→RelV i iv→RelV v u→t o i v H Q →
  wpAny (model X.prog X.w) X.A (setItem ov iv u) (fun _ s'=>∃ H',Inv X pins σ H' s'∧Q H') X.xe s
section
variable {X:Cx}{pos:Pos}
noncomputable def Z1j(i:Nat):TG:=fun v σ H Q=>Q (σ.set i (some v)) H
theorem Z27{i:Nat}{x:Str}(hN:X.N.Nodup)(hi:X.N[i]?=some x)(hx:Loc X.env.scope x)(hf:X.fn x=true∨X.env.scope.names.lookup x=some .local:=by first | exact .inl rfl | exact .inr rfl | assumption):PG X (.Name x pos) (Z1j i):=by
 intro pins s σ H v u Q I r h
 exact wpAny_assign_Name (Z9R I hN hi hx r (fun s' I'=>⟨_,H,I',h⟩) hf)
noncomputable def gNil:TGs:=fun vs σ H Q=>vs=[]∧Q σ H
noncomputable def gCons(t:TG)(u:TGs):TGs:=fun vs σ H Q=>∃ v r,vs=v::r∧t v σ H fun σ' H'=>u r σ' H' Q
theorem Zap:PGs X [] gNil:=by
 intro pins s σ H vs us Q I r h
 obtain ⟨e,h⟩:=h
 subst e
 cases r
 exact assignInOrder_nil ⟨σ,H,I,h⟩
theorem Z9I{e:Expr}{es:List Expr}{t:TG}{u:TGs}(h1:PG X e t)(h2:PGs X es u)
  (hs:(assignEach (e::es) X.env).map (·.2)=assign e X.env::(assignEach es X.env).map (·.2):=by rfl):PGs X (e::es) (gCons t u):=by
 intro pins s σ H vs us Q I r h
 obtain ⟨v,vr,e1,h⟩:=h
 subst e1
 cases r with
 | cons r rr =>
  rw [hs]
  refine assignInOrder_cons (thn (h1 pins s σ H _ _ _ I r h) fun _ s1 ⟨σ1,H1,I1,q1⟩=>?_)
  exact h2 pins s1 σ1 H1 _ _ Q I1 rr q1
noncomputable def gTup(K:Qd)(n:Nat)(t:TGs):TG:=fun v σ H Q=>∃ a xs,v=.ref a∧SqT K H a xs∧xs.length=n∧t xs σ H Q
theorem ZbG{es:List Expr}{k:Nat}{t:TGs}{n:Nat}(hc:X.calm=true)(h:PGs X es t)
  (hn:(assignEach es X.env).length=n:=by rfl) (hst:(assignEach es X.env).findIdx? (·.1)=none:=by rfl):PG X (.Tuple es k pos) (gTup X.K n t):=by
 intro pins s σ H v u Q I r hw
 obtain ⟨a,xs,e1,hq,hl,hw⟩:=hw
 subst e1
 cases r
 obtain ⟨its,rv,ht,hz⟩:=I.tuple hq
 refine assign_Tuple_tuple (I.ok.hd hc) ht (by simp [hn,← hl,rv.length]) hst fun h' hx=>?_
 have I1:Inv X pins σ H { s with heap:=h' }:=I.kept (t':=s.toks) fun b o e=>hx b o (Jl (Heap.lt_size e)) e
 exact h pins _ σ H xs _ Q I1 (by simpa using rv) hw
noncomputable def gSub(to ti:TE)(t:TSet):TG:=fun v σ H Q=>to σ H fun o H1=>ti σ H1 fun i H2=>t o i v H2 fun H3=>Q σ H3
theorem ZbF{o i:Expr}{to ti:TE}{t:TSet}(ho:PE X o to)(hi:PE X i ti)(hs:PSet X t)
  (ha:∀ v,assign (.Subscript o i pos) X.env v=(do
   let ov ← holding [v] (eval o X.env)
   let iv ← holding [v,ov] (eval i X.env)
   standAt pos
   holding [v,ov,iv] (setItem ov iv v)
   release [v,ov,iv] []):=by intro _;rfl):PG X (.Subscript o i pos) (gSub to ti t):=by
 intro pins s σ H v u Q I r h
 rw [ha]
 refine wpAny_bind (wpAny_holding (thn (ho pins s σ H _ I h) fun ov s1 ⟨x,H1,I1,r1,q1⟩=>?_))
 refine wpAny_bind (wpAny_holding (thn (hi pins s1 σ H1 _ I1 q1) fun iv s2 ⟨y,H2,I2,r2,q2⟩=>?_))
 refine wpAny_bind (wpAny_standAt (wpAny_bind (wpAny_holding (thn (hs pins s2 σ H2 x y v ov iv u _ I2 r1 r2 r q2) fun _ s3 ⟨H3,I3,q3⟩=>?_))))
 exact wpAny_release ⟨σ,H3,I3,q3⟩
noncomputable def tAsg(te:TE)(g:TG):TS:=fun D σ H=>te σ H fun x H1=>g x σ H1 D.nx
theorem Z95{tg e:Expr}{te:TE}{g:TG}(he:PE X e te)(hg:PG X tg g)(hs:swapsWithSole [tg] e pos.line X.env=pure false:=by rfl)(hw:swappedStores [tg] e X.env=pure none:=by rfl)
  (h1:(assignEach [tg] X.env).map (·.2)=[assign tg X.env]:=by rfl):PS X (.Assign [tg] e pos) (tAsg te g):=by
 intro pins s σ H D I h
 refine wpAny_Assign_stores (thn (he pins s σ H _ I h) fun v s1 ⟨x,H1,I1,r1,q1⟩=>?_) hs hw
 rw [h1]
 exact thn (hg pins s1 σ H1 x v _ I1 r1 q1) fun _ s2 q=>q
end

section
variable {X:Cx}{pos:Pos}
noncomputable def tWhile(c:TT)(tb:TS):TS:=fun D σ H=>∃ W:Nat→St→Hp→Prop,(∃ m,W m σ H)∧∀ m σ H,W m σ H →
 c σ H fun b H1=>if b=true then ∃ N:St→Hp→Prop,(∀ σ' H',N σ' H'→∃ m',m' < m∧W m' σ' H')∧tb { D with nx:=N,ct:=N,bk:=D.nx } σ H1 else D.nx σ H1
theorem Z9K{c:Expr}{body:List Stmt}{tc:TT}{tb:TS}(hp:PassesOwn (model X.prog X.w) X.A X.env X.xe)(hc:PT X c tc)(hb:PSs X body tb):PS X (.While c body [] pos) (tWhile tc tb):=by
 intro pins s σ H D I h
 obtain ⟨W,⟨m0,w0⟩,turn⟩:=h
 refine wpAny_While (codeAny_whileLoop (fun n s'=>∃ σ' H',Inv X pins σ' H' s'∧W n σ' H') ?_ m0 ⟨σ,H,I,w0⟩)
 rintro n s1 ⟨σ1,H1,I1,w1⟩
 refine wpAny_passesOwn hp (thn (hc pins s1 σ1 H1 _ I1 (turn n σ1 H1 w1)) fun b s2 ⟨H2,I2,q2⟩=>?_)
 cases b with
 | true =>
  obtain ⟨N,hN,q2⟩:=q2
  rw [if_pos rfl]
  refine wpAny_passesOwn hp (thn (hb pins s2 σ1 H2 _ I2 q2) fun f s3 q3=>?_)
  cases f with
  | next =>
   obtain ⟨σ3,H3,I3,n3⟩:=q3
   obtain ⟨m',hm,w3⟩:=hN σ3 H3 n3
   exact ⟨m',hm,σ3,H3,I3,w3⟩
  | cont =>
   obtain ⟨σ3,H3,I3,n3⟩:=q3
   obtain ⟨m',hm,w3⟩:=hN σ3 H3 n3
   exact ⟨m',hm,σ3,H3,I3,w3⟩
  | brk=>exact q3
  | ret v=>exact q3
 | false =>
  rw [if_neg Qp]
  exact wpAny_execs_nil ⟨σ1,H2,I2,q2⟩
end

structure It where
 go:Nat→Hp→Prop
 yld:Nat→Hp→V→Hp→Prop
 stop:Nat→Hp→Prop
noncomputable def FpOk(X:Cx)(pins:List (Addr×Obj))(H:Hp)(b:Addr):Prop :=
 H b=none∧b≠X.env.locals∧b∉X.fs∧(b∈X.ex∨X.s₀.heap.objs.size≤b)∧(∀ x c,X.env.cells.lookup x=some c→c≠b)∧∀ p∈X.pn++pins,p.1≠b
theorem Inv.fpOk{X:Cx}{pins:List (Addr×Obj)}{σ:St}{H H':Hp}{s:Shared}{b:Addr}(I:Inv X pins σ H s)(hb:s.heap.objs.size≤b)(hn:H' b=none):FpOk X pins H' b:=by
 refine ⟨hn,Nat.ne_of_gt (Jc I.lt hb),I.nofs hb,.inr (Wm I.sz hb),fun x c e z=>?_,fun p hp z=>?_⟩
 ·obtain ⟨v,q⟩:=I.cell x c e
  exact absurd (Jc q.lt (by rw [z];exact hb)) (Js _)
 ·exact absurd (Jc (Heap.lt_size (I.pin p hp).1) (by rw [z];exact hb)) (Js _)
structure Turn(P:Program)(w:World)(K:Qd)(tg:Expr)(J:It)(fp:List Addr)(it:Addr)(tn:Nat→Heap→Prop):Prop where
 mem:it∈fp
 obj:∀ i h,tn i h→∀ b∈fp,∃ o,h.get? b=some o∧∀ v,o.data≠.cell v
 keep:∀ i h h',tn i h→(∀ b∈fp,∀ o,h.get? b=some o→h'.get? b=some o)→tn i h'
 item:∀ (X:Cx),X.prog=P→X.w=w→X.K=K→X.calm=true→∀ (i:Nat) (pins:List (Addr×Obj)) (s:Shared) (σ:St) (H:Hp) (E:Value→Shared→Prop),Inv X pins σ H s→(∀ b∈fp,FpOk X pins H b)→tn i s.heap→J.go i H →
  wpAny (model P w) X.A (pyNext (.ref it)) (fun r s1=>∃ u,r=some u ∧
   wpAny (model P w) X.A (letOwnedTupleGo tg (.ref it) u) (fun _ s2=>∃ x H',Inv X pins σ H' s2∧RelV x u∧J.yld i H x H'∧tn (i + 1) s2.heap∧∀ b∈fp,H' b=none) E s1) E s
 done:∀ (X:Cx),X.prog=P→X.w=w→X.K=K→X.calm=true→∀ (i:Nat) (pins:List (Addr×Obj)) (s:Shared) (σ:St) (H:Hp) (E:Value→Shared→Prop),Inv X pins σ H s→(∀ b∈fp,FpOk X pins H b)→tn i s.heap→J.stop i H →
  wpAny (model P w) X.A (pyNext (.ref it)) (fun r s1=>r=none∧Inv X pins σ H s1) E s
 self:∀ (A:Around) (i:Nat) (s:Shared) (Q:Value→Shared→Prop) (E:Value→Shared→Prop),tn i s.heap→Q (.ref it) s→wpAny (model P w) A (pyIter (.ref it)) Q E s
noncomputable abbrev TI:=St→Hp→(It→Hp→Prop)→Prop
noncomputable def PIE(X:Cx)(pins:List (Addr×Obj))(σ:St)(tg:Expr)(R:It→Hp→Prop)(itv:Value)(s2:Shared):Prop :=
 ∃ (it:Addr) (fp:List Addr) (tn:Nat→Heap→Prop) (J:It) (H':Hp),itv=.ref it∧Inv X pins σ H' s2∧Turn X.prog X.w X.K tg J fp it tn∧tn 0 s2.heap∧(∀ b∈fp,FpOk X pins H' b)∧R J H'
noncomputable def PI(X:Cx)(tg iter:Expr)(wi:TI):Prop :=
 ∀ (pins:List (Addr×Obj)) (s:Shared) (σ:St) (H:Hp) (R:It→Hp→Prop),Inv X pins σ H s→wi σ H R →
  wpAny (model X.prog X.w) X.A (eval iter X.env) (fun v s1=>wpAny (model X.prog X.w) X.A (pyIter v) (PIE X pins σ tg R) X.xe s1) X.xe s
theorem go_of{M:Model}{A:Around}{E:Value→Shared→Prop}{s:Shared}{tg:Expr}{it:Addr}{u:Value}{o:Obj}{n:String}{vs:Array Value}{Q:Unit→Shared→Prop}(ho:s.heap.get? it=some o)(hc:o.cls=.type n)(hd:o.data=.fields vs)
    (hn:["enumerate", "zip", "dict_itemiterator", "dict_reverseitemiterator", "odict_iterator", "itertools.zip_longest", "itertools.pairwise"].contains n=false) (hQ:Q () s):wpAny M A (letOwnedTupleGo tg (.ref it) u) Q E s:=by
  unfold letOwnedTupleGo
  cases tg <;> first
    | exact wpAny_pure hQ
    | (cases u <;> first
        | exact wpAny_pure hQ
        | (refine wpAny_bind (wpAny_load ho ?_)
           rw [hc,hd]
           show wpAny M A (if (["enumerate", "zip", "dict_itemiterator", "dict_reverseitemiterator", "odict_iterator", "itertools.zip_longest", "itertools.pairwise"].contains n && vs[0]? == some (rawInt _))=true then _ else _) Q E s
           rw [if_neg (by intro h;rw [hn,Bool.false_and] at h;cases h)]
           exact wpAny_pure hQ))
noncomputable def Itl(K:Qd)(a:Addr):It :=
 ⟨fun i H=>∃ xs x,SqL K H a xs∧xs[i]?=some x,fun i H x H'=>H'=H∧∀ xs,SqL K H a xs→xs[i]?=some x,fun i H=>∃ xs,SqL K H a xs∧xs.length≤i⟩
noncomputable def Itt(K:Qd)(a:Addr):It :=
 ⟨fun i H=>∃ xs x,SqT K H a xs∧xs[i]?=some x,fun i H x H'=>H'=H∧∀ xs,SqT K H a xs→xs[i]?=some x,fun i H=>∃ xs,SqT K H a xs∧xs.length≤i⟩
noncomputable def Itr(lo:Int)(n:Nat):It:=⟨fun i _=>i < n,fun i H x H'=>H'=H∧x=.int (lo + i),fun i _=>n≤i⟩
theorem Z9i{P:Program}{w:World}{K:Qd}{tg:Expr}(a it:Addr):Turn P w K tg (Itl K a) [it] it (fun i h=>h.IsListIter it a i) where
 mem:=by simp
 obj:=fun i h st b hb=>by
  have e:b=it:=by simpa using hb
  subst e
  obtain ⟨o,e,c,d⟩:=st
  exact ⟨o,e,fun v z=>by rw [d] at z;cases z⟩
 keep:=fun i h h' st k=>st.at fun o e=>k it (by simp) o e
 item:=by
  intro X hP hw hK hc i pins s σ H E I hf st hg
  subst hP hw hK
  obtain ⟨xs,x,hq,hx⟩:=hg
  obtain ⟨its,rv,p,hz⟩:=I.list hq
  obtain ⟨u,hu,ru⟩:=rv.get hx
  obtain ⟨f0,f1,f2,f3,f4,f5⟩:=hf it (by simp)
  refine wpAny_pyNext_list_item st p.isList (x:=u) (by simpa using hu) fun h' st' sb=>?_
  have I1:Inv X pins σ H { s with heap:=h' }:=I.turned (t':=s.toks) (fun b o hb e=>(sb.2 b hb).trans e) f0 f1 f3 f4 f5
  obtain ⟨o,e,c,d⟩:=id st'
  exact ⟨u,rfl,go_of (s:={ s with heap:=h' }) e c d (by decide) ⟨x,H,I1,ru,⟨rfl,fun ys hy=>by rw [I.list_inj hy hq];exact hx⟩,st',fun b hb=>(hf b hb).1⟩⟩
 done:=by
  intro X hP hw hK hc i pins s σ H E I hf st hg
  subst hP hw hK
  obtain ⟨xs,hq,hx⟩:=hg
  obtain ⟨its,rv,p,hz⟩:=I.list hq
  obtain ⟨f0,f1,f2,f3,f4,f5⟩:=hf it (by simp)
  have hl:=rv.length
  exact wpAny_pyNext_list_end (I.ok.hd hc) st p.isList (by simp;omega) fun h' eb=>⟨rfl,I.turned (t':=s.toks) (fun b o hb e=>eb b o hb e) f0 f1 f3 f4 f5⟩
 self:=fun _ _ _ _ _ st h=>wpAny_pyIter_listiter st h
theorem Z80{P:Program}{w:World}{K:Qd}{tg:Expr}(a it:Addr):Turn P w K tg (Itt K a) [it] it (fun i h=>h.IsTupleIter it a i) where
 mem:=by simp
 obj:=fun i h st b hb=>by
  have e:b=it:=by simpa using hb
  subst e
  obtain ⟨o,e,c,d⟩:=st
  exact ⟨o,e,fun v z=>by rw [d] at z;cases z⟩
 keep:=fun i h h' st k=>st.at fun o e=>k it (by simp) o e
 item:=by
  intro X hP hw hK hc i pins s σ H E I hf st hg
  subst hP hw hK
  obtain ⟨xs,x,hq,hx⟩:=hg
  obtain ⟨its,rv,p,hz⟩:=I.tuple hq
  obtain ⟨u,hu,ru⟩:=rv.get hx
  obtain ⟨f0,f1,f2,f3,f4,f5⟩:=hf it (by simp)
  refine wpAny_pyNext_tuple_item st (show s.heap.IsTuple a its.toArray from p) (x:=u) (by simpa using hu) fun h' st' sb=>?_
  have I1:Inv X pins σ H { s with heap:=h' }:=I.turned (t':=s.toks) (fun b o hb e=>(sb.2 b hb).trans e) f0 f1 f3 f4 f5
  obtain ⟨o,e,c,d⟩:=id st'
  exact ⟨u,rfl,go_of (s:={ s with heap:=h' }) e c d (by decide) ⟨x,H,I1,ru,⟨rfl,fun ys hy=>by rw [I.tuple_inj hy hq];exact hx⟩,st',fun b hb=>(hf b hb).1⟩⟩
 done:=by
  intro X hP hw hK hc i pins s σ H E I hf st hg
  subst hP hw hK
  obtain ⟨xs,hq,hx⟩:=hg
  obtain ⟨its,rv,p,hz⟩:=I.tuple hq
  obtain ⟨f0,f1,f2,f3,f4,f5⟩:=hf it (by simp)
  have hl:=rv.length
  exact wpAny_pyNext_tuple_end (I.ok.hd hc) st (show s.heap.IsTuple a its.toArray from p) (by simp;omega) fun h' eb=>⟨rfl,I.turned (t':=s.toks) (fun b o hb e=>eb b o hb e) f0 f1 f3 f4 f5⟩
 self:=fun _ _ _ _ _ st h=>wpAny_pyIter_tupleiter st h
theorem Z7Z{P:Program}{w:World}{K:Qd}{tg:Expr}(it:Addr)(lo:Int)(n:Nat):Turn P w K tg (Itr lo n) [it] it (fun i h=>IsRangeIter h it (lo + (i:Nat) * 1) ((n:Int) - (i:Nat)) 1) where
 mem:=by simp
 obj:=fun i h st b hb=>by
  have e:b=it:=by simpa using hb
  subst e
  exact ⟨_,st,fun v z=>by
   have z':Data.fields _=Data.cell v:=z
   cases z'⟩
 keep:=fun i h h' st k=>k it (by simp) _ st
 item:=by
  intro X hP hw hK hc i pins s σ H E I hf st hg
  subst hP hw hK
  obtain ⟨f0,f1,f2,f3,f4,f5⟩:=hf it (by simp)
  have W:=Walks.range (prog:=X.prog) (w:=X.w) (I.ok.hd hc) it lo 1 n
  refine W.item i s _ _ hg st fun v h' tk hv st' kk=>?_
  obtain ⟨t,rfl⟩:=hv
  have I1:Inv X pins σ H { s with heap:=h',toks:=tk }:=I.turned (fun b o hb e=>kk b o (by simpa using hb) e) f0 f1 f3 f4 f5
  refine ⟨_,rfl,go_of (s:={ s with heap:=h',toks:=tk }) (n := "range_iterator") st' rfl rfl (by decide) ⟨.int (lo + i),H,I1,⟨t,?_⟩,⟨rfl,rfl⟩,st',fun b hb=>(hf b hb).1⟩⟩
  rw [Int.mul_one]
 done:=by
  intro X hP hw hK hc i pins s σ H E I hf st hg
  subst hP hw hK
  obtain ⟨f0,f1,f2,f3,f4,f5⟩:=hf it (by simp)
  exact wpAny_pyNext_range_end (I.ok.hd hc) st (by have:n≤i:=hg;omega) fun h' eb=>⟨rfl,I.turned (t':=s.toks) (fun b o hb e=>eb b o hb e) f0 f1 f3 f4 f5⟩
 self:=fun _ _ _ _ _ st h=>wpAny_pyIter_rangeiter st h
end L2
namespace L2
open PySem PySem.Spec PyProof.Rows
section
variable {X:Cx}{tg:Expr}
theorem Z6x{pins:List (Addr×Obj)}{σ:St}{H:Hp}{s:Shared}{R:It→Hp→Prop}{E:Value→Shared→Prop}{lo hi:Int}{t u v:Tok}{tk:Nat}(I:Inv X pins σ H s)(h1:-(2 ^ 62)≤lo)(h2:lo < 2 ^ 62)(h3:-(2 ^ 62)≤hi)(h4:hi < 2 ^ 62)
  (q:R (Itr lo (hi - lo).toNat) H):wpAny (model X.prog X.w) X.A (pyIter (.ref s.heap.objs.size)) (PIE X pins σ tg R) E { s with heap:=s.heap.push { cls:=.type "range",data:=.fields #[.int lo t,.int hi u,.int 1 v] },toks:=tk }:=by
 refine wpAny_pyIter_range (IsRange.new ..) (small_one h1 h2 h3 h4) ?_
 have I1:Inv X pins σ H { s with heap:=s.heap.push { cls:=.type "range",data:=.fields #[.int lo t,.int hi u,.int 1 v] },toks:=tk }:=I.kept fun b o e=>Heap.get?_push_of_some _ e
 refine ⟨(s.heap.push { cls:=.type "range",data:=.fields #[.int lo t,.int hi u,.int 1 v] }).objs.size,[(s.heap.push { cls:=.type "range",data:=.fields #[.int lo t,.int hi u,.int 1 v] }).objs.size],_,_,H,rfl,
  I1.kept (t':=tk) fun b o e=>Heap.get?_push_of_some _ e,Z7Z _ lo (hi - lo).toNat,?_,fun b hb=>?_,q⟩
 ·have e1:lo + ((0:Nat):Int) * 1=lo:=by simp
  have e2:(((hi - lo).toNat:Nat):Int) - ((0:Nat):Int)=Builtin.Range.rangeSize lo hi 1:=by rw [rangeSize_one];split <;> omega
  show IsRangeIter _ _ (lo + ((0:Nat):Int) * 1) ((((hi - lo).toNat:Nat):Int) - ((0:Nat):Int)) 1
  rw [e1,e2]
  exact Heap.get?_push_size _ rfl
 ·have e:b=(s.heap.push { cls:=.type "range",data:=.fields #[.int lo t,.int hi u,.int 1 v] }).objs.size:=by simpa using hb
  subst e
  exact I1.fpOk (Qu _) (I1.hok.fresh (Qu _))
noncomputable def iRng1(ta:TA):TI:=fun σ H R=>ta σ H fun vs H1=>∃ j:Int,vs=[.int j]∧-(2 ^ 62)≤j∧j < 2 ^ 62∧R (Itr 0 j.toNat) H1
noncomputable def iRng2(ta:TA):TI:=fun σ H R=>ta σ H fun vs H1=>∃ i j:Int,vs=[.int i,.int j]∧(-(2 ^ 62)≤i∧i < 2 ^ 62∧-(2 ^ 62)≤j∧j < 2 ^ 62)∧R (Itr i (j - i).toNat) H1
theorem Z38{a:Expr}{ta:TA}{p pos:Pos}(hg:Gl X "range")(hm:X.mg "range"=none)(ha:PA X [a] ta)(hs:starEach [a] X.env=[(false,eval a X.env)]:=by rfl):PI X tg (.Call (.Name "range" p) [a] [] pos) (iRng1 ta):=by
 intro pins s σ H R I h
 refine Call_ (Z48 I hg hm boot_range (PyProof.Rows.callWith_type1 (thn (ha pos pins s σ H _ I h) fun us s1 ⟨vs,H1,I1,r1,q1⟩=>?_) hs rfl))
 obtain ⟨j,e,q1,q2,q⟩:=q1
 subst e
 cases r1 with
 | cons r rr =>
  cases rr
  obtain ⟨t,rfl⟩:=r
  exact call_range_1 (Z6x I1 (by omega) (by omega) q1 q2 (by simpa using q))
theorem Z92{a b:Expr}{ta:TA}{p pos:Pos}(hg:Gl X "range")(hm:X.mg "range"=none)(ha:PA X [a,b] ta)(hs:starEach [a,b] X.env=[(false,eval a X.env),(false,eval b X.env)]:=by rfl)(hs2:starEach [b] X.env=[(false,eval b X.env)]:=by rfl) :
  PI X tg (.Call (.Name "range" p) [a,b] [] pos) (iRng2 ta):=by
 intro pins s σ H R I h
 refine Call_ (Z48 I hg hm boot_range (PyProof.Rows.callWith_type1 (thn (ha pos pins s σ H _ I h) fun us s1 ⟨vs,H1,I1,r1,q1⟩=>?_) (by rw [hs,hs2]) (by rw [hs2];rfl)))
 obtain ⟨i,j,e,⟨q1,q2,q3,q4⟩,q⟩:=q1
 subst e
 cases r1 with
 | cons r rr =>
  cases rr with
  | cons r' rr =>
   cases rr
   obtain ⟨t,rfl⟩:=r
   obtain ⟨t',rfl⟩:=r'
   exact call_range_2 (Z6x I1 q1 q2 q3 q4 q)

noncomputable def tFor(wi:TI)(g:TG)(tb:TS):TS:=fun D σ H=>wi σ H fun J H1=>∃ W:Nat→Nat→St→Hp→Prop,(∃ m,W 0 m σ H1)∧∀ i m σ H,W i m σ H →
 (J.stop i H∧D.nx σ H)∨(J.go i H∧∃ N:St→Hp→Prop,(∀ σ' H',N σ' H'→∃ m',m' < m∧W (i + 1) m' σ' H')∧∀ x H',J.yld i H x H'→g x σ H' fun σ2 H2=>tb { D with nx:=N,ct:=N,bk:=D.nx } σ2 H2)
noncomputable def Z3q(fp:List Addr)(h:Heap):List (Addr×Obj):=fp.filterMap fun b=>(h.get? b).map fun o=>(b,o)
theorem Z2j{fp:List Addr}{h:Heap}{b:Addr}{o:Obj}(hb:b∈fp)(e:h.get? b=some o):(b,o)∈Z3q fp h:=Nb.mpr ⟨b,hb,by rw [e];rfl⟩
theorem Z8U{fp:List Addr}{h:Heap}{p:Addr×Obj}(hp:p∈Z3q fp h):p.1∈fp∧h.get? p.1=some p.2:=by
 obtain ⟨b,hb,e⟩:=Nb.mp hp
 cases q:h.get? b with
 | none=>rw [q] at e;cases e
 | some o =>
  rw [q] at e
  have e':(b,o)=p:=Option.some.inj e
  subst e'
  exact ⟨hb,q⟩
theorem Inv.pinned{pins:List (Addr×Obj)}{σ:St}{H:Hp}{s:Shared}{fp:List Addr}(I:Inv X pins σ H s)(hf:∀ b∈fp,FpOk X pins H b)(ho:∀ b∈fp,∃ o,s.heap.get? b=some o∧∀ v,o.data≠.cell v):Inv X (pins++Z3q fp s.heap) σ H s :=
 I.pins_of fun p hp=>(Qe.mp hp).elim (fun z=>I.pin p (Qg _ z)) fun z=>by
  obtain ⟨hb,e⟩:=Z8U z
  obtain ⟨f0,f1,f2,_⟩:=hf p.1 hb
  obtain ⟨o,e',d⟩:=ho p.1 hb
  rw [e] at e';cases e'
  exact ⟨e,f0,f1,f2,d⟩
theorem Inv.unpinned{pins pl:List (Addr×Obj)}{σ:St}{H:Hp}{s:Shared}(I:Inv X (pins++pl) σ H s):Inv X pins σ H s:=I.pins_of fun p hp=>I.pin p (Qg _ (Qh _ hp))
theorem Z6u{iter:Expr}{body:List Stmt}{wi:TI}{g:TG}{tb:TS}{pos:Pos}(hp:PassesOwn (model X.prog X.w) X.A X.env X.xe)(hc:X.calm=true)(hi:PI X tg iter wi)(hg:PG X tg g)(hb:PSs X body tb)
  (hs:∀ x,foldedSetIterable iter X.env x=pure x:=by intro _;rfl):PS X (.For tg iter body [] pos) (tFor wi g tb):=by
 intro pins s σ H D I h
 refine wpAny_For (thn (hi pins s σ H _ I h) fun v s1 h1=>thn h1 fun itv s2 h2=>?_) hs
 obtain ⟨it,fp,tn,J,H2,e,I2,T,st2,f2,W,⟨m0,w0⟩,turn⟩:=h2
 subst e
 have stat:∀ {H':Hp},(∀ b∈fp,H' b=none)→∀ b∈fp,FpOk X pins H' b:=fun hn b hb=>⟨hn b hb,(f2 b hb).2⟩
 refine codeAny_forLoop_any (fun n s'=>∃ i σ' H',Inv X pins σ' H' s'∧tn i s'.heap∧(∀ b∈fp,H' b=none)∧W i n σ' H') ?_ m0 ⟨0,σ,H2,I2,st2,fun b hb=>(f2 b hb).1,w0⟩
 rintro n s3 ⟨i,σ3,H3,I3,st3,fr3,w3⟩
 rcases turn i n σ3 H3 w3 with ⟨stop,qn⟩ | ⟨go,N,hN,step⟩
 ·refine wpAny_passesOwn hp (thn (T.done X rfl rfl rfl hc i pins s3 σ3 H3 X.xe I3 (stat fr3) st3 stop) fun r s4 ⟨hr,I4⟩=>?_)
  subst hr
  exact wpAny_execs_nil ⟨σ3,H3,I4,qn⟩
 ·refine wpAny_passesOwn hp (thn (T.item X rfl rfl rfl hc i pins s3 σ3 H3 X.xe I3 (stat fr3) st3 go) fun r s4 ⟨u,hr,h4⟩=>?_)
  subst hr
  refine wpAny_passesOwn hp (thn h4 fun _ s5 ⟨x,H5,I5,r5,y5,st5,fr5⟩=>?_)
  have I5':=I5.pinned (stat fr5) (T.obj _ _ st5)
  refine wpAny_passesOwn hp (thn (hg _ s5 σ3 H5 x u _ I5' r5 (step x H5 y5)) fun _ s6 ⟨σ6,H6,I6,q6⟩=>?_)
  refine wpAny_passesOwn hp (thn (hb _ s6 σ6 H6 _ I6 q6) fun f s7 q7=>?_)
  have again:∀ {σ7:St} {H7:Hp},Inv X (pins++Z3q fp s5.heap) σ7 H7 s7→N σ7 H7→∃ m,m < n∧∃ i σ' H',Inv X pins σ' H' s7∧tn i s7.heap∧(∀ b∈fp,H' b=none)∧W i m σ' H':=fun {σ7 H7} I7 n7=>by
   obtain ⟨m',hm,w7⟩:=hN σ7 H7 n7
   refine ⟨m',hm,i + 1,σ7,H7,I7.unpinned,T.keep _ _ _ st5 fun b hb o e=>(I7.pin (b,o) (Qg _ (Qg _ (Z2j hb e)))).1,fun b hb=>?_,w7⟩
   obtain ⟨o,e,d⟩:=T.obj _ _ st5 b hb
   exact (I7.pin (b,o) (Qg _ (Qg _ (Z2j hb e)))).2.1
  cases f with
  | next=>obtain ⟨σ7,H7,I7,n7⟩:=q7;exact again I7 n7
  | cont=>obtain ⟨σ7,H7,I7,n7⟩:=q7;exact again I7 n7
  | brk=>obtain ⟨σ7,H7,I7,q7⟩:=q7;exact ⟨σ7,H7,I7.unpinned,q7⟩
  | ret v=>obtain ⟨x7,σ7,H7,I7,r7,q7⟩:=q7;exact ⟨x7,σ7,H7,I7.unpinned,r7,q7⟩
end

end L2
namespace L2
open PySem PySem.Spec PyProof.Rows
noncomputable abbrev R2:=V→V→Hp→VK→Prop
noncomputable def OpR(X:Cx)(f:Value→Value→Sem Value)(r:R2):Prop :=
 ∀ (pins:List (Addr×Obj)) (s:Shared) (σ:St) (H:Hp) (x y:V) (v u:Value) (Q:VK),Inv X pins σ H s→RelV x v→RelV y u→r x y H Q →
  wpAny (model X.prog X.w) X.A (f v u) (EP X pins σ Q) X.xe s
noncomputable def UnR(X:Cx)(f:Value→Sem Value)(r:V→Hp→VK→Prop):Prop :=
 ∀ (pins:List (Addr×Obj)) (s:Shared) (σ:St) (H:Hp) (x:V) (v:Value) (Q:VK),Inv X pins σ H s→RelV x v→r x H Q →
  wpAny (model X.prog X.w) X.A (f v) (EP X pins σ Q) X.xe s
noncomputable def Z0f(X:Cx)(f:Value)(r:List V→Hp→VK→Prop):Prop :=
 ∀ (pins:List (Addr×Obj)) (s:Shared) (σ:St) (H:Hp) (xs:List V) (us:List Value) (Q:VK),Inv X pins σ H s→Vals xs us→r xs H Q →
  wpAny (model X.prog X.w) X.A (call f us) (EP X pins σ Q) X.xe s
noncomputable def tOp(r:R2)(ta tb:TE):TE:=fun σ H Q=>ta σ H fun x H1=>tb σ H1 fun y H2=>r x y H2 Q
noncomputable def tUn(r:V→Hp→VK→Prop)(ta:TE):TE:=fun σ H Q=>ta σ H fun x H1=>r x H1 Q
noncomputable def rI(C:Int→Int→Prop)(g:Int→Int→V):R2:=fun x y H Q=>∃ i j,x=.int i∧y=.int j∧C i j∧Q (g i j) H
noncomputable def rI0(g:Int→Int→V):R2:=fun x y H Q=>∃ i j,x=.int i∧y=.int j∧Q (g i j) H
noncomputable def rU(g:Int→V):V→Hp→VK→Prop:=fun x H Q=>∃ i,x=.int i∧Q (g i) H
section
variable {X:Cx}{a b c:Expr}{ta tb tc:TE}{pos:Pos}
theorem binT(ha:PE X a ta)(hb:PE X b tb){pins:List (Addr×Obj)}{s:Shared}{σ:St}{H:Hp}{R:V→V→Hp→Prop}(I:Inv X pins σ H s)
  (h:ta σ H fun x H1=>tb σ H1 fun y H2=>R x y H2) {Q:Value→Shared→Prop} {f:Value→Value→Sem Value}
  (hf:∀ v u s2 x y H2,Inv X pins σ H2 s2→RelV x v→RelV y u→R x y H2→wpAny (model X.prog X.w) X.A (f v u) Q X.xe s2) :
  wpAny (model X.prog X.w) X.A (eval a X.env) (fun v s₁=>wpAny (model X.prog X.w) X.A (eval b X.env) (fun u s₂=>wpAny (model X.prog X.w) X.A (f v u) Q X.xe s₂) X.xe s₁) X.xe s:=by
 refine thn (ha pins s σ H _ I h) fun v s1 ⟨x,H1,I1,r1,q1⟩=>?_
 refine thn (hb pins s1 σ H1 _ I1 q1) fun u s2 ⟨y,H2,I2,r2,q2⟩=>?_
 exact hf v u s2 x y H2 I2 r1 r2 q2
theorem pe_op{op:Operator}{r:R2}(ho:OpR X (binaryOp op) r)(ha:PE X a ta)(hb:PE X b tb):PE X (.BinOp a op b pos) (tOp r ta tb):=by
 intro pins s σ H Q I h
 exact wpAny_BinOp (binT ha hb I h fun v u s2 x y H2 I2 rx ry q=>ho pins s2 σ H2 x y v u Q I2 rx ry q)
theorem pe_un{op:UnaryOp}{r:V→Hp→VK→Prop}(ho:UnR X (unaryOp op) r)(ha:PE X a ta):PE X (.UnaryOp op a pos) (tUn r ta):=by
 intro pins s σ H Q I h
 exact UnaryOp_ (thn (ha pins s σ H _ I h) fun v s1 ⟨x,H1,I1,r1,q1⟩=>ho pins s1 σ H1 x v Q I1 r1 q1)

theorem opI{f:Value→Value→Sem Value}{C:Int→Int→Prop}{g:Int→Int→Int}
  (rule:∀ (i j:Int) (t u:Tok) (s:Shared) (Q:Value→Shared→Prop) (E:Value→Shared→Prop),C i j→Q (.int (g i j) s.toks) { s with toks:=s.toks + 1 }→wpAny (model X.prog X.w) X.A (f (.int i t) (.int j u)) Q E s) :
  OpR X f (rI C fun i j=>.int (g i j)):=by
 intro pins s σ H x y v u Q I rx ry h
 obtain ⟨i,j,rfl,rfl,hc,q⟩:=h
 obtain ⟨t,rfl⟩:=rx
 obtain ⟨t',rfl⟩:=ry
 exact rule i j t t' s _ _ hc ⟨.int (g i j),H,I.tok _,⟨_,rfl⟩,q⟩
theorem opI0{f:Value→Value→Sem Value}{g:Int→Int→Int}
  (rule:∀ (i j:Int) (t u:Tok) (s:Shared) (Q:Value→Shared→Prop) (E:Value→Shared→Prop),Q (.int (g i j) s.toks) { s with toks:=s.toks + 1 }→wpAny (model X.prog X.w) X.A (f (.int i t) (.int j u)) Q E s) :
  OpR X f (rI0 fun i j=>.int (g i j)):=by
 intro pins s σ H x y v u Q I rx ry h
 obtain ⟨i,j,rfl,rfl,q⟩:=h
 obtain ⟨t,rfl⟩:=rx
 obtain ⟨t',rfl⟩:=ry
 exact rule i j t t' s _ _ ⟨.int (g i j),H,I.tok _,⟨_,rfl⟩,q⟩
theorem opB0{f:Value→Value→Sem Value}{g:Int→Int→Bool}
  (rule:∀ (i j:Int) (t u:Tok) (s:Shared) (Q:Value→Shared→Prop) (E:Value→Shared→Prop),Q (.bool (g i j)) s→wpAny (model X.prog X.w) X.A (f (.int i t) (.int j u)) Q E s) :
  OpR X f (rI0 fun i j=>.bl (g i j)):=by
 intro pins s σ H x y v u Q I rx ry h
 obtain ⟨i,j,rfl,rfl,q⟩:=h
 obtain ⟨t,rfl⟩:=rx
 obtain ⟨t',rfl⟩:=ry
 exact rule i j t t' s _ _ ⟨.bl (g i j),H,I,rfl,q⟩
noncomputable def CDiv(i j:Int):Prop:=0 < j∧j < 1073741824
noncomputable def CMul(i j:Int):Prop:=(-(2 ^ 64) < i∧i < 2 ^ 64)∨(-(2 ^ 64) < j∧j < 2 ^ 64)
theorem CMul.ok{i j:Int}(h:CMul i j):IntMulOk i j:=by
 rcases h with ⟨h1,h2⟩ | ⟨h1,h2⟩
 ·exact .of_left (intBits_le_64 h1 h2)
 ·exact .of_right (intBits_le_64 h1 h2)
theorem Zbv:OpR X (binaryOp .Add) (rI0 fun i j=>.int (i + j)):=opI0 fun _ _ _ _ _ _ _ q=>add_int q
theorem Zby:OpR X (binaryOp .Sub) (rI0 fun i j=>.int (i - j)):=opI0 fun _ _ _ _ _ _ _ q=>sub_int q
theorem Zbx:OpR X (binaryOp .Mult) (rI CMul fun i j=>.int (i * j)):=opI fun _ _ _ _ _ _ _ hc q=>mul_int q hc.ok
theorem Zal:OpR X (binaryOp .FloorDiv) (rI CDiv fun i j=>.int (i / j)):=opI fun i j _ _ _ _ _ hc q=>by
 have h1:(0:Int) < j:=hc.1
 have h2:j < 1073741824:=hc.2
 exact floordiv_int (by omega) (by rw [Int.fdiv_eq_ediv_of_nonneg i (by omega)];exact q) (.inl (PyProof.noPylong_small (by omega)))
theorem Zbw:OpR X (binaryOp .Mod) (rI (fun _ j=>0 < j) fun i j=>.int (i % j)):=opI fun i j _ _ _ _ _ hc q=>by
 have h1:(0:Int) < j:=hc
 exact mod_int' (by omega) (by rw [Int.fmod_eq_emod_of_nonneg i (by omega)];exact q)
theorem unI{f:Value→Sem Value}{g:Int→Int}
  (rule:∀ (i:Int) (t:Tok) (s:Shared) (Q:Value→Shared→Prop) (E:Value→Shared→Prop),Q (.int (g i) s.toks) { s with toks:=s.toks + 1 }→wpAny (model X.prog X.w) X.A (f (.int i t)) Q E s) :
  UnR X f (rU fun i=>.int (g i)):=by
 intro pins s σ H x v Q I rx h
 obtain ⟨i,rfl,q⟩:=h
 obtain ⟨t,rfl⟩:=rx
 exact rule i t s _ _ ⟨.int (g i),H,I.tok _,⟨_,rfl⟩,q⟩
theorem ZbV:UnR X (unaryOp .USub) (rU fun i=>.int (-i)):=unI fun _ _ _ _ _ q=>neg_int q

end

noncomputable def scal:V→V→Bool
 | .non,.non=>true | .non,.int _=>true | .int _,.non=>true | .non,.bl _=>true | .bl _,.non=>true | .non,.str _=>true | .str _,.non=>true
 | .int _,.int _=>true | .bl _,.bl _=>true | .str _,.str _=>true | .byt _,.byt _=>true
 | .int _,.str _=>true | .str _,.int _=>true | .bl _,.str _=>true | .str _,.bl _=>true
 | _,_=>false
noncomputable def rEq:R2:=fun x y H Q=>scal x y=true∧Q (.bl (decide (x=y))) H
noncomputable def rNe:R2:=fun x y H Q=>scal x y=true∧Q (.bl (!decide (x=y))) H
theorem Z73{i j:Int}:decide (V.int i=V.int j)=(i == j):=by
 rw [Gj]
 simp
theorem Z8a{i j:Bool}:decide (V.bl i=V.bl j)=(i == j):=by
 rw [Gj]
 simp
theorem Z74{i j:Str}:decide (V.str i=V.str j)=(i == j):=by
 rw [Gj]
 simp
theorem Z72{i j:Array UInt8}:decide (V.byt i=V.byt j)=(i.toList == j.toList):=by
 rw [Gj]
 cases i
 cases j
 simp
section
variable {X:Cx}{a b c:Expr}{ta tb tc:TE}{pos:Pos}
theorem ZG{pins:List (Addr×Obj)}{σ:St}{H:Hp}{s:Shared}{Q:VK}{k k':Bool}(I:Inv X pins σ H s)(q:Q (.bl k) H)(e:k=k'):EP X pins σ Q (.bool k') s:=by
 subst e
 exact ⟨.bl k,H,I,rfl,q⟩
theorem op_eq:OpR X (compareOp .Eq) rEq:=by
 intro pins s σ H x y v u Q I rx ry h
 obtain ⟨hs,q⟩:=h
 cases x with
 | non =>
  cases rx
  cases y with
  | non=>cases ry;exact PySem.EqNone.eq_none_none (ZG I q (by simp))
  | bl j=>cases ry;exact PySem.EqNone.eq_none_bool (ZG I q (by simp))
  | int j=>obtain ⟨t',rfl⟩:=ry;exact PySem.EqNone.eq_none_int (ZG I q (by simp))
  | str j=>obtain ⟨t',rfl⟩:=ry;exact PySem.EqNone.eq_none_str (ZG I q (by simp))
  | _=>exact absurd (show false=true from hs) Qp
 | bl i =>
  cases rx
  cases y with
  | non=>cases ry;exact PySem.EqNone.eq_bool_none (ZG I q (by simp))
  | bl j=>cases ry;exact eq_bool (ZG I q Z8a)
  | str j=>obtain ⟨t',rfl⟩:=ry;exact PySem.EqMixed.eq_bool_str (ZG I q (by simp))
  | _=>exact absurd (show false=true from hs) Qp
 | int i =>
  obtain ⟨t,rfl⟩:=rx
  cases y with
  | non=>cases ry;exact PySem.EqNone.eq_int_none (ZG I q (by simp))
  | int j=>obtain ⟨t',rfl⟩:=ry;exact eq_int (ZG I q Z73)
  | str j=>obtain ⟨t',rfl⟩:=ry;exact PySem.EqMixed.eq_int_str (ZG I q (by simp))
  | _=>exact absurd (show false=true from hs) Qp
 | str i =>
  obtain ⟨t,rfl⟩:=rx
  cases y with
  | non=>cases ry;exact PySem.EqNone.eq_str_none (ZG I q (by simp))
  | bl j=>cases ry;exact PySem.EqMixed.eq_str_bool (ZG I q (by simp))
  | int j=>obtain ⟨t',rfl⟩:=ry;exact PySem.EqMixed.eq_str_int (ZG I q (by simp))
  | str j=>obtain ⟨t',rfl⟩:=ry;exact eq_str (ZG I q Z74)
  | _=>exact absurd (show false=true from hs) Qp
 | byt i =>
  obtain ⟨t,rfl⟩:=rx
  cases y with
  | byt j=>obtain ⟨t',rfl⟩:=ry;exact PySem.W.eq_bytes (ZG I q Z72)
  | _=>exact absurd (show false=true from hs) Qp
 | _=>cases y <;> exact absurd (show false=true from hs) Qp
theorem op_ne:OpR X (compareOp .NotEq) rNe:=by
 intro pins s σ H x y v u Q I rx ry h
 obtain ⟨hs,q⟩:=h
 cases x with
 | non =>
  cases rx
  cases y with
  | non=>cases ry;exact PySem.EqNone.ne_none_none (ZG I q (by simp))
  | bl j=>cases ry;exact PySem.EqNone.ne_none_bool (ZG I q (by simp))
  | int j=>obtain ⟨t',rfl⟩:=ry;exact PySem.EqNone.ne_none_int (ZG I q (by simp))
  | str j=>obtain ⟨t',rfl⟩:=ry;exact PySem.EqNone.ne_none_str (ZG I q (by simp))
  | _=>exact absurd (show false=true from hs) Qp
 | bl i =>
  cases rx
  cases y with
  | non=>cases ry;exact PySem.EqNone.ne_bool_none (ZG I q (by simp))
  | bl j=>cases ry;exact ne_bool (ZG I q (congrArg not Z8a))
  | str j=>obtain ⟨t',rfl⟩:=ry;exact PySem.EqMixed.ne_bool_str (ZG I q (by simp))
  | _=>exact absurd (show false=true from hs) Qp
 | int i =>
  obtain ⟨t,rfl⟩:=rx
  cases y with
  | non=>cases ry;exact PySem.EqNone.ne_int_none (ZG I q (by simp))
  | int j=>obtain ⟨t',rfl⟩:=ry;exact ne_int (ZG I q (congrArg not Z73))
  | str j=>obtain ⟨t',rfl⟩:=ry;exact PySem.EqMixed.ne_int_str (ZG I q (by simp))
  | _=>exact absurd (show false=true from hs) Qp
 | str i =>
  obtain ⟨t,rfl⟩:=rx
  cases y with
  | non=>cases ry;exact PySem.EqNone.ne_str_none (ZG I q (by simp))
  | bl j=>cases ry;exact PySem.EqMixed.ne_str_bool (ZG I q (by simp))
  | int j=>obtain ⟨t',rfl⟩:=ry;exact PySem.EqMixed.ne_str_int (ZG I q (by simp))
  | str j=>obtain ⟨t',rfl⟩:=ry;exact ne_str (ZG I q (congrArg not Z74))
  | _=>exact absurd (show false=true from hs) Qp
 | byt i =>
  obtain ⟨t,rfl⟩:=rx
  cases y with
  | byt j=>obtain ⟨t',rfl⟩:=ry;exact PySem.W.ne_bytes (ZG I q (congrArg not Z72))
  | _=>exact absurd (show false=true from hs) Qp
 | _=>cases y <;> exact absurd (show false=true from hs) Qp
theorem op_lt:OpR X (compareOp .Lt) (rI0 fun i j=>.bl (decide (i < j))):=opB0 fun _ _ _ _ _ _ _ q=>lt_int q
theorem op_gt:OpR X (compareOp .Gt) (rI0 fun i j=>.bl (decide (j < i))):=opB0 fun _ _ _ _ _ _ _ q=>gt_int q
theorem Z4f:OpR X (compareOp .Is) (fun x y H Q=>y=.non∧Q (.bl (decide (x=.non))) H):=by
 intro pins s σ H x y v u Q I rx ry h
 obtain ⟨rfl,q⟩:=h
 cases ry
 refine is_none_gen (ZG I q ?_)
 cases x <;> first
  | (cases rx;rfl)
  | (obtain ⟨t,rfl⟩:=rx;rfl)
theorem Zam:OpR X (compareOp .IsNot) (fun x y H Q=>y=.non∧Q (.bl (!decide (x=.non))) H):=by
 intro pins s σ H x y v u Q I rx ry h
 obtain ⟨rfl,q⟩:=h
 cases ry
 refine isnot_none_gen (ZG I q ?_)
 cases x <;> first
  | (cases rx;rfl)
  | (obtain ⟨t,rfl⟩:=rx;rfl)
theorem ZD(b:Expr){op:CmpOp}(h:op≠.In:=by decide)(h2:op≠.NotIn:=by decide):behindInMarks op b=false:=by
 have e1:(op == CmpOp.In)=false:=by cases op <;> first | rfl | exact absurd rfl h
 have e2:(op == CmpOp.NotIn)=false:=by cases op <;> first | rfl | exact absurd rfl h2
 cases b <;> simp [behindInMarks,e1,e2]
theorem Z3p{op:CmpOp}{r:R2}(ho:OpR X (compareOp op) r)(ha:PE X a ta)(hb:PE X b tb)(hm:behindInMarks op b=false):PE X (.Compare a [op] [b] pos) (tOp r ta tb):=by
 intro pins s σ H Q I h
 exact wpAny_Compare1 (binT ha hb I h fun v u s2 x y H2 I2 rx ry q=>ho pins s2 σ H2 x y v u Q I2 rx ry q) hm
noncomputable def tTest(t:TE):TT:=fun σ H Q=>t σ H fun x H'=>∃ k,x=.bl k∧Q k H'
theorem Z2w{op:CmpOp}{r:R2}(ho:OpR X (compareOp op) r)(ha:PE X a ta)(hb:PE X b tb)(hm:behindInMarks op b=false):PT X (.Compare a [op] [b] pos) (tTest (tOp r ta tb)):=by
 intro pins s σ H Q I h
 refine wpAny_isTrue_Compare1 (thn (ha pins s σ H _ I h) fun v s1 ⟨x,H1,I1,r1,q1⟩=>thn (hb pins s1 σ H1 _ I1 q1) fun u s2 ⟨y,H2,I2,r2,q2⟩ =>
  thn (ho pins s2 σ H2 x y v u _ I2 r1 r2 q2) fun c s3 ⟨z,H3,I3,r3,k,e,q3⟩=>?_) hm
 subst e
 cases r3
 exact wpAny_truthy_bool ⟨H3,I3,q3⟩

theorem line63:(sizeLine:Nat) < 2 ^ 63:=by rw [sizeLine_eq];decide


theorem vals1{x:V}{us:List Value}(r:Vals [x] us):∃ u,us=[u]∧RelV x u:=by
 cases r with
 | cons r1 r2=>cases r2;exact ⟨_,rfl,r1⟩
theorem vals2{x y:V}{us:List Value}(r:Vals [x,y] us):∃ u w',us=[u,w']∧RelV x u∧RelV y w':=by
 cases r with
 | cons r1 r2 =>
  cases r2 with
  | cons r3 r4=>cases r4;exact ⟨_,_,rfl,r1,r3⟩
theorem Z85(hc:X.calm=true):Z0f X (.builtin "max") (fun xs H Q=>∃ i j,xs=[.int i,.int j]∧Q (.int (if j > i then j else i)) H):=by
 intro pins s σ H xs us Q I r h
 obtain ⟨i,j,rfl,q⟩:=h
 obtain ⟨u,w',rfl,⟨t,rfl⟩,⟨t',rfl⟩⟩:=vals2 r
 refine max_two_ints (I.ok.hd hc) fun h' tk k=>⟨_,H,I.kept k,?_,q⟩
 by_cases hj:j > i
 ·rw [if_pos hj,if_pos hj];exact ⟨_,rfl⟩
 ·rw [if_neg hj,if_neg hj];exact ⟨_,rfl⟩
theorem Z86(hc:X.calm=true):Z0f X (.builtin "min") (fun xs H Q=>∃ i j,xs=[.int i,.int j]∧Q (.int (if j < i then j else i)) H):=by
 intro pins s σ H xs us Q I r h
 obtain ⟨i,j,rfl,q⟩:=h
 obtain ⟨u,w',rfl,⟨t,rfl⟩,⟨t',rfl⟩⟩:=vals2 r
 refine min_two_ints (I.ok.hd hc) fun h' tk k=>⟨_,H,I.kept k,?_,q⟩
 by_cases hj:j < i
 ·rw [if_pos hj,if_pos hj];exact ⟨_,rfl⟩
 ·rw [if_neg hj,if_neg hj];exact ⟨_,rfl⟩
noncomputable def LenV(K:Qd)(x:V)(H:Hp)(n:Nat):Prop :=
 match x with
 | .str y=>y.length≤sizeLine∧n=y.length
 | .byt y=>y.size≤sizeLine∧n=y.size
 | .ref p=>(∃ xs,SqL K H p xs∧n=xs.length)∨∃ xs,SqT K H p xs∧n=xs.length
 | _=>False
theorem call_len:Z0f X (.builtin "len") (fun xs H Q=>∃ x n,xs=[x]∧LenV X.K x H n∧Q (.int n) H):=by
 intro pins s σ H xs us Q I r h
 obtain ⟨x,n,rfl,e,q⟩:=h
 obtain ⟨u,rfl,rx⟩:=vals1 r
 have hl:=line63
 have hs:sizeLine=16777216:=sizeLine_eq
 cases x with
 | str y =>
  obtain ⟨t,rfl⟩:=rx
  obtain ⟨hy,e'⟩:y.length≤sizeLine∧n=y.length:=e
  subst e'
  exact len_str (by omega) ⟨.int _,H,I.tok _,⟨_,rfl⟩,q⟩
 | byt y =>
  obtain ⟨t,rfl⟩:=rx
  obtain ⟨hy,e'⟩:y.size≤sizeLine∧n=y.size:=e
  subst e'
  exact PySem.W.len_bytes (by omega) ⟨.int _,H,I.tok _,⟨_,rfl⟩,q⟩
 | ref p =>
  cases rx
  have e':(∃ xs,SqL X.K H p xs∧n=xs.length)∨∃ xs,SqT X.K H p xs∧n=xs.length:=e
  rcases e' with ⟨xs,hx,e'⟩ | ⟨xs,hx,e'⟩
  ·subst e'
   obtain ⟨its,r',pl,hz⟩:=I.list hx
   have hlen:=r'.length
   exact Calls.call_len_list pl.isList (by simp only [Jg];omega) ⟨.int xs.length,H,I.tok _,⟨_,by simp only [Jg];rw [hlen]⟩,q⟩
  ·subst e'
   obtain ⟨its,r',pl,hz⟩:=I.tuple hx
   have hlen:=r'.length
   exact len_tuple pl (by simp only [Jg];omega) ⟨.int xs.length,H,I.tok _,⟨_,by simp only [Jg];rw [hlen]⟩,q⟩
 | _=>exact (show False from e).elim
end
end L2
namespace L2
open PySem PySem.Spec PyProof.Rows

structure ObjM(h:Heap)(x dx C:Addr)(mA:Str→Option Value):Prop where
 obj:h.get? x=some (PySem.W.instObj C dx)
 ns:h.Ns1 dx mA
 ne:dx≠x
section
variable {prog:Program}{w:World}{A:Around}{E:Value→Shared→Prop}{s:Shared}{K:Qd}{x dx C f:Addr}{mA:Str→Option Value}{name:Str}{v:Value}
end

noncomputable def putF(f:Str)(v:V):List (Str×V)→List (Str×V)
 | []=>[(f,v)]
 | (g,x)::r=>if g=f then (g,v)::r else (g,x)::putF f v r
theorem RelO.some_of{v:V}{o:Option Value}(r:RelO (some v) o):∃ u,o=some u∧RelV v u:=by
 cases o with
 | none=>exact (show False from r).elim
 | some u=>exact ⟨u,rfl,r⟩
section
variable {P:Program}{w:World}{H H':Hp}{h h':Heap}{a C dx:Addr}{fs fs':List (Str×V)}
end

structure Cls(K:Qd)(C:Addr):Prop where
 pg:PySem.W.plainGet K C Str.empty=true
 hd:PySem.W.hasDictIn K C=true
 po:PySem.W.plainOver K C=true
 sa:PySem.W.findIn K (.ref C) "__setattr__"=some (some (.builtin "object.__setattr__"))
structure Con(K:Qd)(C:Addr)(f:Str)(v:V)(u:Value):Prop where
 at_:PySem.W.findIn K (.ref C) f=some (some u)
 rel:RelV v u
 get:PySem.W.specialIn K u "__get__"=some none
 cp:PySem.W.copiedNames.contains f=false
structure Meth(K:Qd)(C:Addr)(m:Str)(f:Addr):Prop where
 at_:PySem.W.findIn K (.ref C) m=some (some (.ref f))
 fn:PySem.W.isFn K (.ref f)=true
 kp:PySem.W.keepIn K (.ref f)=true
section
variable {X:Cx}{pins:List (Addr×Obj)}{σ:St}{H:Hp}{s:Shared}{a C dx:Addr}{fs:List (Str×V)}{f:Str}{v:V}{A:Around}{E:Value→Shared→Prop}
end

section
variable {X:Cx}{o e value:Expr}{f:Str}{pos pos' tpos:Pos}{ta tv:TE}
end

section
variable {X:Cx}{pins:List (Addr×Obj)}{σ:St}{H:Hp}{s:Shared}{A:Around}{E:Value→Shared→Prop}{Q:Value→Shared→Prop}{c:Value}{b:Bool}
inductive TyOf(K:Qd)(H:Hp):V→Value→Prop where
 | non:TyOf K H .non (.type "NoneType")
 | bl (x:Bool):TyOf K H (.bl x) (.type "bool")
 | int (i:Int):TyOf K H (.int i) (.type "int")
 | str (x:Str):TyOf K H (.str x) (.type "str")
 | flt (x:UInt64):TyOf K H (.flt x) (.type "float")
 | lst {a:Addr} {xs:List V} (e:H a=some (.lst xs)):TyOf K H (.ref a) (.type "list")
 | frz {a:Addr} {o:Obj} {xs:List V} (e:H a=some (.frz o (.lst xs))):TyOf K H (.ref a) (.type "list")
 | tup {a:Addr} {xs:List V} (e:H a=some (.tup xs)):TyOf K H (.ref a) (.type "tuple")
 | dK {a:Addr} {kvs:List (Key×V)} (e:H a=some (.dK kvs)):TyOf K H (.ref a) (.type "dict")
 | dT {a:Addr} {kvs:List (List Key×V)} (e:H a=some (.dT kvs)):TyOf K H (.ref a) (.type "dict")
 | ins {a C dx:Addr} {fs:List (Str×V)} (e:H a=some (.ins C dx fs)) (cl:Cls K C) (ha:PySem.W.findIn K (.ref C) "__class__"=some (some (.builtin "object.__class__")))
   (hn:PySem.W.specialIn K (.builtin "object.__class__") "__get__"=some (some (.builtin "getset_descriptor.__get__"))) (htk:PySem.W.takesIn K (.builtin "object.__class__")=some true)
   (hm:PySem.W.mroIn K C (.type "object")=some true):TyOf K H (.ref a) (.ref C)
end
end L2
namespace L2
open PySem PySem.Spec PyProof.Rows

structure Room(k:Nat)(A:Around):Prop where
 hd:A.handled=none
 dp:A.depth + 3 * k + 5 < recursionLimit
 un:A.units + 16 * k + 200 < cLine
 gd:A.guards=some []
theorem Room.mono{j k:Nat}{A:Around}(r:Room k A)(h:j≤k):Room j A:=⟨r.hd,by have:=r.dp;omega,by have:=r.un;omega,r.gd⟩
theorem Room.deeper{k:Nat}{A:Around}(r:Room (k + 1) A)(env:Env):Room k (A.deeper env) :=
 ⟨r.hd,by have:=r.dp;show A.depth + 1 + 3 * k + 5 < _;omega,by have:=r.un;show A.units + 3 + 16 * k + 200 < _;omega,r.gd⟩
theorem Room.depth{k:Nat}{A:Around}(r:Room k A):A.depth < recursionLimit:=by have:=r.dp;omega
theorem Room.units{k:Nat}{A:Around}(r:Room k A):A.units + 64 < cLine:=by have:=r.un;omega

noncomputable def tNil:TA:=fun _ H Q=>Q [] H
noncomputable def Z1Z(ta:TE)(tr:TA):TA:=fun σ H Q=>ta σ H fun x H1=>tr σ H1 fun xs H2=>Q (x::xs) H2
section
variable {X:Cx}{e:Expr}{es:List Expr}{te:TE}{t:TA}{pos:Pos}
theorem ZX:PA X [] tNil:=fun _ _ _ _ H Q I h=>Calls.spliced_nil ⟨[],H,I,.nil,h⟩
theorem Zk(ha:PE X e te)(hr:PA X es t)(hs:starEach (e::es) X.env=(false,eval e X.env)::starEach es X.env:=by rfl):PA X (e::es) (Z1Z te t):=by
 intro pos pins s σ H Q I h
 rw [hs]
 show wpAny _ _ (spliced ((false,eval e X.env)::backTo pos (starEach es X.env))) _ _ s
 refine Calls.spliced_cons (thn (ha pins s σ H _ I h) fun u s1 ⟨x,H1,I1,r1,q1⟩=>?_)
 exact thn (hr pos pins s1 σ H1 _ I1 q1) fun us s2 ⟨xs,H2,I2,r2,q2⟩=>⟨x::xs,H2,I2,.cons r1 r2,q2⟩
noncomputable def tTup(t:TA):TE:=fun σ H Q=>t σ H fun xs H1=>xs.length≤sizeLine∧∀ p,H1 p=none→Q (.ref p) (upd H1 p (.tup xs))
noncomputable def tLst(t:TA):TE:=fun σ H Q=>t σ H fun xs H1=>xs.length≤sizeLine∧∀ p,H1 p=none→Q (.ref p) (upd H1 p (.lst xs))
theorem Z90{x1}(h:PA X es t):PE X (.Tuple es x1 pos) (tTup t):=by
 intro pins s σ H Q I hq
 refine wpAny_Tuple_spliced (thn (h pos pins s σ H _ I hq) fun us s1 ⟨xs,H1,I1,r,z,q⟩=>⟨by rw [← r.length];exact z,?_⟩)
 have hf:H1 s1.heap.objs.size=none:=I1.hok.fresh (Qu _)
 refine ⟨.ref s1.heap.objs.size,upd H1 s1.heap.objs.size (.tup xs),I1.laid (t':=s1.toks) (fun b u e=>Heap.get?_push_of_some _ e) (Qu _) ?_,rfl,q _ hf⟩
 exact ⟨z,us,r,⟨_,Heap.get?_push_size _ rfl,rfl,_,rfl⟩⟩
theorem ZbA(h:PA X es t):PE X (.List es pos) (tLst t):=by
 intro pins s σ H Q I hq
 refine wpAny_List_spliced (thn (h pos pins s σ H _ I hq) fun us s1 ⟨xs,H1,I1,r,z,q⟩=>⟨by rw [← r.length];exact z,?_⟩)
 have hf:H1 s1.heap.objs.size=none:=I1.hok.fresh (Qu _)
 refine ⟨.ref s1.heap.objs.size,upd H1 s1.heap.objs.size (.lst xs),I1.laid (t':=s1.toks) (fun b u e=>Heap.get?_push_of_some _ e) (Qu _) ?_,rfl,q _ hf⟩
 exact ⟨z,us,0,r,Heap.get?_push_size _ rfl⟩
end

noncomputable abbrev Sp:=List V→Hp→VK→XK→Prop
noncomputable abbrev CXT:=List Env→Hp→Shared→XK→Value→Shared→Prop
structure Env0(P:Program)(w:World)(K:Qd)(mg:Str→Option Value)(base:Heap)(A:Around)(outer:List Env)(s:Shared)(H:Hp):Prop where
 frames:A.frames=some outer
 mod:Mod K mg base
 bs:∀ b o,base.get? b=some o→s.heap.get? b=some o∧H b=none
 bsz:base.objs.size≤s.heap.objs.size
 funs:s.heap.FunFrames base outer
 frf:∀ b∈frs outer,H b=none
 hok:HOk P w H s.heap
 bare:AllBare s.gens
noncomputable def CE(outer:List Env)(P:Program)(w:World)(H:Hp)(s:Shared)(Q:VK)(u:Value)(s':Shared):Prop :=
 ∃ v H',s'.os=s.os∧AllBare s'.gens∧Un (frs outer) [] H H' s.heap s'.heap∧HOk P w H' s'.heap∧RelV v u∧Q v H'
noncomputable def CR(CX:CXT)(outer:List Env)(P:Program)(w:World)(H:Hp)(s:Shared)(Q:VK)(E:XK)(r:Result)(s':Shared):Prop :=
 match r with
 | .ok (.ret u)=>CE outer P w H s Q u s'
 | .ok _=>False
 | .error e=>CX outer H s E e s'
structure FnOk(P:Program)(w:World)(K:Qd)(mg:Str→Option Value)(base:Heap)(CX:CXT)(k:Nat)(f:Addr)(fd:FuncData)(ps:List Str)(sp:Sp):Prop where
 len:∀ vs H Q E,sp vs H Q E→vs.length=ps.length
 run:∀ (A:Around) (outer:List Env) (s:Shared) (H:Hp) (args:Args) (us:List Value) (vs:List V) (Q:VK) (E:XK),Room k A→Env0 P w K mg base A outer s H→BindsTo s fd args (ps.zip us)→Vals vs us→sp vs H Q E →
  codeAny (model P w) A (.call (.ref f) args) (CR CX outer P w H s Q E) s
theorem FnOk.imp{P:Program}{w:World}{K:Qd}{mg:Str→Option Value}{base:Heap}{CX:CXT}{k:Nat}{f:Addr}{fd:FuncData}{ps:List Str}{sp sp':Sp}(F:FnOk P w K mg base CX k f fd ps sp)
  (h:∀ vs H Q E,sp' vs H Q E→sp vs H Q E):FnOk P w K mg base CX k f fd ps sp' :=
 ⟨fun vs H Q E q=>F.len vs H Q E (h _ _ _ _ q),fun A outer s H args us vs Q E hr he hb hv hs=>F.run A outer s H args us vs Q E hr he hb hv (h _ _ _ _ hs)⟩
section
variable {X:Cx}{pins:List (Addr×Obj)}{σ:St}{H:Hp}{s s':Shared}
theorem Inv.env0(I:Inv X pins σ H s):Env0 X.prog X.w X.K X.mg X.base X.A X.stack s H :=
 ⟨I.ok.frames,I.ok.mod,I.bs,Wm I.ok.bsz I.sz,I.stack,I.stkFree,I.hok,I.bare⟩
theorem Inv.after{Q:VK}{u:Value}(I:Inv X pins σ H s)(h:CE X.stack X.prog X.w H s Q u s'):EP X pins σ Q u s':=by
 obtain ⟨v,H',os,bare,un,hok,r,q⟩:=h
 obtain ⟨hh,g,d,t,os'⟩:=s'
 obtain rfl:os'=s.os:=os
 exact ⟨v,H',I.call (h':=hh) (g':=g) (d':=d) (t':=t) (ch:=[]) un hok bare (fun b z=>absurd z (by simp)),r,q⟩
end

noncomputable def tCall(sp:Sp)(dvs:List V)(E:XK)(t:TA):TE:=fun σ H Q=>t σ H fun vs H1=>sp (vs++dvs) H1 Q E
noncomputable def Binds(K:Qd)(fd:FuncData)(ps:List Str)(ds:List Value):Prop :=
 ∀ (s:Shared) (us:List Value),K.In s.heap→(us++ds).length=ps.length→BindsTo s fd ⟨us,[]⟩ (ps.zip (us++ds))
theorem Binds.all{K:Qd}{fd:FuncData}{ps:List Str}(h:∀ us:List Value,us.length=ps.length→bindArgs fd ⟨us,[]⟩=pure (ps.zip us)):Binds K fd ps []:=fun s us _ hl=>by
 rw [Jm] at hl ⊢
 exact .of_eq (h us hl)
noncomputable def Passes(CX:CXT)(X:Cx)(E:XK):Prop:=∀ (pins:List (Addr×Obj)) (σ:St) (H:Hp) (s:Shared) (e:Value) (s':Shared),Inv X pins σ H s→CX X.stack H s E e s'→X.xe e s'
section
variable {X:Cx}{CX:CXT}{k:Nat}{f C:Addr}{fd:FuncData}{ps:List Str}{sp:Sp}{dvs:List V}{ds:List Value}{E:XK}{x m:Str}{p pos apos:Pos}{e o:Expr}{es:List Expr}{ta:TE}{t:TA}
structure Mk(K:Qd)(C f:Addr):Prop where
 makes:PySem.W.makesIn K C=true
 init:PySem.W.findIn K (.ref C) "__init__"=some (some (.ref f))
 fn:PySem.W.isFn K (.ref f)=true
 kp:PySem.W.keepIn K (.ref C)=true
end

section
variable {X:Cx}{CX:CXT}{k:Nat}{f C:Addr}{fd:FuncData}{ps ks:List Str}{sp:Sp}{E:XK}{x m:Str}{p pos apos kpos:Pos}{e o:Expr}{es:List Expr}{kws:List Keyword}{te ta:TE}{t tk:TA}{nm:Option Str}
structure KBinds(K:Qd)(fd:FuncData)(ps ks:List Str)(g:List Value→List Value→List Value)(gV:List V→List V→List V):Prop where
 to:∀ (s:Shared) (us ws:List Value),K.In s.heap→(g us ws).length=ps.length→BindsTo s fd ⟨us,ks.zip ws⟩ (ps.zip (g us ws))
 rel:∀ {vs:List V} {us:List Value} {zs:List V} {ws:List Value},Vals vs us→Vals zs ws→Vals (gV vs zs) (g us ws)
variable {g:List Value→List Value→List Value}{gV:List V→List V→List V}
end

structure FnScope(N P:List Str)(sc:Scope):Prop where
 kind:sc.kind=.function
 co:sc.isCoroutine=false
 gen:sc.isGenerator=false
 nd:N.Nodup
 pre:N.take P.length=P
 par:∀ x∈P,sc.names.lookup x=some .local∨sc.names.lookup x=some .cell
 nofree:∀ y∈sc.names,y.2≠.free
theorem Z5h{kindOf:Str→Option NameKind}{x:Str}:∀ {binds:List (Str×Value)} {m:Str→Option Value},(∀ v,(x,v)∉binds)→bindL kindOf binds m x=m x
 | [],_,_=>rfl
 | (n,v)::r,m,h=>by
  unfold bindL
  rw [Z5h fun w hw=>h w (Qv _ hw)]
  split
  ·have:x≠n:=by rintro rfl;exact h v Qy
   simp [this]
  ·rfl
theorem Z5f{kindOf:Str→Option NameKind}{x:Str}:∀ {binds:List (Str×Value)} {m:Str→Option Value},(∀ v,(x,v)∉binds)→bindC kindOf binds m x=m x
 | [],_,_=>rfl
 | (n,v)::r,m,h=>by
  unfold bindC
  rw [Z5f fun w hw=>h w (Qv _ hw)]
  split
  ·rfl
  ·have:x≠n:=by rintro rfl;exact h v Qy
   simp [this]
theorem Z5g{kindOf:Str→Option NameKind}{x:Str}{v:Value}:∀ {P:List Str} {vs:List Value} {i:Nat} {m:Str→Option Value},P.Nodup→P[i]?=some x→vs[i]?=some v→kindOf x=some .local →
  bindL kindOf (P.zip vs) m x=some v
 | [],_,_,_,_,h,_,_=>by simp at h
 | _::_,[],_,_,_,_,h,_=>by simp at h
 | p::P,w::vs,0,m,nd,h1,h2,hk=>by
  simp at h1 h2;subst h1;subst h2
  show bindL kindOf ((p,w)::P.zip vs) m p=_
  unfold bindL
  rw [Z5h fun v hv=>(Ji.mp nd).1 (List.of_mem_zip hv).1,if_pos hk]
  simp
 | p::P,w::vs,i + 1,m,nd,h1,h2,hk=>by
  show bindL kindOf ((p,w)::P.zip vs) m x=_
  unfold bindL
  exact Z5g (i:=i) (Ji.mp nd).2 (by simpa using h1) (by simpa using h2) hk
theorem Z5e{kindOf:Str→Option NameKind}{x:Str}{v:Value}:∀ {P:List Str} {vs:List Value} {i:Nat} {m:Str→Option Value},P.Nodup→P[i]?=some x→vs[i]?=some v→kindOf x≠some .local →
  bindC kindOf (P.zip vs) m x=some v
 | [],_,_,_,_,h,_,_=>by simp at h
 | _::_,[],_,_,_,_,h,_=>by simp at h
 | p::P,w::vs,0,m,nd,h1,h2,hk=>by
  simp at h1 h2;subst h1;subst h2
  show bindC kindOf ((p,w)::P.zip vs) m p=_
  unfold bindC
  rw [Z5f fun v hv=>(Ji.mp nd).1 (List.of_mem_zip hv).1,if_neg hk]
  simp
 | p::P,w::vs,i + 1,m,nd,h1,h2,hk=>by
  show bindC kindOf ((p,w)::P.zip vs) m x=_
  unfold bindC
  exact Z5e (i:=i) (Ji.mp nd).2 (by simpa using h1) (by simpa using h2) hk
noncomputable def start(N:List Str)(vs:List V):St:=vs.map some++List.replicate (N.length - vs.length) none
noncomputable def Z1m(CX:CXT)(P:Program)(w:World)(K:Qd)(mg:Str→Option Value)(base:Heap)(N:List Str)(qual:Str)(scope:Scope)(f:Addr)(cd:Value)(A:Around)(outer:List Env)(s:Shared)(H:Hp)(E:XK):Cx where
 prog:=P
 w:=w
 K:=K
 mg:=mg
 base:=base
 A:=A.deeper (envOfC qual scope s.heap.objs.size f cd)
 N:=N
 s₀:=s
 H₀:=H
 env:=envOfC qual scope s.heap.objs.size f cd
 outer:=outer
 stack:=envOfC qual scope s.heap.objs.size f cd::outer
 ex:=[]
 calm:=true
 fn:=fun _=>true
 pn:=[]
 xe:=fun e s'=>wpAny (model P w) (A.deeper (envOfC qual scope s.heap.objs.size f cd)) (leaving (envOfC qual scope s.heap.objs.size f cd) e) (fun _ s''=>CX outer H s E e s'') (fun e' s''=>CX outer H s E e' s'') s'
theorem Z5G{sc:Scope}{n:Nat}{x:Str}(h:sc.names.lookup x=some .cell):∃ c,(cellsFrom n sc.names []).lookup x=some c:=by
 have q:=PySem.W.cellsFrom_some sc.names n [] (.inl h)
 exact Option.isSome_iff_exists.mp q
theorem Z8C{CX:CXT}{P:Program}{w:World}{K:Qd}{mg:Str→Option Value}{base:Heap}{N ps:List Str}{qual:Str}{scope:Scope}{f:Addr}{cd:Value}{A:Around}{outer:List Env}{s s1:Shared}{H:Hp}{E:XK}{us:List Value}{vs:List V}
  (S:FnScope N ps scope) (hd:A.handled=none) (e0:Env0 P w K mg base A outer s H) (hl:vs.length=ps.length) (r:Vals vs us)
  (x:InCallC s s.heap.objs.size (bindL (envOfC qual scope s.heap.objs.size f cd).kindOf (ps.zip us) fun _=>none) (cellsFrom (s.heap.objs.size + 1) scope.names []) (bindC (envOfC qual scope s.heap.objs.size f cd).kindOf (ps.zip us) fun _=>none) s1) :
  Inv (Z1m CX P w K mg base N qual scope f cd A outer s H E) [] (start N vs) H s1:=by
 have hpl:ps.length≤N.length:=by have:=congrArg List.length S.pre;rw [Jv] at this;omega
 obtain ⟨h1,tk,rfl,hk⟩:=x.done
 have noA:∀ b:Addr,b∉(Z1m CX P w K mg base N qual scope f cd A outer s H E).ex:=fun b z=>absurd (show b∈([]:List Addr) from z) (by simp)
 refine ⟨⟨e0.mod,S.kind,rfl,rfl,Qu _,fun y z c h1 h2=>?_,fun y hy=>?_,fun y c _ h=>?_,fun _=>hd,Around.frames_deeper e0.frames,.inr ⟨rfl,rfl⟩,fun b z=>absurd z (noA b),e0.bs,e0.bsz,fun b _ _=>noA b,fun b z=>absurd z (noA b),e0.funs,e0.frf⟩,
  rfl,e0.bare,Un.kept hk,⟨_,x.toInCall.ns,fun i y v h1 h2 h3=>?_⟩,fun y c h=>⟨_,x.cell y c h⟩,e0.hok.fresh (Qu _),fun y c h=>?_,fun p hp=>absurd (show p∈([]:List (Addr×Obj)) from hp) (by simp),e0.hok.kept hk,?_⟩
 ·exact name_of_addr x.apart (PySem.mem_of_lookup h1) (PySem.mem_of_lookup h2)
 ·have hy:scope.names.lookup y=some .cell∨scope.names.lookup y=some .free:=hy
  rcases hy with hy | hy
  ·exact Z5G hy
  ·exact absurd rfl (S.nofree _ (PySem.mem_of_lookup hy))
 ·exact Gq (x.above y c (PySem.mem_of_lookup h))
 ·have hi:i < vs.length:=by
   unfold start at h2
   by_cases hi:i < vs.length
   ·exact hi
   ·rw [Jf (by simpa using hi)] at h2
    rw [Wx] at h2
    split at h2 <;> cases h2
  have ha:vs[i]?=some v:=by
   unfold start at h2
   rw [Qo (by simpa using hi),Qa] at h2
   cases e:vs[i]? with
   | none=>rw [e] at h2;cases h2
   | some a=>rw [e] at h2;cases h2;rfl
  obtain ⟨u,hu,rv⟩:=r.get ha
  have hp:ps[i]?=some y:=by
   rw [← S.pre,Wn (by omega)];exact h1
  have ndP:ps.Nodup:=by rw [← S.pre];exact S.nd.sublist (Ga _ _)
  refine ⟨u,rv,?_⟩
  rcases S.par y (Qf hp) with k | k
  ·exact .inl ⟨k,Z5g ndP hp hu k⟩
  ·obtain ⟨c,e⟩:=Z5G (n:=s.heap.objs.size + 1) k
   refine .inr ⟨.inl k,c,e,?_⟩
   have q:=x.cell y c e
   rw [Z5e ndP hp hu (by show scope.names.lookup y≠_;rw [k];decide)] at q
   exact q
 ·exact e0.hok.fresh (Gq (x.above y c (PySem.mem_of_lookup h)))
 ·unfold start
  show _=N.length
  rw [Ja,Qs,Jt]
  omega
theorem fn_of{CX:CXT}{P:Program}{w:World}{K:Qd}{mg:Str→Option Value}{base:Heap}{k:Nat}{f:Addr}{name qual:Str}{params:Arguments}{body:List Stmt}{scope:Scope}{dV kV doc pm cdv ct oc:Value}{an od:Option Addr}
  {osl:Array (Option Value)} {N ps:List Str} {sp:Sp} (lk:K.lookup f=some ⟨oc,od,.func (PySem.W.fnOf name qual params body scope dV kV doc pm an cdv ct),osl⟩) (hcd:PySem.W.codeIn K cdv qual=true) (S:FnScope N ps scope)
  (len:∀ vs H Q E,sp vs H Q E→vs.length=ps.length)
  (hbody:∀ (A:Around) (outer:List Env) (s:Shared) (H:Hp) (vs:List V) (Q:VK) (E:XK),Room k (A.deeper (envOfC qual scope s.heap.objs.size f cdv))→sp vs H Q E →
   ∃ t,PSs (Z1m CX P w K mg base N qual scope f cdv A outer s H E) body t∧t { nx:=fun _ H'=>Q .non H',rt:=Q } (start N vs) H) :
  FnOk P w K mg base CX (k + 1) f (PySem.W.fnOf name qual params body scope dV kV doc pm an cdv ct) ps sp:=by
 refine ⟨len,fun A outer s H args us vs Q E hr e0 hb r hsp=>?_⟩
 have hl:=len _ _ _ _ hsp
 have KX:K.In s.heap:=e0.mod.kin.keeps fun b o e=>(e0.bs b o e).1
 have lim:s.heap.NoLimit:=e0.mod.nolimit.keeps fun b o e=>(e0.bs b o e).1
 have hkind:∀ y∈ps.zip us,scope.names.lookup y.1=some .local∨(scope.names.lookup y.1=some .cell∧((cellsFrom (s.heap.objs.size + 1) scope.names []).lookup y.1).isSome=true):=fun ⟨n,v⟩ hy=>by
  rcases S.par n (List.of_mem_zip hy).1 with q | q
  ·exact .inl q
  ·exact .inr ⟨q,PySem.W.cellsFrom_some _ _ _ (.inl q)⟩
 refine codeAny_call_function hr.depth (KX _ _ lk) rfl S.co S.gen rfl (PySem.W.codeRec_of KX hcd) (hb _ _ _ _ ?_)
 refine wpAny_newFunctionEnv_cells S.kind hkind fun env he s1 x=>?_
 subst he
 refine ⟨lim.keeps x.toInCall.keep,codeAny_func ?_⟩
 obtain ⟨t,ht,hq⟩:=hbody A outer s H vs Q E (hr.deeper _) hsp
 have I:Inv (Z1m CX P w K mg base N qual scope f cdv A outer s H E) [] (start N vs) H s1:=Z8C S hr.hd e0 hl r x
 refine wpAny_mono (ht [] s1 (start N vs) H _ I hq) (fun fl s' hs=>?_) fun e s' hs=>hs
 have fin:∀ {σ':St} {H':Hp} {v:V} {u:Value},Inv (Z1m CX P w K mg base N qual scope f cdv A outer s H E) [] σ' H' s'→RelV v u→Q v H'→CE outer P w H s Q u s' :=
  fun {σ' H' v u} J rv q=>⟨v,H',J.os,J.bare,J.base,J.hok,rv,q⟩
 cases fl with
 | ret u =>
  obtain ⟨v,σ',H',J,rv,q⟩:=hs
  exact fin J rv q
 | next =>
  obtain ⟨σ',H',J,q⟩:=hs
  exact fin (v:=V.non) (u:=Value.none) J rfl q
 | brk =>
  obtain ⟨_,_,_,q⟩:=hs
  exact False.elim q
 | cont =>
  obtain ⟨_,_,_,q⟩:=hs
  exact False.elim q
end L2
namespace L2
open PySem PySem.Spec PyProof.Rows
section
variable {X:Cx}{x:Str}{p pos:Pos}{e:Expr}{es:List Expr}{t:TA}{id T:String}{r:List V→Hp→VK→Prop}
noncomputable def tCB(r:List V→Hp→VK→Prop)(t:TA):TE:=fun σ H Q=>t σ H fun vs H1=>r vs H1 Q
theorem Z0t(hc:Z0f X (.builtin id) r)(hg:Gl X x)(hm:X.mg x=none)(hv:bootBuiltins x=some (.builtin id))(ha:PA X (e::es) t)(hn:x ≠ "__name__":=by decide)(hdb:(x == ("__debug__":Str))=false:=by decide)
  (he:starEach (e::es) X.env=(false,eval e X.env)::starEach es X.env:=by rfl) (hpl:(backTo pos (starEach es X.env)).any (·.1)=false:=by rfl):PE X (.Call (.Name x p) (e::es) [] pos) (tCB r t):=by
 intro pins s σ H Q I h
 refine wpAny_Call_Name_kw (Z48 I hg hm hv ?_ hn hdb)
 exact PyProof.Rows.callWith_builtin1 (thn (ha pos pins s σ H _ I h) fun us s1 ⟨vs,H1,I1,r1,q1⟩=>hc pins s1 σ H1 vs us Q I1 r1 q1) he hpl
theorem Z5q(hc:Z0f X (.type T) r)(hg:Gl X x)(hm:X.mg x=none)(hv:bootBuiltins x=some (.type T))(ha:PA X (e::es) t)(hn:x ≠ "__name__":=by decide)(hdb:(x == ("__debug__":Str))=false:=by decide)
  (he:starEach (e::es) X.env=(false,eval e X.env)::starEach es X.env:=by rfl) (hpl:(backTo pos (starEach es X.env)).any (·.1)=false:=by rfl):PE X (.Call (.Name x p) (e::es) [] pos) (tCB r t):=by
 intro pins s σ H Q I h
 refine wpAny_Call_Name_kw (Z48 I hg hm hv ?_ hn hdb)
 exact PyProof.Rows.callWith_type1 (thn (ha pos pins s σ H _ I h) fun us s1 ⟨vs,H1,I1,r1,q1⟩=>hc pins s1 σ H1 vs us Q I1 r1 q1) he hpl
end
end L2
namespace HT
open PySem PyProof.Rows
section
open PySem.SeqAt
open PySem.AutoSeq1 (wpAny_loadPart')
open PySem.MeetsSeq PySem.MeetsSeq2 PySem.MeetsSeq3
end
section
variable {prog:Program}{w:World}{A:Around}{E:Value→Shared→Prop}{s:Shared}

noncomputable def sIx(n d:Nat):Option Int→Nat
 | none=>d
 | some v=>if v < 0 then (v + (n:Int)).toNat else min v.toNat n
end
end HT
namespace L2
open PySem PySem.Spec PyProof.Rows

noncomputable abbrev TO:=St→Hp→(Option Int→Hp→Prop)→Prop
noncomputable def PO(X:Cx)(e:Option Expr)(t:TO):Prop :=
 ∀ (pins:List (Addr×Obj)) (s:Shared) (σ:St) (H:Hp) (Q:Option Int→Hp→Prop),Inv X pins σ H s→t σ H Q →
  wpAny (model X.prog X.w) X.A (evalPart e X.env) (fun u s'=>∃ o H',Inv X pins σ H' s'∧IsPart u o∧Q o H') X.xe s
noncomputable def tNoPart:TO:=fun _ H Q=>Q none H
noncomputable def tPart(t:TE):TO:=fun σ H Q=>t σ H fun x H1=>∃ i,x=.int i∧Q (some i) H1
section
variable {X:Cx}{e:Expr}{te:TE}{lo hi:Option Expr}{tl th:TO}{pos p2:Pos}
theorem Zaq:PO X none tNoPart:=by
 intro pins s σ H Q I h
 rw [evalPart_none]
 exact wpAny_pure ⟨none,H,I,.none,h⟩
theorem Zar(h:PE X e te):PO X (some e) (tPart te):=by
 intro pins s σ H Q I hw
 rw [evalPart_some]
 refine thn (h pins s σ H _ I hw) fun u s1 ⟨x,H1,I1,r1,q1⟩=>?_
 obtain ⟨i,rfl,q⟩:=q1
 obtain ⟨t,rfl⟩:=r1
 exact ⟨some i,H1,I1,.int i t,q⟩
noncomputable def SlR(X:Cx)(r:V→Option Int→Option Int→Hp→VK→Prop):Prop :=
 ∀ (pins:List (Addr×Obj)) (s:Shared) (σ:St) (H:Hp) (x:V) (v vl vu:Value) (lo hi:Option Int) (sl:Addr) (Q:VK),Inv X pins σ H s→RelV x v→s.heap.IsSliceOf sl vl vu .none→IsPart vl lo→IsPart vu hi→r x lo hi H Q →
  ∃ T id,typeLookup (.type T) "__getitem__"=pure (some (.builtin id))∧s.TypeIs v T∧wpAny (model X.prog X.w) X.A (getItem v (.ref sl)) (EP X pins σ Q) X.xe s
noncomputable def tSl(r:V→Option Int→Option Int→Hp→VK→Prop)(te:TE)(tl th:TO):TE:=fun σ H Q=>te σ H fun x H1=>tl σ H1 fun l H2=>th σ H2 fun u H3=>r x l u H3 Q
theorem Z9H{r:V→Option Int→Option Int→Hp→VK→Prop}(hr:SlR X r)(he:PE X e te)(hl:PO X lo tl)(hu:PO X hi th):PE X (.Subscript e (.Slice lo hi none p2) pos) (tSl r te tl th):=by
 intro pins s σ H Q I h
 refine Subscript_ (thn (he pins s σ H _ I h) fun v s1 ⟨x,H1,I1,r1,q1⟩=>?_)
 refine wpAny_Slice (thn (hl pins s1 σ H1 _ I1 q1) fun vl s2 ⟨l,H2,I2,pl,q2⟩=>thn (hu pins s2 σ H2 _ I2 q2) fun vu s3 ⟨u,H3,I3,pu,q3⟩=>?_)
 rw [evalPart_none]
 refine wpAny_pure ?_
 have I4:Inv X pins σ H3 { s3 with heap:=s3.heap.push { cls:=.type "slice",data:=.fields #[vl,vu,.none] } }:=I3.kept (t':=s3.toks) fun b ob q=>Heap.get?_push_of_some _ q
 obtain ⟨T,id,hT,ht,hg⟩:=hr pins { s3 with heap:=s3.heap.push { cls:=.type "slice",data:=.fields #[vl,vu,.none] } } σ H3 x v vl vu l u s3.heap.objs.size Q I4 r1 (Heap.IsSliceOf.new ..) pl pu q3
 show wpAny (model X.prog X.w) X.A (subscriptTail e (.Slice lo hi none p2) v (.ref s3.heap.objs.size)) (EP X pins σ Q) X.xe { s3 with heap:=s3.heap.push { cls:=.type "slice",data:=.fields #[vl,vu,.none] } }
 exact tail_any (ops:=[.ref s3.heap.objs.size,v]) ht hT hg (by with_unfolding_all rfl)
noncomputable def cutV(xs:List V)(lo hi:Option Int):List V:=(xs.drop (HT.sIx xs.length 0 lo)).take (HT.sIx xs.length xs.length hi - HT.sIx xs.length 0 lo)
theorem Z6P(xs:List V)(lo hi:Option Int):(cutV xs lo hi).length≤xs.length:=by
 unfold cutV
 rw [Jv,Qaa]
 omega

end
end L2
namespace L2
open PySem PySem.Spec PyProof.Rows

noncomputable def ixN(n:Nat)(i:Int):Option Nat:=if 0≤i then (if i < n then some i.toNat else none) else if -(n:Int)≤i then some (i + n).toNat else none
noncomputable def atI{α:Type}(xs:List α)(i:Int):Option α:=(ixN xs.length i).bind fun j=>xs[j]?
theorem Z7F{n:Nat}{i:Int}{j:Nat}(h:ixN n i=some j):seqIndex? i n=some j∧j < n∧-(n:Int)≤i∧i < n:=by
 unfold ixN at h
 by_cases h0:0≤i
 ·rw [if_pos h0] at h
  by_cases h1:i < n
  ·rw [if_pos h1] at h
   have e:i.toNat=j:=Option.some.inj h
   exact ⟨by rw [seqIndex_of h0 h1,e],by omega,by omega,h1⟩
  ·rw [if_neg h1] at h;cases h
 ·rw [if_neg h0] at h
  by_cases h1:-(n:Int)≤i
  ·rw [if_pos h1] at h
   have e:(i + n).toNat=j:=Option.some.inj h
   exact ⟨by rw [seqIndex_neg (by omega) h1,e],by omega,h1,by omega⟩
  ·rw [if_neg h1] at h;cases h
theorem Z51{α:Type}{xs:List α}{i:Int}{v:α}(h:atI xs i=some v):∃ j,seqIndex? i xs.length=some j∧xs[j]?=some v∧j < xs.length∧-(xs.length:Int)≤i∧i < xs.length:=by
 unfold atI at h
 cases e:ixN xs.length i with
 | none=>rw [e] at h;cases h
 | some j =>
  rw [e] at h
  obtain ⟨h1,h2,h3,h4⟩:=Z7F e
  exact ⟨j,h1,h,h2,h3,h4⟩
theorem Z6Z{α:Type}{xs:List α}{j:Nat}{v:α}(h:xs[j]?=some v):atI xs (j:Int)=some v:=by
 have hj:j < xs.length:=(Qc.mp h).1
 have e:ixN xs.length (j:Int)=some j:=by
  unfold ixN
  rw [if_pos (by omega),if_pos (by omega)];simp
 unfold atI;rw [e];exact h

noncomputable def PlainIx(b:Expr):Prop:=∀ o i,subscripted b false o i=operate [o,i] (getItem o i)
noncomputable def IxR(X:Cx)(r:R2):Prop :=
 ∀ (value slice:Expr) (pins:List (Addr×Obj)) (s:Shared) (σ:St) (H:Hp) (x y:V) (v u:Value) (Q:VK),Inv X pins σ H s→RelV x v→RelV y u→r x y H Q →
  subscripted slice false v u=operate [v,u] (getItem v u)→wpAny (model X.prog X.w) X.A (subscriptTail value slice v u) (EP X pins σ Q) X.xe s
noncomputable def MtR(X:Cx)(id:String)(r:V→List V→Hp→VK→Prop):Prop :=
 ∀ (pins:List (Addr×Obj)) (s:Shared) (σ:St) (H:Hp) (x:V) (xs:List V) (v:Value) (us:List Value) (Q:VK),Inv X pins σ H s→RelV x v→Vals xs us→r x xs H Q →
  wpAny (model X.prog X.w) X.A (call (.builtin id) (v::us)) (EP X pins σ Q) X.xe s
section
variable {X:Cx}{a b:Expr}{ta tb:TE}{pos:Pos}
theorem IxR.or{r r':R2}(h:IxR X r)(h':IxR X r'):IxR X (fun x y H Q=>r x y H Q∨r' x y H Q):=by
 intro value slice pins s σ H x y v u Q I rx ry q hs
 rcases q with q | q
 ·exact h value slice pins s σ H x y v u Q I rx ry q hs
 ·exact h' value slice pins s σ H x y v u Q I rx ry q hs
theorem pe_ix{r:R2}(hr:IxR X r)(ha:PE X a ta)(hb:PE X b tb)(hs:PlainIx b):PE X (.Subscript a b pos) (tOp r ta tb):=by
 intro pins s σ H Q I h
 exact Subscript_ (binT ha hb I h fun v u s2 x y H2 I2 rx ry q=>hr a b pins s2 σ H2 x y v u Q I2 rx ry q (hs _ _))
noncomputable def rIxL(K:Qd):R2:=fun x y H Q=>∃ p xs i v,x=.ref p∧y=.int i∧SqL K H p xs∧atI xs i=some v∧Q v H
noncomputable def rIxT(K:Qd):R2:=fun x y H Q=>∃ p xs i v,x=.ref p∧y=.int i∧SqT K H p xs∧atI xs i=some v∧Q v H
noncomputable def rIxS:R2:=fun x y H Q=>∃ z i c,x=.str z∧y=.int i∧z.length≤sizeLine∧atI z.cps.toList i=some c∧Q (.str ⟨#[c]⟩) H
theorem Za9:IxR X (rIxL X.K):=by
 intro value slice pins s σ H x y v u Q I rx ry h hs
 obtain ⟨p,xs,i,z,rfl,rfl,hq,he,q⟩:=h
 cases rx
 obtain ⟨t,rfl⟩:=ry
 obtain ⟨its,r,pl,hz⟩:=I.list hq
 obtain ⟨j,h1,h2,h3,h4,h5⟩:=Z51 he
 obtain ⟨w,ew,rw'⟩:=r.get h2
 have hl:=r.length
 have hn:=line63
 have fin:EP X pins σ Q w s:=⟨z,H,I,rw',q⟩
 by_cases h0:0≤i
 ·have hj:i.toNat=j:=by
   rw [seqIndex_of h0 h5] at h1
   exact Option.some.inj h1
  exact item_listR pl.isList h0 (by omega) (by rw [hj];simpa using ew) fin hs
 ·have hj:(i + (its.toArray.size:Int)).toNat=j:=by
   rw [seqIndex_neg (by omega) h4] at h1
   rw [Jg,← hl]
   exact Option.some.inj h1
  exact subscriptTail_builtinR (x:=w) pl.isList.typeIs slot_list_getitem.lookup
   (wpAny_getItem_list_neg (Q:=fun r s'=>r=w∧EP X pins σ Q r s') pl.isList (by omega) (by rw [Jg] <;> omega) (by omega) (by rw [hj];simpa using ew) ⟨rfl,fin⟩) hs
theorem Zba:IxR X (rIxT X.K):=by
 intro value slice pins s σ H x y v u Q I rx ry h hs
 obtain ⟨p,xs,i,z,rfl,rfl,hq,he,q⟩:=h
 cases rx
 obtain ⟨t,rfl⟩:=ry
 obtain ⟨its,r,pl,hz⟩:=I.tuple hq
 obtain ⟨j,h1,h2,h3,h4,h5⟩:=Z51 he
 obtain ⟨w,ew,rw'⟩:=r.get h2
 have hl:=r.length
 have hn:=line63
 have fin:EP X pins σ Q w s:=⟨z,H,I,rw',q⟩
 exact subscriptTail_builtinR (x:=w) pl.typeIs slot_tuple_getitem.lookup
  (getItem_tuple (j:=j) (Q:=fun r s'=>r=w∧EP X pins σ Q r s') pl (by omega) (by omega) (by rw [Jg,← hl];exact h1) (by simpa using ew) ⟨rfl,fin⟩) hs
theorem Zb9:IxR X rIxS:=by
 intro value slice pins s σ H x y v u Q I rx ry h hs
 obtain ⟨z,i,c,rfl,rfl,hz,he,q⟩:=h
 obtain ⟨t,rfl⟩:=rx
 obtain ⟨t',rfl⟩:=ry
 obtain ⟨j,h1,h2,h3,h4,h5⟩:=Z51 he
 have hl:z.cps.toList.length=z.length:=by simp [Str.length]
 rw [hl] at h1 h4 h5
 have hn:=line63
 exact tail_any (typeIs_str s z t) slot_str_getitem.lookup (getItem_str (c:=c) (by
  have e1:decide (i < -(2 ^ 63:Int))=false:=decide_eq_false (by omega)
  have e2:decide (i≥2 ^ 63)=false:=decide_eq_false (by omega)
  rw [e1,e2,Bool.or_false]) (by rw [h1];simpa using h2) ⟨.str ⟨#[c]⟩,H,I.tok _,⟨_,rfl⟩,q⟩) hs
noncomputable def rIx(K:Qd):R2:=fun x y H Q=>rIxL K x y H Q∨rIxT K x y H Q∨rIxS x y H Q
theorem ix_seq:IxR X (rIx X.K):=Za9.or (Zba.or Zb9)

theorem Z7Y(its:List Value)(n j:Nat)(u:Value):Obj.mapSeq (·.setIfInBounds j u) { cls:=.type "list",data:=.seq its.toArray n }={ cls:=.type "list",data:=.seq (its.set j u).toArray n }:=by
 simp [Obj.mapSeq]
theorem Inv.lst{pins:List (Addr×Obj)}{σ:St}{H:Hp}{s:Shared}{p:Addr}{xs:List V}(I:Inv X pins σ H s)(h:H p=some (.lst xs)) :
  ∃ (its:List Value) (n:Nat),Vals xs its∧s.heap.get? p=some { cls:=.type "list",data:=.seq its.toArray n }∧xs.length≤sizeLine:=by
 obtain ⟨z,its,n,r,e⟩:=I.hok p _ h
 exact ⟨its,n,r,e,z⟩
theorem Inv.lstUpd{pins:List (Addr×Obj)}{σ:St}{H:Hp}{s:Shared}{p:Addr}{xs ys:List V}{its its':List Value}{n n':Nat}{f:Obj→Obj}(I:Inv X pins σ H s)(h:H p=some (.lst xs))
  (ho:s.heap.get? p=some { cls:=.type "list",data:=.seq its.toArray n }) (hf:f { cls:=.type "list",data:=.seq its.toArray n }={ cls:=.type "list",data:=.seq its'.toArray n' }) (r:Vals ys its') (hz:ys.length≤sizeLine) (t:Nat) :
  Inv X pins σ (upd H p (.lst ys)) { s with heap:=s.heap.update p f,toks:=t }:=by
 have e:(s.heap.update p f).get? p=some { cls:=.type "list",data:=.seq its'.toArray n' }:=by
  rw [Heap.get?_update_self f ho (by rw [hf] <;> rfl),hf]
 refine I.write (x:=p) (e:=p) (by rw [h];trivial) (.inl rfl) (fun b u hb q=>(Heap.get?_update_other _ _ (Ne.symm hb)).trans q) ⟨_,e⟩ ?_
 exact ⟨hz,its',n',r,e⟩
noncomputable def rSetL:V→V→V→Hp→(Hp→Prop)→Prop:=fun o i v H Q=>∃ p xs k j,o=.ref p∧i=.int k∧H p=some (.lst xs)∧ixN xs.length k=some j∧Q (upd H p (.lst (xs.set j v)))
theorem set_list:PSet X rSetL:=by
 intro pins s σ H o i v ov iv u Q I ro ri rv h
 obtain ⟨p,xs,k,j,rfl,rfl,hp,hj,q⟩:=h
 cases ro
 obtain ⟨t,rfl⟩:=ri
 obtain ⟨its,n,r,ho,hz⟩:=I.lst hp
 obtain ⟨h1,h2,h3,h4⟩:=Z7F hj
 have hl:=r.length
 have hn:=line63
 have I':Inv X pins σ (upd H p (.lst (xs.set j v))) { s with heap:=s.heap.update p (Obj.mapSeq (·.setIfInBounds j u)) } :=
  I.lstUpd hp ho (Z7Y its n j u) (r.set rv j) (by rw [Gk];exact hz) s.toks
 by_cases h0:0≤k
 ·have hk:k.toNat=j:=by
   rw [seqIndex_of h0 h4] at h1
   exact Option.some.inj h1
  exact PySem.W.ki_setAt ho h0 (by omega) (by rw [Jg,← hl];exact h4) (by rw [hk];exact ⟨_,I',q⟩)
 ·have hk:(k + (its.toArray.size:Int)).toNat=j:=by
   rw [seqIndex_neg (by omega) h3] at h1
   rw [Jg,← hl]
   exact Option.some.inj h1
  exact PySem.W.ki_setBack ho (by omega) (by rw [Jg,← hl];exact h3) (by omega) (by rw [hk];exact ⟨_,I',q⟩)

theorem Z6E(lo hi:Option Int)(n:Nat):(sliceBounds lo hi none n).1=((HT.sIx n 0 lo:Nat):Int)∧(sliceBounds lo hi none n).2.1=((HT.sIx n n hi:Nat):Int)∧(sliceBounds lo hi none n).2.2=1:=by
 refine ⟨?_,?_,rfl⟩
 ·cases lo with
  | none=>simp [sliceBounds,HT.sIx]
  | some i =>
   simp only [sliceBounds,HT.sIx,Option.getD_none,show (1:Int) > 0 by decide,if_true]
   by_cases h:i < 0
   ·simp only [h,if_true] <;> omega
   ·simp only [h,if_false] <;> omega
 ·cases hi with
  | none=>simp [sliceBounds,HT.sIx]
  | some i =>
   simp only [sliceBounds,HT.sIx,Option.getD_none,show (1:Int) > 0 by decide,if_true]
   by_cases h:i < 0
   ·simp only [h,if_true] <;> omega
   ·simp only [h,if_false] <;> omega
theorem Z5A(its:List Value)(lo hi:Option Int):slicePick its.toArray lo hi none=((its.drop (HT.sIx its.length 0 lo)).take (HT.sIx its.length its.length hi - HT.sIx its.length 0 lo)).toArray:=by
 obtain ⟨h1,h2,h3⟩:=Z6E lo hi its.toArray.size
 unfold slicePick
 rw [h1,h2,h3]
 simp only [sliceRange_one,pick_run,Jg] <;> rfl
noncomputable def rSlL(K:Qd):V→Option Int→Option Int→Hp→VK→Prop:=fun x lo hi H Q=>∃ a xs,x=.ref a∧SqL K H a xs∧∀ p,H p=none→Q (.ref p) (upd H p (.lst (cutV xs lo hi)))
theorem ZaF:SlR X (rSlL X.K):=by
 intro pins s σ H x v vl vu lo hi sl Q I rx hs pl pu h
 obtain ⟨a,xs,rfl,hx,q⟩:=h
 cases rx
 obtain ⟨its,r,ht,hz⟩:=I.list hx
 have hlen:=r.length
 refine ⟨"list",_,slot_list_getitem.lookup,ht.isList.typeIs,?_⟩
 refine wpAny_getItem_list_slice ht.isList hs pl pu .none (by simp) ?_ (by rw [Jg] <;> omega)
 rw [Z5A,← hlen]
 refine ⟨.ref s.heap.objs.size,_,I.laid (t':=s.toks) (o:=.lst (cutV xs lo hi)) (fun b ob q=>Heap.get?_push_of_some _ q) (Qu _) ?_,rfl,q _ (I.hok.fresh (Qu _))⟩
 exact ⟨Wm (Z6P xs lo hi) hz,_,0,(r.drop (HT.sIx xs.length 0 lo)).take (HT.sIx xs.length xs.length hi - HT.sIx xs.length 0 lo),Heap.get?_push_size _ rfl⟩

noncomputable def Z0j:V→Bool
 | .non=>true
 | .bl _=>true
 | .int _=>true
 | .str _=>true
 | _=>false
noncomputable def eqV:V→V→Bool
 | .non,.non=>true
 | .bl a,.bl b=>a == b
 | .bl a,.int b=>(if a then 1 else 0) == b
 | .int a,.bl b=>a == (if b then 1 else 0)
 | .int a,.int b=>a == b
 | .str a,.str b=>a == b
 | _,_=>false
theorem ZaZ{A:Around}{s:Shared}{y x:V}{u v:Value}(ry:RelV y u)(rx:RelV x v)(fy:Z0j y=true)(fx:Z0j x=true):SeqAt.EqAt A s u v (eqV y x):=by
 cases y with
 | non =>
  cases ry
  cases x with
  | non=>cases rx;exact SeqAt.EqAt.same _
  | bl b=>cases rx;exact SeqAt.EqAt.none_bool b
  | int b=>obtain ⟨t,rfl⟩:=rx;exact SeqAt.EqAt.none_int b t
  | str b=>obtain ⟨t,rfl⟩:=rx;exact SeqAt.EqAt.none_str b t
  | _=>exact absurd (show false=true from fx) Qp
 | bl a =>
  cases ry
  cases x with
  | non=>cases rx;exact SeqAt.EqAt.bool_none a
  | bl b=>cases rx;exact SeqAt.EqAt.bool_bool a b
  | int b=>obtain ⟨t,rfl⟩:=rx;exact SeqAt.EqAt.bool_int a b t
  | str b=>obtain ⟨t,rfl⟩:=rx;exact SeqAt.EqAt.bool_str a b t
  | _=>exact absurd (show false=true from fx) Qp
 | int a =>
  obtain ⟨t',rfl⟩:=ry
  cases x with
  | non=>cases rx;exact SeqAt.EqAt.int_none a t'
  | bl b=>cases rx;exact SeqAt.EqAt.int_bool a t' b
  | int b=>obtain ⟨t,rfl⟩:=rx;exact SeqAt.EqAt.int_int a t' b t
  | str b=>obtain ⟨t,rfl⟩:=rx;exact SeqAt.EqAt.int_str a t' b t
  | _=>exact absurd (show false=true from fx) Qp
 | str a =>
  obtain ⟨t',rfl⟩:=ry
  cases x with
  | non=>cases rx;exact SeqAt.EqAt.str_none a t'
  | bl b=>cases rx;exact SeqAt.EqAt.str_bool a t' b
  | int b=>obtain ⟨t,rfl⟩:=rx;exact SeqAt.EqAt.str_int a t' b t
  | str b=>obtain ⟨t,rfl⟩:=rx;exact SeqAt.EqAt.str_str a t' b t
  | _=>exact absurd (show false=true from fx) Qp
 | _=>exact absurd (show false=true from fy) Qp
noncomputable def eqU(x:V)(u:Value):Bool:=match u with
 | .none=>eqV .non x
 | .bool b=>eqV (.bl b) x
 | .int i _=>eqV (.int i) x
 | .str z _=>eqV (.str z) x
 | _=>false
theorem Z8e{x y:V}{u:Value}(r:RelV y u)(f:Z0j y=true):eqU x u=eqV y x:=by
 cases y with
 | non=>cases r;rfl
 | bl b=>cases r;rfl
 | int i=>obtain ⟨t,rfl⟩:=r;rfl
 | str z=>obtain ⟨t,rfl⟩:=r;rfl
 | _=>exact absurd (show false=true from f) Qp
theorem Z3g{x:V}:∀ {xs:List V} {us:List Value},Vals xs us→xs.all Z0j=true→us.any (eqU x)=xs.any fun y=>eqV y x
 | _,_,.nil,_=>rfl
 | y::xs,u::us,.cons r t,f=>by
  rw [Nu,Jr] at f
  rw [Ni,Ni,Z8e r f.1,Z3g t f.2]
theorem Z2V{A:Around}{s:Shared}{x:V}{v:Value}(rx:RelV x v)(fx:Z0j x=true):∀ {xs:List V} {us:List Value},Vals xs us→xs.all Z0j=true→∀ u∈us,SeqAt.EqAt A s u v (eqU x u)
 | _,_,.nil,_=>fun u hu=>by cases hu
 | y::xs,u::us,.cons r t,f=>fun u' hu=>by
  rw [Nu,Jr] at f
  rcases Qz.mp hu with rfl | hu
  ·rw [Z8e r f.1];exact ZaZ r rx f.1 fx
  ·exact Z2V rx fx t f.2 u' hu
noncomputable def inV(x:V)(xs:List V):Bool:=xs.any fun y=>eqV y x
noncomputable def rIn(K:Qd)(neg:Bool):R2:=fun x y H Q=>∃ p xs,y=.ref p∧(SqL K H p xs∨SqT K H p xs)∧Z0j x=true∧xs.all Z0j=true∧Q (.bl (if neg then !inV x xs else inV x xs)) H
theorem Z8V:OpR X (compareOp .In) (rIn X.K false):=by
 intro pins s σ H x y v u Q I rx ry h
 obtain ⟨p,xs,rfl,hq,fx,fs,q⟩:=h
 cases ry
 rcases hq with hq | hq
 ·obtain ⟨its,r,pl,hz⟩:=I.list hq
  refine SeqAt.in_listAt (eqU x) pl.isList (fun w hw=>Z2V rx fx r fs w (by simpa using hw)) ⟨.bl _,H,I,rfl,?_⟩
  rw [show its.toArray.any (eqU x)=its.any (eqU x) by simp,Z3g r fs]
  exact q
 ·obtain ⟨its,r,pl,hz⟩:=I.tuple hq
  refine SeqAt.in_tupleAt (eqU x) pl (fun w hw=>Z2V rx fx r fs w (by simpa using hw)) ⟨.bl _,H,I,rfl,?_⟩
  rw [show its.toArray.any (eqU x)=its.any (eqU x) by simp,Z3g r fs]
  exact q
theorem Z6r:OpR X (compareOp .NotIn) (rIn X.K true):=by
 intro pins s σ H x y v u Q I rx ry h
 obtain ⟨p,xs,rfl,hq,fx,fs,q⟩:=h
 cases ry
 rcases hq with hq | hq
 ·obtain ⟨its,r,pl,hz⟩:=I.list hq
  refine SeqAt.notIn_listAt (eqU x) pl.isList (fun w hw=>Z2V rx fx r fs w (by simpa using hw)) ⟨.bl _,H,I,rfl,?_⟩
  rw [show its.toArray.any (eqU x)=its.any (eqU x) by simp,Z3g r fs]
  exact q
 ·obtain ⟨its,r,pl,hz⟩:=I.tuple hq
  refine SeqAt.notIn_tupleAt (eqU x) pl (fun w hw=>Z2V rx fx r fs w (by simpa using hw)) ⟨.bl _,H,I,rfl,?_⟩
  rw [show its.toArray.any (eqU x)=its.any (eqU x) by simp,Z3g r fs]
  exact q

theorem Z5F:Z0f X (.type "list") (fun xs H Q=>∃ p ys,xs=[.ref p]∧(SqL X.K H p ys∨SqT X.K H p ys)∧∀ l,H l=none→Q (.ref l) (upd H l (.lst ys))):=by
 intro pins s σ H xs us Q I r h
 obtain ⟨p,ys,rfl,hq,q⟩:=h
 obtain ⟨u,rfl,rx⟩:=vals1 r
 cases rx
 have fin:∀ (its:List Value),Vals ys its→ys.length≤sizeLine→∀ (h':Heap) (c':Nat),(∀ b o',s.heap.get? b=some o'→h'.get? b=some o') →
   h'.get? s.heap.objs.size=some { cls:=.type "list",dict:=none,data:=.seq its.toArray c',slots:=#[] }→EP X pins σ Q (.ref s.heap.objs.size) { s with heap:=h' }:=fun its r' hz h' c' kp e =>
  ⟨.ref s.heap.objs.size,_,I.laid (t':=s.toks) kp (Qu _) (show Z0h X.prog X.w _ h' _ (.lst ys) from ⟨hz,its,c',r',e⟩),rfl,q _ (I.hok.fresh (Qu _))⟩
 rcases hq with hq | hq
 ·obtain ⟨its,r',pl,hz⟩:=I.list hq
  have hlen:=r'.length
  obtain ⟨o,ho,hc,n,hd⟩:=pl.isList
  exact call_list_seq p (.inl rfl) ho hc hd (fun h' c' kp e=>fin its r' hz h' c' kp e) (by simp only [Jg] <;> omega)
 ·obtain ⟨its,r',pl,hz⟩:=I.tuple hq
  have hlen:=r'.length
  obtain ⟨o,ho,hc,n,hd⟩:=pl
  exact call_list_seq p (.inr rfl) ho hc hd (fun h' c' kp e=>fin its r' hz h' c' kp e) (by simp only [Jg] <;> omega)

noncomputable def tyV(K:Qd)(T:String)(x:V)(H:Hp):Prop:=match x with
 | .str _=>T = "str"
 | .int _=>T = "int"
 | .ref p=>(T = "list"∧∃ xs,SqL K H p xs)∨(T = "tuple"∧∃ o,K.lookup p=some o∧o.cls=.type "tuple"∧o.dict=none) ∨
   (T = "dict"∧((∃ kvs,H p=some (.dK kvs))∨∃ kvs,H p=some (.dT kvs)))∨(T = "set"∧∃ S n,H p=some (.set S n))
 | _=>False
theorem Z9j{pins:List (Addr×Obj)}{σ:St}{H:Hp}{s:Shared}{T:String}{x:V}{v:Value}(I:Inv X pins σ H s)(r:RelV x v)(ty:tyV X.K T x H) :
  s.TypeIs v T∧∀ a,v=.ref a→∃ ob,s.heap.get? a=some ob∧ob.dict=none:=by
 cases x with
 | str z =>
  obtain ⟨t,rfl⟩:=r
  cases (show T = "str" from ty)
  exact ⟨typeIs_str s z t,fun _ e=>nomatch e⟩
 | int i =>
  obtain ⟨t,rfl⟩:=r
  cases (show T = "int" from ty)
  exact ⟨typeIs_int s i t,fun _ e=>nomatch e⟩
 | ref p =>
  cases r
  rcases ty with ⟨rfl,xs,hq⟩ | ⟨rfl,o,hk,hc,hd⟩ | ⟨rfl,hk⟩ | ⟨rfl,S,n,hk⟩
  ·obtain ⟨its,_,pl,_⟩:=I.list hq
   refine ⟨pl.isList.typeIs,fun a e=>?_⟩
   cases e
   obtain ⟨o,n,e,c,hd,_⟩:=pl
   exact ⟨o,e,hd⟩
  ·refine ⟨⟨o,I.kIn p o hk,hc⟩,fun a e=>?_⟩
   cases e
   exact ⟨o,I.kIn _ o hk,hd⟩
  ·have z:∃ o,s.heap.get? p=some o∧o.ExactDict:=by
    rcases hk with ⟨kvs,hk⟩ | ⟨kvs,hk⟩
    ·obtain ⟨_,_,_,_,o,_,_,e,ex,_⟩:=I.hok p _ hk
     exact ⟨o,e,ex⟩
    ·obtain ⟨_,_,_,_,o,_,_,e,ex,_⟩:=I.hok p _ hk
     exact ⟨o,e,ex⟩
   obtain ⟨o,e,ex⟩:=z
   refine ⟨⟨o,e,ex.1⟩,fun a e2=>?_⟩
   cases e2
   exact ⟨o,e,ex.2.1⟩
  ·obtain ⟨o,_,_,_,e,ex,_⟩:=I.hok p _ hk
   refine ⟨⟨o,e,ex.1⟩,fun a e2=>?_⟩
   cases e2
   exact ⟨o,e,ex.2.1⟩
 | _=>exact False.elim ty
noncomputable def tBM0(K:Qd)(T:String)(r:V→List V→Hp→VK→Prop)(to:TE):TE:=fun σ H Q=>to σ H fun x H1=>tyV K T x H1∧r x [] H1 Q
noncomputable def tBM(K:Qd)(T:String)(r:V→List V→Hp→VK→Prop)(to:TE)(t:TA):TE:=fun σ H Q=>to σ H fun x H1=>tyV K T x H1∧t σ H1 fun xs H2=>r x xs H2 Q
variable {o e:Expr}{es:List Expr}{to:TE}{t:TA}{name:Str}{apos cpos:Pos}{T id:String}{r:V→List V→Hp→VK→Prop}
theorem Z8Y(pa:PlainAttrs T)(slot:Slot T name id)(hty:typeOf (.builtin id)=pure (.type "method_descriptor"))(hm:MtR X id r)(ho:PE X o to)
  (hbase:attributeBase o name X.env (eval o X.env)=eval o X.env:=by rfl) (hline:(apos.endLine == cpos.line)=true:=by rfl):PE X (.Call (.Attribute o name apos) [] [] cpos) (tBM0 X.K T r to):=by
 intro pins s σ H Q I h
 refine wpAny_Call_method0_late hbase hline (thn (ho pins s σ H _ I h) fun v s1 ⟨x,H1,I1,r1,ty,q1⟩=>?_)
 obtain ⟨h1,h2⟩:=Z9j I1 r1 ty
 exact ⟨T,id,pa,slot,hty,h1,h2,Calls.callWith_builtin rfl (PySem.evalArgs_none (hm pins s1 σ H1 x [] v [] Q I1 r1 .nil q1))⟩
theorem pe_bm(pa:PlainAttrs T)(slot:Slot T name id)(hty:typeOf (.builtin id)=pure (.type "method_descriptor"))(hm:MtR X id r)(ho:PE X o to)(ha:PA X (e::es) t)
  (hbase:attributeBase o name X.env (eval o X.env)=eval o X.env:=by rfl)
  (hfew:((backTo cpos (starEach (e::es) X.env)).all (fun x=>!x.1) && (backToKw cpos (keywordEach [] X.env)).all (fun x=>x.1.isSome)
   && decide ((e::es).length + ([]:List Keyword).length + (if ([]:List Keyword).isEmpty then 0 else 1) < 30))=true:=by rfl)
  (hline:(apos.endLine == cpos.line)=true:=by rfl) (hs:starEach (e::es) X.env=(false,eval e X.env)::starEach es X.env:=by rfl) (hplain:(backTo cpos (starEach es X.env)).any (·.1)=false:=by rfl) :
  PE X (.Call (.Attribute o name apos) (e::es) [] cpos) (tBM X.K T r to t):=by
 intro pins s σ H Q I h
 refine wpAny_Call_method_late hbase hfew hline rfl (thn (ho pins s σ H _ I h) fun v s1 ⟨x,H1,I1,r1,ty,q1⟩=>?_)
 obtain ⟨h1,h2⟩:=Z9j I1 r1 ty
 refine ⟨T,id,pa,slot,hty,h1,h2,?_⟩
 have hA:=ha cpos pins s1 σ H1 _ I1 q1
 rw [hs] at hA ⊢
 refine Calls.callWith_builtin (by show (false || (backTo cpos (starEach es X.env)).any (·.1))=false;rw [hplain] <;> rfl) (Calls.evalArgs_plain ?_)
 exact thn hA fun us s2 ⟨vs,H2,I2,r2,q2⟩=>hm pins s2 σ H2 x vs v us Q I2 r1 r2 q2

end
end L2
namespace L2
open PySem PySem.Spec PyProof.Rows
noncomputable def MtM(X:Cx)(id:String)(r:V→List V→Hp→VK→Prop):Prop :=
 ∀ (pins:List (Addr×Obj)) (s:Shared) (σ:St) (H:Hp) (x:V) (xs:List V) (v:Value) (us:List Value) (Q:VK),Inv X pins σ H s→RelV x v→Vals xs us→r x xs H Q →
  wpAny (model X.prog X.w) X.A (call (.builtin id) (v::us)) (EP X pins σ Q) X.xe s

theorem Vals.one:∀ {x:V} {us:List Value},Vals [x] us→∃ u,us=[u]∧RelV x u
 | _,_,.cons r .nil=>⟨_,rfl,r⟩
theorem Vals.eraseIdx:∀ {xs:List V} {us:List Value} (i:Nat),Vals xs us→Vals (xs.eraseIdx i) (us.eraseIdx i)
 | _,_,_,.nil=>.nil
 | _,_,0,.cons _ t=>t
 | _,_,i + 1,.cons r t=>.cons r (Vals.eraseIdx i t)
theorem Vals.reverse{xs:List V}{us:List Value}(h:Vals xs us):Vals xs.reverse us.reverse:=by
 induction h with
 | nil=>exact .nil
 | cons r t ih=>rw [Gx,Gx];exact Vals.append ih (.cons r .nil)
theorem Z5o{α:Type}:∀ (l:List α) (i:Nat),(l.eraseIdx i).length≤l.length
 | [],_=>Qu _
 | _::_,0=>Nat.le_succ _
 | _::r,i + 1=>Nat.succ_le_succ (Z5o r i)
section
variable {X:Cx}{pins:List (Addr×Obj)}{σ:St}{H:Hp}{s:Shared}{l b:Addr}{xs ys zs:List V}

theorem Inv.lset{its its':List Value}{n:Nat}{f:Array Value→Array Value}{t':Nat}(I:Inv X pins σ H s)(hH:H l=some (.lst xs))
  (e:s.heap.get? l=some { cls:=.type "list",data:=.seq its.toArray n }) (hf:f its.toArray=its'.toArray) (hv:Vals ys its') (hz:ys.length≤sizeLine) :
  Inv X pins σ (upd H l (.lst ys)) { s with heap:=s.heap.update l (Obj.mapSeq f),toks:=t' }:=by
 have q:=PySem.IsL.update e f
 rw [hf] at q
 refine I.write (x:=l) (e:=l) (by rw [hH];exact trivial) (.inl rfl) (fun b' u hb hu=>(Heap.get?_update_other s.heap (Obj.mapSeq f) (Ne.symm hb)).trans hu) ⟨_,q⟩ ?_
 exact ⟨hz,its',_,hv,q⟩
theorem Inv.lstM(I:Inv X pins σ H s)(hH:H l=some (.lst xs)):xs.length≤sizeLine∧∃ (its:List Value) (n:Nat),Vals xs its∧xs.length=its.length∧s.heap.get? l=some { cls:=.type "list",data:=.seq its.toArray n }:=by
 obtain ⟨z,its,n,r,e⟩:=I.hok l _ hH
 exact ⟨z,its,n,r,r.length,e⟩
end
section
variable {X:Cx}

noncomputable def rAppend:V→List V→Hp→VK→Prop:=fun x vs H Q=>∃ l xs y,x=.ref l∧vs=[y]∧H l=some (.lst xs)∧xs.length < sizeLine∧Q .non (upd H l (.lst (xs++[y])))
theorem Z4c:MtM X "list.append" rAppend:=by
 intro pins s σ H x vs v us Q I rx rv h
 obtain ⟨l,xs,y,rfl,rfl,hH,hz,q⟩:=h
 cases rx
 obtain ⟨u,rfl,ru⟩:=rv.one
 obtain ⟨z,its,n,r,hl,e⟩:=I.lstM hH
 refine call_meets F.slot_list_append ⟨_,e,rfl⟩ F.entry_list_append (F.args_list_append_2 _ _) (PySem.list_append l its.toArray n u (by rw [Jg];omega)) ⟨e,?_⟩
 refine ⟨.non,_,I.lset (its':=its++[u]) hH e (by simp) (r.append (.cons ru .nil)) ?_,rfl,q⟩
 rw [Ja,Jq]
 omega
noncomputable def rPopAt:V→List V→Hp→VK→Prop:=fun x vs H Q=>∃ l xs i k y,x=.ref l∧vs=[.int i]∧H l=some (.lst xs)∧-(2 ^ 63)≤i∧i < 2 ^ 63∧seqIndex? i xs.length=some k∧xs[k]?=some y∧Q y (upd H l (.lst (xs.eraseIdx k)))
theorem Z9D:MtM X "list.pop" rPopAt:=by
 intro pins s σ H x vs v us Q I rx rv h
 obtain ⟨l,xs,i,k,y,rfl,rfl,hH,h1,h2,hk,hy,q⟩:=h
 cases rx
 obtain ⟨u,rfl,ru⟩:=rv.one
 obtain ⟨t,rfl⟩:=ru
 obtain ⟨z,its,n,r,hl,e⟩:=I.lstM hH
 obtain ⟨w,hw,rw'⟩:=r.get hy
 refine call_meets F.slot_list_pop ⟨_,e,rfl⟩ F.entry_list_pop (F.args_list_pop_2 _ _)
  (MeetsSeq.list_pop_at l its.toArray n i t k w (fitsIndex_both h1 h2) (by rw [Jg,← hl];exact hk) (by rw [← Array.getElem?_toList];exact hw) (by rw [Jg];omega)) ⟨e,?_⟩
 refine ⟨y,_,I.lset (its':=its.eraseIdx k) hH e ?_ (r.eraseIdx k) ?_,rw',q⟩
 ·show its.toArray.eraseIdxIfInBounds k=(its.eraseIdx k).toArray
  rw [List.eraseIdxIfInBounds_toArray]
 ·have:=Z5o xs k
  omega


end

section
variable {prog:Program}{w:World}{A:Around}{E:Value→Shared→Prop}{s:Shared}
end
section
variable {X:Cx}
end
end L2
namespace Att
open PySem PySem.W PySem.Calls PyProof.Rows

theorem Z4M{P:Params}{h:Heap}:∀ (ns:List Int) (vs:List Value),WellAll P h vs (ns.map WData.int)→IntsAre vs ns:=by
 intro ns
 induction ns with
 | nil =>
  intro vs w
  rw [Wo] at w
  cases w
  exact .nil
 | cons n ns ih =>
  intro vs w
  rw [Ql] at w
  cases w with
  | cons a b =>
   cases a
   exact .cons _ _ (ih _ b)
theorem Z9c{l:OpenLaw}{n:Nat}(hn:l.most=some n){P:Params}{h:Heap}{args:List WData}{vals:List Value}
  (hpre:l.row.toRowW.claim.pre args=true) (hwl:WellAll P h vals args) :
  ∃ a vs ns,vals=[Value.ref a]∧args=[WData.list (ns.map WData.int)]∧h.get? a=some { cls:=.type "list",data:=.seq vs.toArray }∧IntsAre vs ns∧ns.length≤n:=by
 have hsh:WShape.hasAll [] args [.list .int]=true:=(pre_splitW hpre).1
 have hc:l.pre.holds [] { args:=args }=true:=(pre_splitW hpre).2
 obtain ⟨d,r,rfl,h1,h2⟩:=hasAllW_cons hsh
 obtain rfl:=hasAllW_nil h2
 obtain ⟨xs,rfl,h3⟩:=hasW_list h1
 obtain ⟨ns,rfl⟩:=items_int h3
 have hlen:ns.length≤n:=by
  unfold OpenLaw.pre at hc
  have h4:(WTm.not (.lt (.lit (.int (n:Int))) (.len (.arg 0)))).holds [] { args:=[.list (ns.map .int)] }=true:=by
   have h4:=(holds_andW hc).1
   rw [hn] at h4
   exact h4
  have h5:=condW_of h4 (w_not (w_lt w_lit (w_len_list (w_arg rfl))))
  rw [Qs] at h5
  refine Gg fun q=>?_
  have q':(n:Int) < ((ns.length:Nat):Int):=by omega
  first
   | (rw [decide_eq_true q'] at h5;exact absurd h5 (by decide))
   | (simp at h5;omega)
 cases hwl with
 | cons w1 w2 =>
  cases w2
  cases w1 with
  | list ho hall=>exact ⟨_,_,ns,rfl,rfl,ho,Z4M ns _ hall,hlen⟩
theorem Z94(l:OpenLaw)(args:List WData):l.row.toRowW.claim.post args (.bool true) args=true :=
 postW_of (r:=l.row.toRowW) (X:=(true == true))
  (show WShape.has [] (.bool true) .bool=true by first | rfl | decide | simp [WShape.has,WShape.arms,WShape.armsAll])
  (show (WTm.eq .res (.lit (.bool true))).value [] { args:=args,res:=some (.bool true),after:=args }=some (.bool (true == true)) from w_eq_bool (w_res rfl) w_lit) rfl

theorem Z6L{l:OpenLaw}{n:Nat}{q:Program}{loose:List Str}{XP:(Str→Option Value)→Heap→Prop}{YP:World→Heap→Prop}{d:DefRec}
  (hn:l.most=some n) (hdf:d.params.defaults=[])
  (call:∀ (w:World) (s₀ s₁:Shared) (mg mb:Str→Option Value) (fa:Addr) (o:Obj) (pm cd doc:Value) (a:Addr) (vs:List Value) (ns:List Int),
   Ground q loose [] XP w s₀ mg mb s₁.heap→YP w s₁.heap →
   s₁.heap.get? fa=some o→o.data=.func (docDef d.name d.params d.body d.scope pm cd doc)→s₁.heap.CodeRec cd d.name→mg d.name=some (.ref fa) →
   s₁.heap.get? a=some { cls:=.type "list",data:=.seq vs.toArray }→IntsAre vs ns→ns.length≤n→s₁.gens=#[] →
   codeAny (model l.prog w) callerA (.call (.ref fa) ⟨[.ref a],[]⟩) (fun r s'=>r=.ok (.ret (.bool true))∧OldK s₁.heap s'.heap∧s'.os=s₁.os∧AllBare s'.gens) s₁) :
  WalkO q loose XP YP l.row.toRowW d [] (fun f vs=>PySem.call f vs):=by
 intro w s₀ s₁ mg mb G Y fa o pm cd doc dV kV ho hd hcd hD hmg hg args vals as hpre hlay hrd hwl hlo
 obtain rfl:dV=.none:=Dflts.none hD hdf
 obtain rfl:kV=.none:=Dflts.noKw hD
 obtain ⟨a,vs,ns,rfl,rfl,hobj,hints,hlen⟩:=Z9c hn hpre hwl
 refine enter_call (codeAny_mono (call w s₀ s₁ mg mb fa o pm cd doc a vs ns G Y ho (fd_plain hd) hcd hmg hobj hints hlen hg) fun r s' hq=>?_)
 obtain ⟨rfl,h2,h3,h4⟩:=hq
 exact ⟨.inl ⟨.bool true,.bool true,[],rfl,fun _=>rfl,.bool true,Z94 l _,fun _=>⟨List.Pairwise.nil,fun _ hm=>(nomatch hm)⟩⟩,h2,h3,h4⟩

section
variable {prog:Program}{w:World}{A:Around}{E:Value→Shared→Prop}{s:Shared}{K:Frag}

noncomputable def ledger(h:Heap)(L d:Addr):List (Addr×Obj):=(List.range h.objs.size).filterMap fun a=>if a=L∨a=d then none else (h.get? a).map fun o=>(a,o)
end
end Att
namespace L2
open PySem PySem.Spec PyProof.Rows
theorem Z5v:∀ {vs:List Value} {ns:List Int},IntsAre vs ns→Vals (ns.map V.int) vs
 | _,_,.nil=>.nil
 | _,_,.cons n t h=>.cons ⟨t,rfl⟩ (Z5v h)
noncomputable def Only(H:Hp):Prop:=∀ b,H b=none∨∃ o xs,H b=some (.frz o (.lst xs))
theorem Z9B{P:Program}{w:World}{K:Qd}{mg mb:Str→Option Value}{CX:CXT}{k:Nat}{fa a:Addr}{fd:FuncData}{x:Str}{sp:Sp}{s₁:Shared}{vs:List Value}{ns:List Int}
  (KX:K.In s₁.heap) (hns:s₁.heap.Ns mainGlobals mg) (hb:s₁.heap.Ns builtinsNs mb) (hbb:∀ x:Str,x ≠ "__name__"→mb x=bootBuiltins x) (hlim:s₁.heap.NoLimit) (hg:s₁.gens=#[])
  (ha:s₁.heap.get? a=some { cls:=.type "list",data:=.seq vs.toArray }) (hi:IntsAre vs ns) (hl:ns.length≤sizeLine) (hr:Room k callerA)
  (F:∀ base:Heap,K.In base→base.Ns mainGlobals mg→FnOk P w K mg base CX k fa fd [x] sp) (hbind:∀ (s:Shared) (u:Value),BindsTo s fd ⟨[u],[]⟩ [(x,u)])
  (hsp:∀ H:Hp,Only H→SqL K H a (ns.map V.int)→sp [.ref a] H (fun v _=>v=.bl true) fun _ _ _=>False)
  (hCX:∀ H e s',CX [] H s₁ (fun _ _ _=>False) e s'→False) :
  codeAny (model P w) callerA (.call (.ref fa) ⟨[.ref a],[]⟩) (fun r s'=>r=.ok (.ret (.bool true))∧OldK s₁.heap s'.heap∧s'.os=s₁.os∧AllBare s'.gens) s₁:=by
 have rv:=Z5v hi
 have lenV:=hi.length
 have core:∀ H:Hp,Only H→SqL K H a (ns.map V.int)→HOk P w H s₁.heap→(∀ b,H b≠none→b=a)→(H a≠none→K.lookup a=none) →
   codeAny (model P w) callerA (.call (.ref fa) ⟨[.ref a],[]⟩) (fun r s'=>r=.ok (.ret (.bool true))∧OldK s₁.heap s'.heap∧s'.os=s₁.os∧AllBare s'.gens) s₁:=by
  intro H hO hS hok hA hK
  have base_of:∀ {b:Addr} {o:Obj},s₁.heap.get? b=some o→H b=none→(hidT s₁.heap H).get? b=some o:=fun e n=>Z9u e n
  have noA:∀ {b:Addr} {o:Obj} {es:Array DictEntry} {ep:Nat},s₁.heap.get? b=some o→o.data=.dict es ep→H b=none:=fun {b o es ep} e d=>by
   cases q:H b with
   | none=>rfl
   | some u =>
    have e':b=a:=hA b (by rw [q];simp)
    subst e'
    rw [ha] at e;cases e
    have d':Data.seq vs.toArray _=Data.dict es ep:=d
    cases d'
  have nsK:∀ {b:Addr} {m:Str→Option Value},s₁.heap.Ns b m→(hidT s₁.heap H).Ns b m:=fun {b m} ⟨o,es,ep,e,d,r⟩=>⟨o,es,ep,base_of e (noA e d),d,r⟩
  have hKb:K.In (hidT s₁.heap H):=fun b o e=>base_of (KX b o e) (by
   cases q:H b with
   | none=>rfl
   | some u =>
    have e':b=a:=hA b (by rw [q];simp)
    subst e'
    rw [hK (by rw [q];simp)] at e;cases e)
  have hM:Mod K mg (hidT s₁.heap H):=⟨hKb,nsK hns,⟨mb,nsK hb,hbb⟩,let ⟨mc,h1,h2⟩:=hlim;⟨mc,nsK h1,h2⟩⟩
  have e0:Env0 P w K mg (hidT s₁.heap H) callerA [] s₁ H:=⟨rfl,hM,fun b o e=>Zak e,Nat.le_of_eq (Z8y _ _),trivial,fun b hb=>absurd (show b∈([]:List Addr) from hb) (by simp),hok,.of_eq hg⟩
  refine codeAny_mono ((F _ hKb (nsK hns)).run callerA [] s₁ H ⟨[.ref a],[]⟩ [.ref a] [.ref a] _ _ hr e0 (hbind s₁ (.ref a)) (.cons rfl .nil) (hsp H hO hS)) fun r s' h=>?_
  cases r with
  | error e=>exact (hCX H e s' h).elim
  | ok fl =>
   cases fl with
   | next=>exact False.elim h
   | brk=>exact False.elim h
   | cont=>exact False.elim h
   | ret u =>
    obtain ⟨v,H',os,bare,un,hok',r',q⟩:=h
    have q':v=.bl true:=q
    subst q'
    obtain rfl:u=Value.bool true:=r'
    refine ⟨rfl,OldK.of_keep fun b o e=>?_,os,bare⟩
    cases q:H b with
    | none=>exact un.keep b o e q (by intro z;exact absurd (show b∈([]:List Addr) from z) (by simp)) (by simp)
    | some u =>
     rcases hO b with z | ⟨ob,xs,z⟩
     ·rw [q] at z;cases z
     ·have z2:=un.frzs b ob _ z
      obtain ⟨e1,_⟩:=hok b _ z
      obtain ⟨e2,_⟩:=hok' b _ z2
      rw [e] at e1;cases e1
      exact e2
 cases hk:K.lookup a with
 | some o =>
  have e:=KX a o hk
  rw [ha] at e
  cases e
  refine core (fun _=>none) (fun _=>.inl rfl) (.inr ⟨_,vs.toArray,_,hk,rfl,rfl,rfl,by rw [Jg,lenV];exact hl,by simpa using rv⟩) (fun b u z=>by have z':(none:Option HO)=some u:=z;cases z') (fun b z=>absurd rfl z) fun z=>absurd rfl z
 | none =>
  refine core (fun b=>if b=a then some (.frz { cls:=.type "list",data:=.seq vs.toArray } (.lst (ns.map V.int))) else none) (fun b=>?_) (.inl (.inr ⟨{ cls:=.type "list",data:=.seq vs.toArray },if_pos rfl⟩)) (fun b u z=>?_) (fun b z=>?_) fun _=>hk
  ·by_cases hb:b=a
   ·exact .inr ⟨_,_,if_pos hb⟩
   ·exact .inl (if_neg hb)
  ·by_cases hb:b=a
   ·have z':=(if_pos hb).symm.trans z
    cases z'
    subst hb
    exact ⟨ha,by rw [Qs];exact hl,vs,_,rv,ha⟩
   ·have z':=(if_neg hb).symm.trans z
    cases z'
  ·by_cases hb:b=a
   ·exact hb
   ·exact absurd (if_neg hb) z
end L2
namespace L2
open PySem PySem.Spec PyProof.Rows
noncomputable abbrev KOf{K:Qd}{h:Heap}(_:K.In h):Qd:=K
theorem ZaO{l:PySem.W.OpenLaw}{n k:Nat}{q:Program}{loose:List Str}{XP:(Str→Option Value)→Heap→Prop}{YP:World→Heap→Prop}{d:DefRec}{K:Params→Qd}{CX:World→CXT}{sp:World→Sp}{x:Str}
  (hn:l.most=some n) (hn2:n≤sizeLine) (hdf:d.params.defaults=[]) (hr:Room k callerA)
  (hY:∀ (w:World) (h:Heap),YP w h→(K w.params).In h)
  (F:∀ (w:World) (mg:Str→Option Value) (fa:Addr) (h:Heap),(K w.params).In h→h.Ns mainGlobals mg→mg d.name=some (.ref fa) →
   ∃ fd:FuncData,(∀ (s:Shared) (u:Value),BindsTo s fd ⟨[u],[]⟩ [(x,u)]) ∧
    ∀ base:Heap,(K w.params).In base→base.Ns mainGlobals mg→FnOk l.prog w (K w.params) mg base (CX w) k fa fd [x] (sp w))
  (hsp:∀ (w:World) (H:Hp) (a:Addr) (ns:List Int),ns.length≤n→Only H→SqL (K w.params) H a (ns.map V.int)→sp w [.ref a] H (fun v _=>v=.bl true) fun _ _ _=>False)
  (hCX:∀ (w:World) (H:Hp) (s:Shared) (e:Value) (s':Shared),CX w [] H s (fun _ _ _=>False) e s'→False) :
  PySem.W.WalkO q loose XP YP l.row.toRowW d [] (fun f vs=>PySem.call f vs):=by
 refine Att.Z6L hn hdf fun w s₀ s₁ mg mb fa o pm cd doc a vs ns G Y ho hd hcd hmg hobj hints hlen hg=>?_
 have KX:=hY w _ Y
 obtain ⟨fd,hb,hF⟩:=F w mg fa _ KX G.T.g hmg
 exact Z9B KX G.T.g G.T.b G.T.builtins G.T.nolimit hg hobj hints (Wm hlen hn2) hr hF hb (fun H hO hS=>hsp w H a ns hlen hO hS) fun H e s'=>hCX w H s₁ e s'
end L2


namespace L2
open PySem PySem.Spec PyProof.Rows

noncomputable def Z0e(s:Stmt):Arguments:=match s with
 | .FunctionDef _ a _ _ _ _ _ _ _ _=>a
 | _=>{ posonlyargs:=[],args:=[],vararg:=none,kwonlyargs:=[],kw_defaults:=[],kwarg:=none,defaults:=[] }
noncomputable def Z02(s:Stmt):List Stmt:=match s with
 | .FunctionDef _ _ b _ _ _ _ _ _ _=>b
 | _=>[]
noncomputable def Z9(s:Stmt):Scope:=match s with
 | .FunctionDef _ _ _ _ _ _ sc _ _ _=>sc
 | _=>{ kind:=.function,names:=[],isGenerator:=false,isCoroutine:=false }

noncomputable abbrev CX0:CXT:=fun _ _ _ _ _ _=>False
noncomputable abbrev E0:XK:=fun _ _ _=>False

structure Fun(K:Qd)(x qual:Str)(st:Stmt)(f:Addr)(fd:FuncData):Prop where
 ex:∃ (oc:Value) (od:Option Addr) (kV doc pm:Value) (an:Option Addr) (cdv ct:Value) (osl:Array (Option Value)),
  fd=PySem.W.fnOf x qual (Z0e st) (Z02 st) (Z9 st) .none kV doc pm an cdv ct∧K.lookup f=some ⟨oc,od,.func fd,osl⟩∧PySem.W.codeIn K cdv qual=true
 kp:PySem.W.keepIn K (.ref f)=true
section
variable {P:Program}{w:World}{K:Qd}{mg:Str→Option Value}{base:Heap}
theorem Z0J{x qual:Str}{st:Stmt}{f:Addr}{oc:Value}{od an:Option Addr}{osl:Array (Option Value)}{kV doc pm cdv ct:Value}(l:K.lookup f=some ⟨oc,od,.func (PySem.W.fnOf x qual (Z0e st) (Z02 st) (Z9 st) .none kV doc pm an cdv ct),osl⟩)
  (c:PySem.W.codeIn K cdv qual=true) (k:PySem.W.keepIn K (.ref f)=true):Fun K x qual st f (PySem.W.fnOf x qual (Z0e st) (Z02 st) (Z9 st) .none kV doc pm an cdv ct):=⟨⟨oc,od,kV,doc,pm,an,cdv,ct,osl,rfl,l,c⟩,k⟩
end
theorem Z1b{A:Around}{k:Nat}(hr:Room k A):A.units + 1 < cLine:=Nat.lt_of_le_of_lt (Nat.add_le_add_left (by decide:1≤64) _) hr.units

section
variable {X:Cx}
theorem pv(i:Nat){x:Str}{pos:Pos}(hN:X.N[i]?=some x:=by rfl)(hv:Vis X.env.scope x:=by first | exact Or.inl rfl | exact Or.inr (Or.inl rfl) | exact Or.inr (Or.inr rfl))(hd:(x == ("__debug__":Str))=false:=by decide)
  (hcd:(x == ("__classdict__":Str))=false:=by decide):PE X (.Name x pos) (tVar i):=ZbD hN hv hd hcd
end

theorem iteF{A B:Prop}(h:B):if false=true then A else B:=by
 rw [if_neg Qp]
 exact h
theorem iteT{A B:Prop}(h:A):if true=true then A else B:=by
 rw [if_pos rfl]
 exact h

noncomputable def Z16(H H':Hp):Prop:=∀ b o,H b=some o→H' b=some o
theorem Z16.trans{H H1 H2:Hp}(a:Z16 H H1)(b:Z16 H1 H2):Z16 H H2:=fun c o h=>b c o (a c o h)
theorem Z16.seq{K:Qd}{H H':Hp}{a:Addr}{xs:List V}(e:Z16 H H')(h:SqL K H a xs):SqL K H' a xs:=by
 rcases h with (h | ⟨o,h⟩) | h
 ·exact .inl (.inl (e _ _ h))
 ·exact .inl (.inr ⟨o,e _ _ h⟩)
 ·exact .inr h
end L2
namespace L2
open PySem PySem.Spec PyProof.Rows

section
variable {κ:Type}[DecidableEq κ]
noncomputable def valV(kvs:List (κ×V))(k:κ):Option V:=(kvs.find? fun kv=>decide (kv.1=k)).map (·.2)
noncomputable def putK(kvs:List (κ×V))(k:κ)(v:V):List (κ×V) :=
 if (kvs.any fun kv=>decide (kv.1=k))=true then kvs.map (fun kv=>if kv.1=k then (kv.1,v) else kv) else kvs++[(k,v)]
theorem Z3O{p:κ×V}{r:List (κ×V)}{k:κ}(e:p.1=k):valV (p::r) k=some p.2:=by simp [valV,Ng,e]
theorem Z3N{p:κ×V}{r:List (κ×V)}{k:κ}(e:¬ p.1=k):valV (p::r) k=valV r k:=by simp [valV,Ng,e]
theorem Z32(k:κ):∀ kvs:List (κ×V),(kvs.any fun kv=>decide (kv.1=k))=(valV kvs k).isSome
 | []=>rfl
 | p::r=>by
  rw [Ni]
  by_cases e:p.1=k
  ·simp only [Z3O e,decide_eq_true e,Bool.true_or,Option.isSome_some]
  ·rw [Z3N e,decide_eq_false e,Bool.false_or];exact Z32 k r
theorem Z3f(kvs:List (κ×V))(k:κ)(v:V):(putK kvs k v).length≤kvs.length + 1:=by
 unfold putK
 split
 ·rw [Qs];omega
 ·rw [Ja,Jk,Nh];omega
theorem Z6w{kvs:List (κ×V)}{k:κ}(v:V)(h:valV kvs k=none):putK kvs k v=kvs++[(k,v)]:=by
 unfold putK
 rw [Z32,h]
 exact if_neg (by decide)
theorem RelO.isSome_eq{o:Option V}{u:Option Value}(r:RelO o u):o.isSome=u.isSome:=by
 cases o with
 | none=>cases u with
  | none=>rfl
  | some _=>exact (show False from r).elim
 | some _=>cases u with
  | none=>exact (show False from r).elim
  | some _=>rfl
theorem KV.val{kvs:List (κ×V)}{vs:List (κ×Value)}(r:KV kvs vs)(k:κ):RelO (valV kvs k) (valueAt vs k):=by
 unfold KV at r
 induction r with
 | nil=>exact True.intro
 | @cons p q ps qs h t ih =>
  obtain ⟨h1,h2⟩:=h
  by_cases e:p.1=k
  ·have e':q.1=k:=h1.symm.trans e
   have b:valueAt (q::qs) k=some q.2:=by simp [valueAt,Ng,e']
   rw [Z3O e,b];exact h2
  ·have e':¬ q.1=k:=fun z=>e (h1.trans z)
   have b:valueAt (q::qs) k=valueAt qs k:=by simp [valueAt,Ng,e']
   rw [Z3N e,b];exact ih
theorem KV.any{kvs:List (κ×V)}{vs:List (κ×Value)}(r:KV kvs vs)(k:κ):(kvs.any fun kv=>decide (kv.1=k))=vs.any fun kv=>decide (kv.1=k):=by
 unfold KV at r
 induction r with
 | nil=>rfl
 | cons h t ih=>rw [Ni,Ni,ih,h.1]
theorem KV.repl{kvs:List (κ×V)}{vs:List (κ×Value)}(r:KV kvs vs)(k:κ){y:V}{u:Value}(ry:RelV y u) :
  KV (kvs.map fun kv=>if kv.1=k then (kv.1,y) else kv) (vs.map fun kv=>if kv.1=k then (kv.1,u) else kv):=by
 unfold KV at r ⊢
 induction r with
 | nil=>exact .nil
 | @cons p q ps qs h t ih =>
  rw [Ql,Ql]
  refine .cons ?_ ih
  obtain ⟨h1,h2⟩:=h
  by_cases e:p.1=k
  ·rw [if_pos e,if_pos (h1.symm.trans e)];exact ⟨h1,ry⟩
  ·rw [if_neg e,if_neg (fun z=>e (h1.trans z))];exact ⟨h1,h2⟩
theorem KV.put{kvs:List (κ×V)}{vs:List (κ×Value)}(r:KV kvs vs)(k:κ){y:V}{u:Value}(ry:RelV y u):KV (putK kvs k y) (stored vs k u):=by
 unfold putK stored
 rw [r.any k]
 by_cases e:(vs.any fun kv=>decide (kv.1=k))=true
 ·rw [if_pos e,if_pos e];exact r.repl k ry
 ·rw [if_neg e,if_neg e];exact Paired.snoc r ⟨rfl,ry⟩
theorem KV.length{kvs:List (κ×V)}{vs:List (κ×Value)}(r:KV kvs vs):kvs.length=vs.length:=Paired.length r
end

theorem kV_is{P:Program}{w:World}{k:Key}{u:Value}(r:RelV (kV k) u):(Z0a P w).is k u=true:=by
 cases k with
 | inl i=>obtain ⟨t,e⟩:=(show ∃ t,u=Value.int i t from r);subst e;exact Z6S P w i t
 | inr x=>obtain ⟨t,e⟩:=(show ∃ t,u=Value.str x t from r);subst e;exact Z6T P w x t
theorem Z5m{P:Program}{w:World}:∀ {ks:List Key} {us:List Value},Vals (ks.map kV) us→ItemsAre (Z0a P w) ks us
 | [],_,r=>by rw [Wo] at r;cases r;exact .nil
 | k::ks,_,r=>by
  rw [Ql] at r
  cases r with
  | cons h t=>exact .cons (kV_is h) (Z5m t)
noncomputable abbrev KT(H:Hp):List (List Key×V)→List (List Key×Addr×Value)→Prop:=Paired fun p q=>p.1=q.1∧H q.2.1=some (.tup (p.1.map kV))∧RelV p.2 q.2.2
theorem KT.val{H:Hp}{kvs:List (List Key×V)}{xs:List (List Key×Addr×Value)}(r:KT H kvs xs)(k:List Key):RelO (valV kvs k) ((atKey xs k).map (·.2)):=by
 induction r with
 | nil=>exact True.intro
 | @cons p q ps qs h t ih =>
  obtain ⟨h1,_,h2⟩:=h
  by_cases e:p.1=k
  ·have e':q.1=k:=h1.symm.trans e
   have b:atKey (q::qs) k=some q.2:=by simp [atKey,Ng,e']
   rw [Z3O e,b];exact h2
  ·have e':¬ q.1=k:=fun z=>e (h1.trans z)
   have b:atKey (q::qs) k=atKey qs k:=by simp [atKey,Ng,e']
   rw [Z3N e,b];exact ih
theorem KT.repl{H:Hp}{kvs:List (List Key×V)}{xs:List (List Key×Addr×Value)}(r:KT H kvs xs)(k:List Key){y:V}{u:Value}(ry:RelV y u) :
  KT H (kvs.map fun kv=>if kv.1=k then (kv.1,y) else kv) (xs.map (putAt k u)):=by
 induction r with
 | nil=>exact .nil
 | @cons p q ps qs h t ih =>
  rw [Ql,Ql]
  refine .cons ?_ ih
  obtain ⟨h1,h2,h3⟩:=h
  unfold putAt
  by_cases e:p.1=k
  ·rw [if_pos e,if_pos (h1.symm.trans e)];exact ⟨h1,h2,ry⟩
  ·rw [if_neg e,if_neg (fun z=>e (h1.trans z))];exact ⟨h1,h2,h3⟩
theorem KT.put{H:Hp}{kvs:List (List Key×V)}{xs:List (List Key×Addr×Value)}(r:KT H kvs xs)(k:List Key){b:Addr}{y:V}{u:Value}(hb:H b=some (.tup (k.map kV)))(ry:RelV y u) :
  KT H (putK kvs k y) (storedH xs k b u):=by
 have e:(kvs.any fun kv=>decide (kv.1=k))=(atKey xs k).isSome:=by
  rw [Z32,(r.val k).isSome_eq,Option.isSome_map]
 unfold putK storedH
 rw [e]
 by_cases q:(atKey xs k).isSome=true
 ·rw [if_pos q,if_pos q];exact r.repl k ry
 ·rw [if_neg q,if_neg q];exact Paired.snoc r ⟨rfl,hb,ry⟩
theorem KT.keeps{H H':Hp}{kvs:List (List Key×V)}{xs:List (List Key×Addr×Value)}(r:KT H kvs xs)(ht:∀ b ys,H b=some (.tup ys)→H' b=some (.tup ys)):KT H' kvs xs :=
 Paired.mapP r fun _ _ z=>⟨z.1,ht _ _ z.2.1,z.2.2⟩
section
variable {P:Program}{w:World}{H:Hp}{h:Heap}{a:Addr}
theorem rd_of{u:HO}(ok:HOk P w H h)(e:Rd H a u):Z0h P w H h a u:=e.ok ok
theorem Z2f{kvs:List (Key×V)}(ok:HOk P w H h)(e:Rd H a (.dK kvs)):kvs.length≤sizeLine∧(a == sysModules)=false∧∃ vs,KV kvs vs∧h.DictOf (Z0a P w) a vs :=
 show Z0h P w H h a (.dK kvs) from rd_of ok e
theorem dk_of{kvs:List (Key×V)}(ok:HOk P w H h)(e:H a=some (.dK kvs)):kvs.length≤sizeLine∧(a == sysModules)=false∧∃ vs,KV kvs vs∧h.DictOf (Z0a P w) a vs:=Z2f ok (.inl e)
theorem Z4O{ks:List Key}(ok:HOk P w H h)(e:H a=some (.tup (ks.map kV))):(tupleKind (Z0a P w)).is h ks a:=by
 obtain ⟨_,its,r,o,h1,h2,n,h3⟩:=(show Z0h P w H h a (.tup (ks.map kV)) from ok a _ e)
 exact ⟨o,its.toArray,n,h1,h2,h3,by simpa using Z5m r⟩
theorem dt_rd{kvs:List (List Key×V)}(ok:HOk P w H h)(e:Rd H a (.dT kvs)):kvs.length≤sizeLine∧(a == sysModules)=false ∧
  ∃ xs,KT H kvs xs∧h.DictOfH (tupleKind (Z0a P w)) a xs:=by
 obtain ⟨z,y,xs,r,o,es,ep,h1,h2,h3,h4,h5⟩:=(show Z0h P w H h a (.dT kvs) from rd_of ok e)
 refine ⟨z,y,xs,r,o,es,ep,h1,h2,h3,h4,fun x hx=>?_,h5⟩
 have all:∀ {l:List (List Key×V)} {m:List (List Key×Addr×Value)},KT H l m→∀ x∈m,(tupleKind (Z0a P w)).is h x.1 x.2.1:=by
  intro l m q
  induction q with
  | nil=>intro x hx;exact nomatch hx
  | @cons p q ps qs hq t ih =>
   intro x hx
   rcases Qz.mp hx with e | hx
   ·subst e
    exact Z4O ok (by rw [← hq.1];exact hq.2.1)
   ·exact ih x hx
 exact all r x hx
theorem dt_of{kvs:List (List Key×V)}(ok:HOk P w H h)(e:H a=some (.dT kvs)):kvs.length≤sizeLine∧(a == sysModules)=false ∧
  ∃ xs,KT H kvs xs∧h.DictOfH (tupleKind (Z0a P w)) a xs:=dt_rd ok (.inl e)
end
noncomputable def DGet(H:Hp)(a:Addr)(y:V)(r:Option V):Prop :=
 (∃ kvs k,Rd H a (.dK kvs)∧y=kV k∧r=valV kvs k)∨∃ kvs k b,Rd H a (.dT kvs)∧y=.ref b∧H b=some (.tup (k.map kV))∧r=valV kvs k
noncomputable def DPut(H:Hp)(a:Addr)(y v:V)(H':Hp):Prop :=
 (∃ kvs k,H a=some (.dK kvs)∧y=kV k∧kvs.length < sizeLine∧H'=upd H a (.dK (putK kvs k v))) ∨
 ∃ kvs k b,H a=some (.dT kvs)∧y=.ref b∧H b=some (.tup (k.map kV))∧kvs.length < sizeLine∧H'=upd H a (.dT (putK kvs k v))
theorem DGet.k{H:Hp}{a:Addr}{kvs:List (Key×V)}{k:Key}(e:H a=some (.dK kvs)):DGet H a (kV k) (valV kvs k):=.inl ⟨kvs,k,.inl e,rfl,rfl⟩
theorem DGet.t{H:Hp}{a b:Addr}{kvs:List (List Key×V)}{k:List Key}(e:H a=some (.dT kvs))(eb:H b=some (.tup (k.map kV))):DGet H a (.ref b) (valV kvs k):=.inr ⟨kvs,k,b,.inl e,rfl,eb,rfl⟩
theorem DPut.k{H:Hp}{a:Addr}{kvs:List (Key×V)}{k:Key}{v:V}(e:H a=some (.dK kvs))(hl:kvs.length < sizeLine):DPut H a (kV k) v (upd H a (.dK (putK kvs k v))):=.inl ⟨kvs,k,e,rfl,hl,rfl⟩
theorem DPut.t{H:Hp}{a b:Addr}{kvs:List (List Key×V)}{k:List Key}{v:V}(e:H a=some (.dT kvs))(eb:H b=some (.tup (k.map kV)))(hl:kvs.length < sizeLine) :
  DPut H a (.ref b) v (upd H a (.dT (putK kvs k v))):=.inr ⟨kvs,k,b,e,rfl,eb,hl,rfl⟩
section
variable {X:Cx}{pins:List (Addr×Obj)}{σ:St}{H:Hp}{s:Shared}{a:Addr}{y v:V}{u r:Value}{o:Option V}{A:Around}{E:Value→Shared→Prop}
theorem Inv.big(I:Inv X pins σ H s):sysModules < s.heap.objs.size:=by
 have h:mainGlobals < s.heap.objs.size:=(I.mod.glob.keeps I.bk).lt
 exact Nat.lt_trans (by decide) h
theorem Z88{Q:Value→Shared→Prop}(hu:A.units + 1 < cLine)(I:Inv X pins σ H s)(g:DGet H a y (some v))(ry:RelV y u)(h:∀ w' s',Inv X pins σ H s'→RelV v w'→Q w' s') :
  wpAny (model X.prog X.w) A (getItem (.ref a) u) Q E s:=by
 rcases g with ⟨kvs,k,e,ey,l⟩ | ⟨kvs,k,b,e,ey,eb,l⟩
 ·subst ey
  obtain ⟨z,hd,vs,rel,dd⟩:=Z2f I.hok e
  obtain ⟨w',hw,rw'⟩:=RelO.some_of (v:=v) (o:=valueAt vs k) (by rw [l];exact rel.val k)
  exact wpAny_getItem_of (kV_is ry) dd.mapOf hw (h w' _ (I.tok _) rw')
 ·subst ey
  cases (show u=Value.ref b from ry)
  obtain ⟨z,hd,xs,rel,dd⟩:=dt_rd I.hok e
  obtain ⟨w',hw,rw'⟩:=RelO.some_of (v:=v) (o:=(atKey xs k).map (·.2)) (by rw [l];exact rel.val k)
  obtain ⟨p,hp,hp2⟩:=Option.map_eq_some_iff.mp hw
  refine wpAny_getItem_heap (tupleKind_room_in1 hu) (Z4O I.hok eb) dd hp ?_
  rw [hp2]
  exact h w' _ (I.tok _) rw'
theorem Za2{Q:Value→Shared→Prop}(hu:A.units + 1 < cLine)(I:Inv X pins σ H s)(g:DGet H a y o)(ry:RelV y u)(h:∀ s',Inv X pins σ H s'→Q (.bool (!o.isSome)) s') :
  wpAny (model X.prog X.w) A (compareOp .NotIn u (.ref a)) Q E s:=by
 rcases g with ⟨kvs,k,e,ey,l⟩ | ⟨kvs,k,b,e,ey,eb,l⟩
 ·subst ey
  obtain ⟨z,hd,vs,rel,dd⟩:=Z2f I.hok e
  refine wpAny_notIn_of (kV_is ry) hd dd.mapOf ?_
  rw [← (rel.val k).isSome_eq,← l]
  exact h _ (I.tok _)
 ·subst ey
  cases (show u=Value.ref b from ry)
  obtain ⟨z,hd,xs,rel,dd⟩:=dt_rd I.hok e
  refine wpAny_notIn_heap (tupleKind_room_in1 hu) (Z4O I.hok eb) hd dd ?_
  have q:=(rel.val k).isSome_eq
  rw [Option.isSome_map] at q
  rw [← q,← l]
  exact h _ (I.tok _)
theorem Z54{h':Heap}{t':Nat}{ob:HO}(I:Inv X pins σ H s)(mu:Mut (H a))(hs:Heap.SameBut a s.heap h')(he:∃ q,h'.get? a=some q)(new:Z0h X.prog X.w (upd H a ob) h' a ob) :
  Inv X pins σ (upd H a ob) { s with heap:=h',toks:=t' } :=
 I.write (x:=a) (e:=a) mu (.inl rfl) (fun b q hb z=>(hs.2 b hb).trans z) he new
theorem Z5M{P:Program}{w:World}{H':Hp}{h':Heap}{kvs:List (Key×V)}{vs:List (Key×Value)}(z:kvs.length≤sizeLine)(hd:(a == sysModules)=false)(rel:KV kvs vs)(dd:h'.DictOf (Z0a P w) a vs) :
  Z0h P w H' h' a (.dK kvs):=⟨z,hd,vs,rel,dd⟩
theorem Z89{H':Hp}{Q:Unit→Shared→Prop}(hu:A.units + 1 < cLine)(I:Inv X pins σ H s)(g:DPut H a y v H')(ry:RelV y u)(rv:RelV v r)(h:∀ s',Inv X pins σ H' s'→Q () s') :
  wpAny (model X.prog X.w) A (setItem (.ref a) u r) Q E s:=by
 rcases g with ⟨kvs,k,e,ey,l,eH⟩ | ⟨kvs,k,b,e,ey,eb,l,eH⟩
 ·subst ey eH
  obtain ⟨z,hd,vs,rel,dd⟩:=dk_of I.hok e
  have hz:vs.length≤sizeLine:=by rw [← rel.length];exact z
  have hl:(putK kvs k v).length≤sizeLine:=by have:=Z3f kvs k v;omega
  refine wpAny_setItem_pairs (hsz:=hz) (kV_is ry) dd fun h' dd' hs=>h _ ?_
  have he:∃ q,h'.get? a=some q:=let ⟨q,_,_,hq,_⟩:=dd';⟨q,hq⟩
  exact Z54 I (by rw [e];exact True.intro) hs he (Z5M hl hd (rel.put k rv) dd')
 ·subst ey eH
  cases (show u=Value.ref b from ry)
  obtain ⟨z,hd,xs,rel,dd⟩:=dt_of I.hok e
  have hz:xs.length≤sizeLine:=by rw [← Paired.length rel];exact z
  have hl:(putK kvs k v).length≤sizeLine:=by have:=Z3f kvs k v;omega
  refine wpAny_setItem_heap (hsz:=hz) (tupleKind_room_in1 hu) (Z4O I.hok eb) dd fun h' dd' hs=>h _ ?_
  obtain ⟨q,es,ep,hq,h2,h3,h4,_,h5⟩:=dd'
  refine Z54 I (by rw [e];exact True.intro) hs ⟨q,hq⟩ ⟨hl,hd,_,(rel.put k eb rv).keeps fun c ys ec=>?_,q,es,ep,hq,h2,h3,h4,h5⟩
  rw [Zc (ne_of ec e (fun z=>nomatch z))]
  exact ec
end
section
variable {X:Cx}{pins:List (Addr×Obj)}{σ:St}{H:Hp}{s:Shared}{a:Addr}{kvs:List (Key×V)}{k:Key}{u:Value}{A:Around}{E:Value→Shared→Prop}
theorem d_len{Q:Value→Shared→Prop}(I:Inv X pins σ H s)(e:Rd H a (.dK kvs))(h:∀ t s',Inv X pins σ H s'→Q (.int kvs.length t) s'):wpAny (model X.prog X.w) A (call (.builtin "len") [.ref a]) Q E s:=by
 obtain ⟨z,hd,vs,rel,dd⟩:=Z2f I.hok e
 refine call_len_dict hd dd (by rw [← rel.length];rw [sizeLine_eq] at z;omega) ?_
 rw [← rel.length]
 exact h _ _ (I.tok _)
end

noncomputable def NoSl(i:Expr):Prop:=∀ ov iv,subscripted i false ov iv=operate [ov,iv] (getItem ov iv)
theorem ZaH{prog:Program}{w:World}{A:Around}{E:Value→Shared→Prop}{s:Shared}{env:Env}{value slice:Expr}{pos:Pos}{T id:String}{Q:Value→Shared→Prop}
  (hl:typeLookup (.type T) "__getitem__"=pure (some (.builtin id))) (hs:NoSl slice)
  (h:wpAny (model prog w) A (eval value env) (fun o s₁=>wpAny (model prog w) A (eval slice env) (fun i s₂=>s₂.TypeIs o T∧wpAny (model prog w) A (getItem o i) Q E s₂) E s₁) E s) :
  wpAny (model prog w) A (eval (.Subscript value slice pos) env) Q E s:=by
 refine Subscript_ (wpAny_mono h (fun o s₁ h₁=>wpAny_mono h₁ (fun i s₂ h₂=>?_) fun _ _ x=>x) fun _ _ x=>x)
 obtain ⟨hT,h₂⟩:=h₂
 unfold subscriptTail
 refine wpAny_bind ?_
 rw [getitemInPython_of_ne hT.not_modules]
 refine wpAny_bind (wpAny_specialOf hT hl ?_)
 have fin:wpAny (model prog w) A (subscripted slice false o i) (fun r s₃=>wpAny (model prog w) A (letTemporaryGo value o r >>= fun _=>pure r) Q E s₃) E s₂:=by
  rw [hs o i]
  exact wpAny_operating (wpAny_mono h₂ (fun r s₃ h₃=>wpAny_bind (wpAny_letTemporaryGo (wpAny_pure h₃))) fun _ _ x=>x)
 first
  | exact wpAny_pure (wpAny_bind fin)
  | exact wpAny_bind (wpAny_pure (wpAny_bind fin))
  | exact wpAny_bind fin
theorem Z6Q{X:Cx}{pins:List (Addr×Obj)}{σ:St}{H:Hp}{s:Shared}{a:Addr}{y:V}{o:Option V}(I:Inv X pins σ H s)(g:DGet H a y o):s.TypeIs (.ref a) "dict":=by
 rcases g with ⟨kvs,k,e,_,_⟩ | ⟨kvs,k,b,e,_,_,_⟩
 ·obtain ⟨_,_,vs,_,dd⟩:=Z2f I.hok e
  exact dd.typeIs
 ·obtain ⟨_,_,xs,_,dd⟩:=dt_rd I.hok e
  exact dd.typeIs
noncomputable def tDGet(td ty:TE):TE:=fun σ H Q=>td σ H fun x H1=>ty σ H1 fun y H2=>∃ a v,x=.ref a∧DGet H2 a y (some v)∧Q v H2
noncomputable def tDNotIn(ty td:TE):TE:=fun σ H Q=>ty σ H fun y H1=>td σ H1 fun x H2=>∃ a o,x=.ref a∧DGet H2 a y o∧Q (.bl (!o.isSome)) H2
noncomputable def sDPut(td ty tv:TE):TS:=fun D σ H=>tv σ H fun v H1=>td σ H1 fun x H2=>ty σ H2 fun y H3=>∃ a H4,x=.ref a∧DPut H3 a y v H4∧D.nx σ H4
section
variable {X:Cx}{o i e value:Expr}{pos pos' tpos:Pos}{td ty tv:TE}
theorem Zan(hu:X.A.units + 1 < cLine)(ho:PE X o td)(hi:PE X i ty)(hs:NoSl i):PE X (.Subscript o i pos) (tDGet td ty):=by
 intro pins s σ H Q I h
 refine ZaH PySem.F.slot_dict_getitem.lookup hs (thn (ho pins s σ H _ I h) fun u s1 ⟨x,H1,I1,rx,q1⟩=>thn (hi pins s1 σ H1 _ I1 q1) fun iv s2 ⟨y,H2,I2,ry,a,v,ex,g,q2⟩=>?_)
 subst ex
 obtain rfl:u=Value.ref a:=rx
 exact ⟨Z6Q I2 g,Z88 hu I2 g ry fun w' s3 I3 rw'=>⟨v,H2,I3,rw',q2⟩⟩
theorem Z8X(hu:X.A.units + 1 < cLine)(hi:PE X i ty)(ho:PE X o td):PC X .NotIn i o (tDNotIn ty td):=by
 intro pins s σ H Q I h
 refine thn (hi pins s σ H _ I h) fun iv s1 ⟨y,H1,I1,ry,q1⟩=>thn (ho pins s1 σ H1 _ I1 q1) fun u s2 ⟨x,H2,I2,rx,a,ov,ex,g,q2⟩=>?_
 subst ex
 obtain rfl:u=Value.ref a:=rx
 exact Za2 hu I2 g ry fun s3 I3=>⟨.bl (!ov.isSome),H2,I3,rfl,q2⟩
theorem Zat(hu:X.A.units + 1 < cLine)(ho:PE X o td)(hi:PE X i ty)(hv:PE X value tv)(hs:swapsWith value (some (.Subscript o i pos')) pos.line X.env=pure false) :
  PS X (.Assign [.Subscript o i pos'] value pos) (sDPut td ty tv):=by
 intro pins s σ H D I h
 refine wpAny_Assign_Subscript (thn (hv pins s σ H _ I h) fun r s1 ⟨v,H1,I1,rv,q1⟩=>thn (ho pins s1 σ H1 _ I1 q1) fun u s2 ⟨x,H2,I2,rx,q2⟩=>thn (hi pins s2 σ H2 _ I2 q2) fun iv s3 ⟨y,H3,I3,ry,a,H4,ex,g,q3⟩=>?_) hs
 subst ex
 obtain rfl:u=Value.ref a:=rx
 exact Z89 hu I3 g ry rv fun s4 I4=>⟨σ,H4,I4,q3⟩
end

theorem Z5L{P:Program}{w:World}{H:Hp}(h:Heap)(hb:sysModules < h.objs.size):Z0h P w H (h.push { cls:=.type "dict",data:=.dict #[] }) h.objs.size (.dK []) :=
 ⟨Nk _,beq_eq_false_iff_ne.mpr (Ne.symm (Jl hb)),[],.nil,Heap.DictOf.new h⟩
noncomputable def tDNewK:TE:=fun _ H Q=>∀ p,H p=none→Q (.ref p) (upd H p (.dK []))
section
variable {X:Cx}{pos:Pos}
theorem Z9G:PE X (.Dict [] [] pos) tDNewK:=fun pins s σ H Q I h =>
 wpAny_Dict_empty ⟨.ref s.heap.objs.size,_,I.laid (a:=s.heap.objs.size) (o:=.dK []) (t':=s.toks) (fun _ _ q=>Heap.get?_push_of_some _ q) (Qu _) (Z5L s.heap I.big),rfl,h _ (I.hok.fresh (Qu _))⟩
end
noncomputable def Z3A:List (TE×TE)→St→Hp→(List (V×V)→Hp→Prop)→Prop
 | [],_,H,Q=>Q [] H
 | (tk,tv)::r,σ,H,Q=>tk σ H fun x H1=>tv σ H1 fun y H2=>Z3A r σ H2 fun ps H3=>Q ((x,y)::ps) H3
noncomputable abbrev VV:List (V×V)→List (Value×Value)→Prop:=Paired fun p q=>RelV p.1 q.1∧RelV p.2 q.2
noncomputable def PPs(X:Cx)(pos:Pos)(keys:List (Option Expr))(values:List Expr)(trs:List (TE×TE)):Prop :=
 ∀ (pins:List (Addr×Obj)) (s:Shared) (σ:St) (H:Hp) (Q:List (V×V)→Hp→Prop),Inv X pins σ H s→Z3A trs σ H Q →
  wpAny (model X.prog X.w) X.A (evalPairs (pairTrees keys values X.env pos)) (fun vs s'=>∃ ps H',Inv X pins σ H' s'∧VV ps vs∧Q ps H') X.xe s
theorem Zas{X:Cx}{pos:Pos}:PPs X pos [] [] []:=fun pins s σ H Q I h=>pairTrees_nil_walk ⟨[],H,I,.nil,h⟩
theorem Z9J{X:Cx}{pos:Pos}{k v:Expr}{ks:List (Option Expr)}{vs:List Expr}{tk tv:TE}{trs:List (TE×TE)}(hk:PE X k tk)(hv:PE X v tv)(hr:PPs X pos ks vs trs) :
  PPs X pos (some k::ks) (v::vs) ((tk,tv)::trs):=fun pins s σ H Q I h =>
 pairTrees_cons_walk (thn (hk pins s σ H _ I h) fun u s1 ⟨x,H1,I1,rx,q1⟩=>thn (hv pins s1 σ H1 _ I1 q1) fun w2 s2 ⟨y,H2,I2,ry,q2⟩ =>
  thn (hr pins s2 σ H2 _ I2 q2) fun ws s3 ⟨ps,H3,I3,rel,q3⟩=>⟨(x,y)::ps,H3,I3,.cons ⟨rx,ry⟩ rel,q3⟩)
noncomputable def Z2k(kvs more:List (Key×V)):List (Key×V):=more.foldl (fun acc kv=>putK acc kv.1 kv.2) kvs
theorem KV.merge:∀ {more:List (Key×V)} {rs:List (Key×Value)} {kvs:List (Key×V)} {vs:List (Key×Value)},KV more rs→KV kvs vs→KV (Z2k kvs more) (merged vs rs):=by
 intro more rs kvs vs r
 unfold KV at r
 induction r generalizing kvs vs with
 | nil=>intro q;exact q
 | @cons p q ps qs h t ih =>
  intro r0
  have e:KV (putK kvs p.1 p.2) (stored vs q.1 q.2):=by
   have:=r0.put p.1 h.2
   rw [← h.1];exact this
  exact ih e
theorem Z3Q:∀ (more kvs:List (Key×V)),(Z2k kvs more).length≤kvs.length + more.length
 | [],kvs=>by show kvs.length≤kvs.length + 0;omega
 | p::r,kvs=>by
  have h1:=Z3Q r (putK kvs p.1 p.2)
  have h2:=Z3f kvs p.1 p.2
  show (Z2k (putK kvs p.1 p.2) r).length≤_
  rw [Jk];omega
theorem Z4I{P:Program}{w:World}:∀ {kvs:List (Key×V)} {ws:List (Value×Value)},VV (kvs.map fun kv=>(kV kv.1,kv.2)) ws→∃ rs,Carries (Z0a P w) ws rs∧KV kvs rs
 | [],_,r=>by rw [Wo] at r;cases r;exact ⟨[],True.intro,.nil⟩
 | p::kvs,_,r=>by
  rw [Ql] at r
  cases r with
  | @cons a b as bs h t =>
   obtain ⟨rs,c,q⟩:=Z4I (P:=P) (w:=w) t
   obtain ⟨b1,b2⟩:=b
   exact ⟨(p.1,b2)::rs,⟨kV_is h.1,rfl,c⟩,.cons ⟨rfl,h.2⟩ q⟩
noncomputable def tDisp(trs:List (TE×TE)):TE:=fun σ H Q=>∀ p,H p=none→Z3A trs σ (upd H p (.dK [])) fun ps H2=>H2 p=some (.dK [])∧∃ kvs:List (Key×V),ps=kvs.map (fun kv=>(kV kv.1,kv.2))∧kvs.length≤15∧Q (.ref p) (upd H2 p (.dK (Z2k [] kvs)))
theorem Zao{X:Cx}{pos:Pos}{keys:List (Option Expr)}{values:List Expr}{trs:List (TE×TE)}(h:PPs X pos keys values trs)(hall:keys.all (·.isSome)=true)(hl:keys.length=values.length)(h0:keys≠[])
  (h15:keys.length≤15):PE X (.Dict keys values pos) (tDisp trs):=by
 intro pins s σ H Q I q
 have hn:=I.hok.fresh (Qu s.heap.objs.size)
 have I1:=I.laid (a:=s.heap.objs.size) (o:=.dK []) (h':=s.heap.push { cls:=.type "dict",data:=.dict #[] }) (t':=s.toks) (fun _ _ q=>Heap.get?_push_of_some _ q) (Qu _) (Z5L s.heap I.big)
 refine wpAny_Dict_walk (knd:=Z0a X.prog X.w) hall hl h0 h15 (thn (h pins _ σ _ _ I1 (q _ hn)) fun ws s2 ⟨ps,H2,I2,rel,e,kvs,ep,lk,q2⟩=>?_)
 subst ep
 obtain ⟨rs,c,rk⟩:=Z4I (P:=X.prog) (w:=X.w) rel
 obtain ⟨z,hd,vs0,r0,dd⟩:=dk_of I2.hok e
 cases r0
 refine ⟨rs,c,dd,fun h' dd' hs=>⟨.ref s.heap.objs.size,_,?_,rfl,q2⟩⟩
 have hz:(Z2k [] kvs).length≤sizeLine:=by
  have h1:=Z3Q kvs []
  rw [Nh] at h1
  rw [sizeLine_eq];omega
 have he:∃ q,h'.get? s.heap.objs.size=some q:=let ⟨q,_,_,hq,_⟩:=dd';⟨q,hq⟩
 exact Z54 I2 (by rw [e];exact True.intro) hs he (Z5M hz hd (rk.merge .nil) dd')

structure M1(X:Cx)(o:Expr)(m:Str)(apos:Pos)(e:Expr)(cpos:Pos):Prop where
 base:attributeBase o m X.env (eval o X.env)=eval o X.env
 few:((backTo cpos (starEach [e] X.env)).all (fun x=>!x.1) && (backToKw cpos (keywordEach [] X.env)).all (fun x=>x.1.isSome)
  && decide (([e]:List Expr).length + ([]:List Keyword).length + (if ([]:List Keyword).isEmpty then 0 else 1) < 30))=true
 line:(apos.endLine == cpos.line)=true
 trees:backTo cpos (starEach [e] X.env)=[(false,eval e X.env)]
structure M2(X:Cx)(o:Expr)(m:Str)(apos:Pos)(e f:Expr)(cpos:Pos):Prop where
 base:attributeBase o m X.env (eval o X.env)=eval o X.env
 few:((backTo cpos (starEach [e,f] X.env)).all (fun x=>!x.1) && (backToKw cpos (keywordEach [] X.env)).all (fun x=>x.1.isSome)
  && decide (([e,f]:List Expr).length + ([]:List Keyword).length + (if ([]:List Keyword).isEmpty then 0 else 1) < 30))=true
 line:(apos.endLine == cpos.line)=true
 trees:backTo cpos (starEach [e,f] X.env)=[(false,eval e X.env),(false,eval f X.env)]
section
variable {X:Cx}{pins:List (Addr×Obj)}{σ:St}{H:Hp}{s:Shared}{a:Addr}{y d:V}{u r:Value}{o:Option V}{A:Around}{E:Value→Shared→Prop}
end
section
variable {X:Cx}{o e f:Expr}{apos cpos:Pos}{td ty tx:TE}
end

section
variable {X:Cx}{pins:List (Addr×Obj)}{σ:St}{H:Hp}{s:Shared}{a:Addr}{kvs:List (Key×V)}{A:Around}{E:Value→Shared→Prop}
theorem Z9t{Q:Value→Shared→Prop}(I:Inv X pins σ H s)(e:Rd H a (.dK kvs))(h:∀ p s',H p=none→Inv X pins σ (upd H p (.dK kvs)) s'→Q (.ref p) s'):wpAny (model X.prog X.w) A (call (.type "dict") [.ref a]) Q E s:=by
 obtain ⟨z,hd,vs,rel,dd⟩:=Z2f I.hok e
 refine kt_call_dict hd dd (by rw [← rel.length];exact z) fun h' dd' hs=>?_
 refine h _ _ (I.hok.fresh (Qu _)) (I.laid (a:=s.heap.objs.size) (o:=.dK kvs) (t':=s.toks) (fun b q hq=>?_) (Qu _) (Z5M z (beq_eq_false_iff_ne.mpr (Ne.symm (Jl I.big))) rel dd'))
 exact (hs.2 b (Jl (Heap.lt_size hq))).trans (Heap.get?_push_of_some _ hq)
end
section
variable {X:Cx}{pins:List (Addr×Obj)}{σ:St}{H:Hp}{s:Shared}{a:Addr}{y:V}{u:Value}{A:Around}{E:Value→Shared→Prop}
end
end L2
namespace L2
open PySem PySem.Spec PyProof.Rows
section
variable {X:Cx}
theorem Z84:Z0f X (.builtin "len") (fun xs H Q=>∃ a kvs,xs=[V.ref a]∧H a=some (.dK kvs)∧Q (.int kvs.length) H):=by
 intro pins s σ H xs us Q I r h
 obtain ⟨a,kvs,rfl,ha,q⟩:=h
 obtain ⟨u,rfl,ru⟩:=vals1 r
 cases ru
 exact d_len I (.inl ha) fun t s' I'=>⟨.int kvs.length,H,I',⟨t,rfl⟩,q⟩
end

section
variable {κ:Type}[DecidableEq κ]
theorem ZaN{kvs:List (κ×V)}{k:κ}{v:V}(h:valV kvs k=some v):k∈kvs.map (·.1):=by
 have q:(kvs.any fun kv=>decide (kv.1=k))=true:=by
  rw [Z32,h]
  all_goals rfl
 obtain ⟨p,hp,e⟩:=List.any_eq_true.mp q
 exact Qi.mpr ⟨p,hp,of_decide_eq_true e⟩
theorem Z59:∀ {l:List κ} {k:κ},l.Nodup→¬ k∈l→(l++[k]).Nodup
 | [],k,_,_=>by simp
 | a::r,k,h,hk=>by
  obtain ⟨h1,h2⟩:=Ji.mp h
  show (a::(r++[k])).Nodup
  refine Ji.mpr ⟨fun m=>?_,Z59 h2 fun m=>hk (Qz.mpr (Or.inr m))⟩
  rcases Qe.mp m with q | q
  ·exact h1 q
  ·exact hk (Qz.mpr (Or.inl (Qw.mp q).symm))
end
end L2

namespace L2
open PySem PySem.Spec PyProof.Rows
theorem Z5H{prog:Program}{w:World}{A:Around}{R:Result→Shared→Prop}{s:Shared}{elt target iter:Expr}{ifs:List Expr}{scope:Scope}{pos:Pos}{it acc:Value}{env:Env}(I:Nat→Shared→Prop)
  (turn:∀ n s,I n s→wpAny (model prog w) A (pyNext it) (fun r s₁=>match r with
   | none=>R (.ok .next) s₁
   | some v=>wpAny (model prog w) A (letOwnedTupleGo target it v) (fun _ s₀=>wpAny (model prog w) A (assign target env v) (fun _ s₂ =>
     wpAny (model prog w) A (forIn ifs true fun c r=>if r=true then do let ok ← isTrue c env (eval c env);pure (ForInStep.yield ok) else pure (ForInStep.yield r)) (fun ok s₃ =>
      if ok=true then wpAny (model prog w) A (eval elt env) (fun x s₄ =>
       wpAny (model prog w) A (call (.builtin "list.append") [acc,x]) (fun _ s₅=>∃ m,m < n∧I m s₅) (fun _ _=>False) s₄) (fun _ _=>False) s₃
      else ∃ m,m < n∧I m s₃) (fun _ _=>False) s₂) (fun _ _=>False) s₀) (fun _ _=>False) s₁) (fun _ _=>False) s)
  (n:Nat) (h:I n s) :
  codeAny (model prog w) A (.compLoop (.ListComp elt [⟨target,iter,ifs,0⟩] scope pos) 0 it acc env) R s:=by
 refine codeAny_loop rfl I (fun n s hI=>?_) n h
 show wpAny _ A ((compTurn (.ListComp elt [⟨target,iter,ifs,0⟩] scope pos) 0 it acc env).onRaise (fun x=>do noteFrame x env;theTreesLotGoes x)) _ _ s
 refine wpAny_noted ?_
 rw [compTurn_list]
 have no:∀ (M:Model) (e:Value) (s':Shared),False→notedBy M A env (fun e s'=>R (.error e) s') e s':=fun _ _ _ z=>z.elim
 refine wpAny_bind (wpAny_standAt (wpAny_bind (wpAny_mono (turn n s hI) (fun r s₁ h₁=>?_) (fun _ _ z=>z.elim))))
 cases r with
 | none=>exact wpAny_pure h₁
 | some v =>
  refine wpAny_bind (wpAny_mono h₁ (fun _ s₀ h₀=>?_) (fun _ _ z=>z.elim))
  refine wpAny_bind (wpAny_mono h₀ (fun _ s₂ h₂=>wpAny_bind (wpAny_mono h₂ (fun ok s₃ h₃=>?_) (fun _ _ z=>z.elim))) (fun _ _ z=>z.elim))
  cases ok with
  | false=>exact wpAny_pure ⟨rfl,h₃⟩
  | true =>
   exact wpAny_bind (wpAny_bind (wpAny_mono h₃ (fun x s₄ h₄=>wpAny_bind (wpAny_mono h₄ (fun _ s₅ h₅=>wpAny_pure (wpAny_pure ⟨rfl,h₅⟩)) (fun _ _ z=>z.elim))) (fun _ _ z=>z.elim)))
theorem Z3e{env:Env}:∀ {names:List (Str×NameKind)} (cs0:List (Str×Addr)),(∀ p∈names,p.2=.free→∃ c,env.cells.lookup p.1=some c) →
  (∀ n c,cs0.lookup n=some c→env.cells.lookup n=some c) →
  ∃ cl:List (Str×Addr),(forIn names cs0 fun (x:Str×NameKind) (cs:List (Str×Addr))=>(if (x.2 == NameKind.free)=true then (do let a ← cellOf env x.1;pure (ForInStep.yield ((x.1,a)::cs))) else pure (ForInStep.yield cs):Sem (ForInStep (List (Str×Addr)))))=pure cl ∧
   (∀ n c,cl.lookup n=some c→env.cells.lookup n=some c)∧(∀ n,(n∈cs0.map (·.1)∨(n,NameKind.free)∈names)→∃ c,cl.lookup n=some c)
 | [],cs0,_,h2=>⟨cs0,rfl,h2,fun n hn=>by
   rcases hn with hn | hn
   ·have:(cs0.lookup n).isSome=true:=by
     clear h2
     induction cs0 with
     | nil=>simp at hn
     | cons p r ih =>
      obtain ⟨a,b⟩:=p
      rw [We]
      cases e:n == a with
      | true=>rfl
      | false =>
       have:n≠a:=by intro z;subst z;simp at e
       refine ih ?_
       simpa [this] using hn
    exact Option.isSome_iff_exists.mp this
   ·cases hn⟩
 | (n,k)::r,cs0,h1,h2=>by
  rw [List.forIn_cons]
  by_cases hk:k=.free
  ·subst hk
   obtain ⟨c,hc⟩:=h1 (n,.free) Qy rfl
   have e1:cellOf env n=pure c:=by unfold cellOf;rw [hc]
   have h2':∀ m d,((n,c)::cs0).lookup m=some d→env.cells.lookup m=some d:=fun m d e=>by
    rw [We] at e
    cases q:m == n with
    | true =>
     rw [q] at e
     have:m=n:=by simpa using q
     subst this
     rw [hc];exact e
    | false=>rw [q] at e;exact h2 m d e
   obtain ⟨cl,e,q1,q2⟩:=Z3e (names:=r) ((n,c)::cs0) (fun p hp=>h1 p (Qv _ hp)) h2'
   refine ⟨cl,?_,q1,fun m hm=>q2 m ?_⟩
   ·rw [if_pos (by rfl),e1]
    exact e
   ·rcases hm with hm | hm
    ·exact .inl (Qv _ hm)
    ·rcases Qz.mp hm with z | z
     ·cases z;exact .inl Qy
     ·exact .inr z
  ·obtain ⟨cl,e,q1,q2⟩:=Z3e (names:=r) cs0 (fun p hp=>h1 p (Qv _ hp)) h2
   refine ⟨cl,?_,q1,fun m hm=>q2 m ?_⟩
   ·rw [if_neg (by simpa using hk)]
    exact e
   ·rcases hm with hm | hm
    ·exact .inl hm
    ·rcases Qz.mp hm with z | z
     ·cases z;exact absurd rfl hk
     ·exact .inr z
theorem Z3h{env:Env}{scope:Scope}(h:∀ p∈scope.names,p.2=.free→∃ c,env.cells.lookup p.1=some c) :
  ∃ cl:List (Str×Addr),closureFor scope env=pure cl∧(∀ n c,cl.lookup n=some c→env.cells.lookup n=some c)∧∀ n,(n,NameKind.free)∈scope.names→∃ c,cl.lookup n=some c:=by
 obtain ⟨cl,e,q1,q2⟩:=Z3e (env:=env) (names:=scope.names) [] h (fun n c e=>by simp at e)
 refine ⟨cl,?_,q1,fun n hn=>q2 n (.inr hn)⟩
 unfold closureFor
 simp only []
 refine Eq.trans ?_ (congrArg (fun m=>m >>= fun r=>pure r) e)
 rfl
noncomputable def cxC(X:Cx)(N:List Str)(scope:Scope)(cl:List (Str×Addr))(C:Addr)(s:Shared)(H:Hp)(fp:List Addr):Cx where
 prog:=X.prog
 w:=X.w
 K:=X.K
 mg:=X.mg
 base:=X.base
 A:=X.A
 N:=N
 s₀:=s
 H₀:=H
 env:=compEnvC scope cl C X.env
 outer:=X.stack
 stack:=X.stack
 ex:=fp
 fn:=fun _=>false
 calm:=X.calm
 pn:=X.pn
 xe:=fun _ _=>False
structure CompSc(X:Cx)(t:Nat)(N:List Str)(scope:Scope):Prop where
 kind:scope.kind=.function
 nocell:∀ y∈scope.names,y.2≠.cell
 names:∀ y∈scope.names,y.2=.local→scope.names.lookup y.1=some .local
 free:∀ y∈scope.names,y.2=.free→X.env.scope.names.lookup y.1=some .cell∨X.env.scope.names.lookup y.1=some .free
 len:N.length=X.N.length + t
 rest:∀ p∈(N.drop t).zip X.N,p.1=p.2∨scope.names.lookup p.1=none
 own:∀ y∈X.N,scope.names.lookup y≠some .local∨y∉N.drop t
theorem Z0k{scope:Scope}{env:Env}{x:Str}{k:NameKind}:(relabel scope env).names.lookup x=some k→∃ k0,scope.names.lookup x=some k0∧(k=k0∨(k0=.free∧k=.cell)):=by
 show (scope.names.map _).lookup x=some k→_
 induction scope.names with
 | nil=>intro h;simp at h
 | cons p r ih =>
  obtain ⟨n,kk⟩:=p
  intro h
  simp only [Ql] at h
  by_cases hx:x=n
  ·subst hx
   by_cases hc:(kk == NameKind.free && env.scope.kind == .function && env.kindOf x == some .cell)=true
   ·rw [if_pos hc] at h
    rw [We,beq_self_eq_true] at h
    refine ⟨kk,by rw [We,beq_self_eq_true],.inr ⟨?_,(Option.some.inj h).symm⟩⟩
    simp only [Jr,beq_iff_eq] at hc
    exact hc.1.1
   ·rw [if_neg hc] at h
    rw [We,beq_self_eq_true] at h
    exact ⟨kk,by rw [We,beq_self_eq_true],.inl (Option.some.inj h).symm⟩
  ·have hb:(x == n)=false:=by simpa using hx
   have h':(r.map fun (x:Str×NameKind)=>match x with | (n,k)=>if (k == NameKind.free && env.scope.kind == .function && env.kindOf n == some .cell)=true then (n,NameKind.cell) else (n,k)).lookup x=some k:=by
    by_cases hc:(kk == NameKind.free && env.scope.kind == .function && env.kindOf n == some .cell)=true
    ·rw [if_pos hc,We,hb] at h;exact h
    ·rw [if_neg hc,We,hb] at h;exact h
   obtain ⟨k0,q1,q2⟩:=ih h'
   exact ⟨k0,by rw [We,hb];exact q1,q2⟩
section
variable {X:Cx}{pins:List (Addr×Obj)}{σ:St}{H:Hp}{s:Shared}
theorem Z9Z{t:Nat}{N:List Str}{scope:Scope}{cl:List (Str×Addr)}{C:Addr}{fp:List Addr}(I:Inv X pins σ H s)(S:CompSc X t N scope)(hC:s.heap.objs.size≤C)(hfp:∀ b∈fp,FpOk X pins H b∧b < s.heap.objs.size)
  (q1:∀ n c,cl.lookup n=some c→X.env.cells.lookup n=some c) (q2:∀ n,(n,NameKind.free)∈scope.names→∃ c,cl.lookup n=some c):(cxC X N scope cl C s H fp).Ok where
 mod:=I.ok.mod
 kind:=S.kind
 glob:=I.ok.glob
 blt:=I.ok.blt
 above:=hC
 inj:=fun x y c h1 h2=>I.ok.inj x y c (q1 x c h1) (q1 y c h2)
 has:=fun x hx=>by
  have hx:(relabel scope X.env).names.lookup x=some .cell∨(relabel scope X.env).names.lookup x=some .free:=hx
  rcases hx with hx | hx
  ·obtain ⟨k0,e,z⟩:=Z0k hx
   rcases z with z | ⟨z,_⟩
   ·subst z;exact absurd rfl (S.nocell _ (PySem.mem_of_lookup e))
   ·subst z;exact q2 x (PySem.mem_of_lookup e)
  ·obtain ⟨k0,e,z⟩:=Z0k hx
   rcases z with z | ⟨z,z'⟩
   ·subst z;exact q2 x (PySem.mem_of_lookup e)
   ·cases z'
 cab:=fun x c h _=>by cases h
 hd:=I.ok.hd
 frames:=I.ok.frames
 stk:=.inl rfl
 exf:=fun b hb=>⟨Jl (Jc (hfp b hb).2 hC),fun x c e=>(hfp b hb).1.2.2.2.2.1 x c (q1 x c e)⟩
 bs:=I.bs
 bsz:=Wm I.ok.bsz I.sz
 noex:=fun b o e hb=>by
  obtain ⟨_,_,_,h,_⟩:=(hfp b hb).1
  rcases h with h | h
  ·exact I.ok.noex b o e h
  ·exact absurd (Jc (Heap.lt_size e) (Wm I.ok.bsz h)) (Js _)
 exfs:=fun b hb z=>by
  obtain ⟨_,h1,h2,_⟩:=(hfp b hb).1
  rcases Qz.mp (I.stkSub b z) with e | e
  ·exact h1 e
  ·exact h2 e
 funs:=I.stack
 frf:=I.stkFree
theorem Z7V{t:Nat}{N:List Str}{scope:Scope}{cl:List (Str×Addr)}{C:Addr}{fp:List Addr}{h1:Heap}{tk:Nat}{D:Addr}(I:Inv X pins σ H s)(S:CompSc X t N scope)(hC:s.heap.objs.size≤C)(hD:s.heap.objs.size≤D)(hDC:D≠C)(hfp:∀ b∈fp,FpOk X pins H b∧b < s.heap.objs.size)
  (q1:∀ n c,cl.lookup n=some c→X.env.cells.lookup n=some c) (q2:∀ n,(n,NameKind.free)∈scope.names→∃ c,cl.lookup n=some c)
  (hn:h1.Ns C fun _=>none) (hk:∀ b o,s.heap.get? b=some o→h1.get? b=some o) (hd:h1.get? D=some { cls:=.type "list",data:=.seq ([]:List Value).toArray }) :
  Inv (cxC X N scope cl C s H fp) pins (List.replicate t none++σ) (upd H D (.lst [])) { s with heap:=h1,toks:=tk }:=by
 have lt:∀ b o,s.heap.get? b=some o→b < s.heap.objs.size:=fun b o e=>Heap.lt_size e
 have fC:H C=none:=I.hok.fresh hC
 have fD:H D=none:=I.hok.fresh hD
 refine ⟨Z9Z I S hC hfp q1 q2,rfl,I.bare,Un.laid hk hD fD,⟨_,hn,fun i x v e1 e2 e3=>?_⟩,fun x c e=>?_,?_,fun x c e=>?_,fun p hp=>?_,I.hok.laid hk hD ⟨by simp,[],0,.nil,hd⟩,?_⟩
 ·
  have hi:t≤i:=by
   by_cases z:t≤i
   ·exact z
   ·rw [Qo (by simpa using z),Wx] at e2
    split at e2 <;> cases e2
  obtain ⟨j,rfl⟩:∃ j,i=t + j:=⟨i - t,by omega⟩
  rw [Jf (by simp)] at e2
  simp only [Jt,Nat.add_sub_cancel_left] at e2
  have e1:N[t + j]?=some x:=e1
  have hN:(N.drop t)[j]?=some x:=by rw [List.getElem?_drop];exact e1
  have hj:j < X.N.length:=by rw [← I.len];exact (Qc.mp e2).1
  obtain ⟨y,hy⟩:∃ y,X.N[j]?=some y:=⟨_,Qj hj⟩
  have hm:(x,y)∈(N.drop t).zip X.N:=by
   have:((N.drop t).zip X.N)[j]?=some (x,y):=by rw [List.getElem?_zip_eq_some];exact ⟨hN,hy⟩
   exact Qf this
  have vis:∃ k0,scope.names.lookup x=some k0:=by
   rcases e3 with e3 | e3 | e3
   ·obtain ⟨k0,e,_⟩:=Z0k (scope:=scope) (env:=X.env) e3;exact ⟨k0,e⟩
   ·obtain ⟨k0,e,_⟩:=Z0k (scope:=scope) (env:=X.env) e3;exact ⟨k0,e⟩
   ·obtain ⟨k0,e,_⟩:=Z0k (scope:=scope) (env:=X.env) e3;exact ⟨k0,e⟩
  obtain ⟨k0,hk0⟩:=vis
  have exy:x=y:=by
   rcases S.rest _ hm with z | z
   ·exact z
   ·rw [hk0] at z;cases z
  subst exy
  have hfree:k0=.free:=by
   rcases S.own x (Qf hy) with z | z
   ·
    rcases e3 with e3 | e3 | e3
    ·obtain ⟨k1,e,w⟩:=Z0k (scope:=scope) (env:=X.env) e3
     rw [hk0] at e;cases e
     rcases w with w | ⟨_,w⟩
     ·subst w;exact absurd hk0 z
     ·cases w
    ·obtain ⟨k1,e,w⟩:=Z0k (scope:=scope) (env:=X.env) e3
     rw [hk0] at e;cases e
     rcases w with w | ⟨w,_⟩
     ·subst w;exact absurd rfl (S.nocell _ (PySem.mem_of_lookup hk0))
     ·exact w
    ·obtain ⟨k1,e,w⟩:=Z0k (scope:=scope) (env:=X.env) e3
     rw [hk0] at e;cases e
     rcases w with w | ⟨_,w⟩
     ·exact w.symm
     ·cases w
   ·exact absurd (Qf hN) z
  subst hfree
  obtain ⟨c,hc⟩:=q2 x (PySem.mem_of_lookup hk0)
  have hcX:=q1 x c hc
  obtain ⟨m,_,hl⟩:=I.loc
  have vX:Vis X.env.scope x:=by
   rcases S.free _ (PySem.mem_of_lookup hk0) rfl with z | z
   ·exact .inr (.inl z)
   ·exact .inr (.inr z)
  obtain ⟨u,r,l⟩:=hl j x v hy e2 vX
  refine ⟨u,r,.inr ⟨?_,c,hc,?_⟩⟩
  ·rcases e3 with e3 | e3 | e3
   ·obtain ⟨k1,e,w⟩:=Z0k (scope:=scope) (env:=X.env) e3
    rw [hk0] at e;cases e
    rcases w with w | ⟨_,w⟩ <;> cases w
   ·exact .inl e3
   ·exact .inr e3
  ·rcases l with ⟨k,_⟩ | ⟨_,c',hc',z⟩
   ·rcases S.free _ (PySem.mem_of_lookup hk0) rfl with z | z
    ·have k':X.env.scope.names.lookup x=some .local:=k
     rw [show X.env.scope.names.lookup x=some .cell from z] at k';cases k'
    ·have k':X.env.scope.names.lookup x=some .local:=k
     rw [show X.env.scope.names.lookup x=some .free from z] at k';cases k'
   ·rw [hcX] at hc';cases hc'
    obtain ⟨o,ho,hd⟩:=z
    exact ⟨o,hk _ _ ho,hd⟩
 ·obtain ⟨v,o,ho,hd⟩:=I.cell x c (q1 x c e)
  exact ⟨v,o,hk _ _ ho,hd⟩
 ·show upd H D (.lst []) C=none
  rw [Zc (Ne.symm hDC)];exact fC
 ·obtain ⟨v,o,ho,_⟩:=I.cell x c (q1 x c e)
  rw [Zc (Jl (Jc (lt _ _ ho) hD))]
  exact I.freeC x c (q1 x c e)
 ·obtain ⟨e,n,ne,nf,d⟩:=I.pin p hp
  refine ⟨hk _ _ e,?_,Jl (Jc (lt _ _ e) hC),fun z=>?_,d⟩
  ·rw [Zc (Jl (Jc (lt _ _ e) hD))];exact n
  ·rcases Qz.mp (I.stkSub p.1 z) with w | w
   ·exact ne w
   ·exact nf w
 ·show (List.replicate t none++σ).length=N.length
  rw [Ja,Jt,S.len,I.len];omega
theorem Z9s{t:Nat}{N:List Str}{scope:Scope}{cl:List (Str×Addr)}{C:Addr}{fp:List Addr}{s':Shared}{H':Hp}{σ':St}(I:Inv X pins σ H s)(hC:s.heap.objs.size≤C)(hfp:∀ b∈fp,FpOk X pins H b∧b < s.heap.objs.size)
  (J:Inv (cxC X N scope cl C s H fp) pins σ' H' s'):Inv X pins σ H' s' :=
 I.call' (ch:=fp) J.os J.base J.hok J.bare fun b hb=>by
  obtain ⟨_,h1,h2,h3,h4,h5⟩:=(hfp b hb).1
  exact ⟨h3,h1,h4,h5⟩
theorem Z5I{C:Addr}{h':Heap}{s0 s':Shared}{H0:Hp}{σ0:St}(I0:Inv X pins σ0 H0 s0)(hC:s0.heap.objs.size≤C)(J:Inv X pins σ H s')(hn:H C=none)(hs:Heap.SameBut C s'.heap h'):Inv X pins σ H { s' with heap:=h' }:=by
 obtain ⟨f0,f1,f2,f3,f4,f5⟩:=I0.fpOk hC (I0.hok.fresh hC)
 exact J.turned (t':=s'.toks) (fun b o hb e=>(hs.2 b hb).trans e) hn f1 f3 f4 f5
end
section
variable {X:Cx}
noncomputable def PF(X:Cx)(ifs:List Expr)(t:TT):Prop :=
 ∀ (pins:List (Addr×Obj)) (s:Shared) (σ:St) (H:Hp) (Q:Bool→Hp→Prop),Inv X pins σ H s→t σ H Q →
  wpAny (model X.prog X.w) X.A (forIn ifs true fun c r=>if r=true then do let ok ← isTrue c X.env (eval c X.env);pure (ForInStep.yield ok) else pure (ForInStep.yield r)) (TP X pins σ Q) X.xe s
noncomputable def tYes:TT:=fun _ H Q=>Q true H
theorem Z91:PF X [] tYes:=fun _ _ _ H _ I h=>wpAny_tests_nil ⟨H,I,h⟩
theorem ZbE{c:Expr}{t:TT}(h:PT X c t):PF X [c] t:=fun pins s σ H Q I q=>wpAny_tests_one (h pins s σ H Q I q)
noncomputable def compW(J:It)(t:Nat)(g:TG)(tt:TT)(te:TE)(σ:St)(H1:Hp)(Q:VK):Prop:=∀ D,H1 D=none→∃ W:Nat→Nat→List V→St→Hp→Prop,(∃ m,W 0 m [] (List.replicate t none++σ) (upd H1 D (.lst [])))∧∀ i m ys τ H,W i m ys τ H →
 (J.stop i H∧Q (.ref D) H)∨(J.go i H∧∃ N:List V→St→Hp→Prop,(∀ zs τ' H',N zs τ' H'→∃ m',m' < m∧W (i + 1) m' zs τ' H')∧∀ x H',J.yld i H x H'→g x τ H' fun τ2 H2=>tt τ2 H2 fun b H3 =>
  if b=true then te τ2 H3 fun y H4=>H4 D=some (.lst ys)∧ys.length < sizeLine∧N (ys++[y]) τ2 (upd H4 D (.lst (ys++[y]))) else N ys τ2 H3)
noncomputable def tComp(t:Nat)(wi:TI)(g:TG)(tt:TT)(te:TE):TE:=fun σ H Q=>wi σ H fun J H1=>compW J t g tt te σ H1 Q
theorem Z4J{t:Nat}{N:List Str}{scope:Scope}{tg iter elt:Expr}{ifs:List Expr}{cl:List (Str×Addr)}{pos:Pos}{g:TG}{tt:TT}{te:TE}{pins:List (Addr×Obj)}{σ:St}{H1:Hp}{s2:Shared}{E:Value→Shared→Prop}
  {it:Addr} {fp:List Addr} {tn:Nat→Heap→Prop} {J:It} {Q:VK} {RR:Value→Addr→Result→Shared→Prop}
  (hc:X.calm=true) (S:CompSc X t N scope) (q1:∀ n c,cl.lookup n=some c→X.env.cells.lookup n=some c) (q2:∀ n,(n,NameKind.free)∈scope.names→∃ c,cl.lookup n=some c)
  (hg:∀ C s H fp,PG (cxC X N scope cl C s H fp) tg g) (hf:∀ C s H fp,PF (cxC X N scope cl C s H fp) ifs tt) (he:∀ C s H fp,PE (cxC X N scope cl C s H fp) elt te)
  (I:Inv X pins σ H1 s2) (T:Turn X.prog X.w X.K tg J fp it tn) (st:tn 0 s2.heap) (f2:∀ b∈fp,FpOk X pins H1 b)
  (h:∀ D,H1 D=none→∃ W:Nat→Nat→List V→St→Hp→Prop,(∃ m,W 0 m [] (List.replicate t none++σ) (upd H1 D (.lst [])))∧∀ i m ys τ H,W i m ys τ H →
   (J.stop i H∧Q (.ref D) H)∨(J.go i H∧∃ N:List V→St→Hp→Prop,(∀ zs τ' H',N zs τ' H'→∃ m',m' < m∧W (i + 1) m' zs τ' H')∧∀ x H',J.yld i H x H'→g x τ H' fun τ2 H2=>tt τ2 H2 fun b H3 =>
    if b=true then te τ2 H3 fun y H4=>H4 D=some (.lst ys)∧ys.length < sizeLine∧N (ys++[y]) τ2 (upd H4 D (.lst (ys++[y]))) else N ys τ2 H3))
  (hR:∀ D C s' H',s2.heap.objs.size≤C→D≠C→Inv X pins σ H' s'→H' C=none→(∃ m,s'.heap.Ns C m)→Q (.ref D) H'→RR (.ref D) C (.ok .next) s') :
  wpAny (model X.prog X.w) X.A (newList []) (fun acc s₃=>wpAny (model X.prog X.w) X.A (newFunctionEnv scope X.env.globals cl [] X.env.qual none .none (some X.env)) (fun cenv s₄ =>
   codeAny (model X.prog X.w) X.A (.compStart (.ListComp elt [⟨tg,iter,ifs,0⟩] scope pos) 0 (.ref it) acc { cenv with scope:=relabel scope X.env }) (RR acc cenv.locals) s₄) E s₃) E s2:=by
 refine wpAny_newObj_type (wpAny_newFunctionEnv S.nocell (by intro y hy;simp at hy) (fun h₁ hns₁ hsb₁=>?_) S.kind)
 dsimp only at hns₁ hsb₁ ⊢
 generalize hH2:s2.heap.push { cls:=.type "list",dict:=none,data:=.seq ([]:List Value).toArray }=H2 at hns₁ hsb₁ ⊢
 have hCs:H2.objs.size=s2.heap.objs.size + 1:=by rw [← hH2,Heap.size_push]
 have hDC:s2.heap.objs.size≠H2.objs.size:=by rw [hCs];exact Jl (Nm _)
 have hCle:s2.heap.objs.size≤H2.objs.size:=by rw [hCs];exact Nat.le_succ _
 have old:∀ b o,s2.heap.get? b=some o→h₁.get? b=some o:=fun b o e =>
  hsb₁.extBut b o (by rw [hCs];exact Jl (Wj (Heap.lt_size e))) (Heap.get?_push_of_some _ (hH2 ▸ Heap.get?_push_of_some _ e))
 have hacc:h₁.get? s2.heap.objs.size=some { cls:=.type "list",data:=.seq ([]:List Value).toArray }:=hsb₁.extBut _ _ hDC (Heap.get?_push_of_some _ (hH2 ▸ Heap.get?_push_size _ rfl))
 have hfp:∀ b∈fp,FpOk X pins H1 b∧b < s2.heap.objs.size:=fun b hb=>⟨f2 b hb,by obtain ⟨o,e,_⟩:=T.obj _ _ st b hb;exact Heap.lt_size e⟩
 have hns:h₁.Ns H2.objs.size fun _=>none:=hns₁
 have I4:=Z7V (tk:=s2.toks + ([]:List (Str×Value)).length) I S hCle (Qu _) hDC hfp q1 q2 hns old hacc
 have st1:tn 0 h₁:=T.keep _ _ _ st fun b _ o e=>old b o e
 obtain ⟨W,⟨m0,w0⟩,turn⟩:=h s2.heap.objs.size (I.hok.fresh (Qu _))
 generalize hY:cxC X N scope cl H2.objs.size s2 H1 fp=Y at I4
 have yfp:∀ {H':Hp},(∀ b∈fp,H' b=none)→∀ b∈fp,FpOk Y pins H' b:=fun hn b hb=>by
  obtain ⟨⟨_,g1,g2,g3,g4,g5⟩,gl⟩:=hfp b hb
  subst hY
  refine ⟨hn b hb,Jl (Jc gl hCle),fun z=>?_,.inl hb,fun x c e=>g4 x c (q1 x c e),g5⟩
  rcases Qz.mp (I.stkSub b z) with w | w
  ·exact g1 w
  ·exact g2 w
 have eP:Y.prog=X.prog:=by subst hY;rfl
 have ew:Y.w=X.w:=by subst hY;rfl
 have eK:Y.K=X.K:=by subst hY;rfl
 have eA:Y.A=X.A:=by subst hY;rfl
 have ecalm:Y.calm=true:=by subst hY;exact hc
 have loop:codeAny (model X.prog X.w) X.A (.compLoop (.ListComp elt [⟨tg,iter,ifs,0⟩] scope pos) 0 (.ref it) (.ref s2.heap.objs.size) (compEnvC scope cl H2.objs.size X.env))
    (RR (.ref s2.heap.objs.size) H2.objs.size) { s2 with heap:=h₁,toks:=s2.toks + ([]:List (Str×Value)).length }:=by
  refine Z5H (fun n s'=>∃ i ys τ H',Inv Y pins τ H' s'∧tn i s'.heap∧(∀ b∈fp,H' b=none)∧W i n ys τ H') ?_ m0 ⟨0,[],_,_,I4,st1,fun b hb=>?_,w0⟩
  ·rintro n s3 ⟨i,ys,τ,H3,I3,st3,fr3,w3⟩
   rcases turn i n ys τ H3 w3 with ⟨stop,qn⟩ | ⟨go,NN,hNN,step⟩
   ·have d:=T.done Y eP ew eK ecalm i pins s3 τ H3 (fun _ _=>False) I3 (yfp fr3) st3 stop
    rw [eA] at d
    refine thn d fun r s4 ⟨hr,I5⟩=>?_
    subst hr
    subst hY
    have J5:=Z9s (t:=t) I hCle hfp I5
    obtain ⟨m,hn,_⟩:=I5.loc
    exact hR _ _ s4 H3 hCle hDC J5 I5.free ⟨m,hn⟩ qn
   ·have d:=T.item Y eP ew eK ecalm i pins s3 τ H3 (fun _ _=>False) I3 (yfp fr3) st3 go
    rw [eA] at d
    refine thn d fun r s4 ⟨u,hr,h4⟩=>?_
    subst hr
    refine thn h4 fun _ s5 ⟨x,H5,I5,r5,y5,st5,fr5⟩=>?_
    have I5':=I5.pinned (yfp fr5) (T.obj _ _ st5)
    subst hY
    refine thn (hg _ _ _ _ _ s5 τ H5 x u _ I5' r5 (step x H5 y5)) fun _ s6 ⟨τ6,H6,I6,q6⟩=>?_
    refine thn (hf _ _ _ _ _ s6 τ6 H6 _ I6 q6) fun b s7 ⟨H7,I7,q7⟩=>?_
    have again:∀ {zs:List V} {σ7:St} {H7:Hp} {s7:Shared},Inv (cxC X N scope cl H2.objs.size s2 H1 fp) (pins++Z3q fp s5.heap) σ7 H7 s7→(∃ m',m' < n∧W (i + 1) m' zs σ7 H7) →
      ∃ m,m < n∧∃ i ys τ H',Inv (cxC X N scope cl H2.objs.size s2 H1 fp) pins τ H' s7∧tn i s7.heap∧(∀ b∈fp,H' b=none)∧W i m ys τ H':=fun {zs σ7 H7 s7} I7 ⟨m',hm,w7⟩=>by
     refine ⟨m',hm,i + 1,zs,σ7,H7,I7.unpinned,T.keep _ _ _ st5 fun b hb o e=>(I7.pin (b,o) (Qg _ (Qg _ (Z2j hb e)))).1,fun b hb=>?_,w7⟩
     obtain ⟨o,e,d⟩:=T.obj _ _ st5 b hb
     exact (I7.pin (b,o) (Qg _ (Qg _ (Z2j hb e)))).2.1
    cases b with
    | false=>exact again I7 (hNN _ _ _ q7)
    | true =>
     have q7':=q7
     rw [if_pos rfl] at q7' ⊢
     refine thn (he _ _ _ _ _ s7 τ6 H7 _ I7 q7') fun v s8 ⟨y,H8,I8,r8,hl,hz,q8⟩=>?_
     refine thn (Z4c (X:=cxC X N scope cl H2.objs.size s2 H1 fp) _ s8 τ6 H8 (.ref s2.heap.objs.size) [y] (.ref s2.heap.objs.size) [v] (fun _ H9=>NN (ys++[y]) τ6 H9) I8 rfl (.cons r8 .nil) ⟨_,ys,y,rfl,rfl,hl,hz,q8⟩) fun _ s9 ⟨_,H9,I9,_,q9⟩=>?_
     exact again I9 (hNN _ _ _ q9)
  ·have z:=(hfp b hb).2
   rw [Zc (Jl z)]
   exact (f2 b hb).1
 exact codeAny_compStart_list loop (T.self _ 0 _ _ _ st1 loop)
theorem Z7L{t:Nat}{N:List Str}{scope:Scope}{tg iter elt:Expr}{ifs:List Expr}{pos:Pos}{wi:TI}{g:TG}{tt:TT}{te:TE}(hc:X.calm=true)(hi:PI X tg iter wi)(S:CompSc X t N scope)
  (hg:∀ cl C s H fp,PG (cxC X N scope cl C s H fp) tg g) (hf:∀ cl C s H fp,PF (cxC X N scope cl C s H fp) ifs tt) (he:∀ cl C s H fp,PE (cxC X N scope cl C s H fp) elt te)
  (hs:∀ x,foldedSetIterable iter X.env x=pure x:=by intro _;rfl):PE X (.ListComp elt [⟨tg,iter,ifs,0⟩] scope pos) (tComp t wi g tt te):=by
 intro pins s σ H Q I h
 obtain ⟨cl,e,q1,q2⟩:=Z3h (env:=X.env) (scope:=scope) fun p hp hk=>I.ok.has p.1 (S.free p hp hk)
 rw [eval_ListComp]
 refine wpAny_comprehension_free (use:=none) rfl hs e S.kind S.names (thn (hi pins s σ H _ I h) fun v s1 h1=>thn h1 fun itv s2 h2=>?_)
 obtain ⟨it,fp,tn,J,H2,e2,I2,T,st2,f2,hW⟩:=h2
 subst e2
 refine Z4J (Q:=Q) (RR:=fun acc C=>compPost (model X.prog X.w) X.A X.xe none (EP X pins σ Q) acc C) hc S q1 q2 (hg cl) (hf cl) (he cl) I2 T st2 f2 hW ?_
 intro D C s' H' hC hDC J1 hn hm q
 obtain ⟨m,hm⟩:=hm
 exact ⟨m,hm,fun h' hs'=>⟨.ref D,H',Z5I I2 hC J1 hn hs',rfl,q⟩⟩
theorem Z7N{t i:Nat}{y:Str}{py spos:Pos}{N:List Str}{scope:Scope}{tg iter elt:Expr}{ifs:List Expr}{pos:Pos}{wi:TI}{g:TG}{tt:TT}{te:TE}(hc:X.calm=true)(hi:PI X tg iter wi)(S:CompSc X t N scope)
  (hg:∀ cl C s H fp,PG (cxC X N scope cl C s H fp) tg g) (hf:∀ cl C s H fp,PF (cxC X N scope cl C s H fp) ifs tt) (he:∀ cl C s H fp,PE (cxC X N scope cl C s H fp) elt te)
  (hN:X.N.Nodup) (hiy:X.N[i]?=some y) (hx:X.env.scope.names.lookup y=some .local)
  (hsw:swapsWith (.ListComp elt [⟨tg,iter,ifs,0⟩] scope pos) (some (.Name y py)) spos.line X.env=pure true)
  (hs:∀ x,foldedSetIterable iter X.env x=pure x:=by intro _;rfl):PS X (.Assign [.Name y py] (.ListComp elt [⟨tg,iter,ifs,0⟩] scope pos) spos) (tAsg (tComp t wi g tt te) (Z1j i)):=by
 intro pins s σ H D I h
 obtain ⟨cl,e,q1,q2⟩:=Z3h (env:=X.env) (scope:=scope) fun p hp hk=>I.ok.has p.1 (S.free p hp hk)
 rw [exec_Assign_Name_used _ _ _ _ hsw]
 refine wpAny_bind (wpAny_standAt (wpAny_bind ?_))
 show wpAny _ X.A (do let _ ← comprehension (.ListComp elt [⟨tg,iter,ifs,0⟩] scope pos) scope X.env _ (newList []) false (eval iter X.env) (some (assign (.Name y py) X.env))) _ _ s
 refine wpAny_bind (wpAny_mono (wpAny_comprehension_free (use:=some (assign (.Name y py) X.env)) (Q:=fun _ s'=>SP X pins D .next s') rfl hs e S.kind S.names
  (thn (hi pins s σ H _ I h) fun v s1 h1=>thn h1 fun itv s2 h2=>?_)) (fun _ s' hq=>wpAny_pure (wpAny_pure hq)) fun _ _ e=>e)
 obtain ⟨it,fp,tn,J,H2,e2,I2,T,st2,f2,hW⟩:=h2
 subst e2
 refine Z4J (Q:=fun x H1=>Z1j i x σ H1 D.nx) (RR:=fun acc C=>compPost (model X.prog X.w) X.A X.xe (some (assign (.Name y py) X.env)) (fun _ s'=>SP X pins D .next s') acc C) hc S q1 q2 (hg cl) (hf cl) (he cl) I2 T st2 f2 hW ?_
 intro D' C s' H' hC hDC J1 hn hm q
 obtain ⟨m,hm⟩:=hm
 show wpAny _ X.A (assign (.Name y py) X.env (.ref D')) _ _ _
 have hCL:C≠X.env.locals:=(I2.fpOk hC (I2.hok.fresh hC)).2.1
 refine wpAny_assign_Name (Z5r (v:=.ref D') J1 hN hiy (.inl hx) rfl (fun s3 I3 ⟨a,sb,ha⟩=>?_) (.inr hx))
 have ha':C≠a:=by
  rcases ha with ha | ha
  ·rw [ha];exact hCL
  ·exact fun z=>(I2.fpOk hC (I2.hok.fresh hC)).2.2.2.2.1 y a ha z.symm
 refine ⟨m,hm.sameBut sb ha',fun h' hs'=>?_⟩
 exact ⟨_,H',Z5I I2 hC I3 hn hs',q⟩
end
end L2
namespace L2
open PySem PySem.Spec PyProof.Rows

section
variable {X:Cx}{tg:Expr}
end

theorem Z7U{t:Nat}{lo:Int}{n:Nat}{g:TG}{tt:TT}{te:TE}{Q:VK}{σ:St}{H1:Hp}(P:Addr→Nat→List V→St→Hp→Prop)(h0:∀ D,H1 D=none→P D 0 [] (List.replicate t none++σ) (upd H1 D (.lst [])))
  (hs:∀ D i ys τ H,H1 D=none→i < n→P D i ys τ H→g (.int (lo + i)) τ H fun τ2 H2=>tt τ2 H2 fun b H3 =>
   if b=true then te τ2 H3 fun y H4=>H4 D=some (.lst ys)∧ys.length < sizeLine∧P D (i + 1) (ys++[y]) τ2 (upd H4 D (.lst (ys++[y]))) else P D (i + 1) ys τ2 H3)
  (hd:∀ D ys τ H,H1 D=none→P D n ys τ H→Q (.ref D) H):compW (Itr lo n) t g tt te σ H1 Q:=by
 intro D hD
 refine ⟨fun i m ys τ H=>m=n - i∧i≤n∧P D i ys τ H,⟨n,by simp,Nk _,h0 D hD⟩,?_⟩
 rintro i m ys τ H ⟨rfl,hi,p⟩
 by_cases hlt:i < n
 ·refine .inr ⟨hlt,P D (i + 1),fun zs τ' H' p'=>⟨n - (i + 1),by omega,rfl,hlt,p'⟩,fun x H' y=>?_⟩
  obtain ⟨e,y⟩:=y
  subst e y
  exact hs D i ys τ _ hD hlt p
 ·have e:i=n:=by omega
  subst e
  exact .inl ⟨Qu _,hd D ys τ H hD p⟩
theorem Z6N{lo:Int}{n:Nat}{te:TE}{Q:VK}{σ:St}{H1:Hp}(hn:n≤sizeLine)(R:Nat→V→Prop)
  (hs:∀ i H (Q':VK),i < n→Z16 H1 H→(∀ y H4,Z16 H H4→R i y→Q' y H4)→te (some (.int (lo + i))::σ) H Q')
  (hd:∀ D ys H,H1 D=none→Z16 H1 H→H D=some (.lst ys)→ys.length=n→(∀ i y,ys[i]?=some y→R i y)→Q (.ref D) H):compW (Itr lo n) 1 (Z1j 0) tYes te σ H1 Q:=by
 refine Z7U (fun D i ys τ H=>(∃ v0,τ=v0::σ)∧Z16 H1 H∧H D=some (.lst ys)∧ys.length=i∧∀ j y,ys[j]?=some y→R j y) (fun D hD=>⟨⟨none,rfl⟩,fun b o e=>by rw [Zc (Z0d e hD)];exact e,Zx,rfl,fun j y e=>by simp at e⟩) ?_ ?_
 ·rintro D i ys τ H hD hi ⟨⟨v0,rfl⟩,sm,hl,hlen,hR⟩
  unfold Z1j tYes
  refine iteT ?_
  refine hs i H _ hi sm fun y H4 s4 ry=>⟨s4 _ _ hl,by omega,⟨_,rfl⟩,fun b o e=>?_,Zx,by simp [hlen],fun j z e=>?_⟩
  ·rw [Zc (Z0d e hD)]
   exact s4 _ _ (sm _ _ e)
  ·by_cases hj:j < ys.length
   ·rw [Qo hj] at e
    exact hR j z e
   ·rw [Jf (by omega)] at e
    have:j - ys.length=0:=by
     have:=(Qc.mp e).1
     simp at this
     omega
    rw [this] at e
    have e':y=z:=by simpa using e
    subst e'
    have:j=i:=by omega
    subst this
    exact ry
 ·rintro D ys τ H hD ⟨_,sm,hl,hlen,hR⟩
  exact hd D ys H hD sm hl hlen hR
theorem Z6M{lo:Int}{n:Nat}{te:TE}{Q:VK}{σ:St}{H1:Hp}(hn:n≤sizeLine)(f:Nat→V)
  (hs:∀ i H (Q':VK),i < n→Z16 H1 H→(∀ H4,Z16 H H4→Q' (f i) H4)→te (some (.int (lo + i))::σ) H Q')
  (hd:∀ D H,H1 D=none→Z16 H1 H→H D=some (.lst ((List.range n).map f))→Q (.ref D) H):compW (Itr lo n) 1 (Z1j 0) tYes te σ H1 Q:=by
 refine Z6N hn (fun i v=>v=f i) (fun i H Q' hi sm k=>hs i H Q' hi sm fun H4 s4=>k _ H4 s4 rfl) fun D ys H hD sm hl hlen hR=>hd D H hD sm ?_
 have:ys=(List.range n).map f:=by
  apply Ju
  intro i
  by_cases hi:i < n
  ·have h1:ys[i]?=some (ys[i]'(by omega)):=by simp
   rw [h1,hR i _ h1]
   simp [hi]
  ·rw [Jo (by omega),Jo (by simp;omega)]
 rw [← this]
 exact hl

section
variable {X:Cx}
end
end L2
namespace L2
open PySem PySem.Spec PyProof.Rows

noncomputable def compOk(sc:Scope)(N0:List Str)(t:Nat)(N:List Str)(scope:Scope):Bool :=
 (scope.kind == .function) && scope.names.all (fun y=>y.2 != .cell) && scope.names.all (fun y=>y.2 != .local || scope.names.lookup y.1 == some .local)
 && scope.names.all (fun y=>y.2 != .free || sc.names.lookup y.1 == some .cell || sc.names.lookup y.1 == some .free) && (N.length == N0.length + t)
 && ((N.drop t).zip N0).all (fun p=>p.1 == p.2 || scope.names.lookup p.1 == none) && N0.all (fun y=>scope.names.lookup y != some .local || !(N.drop t).contains y)
theorem CompSc.of{X:Cx}{sc:Scope}{N0 N:List Str}{t:Nat}{scope:Scope}(e1:X.env.scope=sc)(e2:X.N=N0)(k:compOk sc N0 t N scope=true):CompSc X t N scope:=by
 unfold compOk at k
 simp only [Jr,Np,beq_iff_eq,bne_iff_ne,Bool.or_eq_true,ne_eq,Gy,List.contains_eq_mem,decide_eq_false_iff_not] at k
 obtain ⟨⟨⟨⟨⟨⟨k1,k2⟩,k3⟩,k4⟩,k5⟩,k6⟩,k7⟩:=k
 subst e1 e2
 refine ⟨k1,k2,fun y hy hk=>?_,fun y hy hk=>?_,k5,k6,k7⟩
 ·rcases k3 y hy with z | z
  ·exact absurd hk z
  ·exact z
 ·rcases k4 y hy with (z | z) | z
  ·exact absurd hk z
  ·exact .inl z
  ·exact .inr z

structure Def(P:Program)(w:World)(K:Qd)(mg:Str→Option Value)(base:Heap)(x:Str)(k:Nat)(ps:List Str)(sp:Sp):Prop where
 ex:∃ (f:Addr) (fd:FuncData),FnOk P w K mg base CX0 k f fd ps sp∧mg x=some (.ref f)∧PySem.W.keepIn K (.ref f)=true∧Binds K fd ps [] ∧
  ∃ (oc:Value) (od:Option Addr) (osl:Array (Option Value)),K.lookup f=some ⟨oc,od,.func fd,osl⟩
structure At(K:Qd)(mg:Str→Option Value)(x:Str)(st:Stmt)(ps:List Str):Prop where
 ex:∃ (f:Addr) (fd:FuncData),Fun K x x st f fd∧mg x=some (.ref f)∧∀ us:List Value,us.length=ps.length→bindArgs fd ⟨us,[]⟩=pure (ps.zip us)
section
variable {P:Program}{w:World}{K:Qd}{mg:Str→Option Value}{base:Heap}
end
section
variable {X:Cx}{x:Str}{k:Nat}{ps:List Str}{sp:Sp}{p pos:Pos}{e:Expr}{es:List Expr}{t:TA}
end

theorem ZaX{CX:CXT}{P:Program}{w:World}{K:Qd}{mg:Str→Option Value}{base:Heap}{N:List Str}{qual:Str}{scope:Scope}{f:Addr}{cd:Value}{A:Around}{outer:List Env}{s:Shared}{H:Hp}{E:XK} :
  (Z1m CX P w K mg base N qual scope f cd A outer s H E).K=K:=rfl
theorem cxC_K{X:Cx}{N:List Str}{scope:Scope}{cl:List (Str×Addr)}{C:Addr}{s:Shared}{H:Hp}{fp:List Addr}:(cxC X N scope cl C s H fp).K=X.K:=rfl

section
variable {X:Cx}
end
end L2

namespace L2.KQ
open PySem PySem.Spec PyProof.Rows L2
section
variable {X:Cx}(K:Qd){tg l o e a b:Expr}{es:List Expr}{tl to ta tv te:TE}{t:TA}{name f:Str}{pos pos' apos cpos:Pos}{T id:String}{r:V→List V→Hp→VK→Prop}
theorem call_len(hK:X.K=K:=by rfl):Z0f X (.builtin "len") (fun xs H Q=>∃ x n,xs=[x]∧LenV K x H n∧Q (.int n) H):=by subst hK;exact L2.call_len
end
end L2.KQ
namespace L2
open PySem PySem.Spec PyProof.Rows

section
variable {X:Cx}{st:Stmt}{rest:List Stmt}{t u:TS}
end

noncomputable def IsTy(H:Hp)(x:V)(N:String):Prop:=match x with
 | .non=>N = "NoneType"
 | .bl _=>N = "bool"
 | .int _=>N = "int"
 | .str _=>N = "str"
 | .ref a=>(N = "list"∧∃ xs,H a=some (.lst xs))∨(N = "tuple"∧∃ xs,H a=some (.tup xs))∨(N = "dict"∧∃ kvs,H a=some (.dK kvs))
 | _=>False
noncomputable def kit0(N T:String):Option Bool:=PySem.W.kitOne [] (.type N) (.type T)
noncomputable def subT(N T:String):Bool:=(kit0 N T).getD false
noncomputable def Z2U(N:String)(Ts:List String):Bool:=Ts.all fun T=>(kit0 N T).isSome
theorem kit_K(K:Qd)(N T:String):PySem.W.kitOne K (.type N) (.type T)=kit0 N T:=rfl
theorem Z7G(K:Qd)(N:String):∀ (Ts:List String),Z2U N Ts=true→PySem.W.kitAny K (.type N) (Ts.map Value.type)=some (Ts.any (subT N))
 | [],_=>rfl
 | T::Ts,h=>by
  unfold Z2U at h
  rw [Nu,Jr] at h
  obtain ⟨b,hb⟩:=Option.isSome_iff_exists.mp h.1
  have ih:=Z7G K N Ts h.2
  show (match PySem.W.kitOne K (.type N) (.type T) with | some true=>some true | some false=>PySem.W.kitAny K (.type N) (Ts.map Value.type) | none=>none)=_
  rw [kit_K,hb,Ni]
  have hs:subT N T=b:=by unfold subT;rw [hb];rfl
  rw [hs]
  cases b with
  | true=>rfl
  | false=>rw [Bool.false_or];exact ih
section
variable {X:Cx}{pins:List (Addr×Obj)}{σ:St}{H:Hp}{s:Shared}
theorem IsTy.kit{x:V}{u:Value}{N:String}(I:Inv X pins σ H s)(rx:RelV x u)(ty:IsTy H x N):∃ Hh:Heap→Prop,PySem.W.KitX X.K u (.type N) Hh∧Hh s.heap∧u≠.builtin "__main__.__loader__#opaque":=by
 cases x with
 | non=>cases (show u=Value.none from rx);cases (show N = "NoneType" from ty);exact ⟨_,PySem.W.kitx_none,True.intro,fun z=>nomatch z⟩
 | bl y=>cases (show u=Value.bool y from rx);cases (show N = "bool" from ty);exact ⟨_,PySem.W.kitx_bool,True.intro,fun z=>nomatch z⟩
 | int i=>obtain ⟨t,q⟩:=(show ∃ t,u=Value.int i t from rx);cases q;cases (show N = "int" from ty);exact ⟨_,PySem.W.kitx_int,True.intro,fun z=>nomatch z⟩
 | str y=>obtain ⟨t,q⟩:=(show ∃ t,u=Value.str y t from rx);cases q;cases (show N = "str" from ty);exact ⟨_,PySem.W.kitx_str,True.intro,fun z=>nomatch z⟩
 | ref a =>
  cases (show u=Value.ref a from rx)
  rcases ty with ⟨rfl,xs,ea⟩ | ⟨rfl,xs,ea⟩ | ⟨rfl,kvs,ea⟩
  ·obtain ⟨_,_,n,_,h1⟩:=(show Z0h X.prog X.w H s.heap a (.lst xs) from I.hok a _ ea)
   exact ⟨_,PySem.W.kitx_list,⟨_,h1,rfl⟩,fun z=>nomatch z⟩
  ·obtain ⟨_,_,_,p⟩:=(show Z0h X.prog X.w H s.heap a (.tup xs) from I.hok a _ ea)
   obtain ⟨o,h1,h2,_⟩:=p
   exact ⟨_,PySem.W.kitx_tuple,⟨o,h1,h2⟩,fun z=>nomatch z⟩
  ·obtain ⟨_,_,vs,_,p⟩:=(show Z0h X.prog X.w H s.heap a (.dK kvs) from I.hok a _ ea)
   obtain ⟨o,es,ep,h1,h2,_⟩:=p
   exact ⟨_,PySem.W.kitx_dict,⟨o,h1,h2.1⟩,fun z=>nomatch z⟩
 | _=>exact (show False from ty).elim
noncomputable def rIs1:List V→Hp→VK→Prop:=fun xs H Q=>∃ x T N,xs=[x,.ty T]∧IsTy H x N∧(kit0 N T).isSome=true∧Q (.bl (subT N T)) H
theorem Z1u:Z0f X (.builtin "isinstance") rIs1:=by
 intro pins s σ H xs us Q I r h
 obtain ⟨x,T,N,rfl,ty,e,q⟩:=h
 obtain ⟨u,w',rfl,rx,rc⟩:=vals2 r
 cases rc
 obtain ⟨Hh,Z,p,ne⟩:=ty.kit I rx
 obtain ⟨b,hb⟩:=Option.isSome_iff_exists.mp e
 have hs:subT N T=b:=by unfold subT;rw [hb];rfl
 rw [hs] at q
 exact PySem.W.kia_one Z I.kIn p ((kit_K X.K N T).trans hb) ne fun tk=>⟨.bl b,H,I.tok _,rfl,q⟩
theorem Z9k:∀ {Ts:List String} {us:List Value},Vals (Ts.map V.ty) us→us=Ts.map Value.type
 | [],us,r=>by cases r;rfl
 | T::Ts,us,r=>by
  cases r with
  | cons r1 r2 =>
   cases (show _=Value.type T from r1)
   rw [Z9k r2]
   rfl
noncomputable def rIsT:List V→Hp→VK→Prop:=fun xs H Q=>∃ x p Ts N,xs=[x,.ref p]∧H p=some (.tup (Ts.map V.ty))∧IsTy H x N∧Z2U N Ts=true∧Q (.bl (Ts.any (subT N))) H
theorem Z5E:Z0f X (.builtin "isinstance") rIsT:=by
 intro pins s σ H xs us Q I r h
 obtain ⟨x,p,Ts,N,rfl,hp,ty,e,q⟩:=h
 obtain ⟨u,w',rfl,rx,rc⟩:=vals2 r
 cases rc
 obtain ⟨Hh,Z,hh,ne⟩:=ty.kit I rx
 obtain ⟨_,its,rv,o,h1,h2,n,h3⟩:=(show Z0h X.prog X.w H s.heap p (.tup (Ts.map V.ty)) from I.hok p _ hp)
 obtain rfl:=Z9k rv
 obtain ⟨c,d,dt,sl⟩:=o
 have h2:c=.type "tuple":=h2
 have h3:dt=_:=h3
 subst h2 h3
 exact PySem.W.kia_tup Z I.kIn hh h1 (Z7G X.K N Ts e) ne fun tk=>⟨.bl _,H,I.tok _,rfl,q⟩
end
end L2

namespace L2
open PySem PySem.Spec PyProof.Rows
noncomputable def Fly(g:Heap)(Z:List Addr)(l:List Env)(ea:Addr)(cls:Value)(h:Heap):Prop :=
 ∃ (B:Heap) (t:Addr),Heap.FlyingW B l ea cls (.ref t) h∧∀ b o,g.get? b=some o→b∉frs l→b∉Z→B.get? b=some o
noncomputable def CX1(P:Program)(w:World):CXT:=fun outer H s E e s'=>∃ (ea:Addr) (cls:Value) (H':Hp) (g:Heap) (Z:List Addr),e=.ref ea∧s'.os=s.os∧AllBare s'.gens∧Un (frs outer) [] H H' s.heap s'.heap∧HOk P w H' s'.heap ∧
 (∀ b o,s.heap.get? b=some o→∃ o',g.get? b=some o')∧(∀ z∈Z,s.heap.objs.size≤z)∧(∀ a o,H' a=some o→(∃ o',g.get? a=some o')∧a∉Z)∧Fly g Z outer ea cls s'.heap∧E cls none H'
section
variable {X:Cx}{pins:List (Addr×Obj)}{σ:St}{Hc H':Hp}{sc s':Shared}{g B h':Heap}{Z:List Addr}
theorem Zb1(I:Inv X pins σ Hc sc)(un:Un (frs X.stack) [] Hc H' sc.heap s'.heap)(hok:HOk X.prog X.w H' s'.heap)
  (dom:∀ b o,sc.heap.get? b=some o→∃ o',g.get? b=some o') (zz:∀ z∈Z,sc.heap.objs.size≤z) (tr:∀ a o,H' a=some o→(∃ o',g.get? a=some o')∧a∉Z)
  (hB:∀ b o,g.get? b=some o→b∉frs X.stack→b∉Z→B.get? b=some o) (st:B.StaysIn s'.heap) (st':B.StaysIn h')
  (nf:∀ b∈frs X.stack,∃ o,s'.heap.get? b=some o∧∀ vs,o.data≠.fields vs) (up:s'.heap.UpToSlots h') :
  Un (frs X.stack) [] Hc H' sc.heap h'∧HOk X.prog X.w H' h'∧∀ b,b∉frs X.stack→∀ o,g.get? b=some o→b∉Z→s'.heap.get? b=some o∧h'.get? b=some o:=by
 have same:∀ b,b∉frs X.stack→∀ o,g.get? b=some o→b∉Z→s'.heap.get? b=some o∧h'.get? b=some o:=fun b hb o e hz =>
  ⟨st b o (hB b o e hb hz),st' b o (hB b o e hb hz)⟩
 have nz:∀ b o,sc.heap.get? b=some o→b∉Z:=fun b o e hz=>absurd (Jc (Heap.lt_size e) (zz b hz)) (Js _)
 have frf:∀ b∈frs X.stack,H' b=none:=fun b hb=>by
  obtain ⟨o,e⟩:∃ o,sc.heap.get? b=some o:=by
   obtain ⟨_,o,ho,_⟩:=I.stack.mem hb
   exact ⟨o,ho⟩
  exact un.free b o e (I.stkFree b hb) (by simp)
 refine ⟨⟨fun b o e n hb _=>?_,fun b o e n hb _=>?_,un.free,fun b o e _=>?_,un.tups,un.frzs,un.tbls⟩,fun a o e=>?_,same⟩
 ·have e1:=un.keep b o e n hb (by simp)
  obtain ⟨o',g1⟩:=dom b o e
  obtain ⟨h1,h2⟩:=same b hb o' g1 (nz b o e)
  rw [e1] at h1
  cases h1
  exact h2
 ·obtain ⟨sl,e1⟩:=un.slot b o e n hb (by simp)
  obtain ⟨o1,e2,nd⟩:=nf b hb
  rw [e1] at e2
  cases e2
  obtain ⟨sl',e3⟩:=up b _ e1 nd
  exact ⟨sl',e3⟩
 ·by_cases hb:b∈frs X.stack
  ·obtain ⟨o1,e2,nd⟩:=nf b hb
   obtain ⟨sl',e3⟩:=up b _ e2 nd
   exact ⟨_,e3⟩
  ·obtain ⟨o',g1⟩:=dom b o e
   exact ⟨o',(same b hb o' g1 (nz b o e)).2⟩
 ·refine (hok a o e).stay (fun b u hb q=>?_) (fun _ q=>q) fun _ _ q=>q
  obtain ⟨ob,tb⟩:∃ ob,H' b=some ob:=by
   rcases hb with rfl | hb
   ·exact ⟨o,e⟩
   ·exact ⟨_,hb⟩
  obtain ⟨⟨o',g1⟩,hz⟩:=tr b ob tb
  have hfr:b∉frs X.stack:=fun z=>by rw [frf b z] at tb;cases tb
  obtain ⟨h1,h2⟩:=same b hfr o' g1 hz
  rw [q] at h1
  cases h1
  exact h2
end
section
variable {P:Program}{w:World}{K:Qd}{mg:Str→Option Value}{base:Heap}{N:List Str}{qual:Str}{scope:Scope}{f:Addr}{cd:Value}{A:Around}{outer:List Env}{s:Shared}{H:Hp}{E:XK}{pins:List (Addr×Obj)}{σ:St}
theorem Z7X{Hc H':Hp}{sc s':Shared}{g B h':Heap}{Z:List Addr}{ea t:Addr}{cls:Value}(I:Inv (Z1m (CX1 P w) P w K mg base N qual scope f cd A outer s H E) pins σ Hc sc)
  (os:s'.os=sc.os) (bare:AllBare s'.gens) (un:Un (frs (Z1m (CX1 P w) P w K mg base N qual scope f cd A outer s H E).stack) [] Hc H' sc.heap s'.heap) (hok:HOk P w H' s'.heap)
  (dom:∀ b o,sc.heap.get? b=some o→∃ o',g.get? b=some o') (zz:∀ z∈Z,sc.heap.objs.size≤z) (tr:∀ a o,H' a=some o→(∃ o',g.get? a=some o')∧a∉Z)
  (hB:∀ b o,g.get? b=some o→b∉frs (Z1m (CX1 P w) P w K mg base N qual scope f cd A outer s H E).stack→b∉Z→B.get? b=some o) (st:B.StaysIn s'.heap)
  (nf:∀ b∈frs (Z1m (CX1 P w) P w K mg base N qual scope f cd A outer s H E).stack,∃ o,s'.heap.get? b=some o∧∀ vs,o.data≠.fields vs)
  (fl:Heap.FlyingW B outer ea cls (.ref t) h') (up:s'.heap.UpToSlots h') (q:E cls none H'):CX1 P w outer H s E (.ref ea) { s' with heap:=h' }:=by
 generalize hX:Z1m (CX1 P w) P w K mg base N qual scope f cd A outer s H E=X at I un hB nf
 have e1:X.s₀=s:=by subst hX;rfl
 have e2:X.H₀=H:=by subst hX;rfl
 have e3:X.fs=frs outer:=by subst hX;rfl
 have e4:X.ex=[]:=by subst hX;rfl
 have e5:frs X.stack=X.env.locals::frs outer:=by subst hX;rfl
 have e6:X.prog=P:=by subst hX;rfl
 have e7:X.w=w:=by subst hX;rfl
 obtain ⟨un',hok',same⟩:=Zb1 I un (by rw [e6,e7];exact hok) dom zz tr hB st fl.1 nf up
 have ib:=I.base
 rw [e1,e2,e3,e4] at ib
 have ab:=I.ok.above
 rw [e1] at ab
 have sz:=I.sz
 rw [e1] at sz
 have out:∀ b o,s.heap.get? b=some o→b∉frs outer→b∉frs X.stack:=fun b o e hb=>by
  rw [e5]
  intro z
  rcases Qz.mp z with z | z
  ·exact absurd (Jc (Heap.lt_size e) ab) (by rw [z];exact Js _)
  ·exact hb z
 have inn:∀ b,b∈frs outer→b∈frs X.stack:=fun b hb=>by rw [e5];exact Qv _ hb
 have fL:H' X.env.locals=none:=by
  obtain ⟨m,⟨o,_,_,ho,_⟩,_⟩:=I.loc
  exact un.free _ o ho I.free (by simp)
 refine ⟨ea,cls,H',g,X.env.locals::Z,rfl,os.trans (I.os.trans (by rw [e1])),bare,⟨fun b o e n hb _=>?_,fun b o e n hb _=>?_,fun b o e n _=>?_,fun b o e _=>?_,fun b xs e=>un.tups b xs (ib.tups b xs e),fun b o u e=>un.frzs b o u (ib.frzs b o u e),fun b ps e=>?_⟩,
  by rw [← e6,← e7];exact hok',fun b o e=>?_,fun z hz=>?_,fun a o e=>?_,⟨B,t,fl,fun b o e hb hz=>?_⟩,q⟩
 ·exact un'.keep b o (ib.keep b o e n hb (by simp)) (ib.free b o e n (by simp)) (out b o e hb) (by simp)
 ·obtain ⟨sl,h1⟩:=ib.slot b o e n hb (by simp)
  obtain ⟨sl',h2⟩:=un'.slot b _ h1 (ib.free b o e n (by simp)) (inn b hb) (by simp)
  exact ⟨sl',h2⟩
 ·obtain ⟨o',h1⟩:=ib.there b o e (by simp)
  exact un.free b o' h1 (ib.free b o e n (by simp)) (by simp)
 ·obtain ⟨o',h1⟩:=ib.there b o e (by simp)
  exact un'.there b o' h1 (by simp)
 ·obtain ⟨m1,h1⟩:=ib.tbls b ps e
  obtain ⟨m2,h2⟩:=un.tbls b _ h1
  exact ⟨m1++m2,by rw [h2,Array.append_assoc]⟩
 ·obtain ⟨o',h1⟩:=ib.there b o e (by simp)
  exact dom b o' h1
 ·rcases Qz.mp hz with z | z
  ·rw [z];exact ab
  ·exact Wm sz (zz _ z)
 ·obtain ⟨h1,h2⟩:=tr a o e
  refine ⟨h1,fun z=>?_⟩
  rcases Qz.mp z with z | z
  ·rw [z,fL] at e;cases e
  ·exact h2 z
 ·refine hB b o e (fun z=>?_) fun z=>hz (Qv _ z)
  rw [e5] at z
  rcases Qz.mp z with z | z
  ·exact hz (by rw [z];exact Qy)
  ·exact hb z
theorem passX:Passes (CX1 P w) (Z1m (CX1 P w) P w K mg base N qual scope f cd A outer s H E) E:=by
 intro pins σ Hc sc e s' I c
 obtain ⟨ea,cls,H',g,Z,rfl,os,bare,un,hok,dom,zz,tr,⟨B,t,fl,hB⟩,q⟩:=c
 refine wpAny_leaves_onW (A:=A.deeper (envOfC qual scope s.heap.objs.size f cd)) I.ok.frames rfl fl fun h' fl' up=>?_
 exact Z7X I os bare un hok dom zz tr hB fl.1 (fun b hb=>(fl.2.2.1.mem hb).2) fl' up q
theorem ZM:PassesOwn (model P w) (Z1m (CX1 P w) P w K mg base N qual scope f cd A outer s H E).A (Z1m (CX1 P w) P w K mg base N qual scope f cd A outer s H E).env (Z1m (CX1 P w) P w K mg base N qual scope f cd A outer s H E).xe:=by
 intro e s' h
 exact wpAny_leaving_again (SameStack.refl _) h
end
end L2

namespace L2
open PySem PySem.Spec PyProof.Rows

abbrev bmV:List Value:=[.type "ValueError",.type "Exception",.type "BaseException",.type "object"]
structure ExC(K:Qd)(mg:Str→Option Value)(x:Str)(C:Addr):Prop where
 mg:mg x=some (.ref C)
 exc:PySem.W.excIn K C bmV "ValueError.__new__"=true
section
variable {P:Program}{w:World}{K:Qd}{mg:Str→Option Value}{base:Heap}{N:List Str}{qual:Str}{scope:Scope}{f:Addr}{cd:Value}{A:Around}{outer:List Env}{s:Shared}{H:Hp}{E:XK}
noncomputable def tRaise(E:XK)(cls:Value):TS:=fun _ _ H=>E cls none H
noncomputable def tRaiseA(E:XK)(cls:Value)(t:TA):TS:=fun _ σ H=>t σ H fun vs H1=>vs.length≤sizeLine∧E cls none H1
end

structure DefX(P:Program)(w:World)(K:Qd)(mg:Str→Option Value)(base:Heap)(x:Str)(k:Nat)(ps:List Str)(sp:Sp):Prop where
 ex:∃ (f:Addr) (fd:FuncData),FnOk P w K mg base (CX1 P w) k f fd ps sp∧mg x=some (.ref f)∧PySem.W.keepIn K (.ref f)=true∧Binds K fd ps [] ∧
  ∃ (oc:Value) (od:Option Addr) (osl:Array (Option Value)),K.lookup f=some ⟨oc,od,.func fd,osl⟩
structure AtM(K:Qd)(C:Addr)(m qual:Str)(st:Stmt)(ps:List Str):Prop where
 ex:∃ (f:Addr) (fd:FuncData),Fun K m qual st f fd∧Meth K C m f∧∀ us:List Value,us.length=ps.length→bindArgs fd ⟨us,[]⟩=pure (ps.zip us)
structure MetX(P:Program)(w:World)(K:Qd)(mg:Str→Option Value)(base:Heap)(C:Addr)(m:Str)(k:Nat)(ps:List Str)(sp:Sp):Prop where
 ex:∃ (f:Addr) (fd:FuncData),FnOk P w K mg base (CX1 P w) k f fd ps sp∧Meth K C m f∧Binds K fd ps []
structure AtI(K:Qd)(C:Addr)(qual:Str)(st:Stmt)(ps:List Str):Prop where
 ex:∃ (f:Addr) (fd:FuncData),Fun K "__init__" qual st f fd∧Mk K C f∧∀ us:List Value,us.length=ps.length→bindArgs fd ⟨us,[]⟩=pure (ps.zip us)
structure InitX(P:Program)(w:World)(K:Qd)(mg:Str→Option Value)(base:Heap)(C:Addr)(k:Nat)(ps:List Str)(sp:Sp):Prop where
 ex:∃ (f:Addr) (fd:FuncData),FnOk P w K mg base (CX1 P w) k f fd ps sp∧Mk K C f∧Binds K fd ps []
section
variable {P:Program}{w:World}{K:Qd}{mg:Str→Option Value}{base:Heap}
theorem Fun.okX{x qual:Str}{st:Stmt}{f:Addr}{fd:FuncData}{N ps:List Str}{k:Nat}{sp:Sp}(F:Fun K x qual st f fd)(S:FnScope N ps (Z9 st))(len:∀ vs H Q E,sp vs H Q E→vs.length=ps.length)
  (hbody:∀ (cdv:Value) (A:Around) (outer:List Env) (s:Shared) (H:Hp) (vs:List V) (Q:VK) (E:XK),Room k (A.deeper (envOfC qual (Z9 st) s.heap.objs.size f cdv))→sp vs H Q E →
   ∃ t,PSs (Z1m (CX1 P w) P w K mg base N qual (Z9 st) f cdv A outer s H E) (Z02 st) t∧t { nx:=fun _ H'=>Q .non H',rt:=Q } (start N vs) H):FnOk P w K mg base (CX1 P w) (k + 1) f fd ps sp:=by
 obtain ⟨oc,od,kV,doc,pm,an,cdv,ct,osl,rfl,lk,hcd⟩:=F.ex
 exact fn_of lk hcd S len fun A outer s H vs Q E hr hsp=>hbody cdv A outer s H vs Q E hr hsp
theorem At.okX{x:Str}{st:Stmt}{ps N:List Str}{k:Nat}{sp:Sp}(F:At K mg x st ps)(S:FnScope N ps (Z9 st))(len:∀ vs H Q E,sp vs H Q E→vs.length=ps.length)
  (hbody:∀ (f:Addr) (cdv:Value) (A:Around) (outer:List Env) (s:Shared) (H:Hp) (vs:List V) (Q:VK) (E:XK),Room k (A.deeper (envOfC x (Z9 st) s.heap.objs.size f cdv))→sp vs H Q E →
   ∃ t,PSs (Z1m (CX1 P w) P w K mg base N x (Z9 st) f cdv A outer s H E) (Z02 st) t∧t { nx:=fun _ H'=>Q .non H',rt:=Q } (start N vs) H):DefX P w K mg base x (k + 1) ps sp:=by
 obtain ⟨f,fd,F,m,b⟩:=F.ex
 obtain ⟨oc,od,_,_,_,_,_,_,osl,_,lk,_⟩:=id F.ex
 exact ⟨f,fd,F.okX S len (hbody f),m,F.kp,.all b,oc,od,osl,lk⟩
theorem Zai{x y:Str}{st:Stmt}{k:Nat}{sp:Sp}{fa:Addr}(F:At K mg y st [x])(D:∀ base,DefX P w K mg base y k [x] sp)(hmg:mg y=some (.ref fa)) :
  ∃ fd:FuncData,(∀ (s:Shared) (u:Value),BindsTo s fd ⟨[u],[]⟩ [(x,u)])∧∀ base:Heap,K.In base→base.Ns mainGlobals mg→FnOk P w K mg base (CX1 P w) k fa fd [x] sp:=by
 obtain ⟨f,fd,F,m,b⟩:=F.ex
 rw [m] at hmg
 cases hmg
 refine ⟨fd,fun s u=>.of_eq (b [u] rfl),fun base _ _=>?_⟩
 obtain ⟨f',fd',G,m',_,_,_,_,_,lk'⟩:=(D base).ex
 rw [m] at m'
 cases m'
 obtain ⟨oc,od,_,_,_,_,_,_,osl,_,lk,_⟩:=id F.ex
 rw [lk] at lk'
 cases lk'
 exact G
end
section
variable {X:Cx}{x m:Str}{C:Addr}{k:Nat}{ps:List Str}{sp:Sp}{p pos apos:Pos}{e o:Expr}{es:List Expr}{t:TA}{ta:TE}{E:XK}
end

noncomputable def PassT(X:Cx)(EX:St→XK):Prop:=∀ (pins:List (Addr×Obj)) (σ:St) (H:Hp) (s:Shared) (e:Value) (s':Shared),Inv X pins σ H s→CX1 X.prog X.w X.stack H s (EX σ) e s'→X.xe e s'
theorem passT0{X:Cx}:PassT X fun _=>E0:=by
 rintro pins σ Hc sc e s' I ⟨_,_,_,_,_,_,_,_,_,_,_,_,_,_,q⟩
 exact q.elim
theorem passTX{P:Program}{w:World}{K:Qd}{mg:Str→Option Value}{base:Heap}{N:List Str}{qual:Str}{scope:Scope}{f:Addr}{cd:Value}{A:Around}{outer:List Env}{s:Shared}{H:Hp}{E:XK} :
  PassT (Z1m (CX1 P w) P w K mg base N qual scope f cd A outer s H E) fun _=>E:=fun pins σ Hc sc e s' I c=>passX pins σ Hc sc e s' I c
noncomputable def tCallT(sp:Sp)(EX:St→XK)(t:TA):TE:=fun σ H Q=>t σ H fun vs H1=>sp vs H1 Q (EX σ)
noncomputable def tMetT(C:Addr)(m:Str)(sp:Sp)(EX:St→XK)(ta:TE)(t:TA):TE:=fun σ H Q=>ta σ H fun x H1=>∃ a dx fs,x=.ref a∧H1 a=some (.ins C dx fs)∧fs.lookup m=none∧t σ H1 fun vs H2=>sp (x::vs) H2 Q (EX σ)
noncomputable def tMkT(C:Addr)(sp:Sp)(EX:St→XK)(t:TA):TE:=fun σ H Q=>t σ H fun vs H1=>∀ x dx,H1 x=none→H1 dx=none→dx≠x →
 sp (.ref x::vs) (upd (upd H1 dx (.own x)) x (.ins C dx [])) (fun v H2=>v=.non∧Q (.ref x) H2) (EX σ)
section
variable {X:Cx}{x m:Str}{C f:Addr}{fd:FuncData}{k:Nat}{ps:List Str}{sp:Sp}{p pos apos:Pos}{e o:Expr}{es:List Expr}{t:TA}{ta:TE}{EX:St→XK}
theorem ZaE{pins:List (Addr×Obj)}{σ:St}{H:Hp}{s:Shared}{Q:VK}{us:List Value}{vs:List V}(F:FnOk X.prog X.w X.K X.mg X.base (CX1 X.prog X.w) k f fd ps sp)(hr:Room k X.A)(hb:Binds X.K fd ps [])(hx:PassT X EX)
  (I:Inv X pins σ H s) (r:Vals vs us) (h:sp vs H Q (EX σ)):wpAny (model X.prog X.w) X.A (call (.ref f) us) (EP X pins σ Q) X.xe s:=by
 have hl:(us++[]).length=ps.length:=by rw [Jm,← r.length];exact F.len _ _ _ _ h
 have hbb:=hb s us I.kIn hl
 rw [Jm] at hbb
 refine wpAny_call (codeAny_mono (F.run X.A X.stack s H ⟨us,[]⟩ us vs Q (EX σ) hr I.env0 hbb r h) fun r s' hq=>?_)
 cases r with
 | error e=>exact hx pins σ H s e s' I hq
 | ok fl =>
  cases fl with
  | ret u=>exact I.after hq
  | next=>exact False.elim hq
  | brk=>exact False.elim hq
  | cont=>exact False.elim hq
theorem Z8Z(D:DefX X.prog X.w X.K X.mg X.base x k ps sp)(hr:Room k X.A)(hx:PassT X EX)(ha:PA X (e::es) t)(hg:Gl X x:=by rfl)(hdb:(x == ("__debug__":Str))=false:=by decide)
  (he:starEach (e::es) X.env=(false,eval e X.env)::starEach es X.env:=by rfl) (hpl:(backTo pos (starEach es X.env)).any (·.1)=false:=by rfl) :
  PE X (.Call (.Name x p) (e::es) [] pos) (tCallT sp EX t):=by
 obtain ⟨f,fd,G,hm,kp,b,_⟩:=D.ex
 intro pins s σ H Q I h
 refine wpAny_Call_Name_kw (Zaj I hg hm ?_ hdb)
 refine PySem.W.callWith_K (h₀:=X.base) I.ok.mod.kin kp (thn (ha pos pins s σ H _ I h) fun us s1 ⟨vs,H1,I1,r,q⟩=>⟨I1.kIn,?_⟩) he hpl
 exact ZaE G hr b hx I1 r q
end

structure Land(X:Cx)(pins:List (Addr×Obj))(σ:St)(Hc:Hp)(sc:Shared)(H:Hp)(g:Heap)(Z:List Addr)(B:Heap)(ea t:Addr)(cls:Value)(s:Shared):Prop where
 inv0:Inv X pins σ Hc sc
 os:s.os=sc.os
 bare:AllBare s.gens
 un:Un (frs X.stack) [] Hc H sc.heap s.heap
 hok:HOk X.prog X.w H s.heap
 dom:∀ b o,sc.heap.get? b=some o→∃ o',g.get? b=some o'
 zz:∀ z∈Z,sc.heap.objs.size≤z
 tr:∀ a o,H a=some o→(∃ o',g.get? a=some o')∧a∉Z
 hB:∀ b o,g.get? b=some o→b∉frs X.stack→b∉Z→B.get? b=some o
 fl:Heap.FlyingW B X.stack ea cls (.ref t) s.heap
section
variable {X:Cx}{pins:List (Addr×Obj)}{σ:St}{Hc H:Hp}{sc s:Shared}{g B:Heap}{Z:List Addr}{ea t:Addr}{cls:Value}
end
noncomputable def hNil:Value→TS:=fun _ _ _ _=>False
noncomputable def hCons(K:Qd)(C:Addr)(ts:TS)(tr:Value→TS):Value→TS:=fun cls D σ H=>∃ b,PySem.W.exmOne K cls (.ref C)=some b∧if b=true then ts D σ H else tr cls D σ H
section
variable {X:Cx}
end
end L2
namespace L2
open PySem PySem.Spec PyProof.Rows
section
variable {X:Cx}
theorem Z5i:∀ {bs:List Bool} {us:List Value} (i:Nat) (v:Value),Vals (bs.map V.bl) us→us[i]?=some v→∃ b,bs[i]?=some b∧v=.bool b
 | [],_,i,v,r,e=>by cases r;simp at e
 | b::bs,u::_,0,v,.cons r t,e=>by
  have e':u=v:=by simpa using e
  subst e'
  exact ⟨b,rfl,r⟩
 | b::bs,_,i + 1,v,.cons r t,e=>by
  obtain ⟨c,h1,h2⟩:=Z5i i v t (by simpa using e)
  exact ⟨c,by simpa using h1,h2⟩
theorem call_all(hc:X.calm=true):Z0f X (.builtin "all") (fun xs H Q=>∃ (p:Addr) (bs:List Bool),xs=[.ref p]∧SqL X.K H p (bs.map V.bl)∧Q (.bl (bs.all id)) H):=by
 intro pins s σ H xs us Q I r h
 obtain ⟨p,bs,rfl,hq,q⟩:=h
 obtain ⟨u,rfl,ru⟩:=vals1 r
 cases ru
 obtain ⟨its,rv,pl,hz⟩:=I.list hq
 have hl:=pl.isList
 have hlt:p < s.heap.objs.size:=by obtain ⟨_,e,_⟩:=hl;exact Heap.lt_size e
 refine call_all_walk (wpAny_pyIter_list hl ?_)
 refine ⟨s.heap.objs.size,[s.heap.objs.size,p],[s.heap.objs.size],its.toArray.size,_,_,fun i=>(bs[i]?).getD true,rfl,Walks.list (A:=X.A.in1) (I.ok.hd hc) _ p (Jl hlt) its.toArray,
  ⟨⟨_,Heap.get?_push_size _ rfl,rfl,rfl⟩,hl.push _⟩,fun i v s' Q' E' hP hQ=>?_,fun h' tk hk=>?_⟩
 ·obtain ⟨b,e,rfl⟩:=Z5i i v rv (by simpa using hP)
  have hQ:Q' ((bs[i]?).getD true) s':=hQ
  rw [e] at hQ
  exact wpAny_truthy_bool hQ
 ·have e:((List.range its.toArray.size).all fun i=>(bs[i]?).getD true)=bs.all id:=by
   have hlen:=rv.length
   rw [Qs] at hlen
   rw [Jg,← hlen]
   exact LSm.range_all bs
  rw [e]
  exact ⟨.bl (bs.all id),H,I.kept (LSm.kept_iter hk),rfl,q⟩
end
namespace KQ
theorem call_all{X:Cx}(K:Qd)(hc:X.calm=true)(hK:X.K=K:=by rfl):Z0f X (.builtin "all") (fun xs H Q=>∃ (p:Addr) (bs:List Bool),xs=[.ref p]∧SqL K H p (bs.map V.bl)∧Q (.bl (bs.all id)) H):=by subst hK;exact L2.call_all hc
end KQ

inductive Dt where
 | non | bl (b:Bool) | int (i:Int) | str (x:Str) | lst (l:List Dt) | tup (l:List Dt)
mutual
noncomputable def Dt.dep:Dt→Nat
 | .lst l=>Dt.deps l + 1
 | .tup l=>Dt.deps l + 1
 | _=>1
noncomputable def Dt.deps:List Dt→Nat
 | []=>0
 | d::r=>max d.dep (Dt.deps r)
end
mutual
noncomputable def Dt.eq:Dt→Dt→Bool
 | .non,.non=>true
 | .bl a,.bl b=>a == b
 | .int a,.int b=>a == b
 | .str a,.str b=>a == b
 | .lst a,.lst b=>Dt.eqs a b
 | .tup a,.tup b=>Dt.eqs a b
 | _,_=>false
noncomputable def Dt.eqs:List Dt→List Dt→Bool
 | [],[]=>true
 | a::r,b::q=>Dt.eq a b && Dt.eqs r q
 | _,_=>false
end
mutual
theorem Dt.eq_iff:∀ (a b:Dt),Dt.eq a b=true↔a=b
 | .non,b=>by cases b <;> simp [Dt.eq]
 | .bl x,b=>by cases b <;> simp [Dt.eq]
 | .int x,b=>by cases b <;> simp [Dt.eq]
 | .str x,b=>by cases b <;> simp [Dt.eq]
 | .lst l,b=>by cases b <;> simp [Dt.eq,Dt.eqs_iff l]
 | .tup l,b=>by cases b <;> simp [Dt.eq,Dt.eqs_iff l]
theorem Dt.eqs_iff:∀ (a b:List Dt),Dt.eqs a b=true↔a=b
 | [],b=>by cases b <;> simp [Dt.eqs]
 | x::r,b=>by cases b <;> simp [Dt.eqs,Dt.eq_iff x,Dt.eqs_iff r]
end
mutual
noncomputable def RelD(H:Hp):Dt→V→Prop
 | .non,x=>x=.non
 | .bl b,x=>x=.bl b
 | .int i,x=>x=.int i
 | .str y,x=>x=.str y
 | .lst l,x=>∃ a xs,x=.ref a∧H a=some (.lst xs)∧xs.length < sizeLine∧Z14 H l xs
 | .tup l,x=>∃ a xs,x=.ref a∧H a=some (.tup xs)∧xs.length < sizeLine∧Z14 H l xs
noncomputable def Z14(H:Hp):List Dt→List V→Prop
 | [],[]=>True
 | d::l,v::r=>RelD H d v∧Z14 H l r
 | _,_=>False
end
theorem Z14.length{H:Hp}:∀ {l:List Dt} {xs:List V},Z14 H l xs→xs.length=l.length
 | [],[],_=>rfl
 | [],_::_,h=>h.elim
 | _::_,[],h=>h.elim
 | d::l,v::r,h=>by simp [Z14.length (l:=l) (xs:=r) h.2]
theorem Z14.get{H:Hp}:∀ {l:List Dt} {xs:List V} {i:Nat} {d:Dt},Z14 H l xs→l[i]?=some d→∃ v,xs[i]?=some v∧RelD H d v
 | [],_,_,_,_,e=>by simp at e
 | _::_,[],_,_,h,_=>h.elim
 | d::l,v::r,0,d',h,e=>by
  have e':d=d':=by simpa using e
  subst e'
  exact ⟨v,rfl,h.1⟩
 | d::l,v::r,i + 1,d',h,e=>by
  obtain ⟨u,h1,h2⟩:=Z14.get (l:=l) (xs:=r) (i:=i) (d:=d') h.2 (by simpa using e)
  exact ⟨u,by simpa using h1,h2⟩
mutual
theorem RelD.keep{H H':Hp}(k:∀ a xs,(H a=some (.lst xs)→H' a=some (.lst xs))∧(H a=some (.tup xs)→H' a=some (.tup xs))):∀ {d:Dt} {x:V},RelD H d x→RelD H' d x
 | .non,_,h=>h
 | .bl _,_,h=>h
 | .int _,_,h=>h
 | .str _,_,h=>h
 | .lst l,_,⟨a,xs,e,h1,z,h2⟩=>⟨a,xs,e,(k a xs).1 h1,z,Z14.keep k h2⟩
 | .tup l,_,⟨a,xs,e,h1,z,h2⟩=>⟨a,xs,e,(k a xs).2 h1,z,Z14.keep k h2⟩
theorem Z14.keep{H H':Hp}(k:∀ a xs,(H a=some (.lst xs)→H' a=some (.lst xs))∧(H a=some (.tup xs)→H' a=some (.tup xs))):∀ {l:List Dt} {xs:List V},Z14 H l xs→Z14 H' l xs
 | [],[],_=>trivial
 | [],_::_,h=>h.elim
 | _::_,[],h=>h.elim
 | d::l,v::r,h=>⟨RelD.keep k h.1,Z14.keep k h.2⟩
end
theorem RelD.same{H H':Hp}(sm:Z16 H H'){d:Dt}{x:V}(h:RelD H d x):RelD H' d x:=h.keep fun a xs=>⟨fun e=>sm _ _ e,fun e=>sm _ _ e⟩
theorem Dt.deps_le{l:List Dt}{i:Nat}{d:Dt}(h:l[i]?=some d):d.dep≤Dt.deps l:=by
 induction l generalizing i with
 | nil=>simp at h
 | cons e r ih =>
  cases i with
  | zero =>
   have:e=d:=by simpa using h
   subst this
   unfold Dt.deps
   omega
  | succ i =>
   have:=ih (i:=i) (by simpa using h)
   unfold Dt.deps
   omega
theorem Dt.dep_pos(d:Dt):1≤d.dep:=by cases d <;> simp [Dt.dep]
theorem Dt.eqs_all{l l':List Dt}(hl:l.length=l'.length):Dt.eqs l l'=(((List.range l'.length).map fun i=>Dt.eq (l[i]?.getD .non) (l'[i]?.getD .non)).all id):=by
 induction l generalizing l' with
 | nil =>
  cases l' with
  | nil=>rfl
  | cons b r=>simp at hl
 | cons a l ih =>
  cases l' with
  | nil=>simp at hl
  | cons b r =>
   have h:=ih (l':=r) (by simpa using hl)
   rw [Jk,Qah]
   simp only [Dt.eqs,h,Ql,Jp,Nu,Wy,Option.getD_some,id]
   rfl
end L2
namespace L2
open PySem PySem.Spec PyProof.Rows
theorem Z87{P:Program}{w:World}{outer:List Env}{H:Hp}{s:Shared}{e:Value}{s':Shared}(z:CX1 P w outer H s (fun _ _ _=>False) e s'):False:=by
 obtain ⟨_,_,_,_,_,_,_,_,_,_,_,_,_,_,q⟩:=z
 exact q

section
variable {X:Cx}{K:Qd}{C:Addr}{e o value:Expr}{ta tv:TE}{f:Str}{pos pos':Pos}
noncomputable def tFldC(C:Addr)(ta:TE)(f:Str):TE:=fun σ H Q=>ta σ H fun x H1=>∃ a dx fs v,x=.ref a∧H1 a=some (.ins C dx fs)∧fs.lookup f=some v∧Q v H1
noncomputable def sFldC(C:Addr)(ta tv:TE)(f:Str):TS:=fun D σ H=>tv σ H fun y H1=>ta σ H1 fun x H2=>∃ a dx fs,x=.ref a∧H2 a=some (.ins C dx fs)∧fs.length < 1000∧D.nx σ (upd H2 a (.ins C dx (putF f y fs)))
end

namespace KQ
theorem ix_seq{X:Cx}(K:Qd)(hK:X.K=K:=by rfl):IxR X (rIx K):=by subst hK;exact L2.ix_seq
end KQ
theorem Z16.seqT{K:Qd}{H H':Hp}{a:Addr}{xs:List V}(e:Z16 H H')(h:SqT K H a xs):SqT K H' a xs:=by
 rcases h with (h | ⟨o,h⟩) | h
 ·exact .inl (.inl (e _ _ h))
 ·exact .inl (.inr ⟨o,e _ _ h⟩)
 ·exact .inr h

noncomputable def Dt.ty:Dt→String
 | .non => "NoneType" | .bl _ => "bool" | .int _ => "int" | .str _ => "str" | .lst _ => "list" | .tup _ => "tuple"
theorem RelD.ty{H:Hp}:∀ {d:Dt} {x:V},RelD H d x→IsTy H x d.ty
 | .non,_,h=>by cases (show _=V.non from h);rfl
 | .bl b,_,h=>by cases (show _=V.bl b from h);rfl
 | .int i,_,h=>by cases (show _=V.int i from h);rfl
 | .str y,_,h=>by cases (show _=V.str y from h);rfl
 | .lst l,_,⟨a,xs,e,h1,_⟩=>by subst e;exact .inl ⟨rfl,xs,h1⟩
 | .tup l,_,⟨a,xs,e,h1,_⟩=>by subst e;exact .inr (.inl ⟨rfl,xs,h1⟩)
noncomputable def Dt.isL:Dt→Bool
 | .lst _=>true
 | _=>false
noncomputable def Dt.isT:Dt→Bool
 | .tup _=>true
 | _=>false
noncomputable def Dt.isB:Dt→Bool
 | .bl _=>true
 | _=>false
noncomputable def Dt.isS:Dt→Bool
 | .str _=>true
 | _=>false
noncomputable def Dt.isN:Dt→Bool
 | .non=>true
 | _=>false
noncomputable def Dt.isI:Dt→Bool
 | .int _=>true
 | _=>false
theorem Z9x:∀ N∈["NoneType", "bool", "int", "str", "list", "tuple"],∀ T∈["list", "tuple", "bool", "str", "int"],(kit0 N T).isSome=true:=by decide +kernel
theorem Dt.ty_mem(d:Dt):d.ty∈["NoneType", "bool", "int", "str", "list", "tuple"]:=by cases d <;> simp [Dt.ty]
theorem Dt.kit(d:Dt){T:String}(h:T∈["list", "tuple", "bool", "str", "int"]):(kit0 d.ty T).isSome=true:=Z9x _ d.ty_mem _ h
theorem Dt.sub_list(d:Dt):subT d.ty "list"=d.isL:=by cases d <;> (first | rfl | decide +kernel | (simp only [Dt.ty,Dt.isL];decide +kernel))
theorem Dt.sub_tuple(d:Dt):subT d.ty "tuple"=d.isT:=by cases d <;> (simp only [Dt.ty,Dt.isT];decide +kernel)
theorem Dt.sub_bool(d:Dt):subT d.ty "bool"=d.isB:=by cases d <;> (simp only [Dt.ty,Dt.isB];decide +kernel)
theorem Dt.sub_str(d:Dt):subT d.ty "str"=d.isS:=by cases d <;> (simp only [Dt.ty,Dt.isS];decide +kernel)
theorem Dt.sub_int(d:Dt):subT d.ty "int"=(d.isI || d.isB):=by cases d <;> (simp only [Dt.ty,Dt.isI,Dt.isB];decide +kernel)
theorem Dt.eq_false{d d':Dt}(h:d≠d'):Dt.eq d d'=false:=by
 cases q:Dt.eq d d' with
 | false=>rfl
 | true=>exact absurd ((Dt.eq_iff d d').mp q) h
theorem Dt.eq_non(d:Dt):Dt.eq d .non=d.isN:=by cases d <;> rfl
theorem Z44(a b:Bool):decide (V.bl a=V.bl b)=(a == b):=by cases a <;> cases b <;> rfl
theorem RelD.Z2g{H:Hp}{d:Dt}{x:V}(h:RelD H d x):decide (x=V.non)=d.isN:=by
 cases d with
 | non=>cases (show x=V.non from h);rfl
 | bl b=>cases (show x=V.bl b from h);rfl
 | int i=>cases (show x=V.int i from h);rfl
 | str y=>cases (show x=V.str y from h);rfl
 | lst l=>obtain ⟨a,xs,e,_⟩:=h;subst e;rfl
 | tup l=>obtain ⟨a,xs,e,_⟩:=h;subst e;rfl
end L2

namespace RM
open PySem PySem.Spec PyProof.Rows L2
inductive NK where
 | tup | lst (m:Bool) | dic (m:Bool) (ks:List Key) | dit (m:Bool) (ks:List (List Key)) | ins (m:Bool) (C:Addr) (ns:List Str)
 | kst (K:Qd)
inductive D where
 | at (v:V) | nd (k:NK) (l:List D)
inductive T where
 | at (v:V) | nd (a:Addr) (k:NK) (l:List T)
instance:Inhabited T:=⟨.at .non⟩
instance:Inhabited D:=⟨.at .non⟩
noncomputable def NK.mut:NK→Bool
 | .tup=>false | .lst m=>m | .dic m _=>m | .dit m _=>m | .ins m _ _=>m | .kst _=>false
noncomputable def NK.out:NK→Bool
 | .kst _=>true | _=>false
theorem NK.mut_out{k:NK}(h:k.mut=true):k.out=false:=by cases k <;> first | rfl | cases h
noncomputable def NK.fz:NK→NK
 | .tup=>.tup | .lst _=>.lst false | .dic _ ks=>.dic false ks | .dit _ ks=>.dit false ks | .ins _ C ns=>.ins false C ns | .kst K=>.kst K
noncomputable def NodeOk(H:Hp)(a:Addr):NK→List V→Prop
 | .tup,vs=>H a=some (.tup vs)
 | .lst true,vs=>H a=some (.lst vs)
 | .lst false,vs=>Rd H a (.lst vs)
 | .dic _ ks,vs=>ks.length=vs.length∧ks.Nodup∧H a=some (.dK (ks.zip vs))
 | .dit _ ks,vs=>ks.length=vs.length∧ks.Nodup∧H a=some (.dT (ks.zip vs))
 | .ins _ C ns,vs=>ns.length=vs.length∧∃ dx,H a=some (.ins C dx (ns.zip vs))
 | .kst K,vs=>∃ (o:Obj) (its:Array Value) (n:Nat),K.lookup a=some o∧o.cls=.type "list"∧o.dict=none∧o.data=.seq its n∧its.size≤sizeLine∧Vals vs its.toList
theorem NodeOk.keep{H H':Hp}{a:Addr}{k:NK}{vs:List V}(h:NodeOk H a k vs)(e:k.out=true∨H' a=H a):NodeOk H' a k vs:=by
 rcases e with e | e
 ·cases k with
  | kst K=>exact h
  | _=>cases e
 cases k with
 | tup=>exact e.trans h
 | lst m=>cases m with
  | true=>exact e.trans h
  | false=>unfold NodeOk Rd at *;rw [e];exact h
 | dic m ks=>exact ⟨h.1,h.2.1,e.trans h.2.2⟩
 | dit m ks=>exact ⟨h.1,h.2.1,e.trans h.2.2⟩
 | ins m C ns=>obtain ⟨h1,dx,h2⟩:=h;exact ⟨h1,dx,e.trans h2⟩
 | kst K=>exact h
theorem NodeOk.some{H:Hp}{a:Addr}{k:NK}{vs:List V}(h:NodeOk H a k vs)(hk:k.out=false):H a≠none:=by
 cases k with
 | tup=>rw [show H a=_ from h];simp
 | lst m=>cases m with
  | true=>rw [show H a=_ from h];simp
  | false=>rcases h with h | ⟨o,h⟩ <;> (rw [h];simp)
 | dic m ks=>rw [h.2.2];simp
 | dit m ks=>rw [h.2.2];simp
 | ins m C ns=>obtain ⟨h1,dx,h2⟩:=h;rw [h2];simp
 | kst K=>cases hk
noncomputable def cl:V→V
 | .ref _=>.flt 0 | v=>v
noncomputable def T.val:T→V
 | .at v=>v | .nd a _ _=>.ref a
mutual
noncomputable def T.er:T→D
 | .at v=>.at (cl v) | .nd _ k l=>.nd k (T.ers l)
noncomputable def T.ers:List T→List D
 | []=>[] | t::r=>t.er::T.ers r
end
mutual
noncomputable def T.own:T→List Addr
 | .at _=>[] | .nd a k l=>(if k.mut then [a] else [])++T.owns l
noncomputable def T.owns:List T→List Addr
 | []=>[] | t::r=>t.own++T.owns r
end
mutual
noncomputable def T.ro:T→List Addr
 | .at _=>[] | .nd a k l=>(if k.mut || k.out then [] else [a])++T.ros l
noncomputable def T.ros:List T→List Addr
 | []=>[] | t::r=>t.ro++T.ros r
end
mutual
noncomputable def T.ok(H:Hp):T→Prop
 | .at _=>True | .nd a k l=>NodeOk H a k (l.map T.val)∧T.oks H l
noncomputable def T.oks(H:Hp):List T→Prop
 | []=>True | t::r=>t.ok H∧T.oks H r
end
mutual
noncomputable def D.fz:D→D
 | .at v=>.at v | .nd k l=>.nd k.fz (D.fzs l)
noncomputable def D.fzs:List D→List D
 | []=>[] | t::r=>t.fz::D.fzs r
end
mutual
noncomputable def D.imm:D→Bool
 | .at _=>true | .nd k l=>!k.mut && D.imms l
noncomputable def D.imms:List D→Bool
 | []=>true | t::r=>t.imm && D.imms r
end

theorem T.owns_cons{t:T}{r:List T}:T.owns (t::r)=t.own++T.owns r:=rfl
theorem T.ros_cons{t:T}{r:List T}:T.ros (t::r)=t.ro++T.ros r:=rfl
theorem T.ers_eq:∀ l:List T,T.ers l=l.map T.er
 | []=>rfl
 | t::r=>by rw [T.ers,T.ers_eq r];rfl
theorem T.oks_iff{H:Hp}:∀ {l:List T},T.oks H l↔∀ t∈l,t.ok H
 | []=>by simp [T.oks]
 | t::r=>by simp only [T.oks,T.oks_iff (l:=r),Qz,forall_eq_or_imp]
theorem T.owns_app:∀ l m:List T,T.owns (l++m)=T.owns l++T.owns m
 | [],m=>rfl
 | t::r,m=>by simp only [Jh,T.owns,T.owns_app r m,Qq]
theorem T.ros_app:∀ l m:List T,T.ros (l++m)=T.ros l++T.ros m
 | [],m=>rfl
 | t::r,m=>by simp only [Jh,T.ros,T.ros_app r m,Qq]
theorem T.oks_app{H:Hp}{l m:List T}:T.oks H (l++m)↔T.oks H l∧T.oks H m:=by
 simp only [T.oks_iff,Qe]
 exact ⟨fun h=>⟨fun t z=>h t (.inl z),fun t z=>h t (.inr z)⟩,fun h t z=>z.elim (h.1 t) (h.2 t)⟩
theorem T.mem_owns{a:Addr}:∀ {l:List T},a∈T.owns l↔∃ t∈l,a∈t.own
 | []=>by simp [T.owns]
 | t::r=>by simp only [T.owns,Qe,T.mem_owns (l:=r),Qz,exists_eq_or_imp]
theorem T.mem_ros{a:Addr}:∀ {l:List T},a∈T.ros l↔∃ t∈l,a∈t.ro
 | []=>by simp [T.ros]
 | t::r=>by simp only [T.ros,Qe,T.mem_ros (l:=r),Qz,exists_eq_or_imp]
mutual
theorem T.keep{H H':Hp}:∀ {t:T},t.ok H→(∀ a,a∈t.own∨a∈t.ro→H' a=H a)→t.ok H'
 | .at _,_,_=>trivial
 | .nd a k l,h,e=>by
  refine ⟨h.1.keep (by
   cases ko:k.out with
   | true=>exact .inl rfl
   | false =>
    refine .inr (e a ?_)
    unfold T.own T.ro
    rw [ko]
    cases k.mut <;> simp),T.keeps h.2 fun b hb=>e b ?_⟩
  ·unfold T.own T.ro
   rcases hb with hb | hb
   ·exact .inl (Qg _ hb)
   ·exact .inr (Qg _ hb)
theorem T.keeps{H H':Hp}:∀ {l:List T},T.oks H l→(∀ a,a∈T.owns l∨a∈T.ros l→H' a=H a)→T.oks H' l
 | [],_,_=>trivial
 | t::r,h,e=>by
  refine ⟨T.keep h.1 fun a z=>e a ?_,T.keeps h.2 fun a z=>e a ?_⟩
  ·unfold T.owns T.ros
   rcases z with z | z
   ·exact .inl (Qh _ z)
   ·exact .inr (Qh _ z)
  ·unfold T.owns T.ros
   rcases z with z | z
   ·exact .inl (Qg _ z)
   ·exact .inr (Qg _ z)
end
mutual
theorem T.there{H:Hp}{a:Addr}:∀ {t:T},t.ok H→(a∈t.own∨a∈t.ro)→H a≠none
 | .at _,_,z=>by simp [T.own,T.ro] at z
 | .nd b k l,h,z=>by
  unfold T.own T.ro at z
  have:(a=b∧k.out=false)∨a∈T.owns l∨a∈T.ros l:=by
   rcases z with z | z
   ·rcases Qe.mp z with z | z
    ·left
     cases hm:k.mut with
     | true=>rw [hm] at z;exact ⟨by simpa using z,NK.mut_out hm⟩
     | false=>rw [hm] at z;simp at z
    ·exact .inr (.inl z)
   ·rcases Qe.mp z with z | z
    ·left
     cases hm:(k.mut || k.out) with
     | true=>rw [hm] at z;simp at z
     | false=>rw [hm] at z;exact ⟨by simpa using z,by simp at hm;exact hm.2⟩
    ·exact .inr (.inr z)
  rcases this with ⟨rfl,ko⟩ | z
  ·exact h.1.some ko
  ·exact T.theres h.2 z
theorem T.theres{H:Hp}{a:Addr}:∀ {l:List T},T.oks H l→(a∈T.owns l∨a∈T.ros l)→H a≠none
 | [],_,z=>by simp [T.owns,T.ros] at z
 | t::r,h,z=>by
  unfold T.owns T.ros at z
  rcases z with z | z
  ·rcases Qe.mp z with z | z
   ·exact T.there h.1 (.inl z)
   ·exact T.theres h.2 (.inl z)
  ·rcases Qe.mp z with z | z
   ·exact T.there h.1 (.inr z)
   ·exact T.theres h.2 (.inr z)
end
mutual
theorem T.imm_own:∀ {t:T},t.er.imm=true→t.own=[]
 | .at _,_=>rfl
 | .nd a k l,h=>by
  simp only [T.er,D.imm,Jr,Gy] at h
  simp only [T.own,h.1,T.imms_own h.2];rfl
theorem T.imms_own:∀ {l:List T},D.imms (T.ers l)=true→T.owns l=[]
 | [],_=>rfl
 | t::r,h=>by
  simp only [T.ers,D.imms,Jr] at h
  simp only [T.owns,T.imm_own h.1,T.imms_own h.2];rfl
end


noncomputable def D.get:List Nat→D→Option D
 | [],d=>some d
 | i::p,.nd _ l=>match l[i]? with | some c=>c.get p | none=>none
 | _::_,.at _=>none
noncomputable def T.get:List Nat→T→Option T
 | [],d=>some d
 | i::p,.nd _ _ l=>match l[i]? with | some c=>c.get p | none=>none
 | _::_,.at _=>none
noncomputable def D.put(s:D):List Nat→D→D
 | [],_=>s
 | i::p,.nd k l=>match l[i]? with | some c=>.nd k (l.set i (D.put s p c)) | none=>.nd k l
 | _::_,.at v=>.at v
noncomputable def T.put(s:T):List Nat→T→T
 | [],_=>s
 | i::p,.nd a k l=>match l[i]? with | some c=>.nd a k (l.set i (T.put s p c)) | none=>.nd a k l
 | _::_,.at v=>.at v
theorem T.get_er:∀ (p:List Nat) (t:T),t.er.get p=(t.get p).map T.er
 | [],t=>rfl
 | i::p,.at v=>rfl
 | i::p,.nd a k l=>by
  simp only [T.er,D.get,T.get,T.ers_eq,Qa]
  cases e:l[i]? with
  | none=>rfl
  | some c=>exact T.get_er p c
theorem T.put_er(s:T):∀ (p:List Nat) (t:T),(T.put s p t).er=D.put s.er p t.er
 | [],t=>rfl
 | i::p,.at v=>rfl
 | i::p,.nd a k l=>by
  simp only [T.er,D.put,T.put,T.ers_eq,Qa]
  cases e:l[i]? with
  | none=>simp only [Option.map_none,T.er,T.ers_eq]
  | some c=>simp only [Option.map_some,T.er,T.ers_eq,Wb,T.put_er s p c]
theorem T.put_val{s s':T}:∀ {p:List Nat} {t:T},t.get p=some s→s'.val=s.val→(T.put s' p t).val=t.val
 | [],t,h,e=>by cases h;exact e
 | i::p,.at v,h,e=>rfl
 | i::p,.nd a k l,h,e=>by
  simp only [T.put]
  cases l[i]? <;> rfl
theorem T.get_ok{H:Hp}{s:T}:∀ {p:List Nat} {t:T},t.get p=some s→t.ok H→s.ok H
 | [],t,h,e=>by cases h;exact e
 | i::p,.at v,h,e=>by cases h
 | i::p,.nd a k l,h,e=>by
  simp only [T.get] at h
  cases q:l[i]? with
  | none=>rw [q] at h;cases h
  | some c=>rw [q] at h;exact T.get_ok h (T.oks_iff.mp e.2 c (Qf q))
theorem T.get_app:∀ (p q:List Nat) (d:T),d.get (p++q)=(d.get p).bind (T.get q)
 | [],q,d=>rfl
 | i::p,q,.at v=>rfl
 | i::p,q,.nd _ k l=>by
  simp only [Jh,T.get]
  cases e:l[i]? with
  | none=>rfl
  | some c=>exact T.get_app p q c
theorem T.owns_get{i:Nat}{c:T}:∀ {l:List T},l[i]?=some c→∃ x y,T.owns l=x++(c.own++y)∧∀ c',T.owns (l.set i c')=x++(c'.own++y):=by
 induction i with
 | zero =>
  intro l h
  match l,h with
  | t::r,h =>
   cases h
   exact ⟨[],T.owns r,rfl,fun c'=>rfl⟩
 | succ i ih =>
  intro l h
  match l,h with
  | t::r,h =>
   obtain ⟨x,y,e,f⟩:=ih (l:=r) (by simpa using h)
   exact ⟨t.own++x,y,by simp only [T.owns,e,Qq],fun c'=>by simp only [Ny,T.owns,f c',Qq]⟩
theorem T.ros_get{i:Nat}{c:T}:∀ {l:List T},l[i]?=some c→∃ x y,T.ros l=x++(c.ro++y)∧∀ c',T.ros (l.set i c')=x++(c'.ro++y):=by
 induction i with
 | zero =>
  intro l h
  match l,h with
  | t::r,h =>
   cases h
   exact ⟨[],T.ros r,rfl,fun c'=>rfl⟩
 | succ i ih =>
  intro l h
  match l,h with
  | t::r,h =>
   obtain ⟨x,y,e,f⟩:=ih (l:=r) (by simpa using h)
   exact ⟨t.ro++x,y,by simp only [T.ros,e,Qq],fun c'=>by simp only [Ny,T.ros,f c',Qq]⟩
structure Ctx(t:T)(p:List Nat)(s:T)(c r:List Addr):Prop where
 own:t.own.Perm (c++s.own)
 ro:t.ro.Perm (r++s.ro)
 own':∀ s',(T.put s' p t).own.Perm (c++s'.own)
 ro':∀ s',(T.put s' p t).ro.Perm (r++s'.ro)
 ok:∀ {H H':Hp} {s':T},t.ok H→(∀ a,a∈c∨a∈r→H' a=H a)→s'.ok H'→s'.val=s.val→(T.put s' p t).ok H'
theorem pm3{α:Type}{x y a c:List α}{k:List α}(h:a.Perm (c++k)):(x++(a++y)).Perm ((x++(c++y))++k):=by
 rw [Qq]
 refine List.Perm.append_left x ?_
 refine (h.append_right y).trans ?_
 rw [Qq,Qq]
 exact List.Perm.append_left c Jx
theorem T.ctx{s:T}:∀ {p:List Nat} {t:T},t.get p=some s→∃ c r,Ctx t p s c r
 | [],t,h=>by
  cases h
  exact ⟨[],[],.refl _,.refl _,fun _=>.refl _,fun _=>.refl _,fun _ _ h _=>h⟩
 | i::p,.at v,h=>by cases h
 | i::p,.nd a k l,h=>by
  simp only [T.get] at h
  cases q:l[i]? with
  | none=>rw [q] at h;cases h
  | some ch =>
   rw [q] at h
   obtain ⟨c,r,C⟩:=T.ctx (p:=p) h
   obtain ⟨x,y,e1,e2⟩:=T.owns_get q
   obtain ⟨x',y',f1,f2⟩:=T.ros_get q
   have put:∀ s',T.put s' (i::p) (.nd a k l)=.nd a k (l.set i (T.put s' p ch)):=fun s'=>by simp only [T.put,q]
   refine ⟨(if k.mut then [a] else [])++(x++(c++y)),(if k.mut || k.out then [] else [a])++(x'++(r++y')),?_,?_,fun s'=>?_,fun s'=>?_,fun {H H' s'} ho he hs hv=>?_⟩
   ·simp only [T.own,e1];rw [Qq];exact List.Perm.append_left _ (pm3 C.own)
   ·simp only [T.ro,f1];rw [Qq];exact List.Perm.append_left _ (pm3 C.ro)
   ·rw [put];simp only [T.own,e2];rw [Qq];exact List.Perm.append_left _ (pm3 (C.own' s'))
   ·rw [put];simp only [T.ro,f2];rw [Qq];exact List.Perm.append_left _ (pm3 (C.ro' s'))
   ·rw [put]
    have hm:=Qf q
    have hch:(T.put s' p ch).ok H':=C.ok (T.oks_iff.mp ho.2 ch hm) (fun b hb=>he b (by
     rcases hb with hb | hb
     ·exact .inl (by simp [hb])
     ·exact .inr (by simp [hb]))) hs hv
    have hvs:(l.set i (T.put s' p ch)).map T.val=l.map T.val:=by
     rw [Wb,T.put_val h hv]
     refine Ju fun j=>?_
     rw [Qm]
     by_cases hj:i=j
     ·subst hj
      rw [if_pos rfl,Qa,q,if_pos (by simpa using (Qc.mp q).1)];rfl
     ·rw [if_neg hj]
    refine ⟨?_,T.oks_iff.mpr fun t ht=>?_⟩
    ·rw [hvs]
     refine ho.1.keep ?_
     cases ko:k.out with
     | true=>exact .inl rfl
     | false =>
      refine .inr (he a ?_)
      rw [ko]
      cases k.mut <;> simp
    ·obtain ⟨j,hj⟩:=Jd.mp ht
     rw [Qm] at hj
     by_cases hij:i=j
     ·rw [if_pos hij] at hj
      split at hj
      ·cases hj;exact hch
      ·cases hj
     ·rw [if_neg hij] at hj
      have tok:=T.oks_iff.mp ho.2 t (Qf hj)
      refine T.keep tok fun b hb=>he b ?_
      rcases hb with hb | hb
      ·left
       have h2:b∈T.owns (l.set i (.at .non)):=T.mem_owns.mpr ⟨t,Qf (by rw [Qm,if_neg hij];exact hj),hb⟩
       rw [e2] at h2
       simp only [T.own,Je,Qe] at h2 ⊢
       rcases h2 with h2 | h2 <;> simp [h2]
      ·right
       have h2:b∈T.ros (l.set i (.at .non)):=T.mem_ros.mpr ⟨t,Qf (by rw [Qm,if_neg hij];exact hj),hb⟩
       rw [f2] at h2
       simp only [T.ro,Je,Qe] at h2 ⊢
       rcases h2 with h2 | h2 <;> simp [h2]
end RM

namespace RM
open PySem PySem.Spec PyProof.Rows L2
inductive DL where
 | non | own (w:Bool) (d:D) | bor (k:Nat) (p:List Nat)
inductive TL where
 | non | own (w:Bool) (t:T) | bor (k:Nat) (p:List Nat) (a:Addr)
inductive DV where
 | val (d:D) | plc (k:Nat) (p:List Nat)
inductive TV where
 | val (t:T) | plc (k:Nat) (p:List Nat) (a:Addr)
noncomputable abbrev Sd:=List DL
noncomputable abbrev Ts:=List TL
noncomputable def TL.er:TL→DL
 | .non=>.non | .own w t=>.own w t.er | .bor k p _=>.bor k p
noncomputable def TV.er:TV→DV
 | .val t=>.val t.er | .plc k p _=>.plc k p
noncomputable def TL.own1:TL→List Addr
 | .own true t=>t.own | _=>[]
noncomputable def TL.ro1:TL→List Addr
 | .own _ t=>t.ro | _=>[]
noncomputable def TL.rd1:TL→List Addr
 | .own false t=>t.own | _=>[]
noncomputable def Zd(ts:Ts):List Addr:=ts.flatMap TL.own1
noncomputable def roS(ts:Ts):List Addr:=ts.flatMap TL.ro1
noncomputable def rdS(ts:Ts):List Addr:=ts.flatMap TL.rd1
noncomputable def TV.tr:TV→List T
 | .val t=>[t] | .plc _ _ _=>[]
noncomputable def PlOk(ts:Ts)(k:Nat)(p:List Nat)(a:Addr):Prop:=∃ w t s,ts[k]?=some (.own w t)∧t.get p=some s∧s.val=.ref a
noncomputable def TL.v:TL→Option V
 | .non=>none | .own _ t=>some t.val | .bor _ _ a=>some (.ref a)
noncomputable def Z0D(ts:Ts)(v:V):TV→Prop
 | .val t=>v=t.val
 | .plc k p a=>v=.ref a∧PlOk ts k p a
structure RC where
 H0:Hp
 G:Addr→Prop
 B:Addr→Prop
 EX:L2.St→XK
 ad:Str→Addr
structure Cf(R:RC)(ix:List Nat)(hd:List (Nat×Addr))(H:Hp)(σ:L2.St)(ts:Ts)(fr:List T):Prop where
 ok:∀ w t,TL.own w t∈ts→t.ok H
 fok:T.oks H fr
 nd:(Zd ts++T.owns fr).Nodup
 sep:∀ a,a∈roS ts∨a∈T.ros fr→a∉Zd ts∧a∉T.owns fr∧¬ R.B a
 rd:∀ a,a∈rdS ts→a∉Zd ts∧a∉T.owns fr
 g:∀ a,R.G a→H a=R.H0 a∧H a≠none∧a∉Zd ts∧a∉T.owns fr
 bg:∀ a,R.B a→R.G a
 bor:∀ (j k:Nat) (p:List Nat) (a:Addr),ts[j]?=some (TL.bor k p a)→PlOk ts k p a
 ixs:∀ j∈ix,j < ts.length
 sl:∀ (i j:Nat) (s:TL) (v:V),ix[i]?=some j→ts[j]?=some s→s.v=some v→σ[i]?=some (some v)
 hdi:∀ (j:Nat) (a:Addr),(j,a)∈hd→j < ts.length
 hdx:∀ (j:Nat) (a:Addr),(j,a)∈hd→j∉ix
 len:ix.length≤σ.length
 hdn:∀ (j:Nat) (a:Addr),(j,a)∈hd→∀ (s:TL) (v:V),ts[j]?=some s→s.v=some v→v=.ref a
theorem Z0D.er_val{ts:Ts}{v:V}{tv:TV}{d:D}(h:Z0D ts v tv)(e:tv.er=.val d):∃ t,tv=.val t∧t.er=d∧v=t.val:=by
 cases tv with
 | val t=>simp only [TV.er,DV.val.injEq] at e;exact ⟨t,rfl,e,h⟩
 | plc k p a=>simp [TV.er] at e
theorem Z0D.er_plc{ts:Ts}{v:V}{tv:TV}{k:Nat}{p:List Nat}(h:Z0D ts v tv)(e:tv.er=.plc k p):∃ a,tv=.plc k p a∧v=.ref a∧PlOk ts k p a:=by
 cases tv with
 | val t=>simp [TV.er] at e
 | plc k' p' a=>simp only [TV.er,DV.plc.injEq] at e;obtain ⟨rfl,rfl⟩:=e;exact ⟨a,rfl,h.1,h.2⟩
theorem Z10{a:Addr}{ts:Ts}:a∈Zd ts↔∃ t,TL.own true t∈ts∧a∈t.own:=by
 unfold Zd
 rw [Qab]
 constructor
 ·rintro ⟨s,hs,h⟩
  cases s with
  | own w t=>cases w with
   | true=>exact ⟨t,hs,h⟩
   | false=>simp [TL.own1] at h
  | _=>simp [TL.own1] at h
 ·rintro ⟨t,ht,h⟩
  exact ⟨_,ht,h⟩
theorem Z0W{a:Addr}{ts:Ts}:a∈roS ts↔∃ w t,TL.own w t∈ts∧a∈t.ro:=by
 unfold roS
 rw [Qab]
 constructor
 ·rintro ⟨s,hs,h⟩
  cases s with
  | own w t=>exact ⟨w,t,hs,h⟩
  | _=>simp [TL.ro1] at h
 ·rintro ⟨w,t,ht,h⟩
  exact ⟨_,ht,h⟩
theorem Z2M{a:Addr}{ts:Ts}:a∈rdS ts↔∃ t,TL.own false t∈ts∧a∈t.own:=by
 unfold rdS
 rw [Qab]
 constructor
 ·rintro ⟨s,hs,h⟩
  cases s with
  | own w t=>cases w with
   | false=>exact ⟨t,hs,h⟩
   | true=>simp [TL.rd1] at h
  | _=>simp [TL.rd1] at h
 ·rintro ⟨t,ht,h⟩
  exact ⟨_,ht,h⟩
section
variable {R:RC}{ix:List Nat}{hd:List (Nat×Addr)}{H:Hp}{σ:L2.St}{ts:Ts}{fr:List T}
theorem Cf.fresh(C:Cf R ix hd H σ ts fr){a:Addr}(h:H a=none):a∉Zd ts∧a∉roS ts∧a∉rdS ts∧a∉T.owns fr∧a∉T.ros fr∧¬ R.G a:=by
 refine ⟨fun z=>?_,fun z=>?_,fun z=>?_,fun z=>?_,fun z=>?_,fun z=>(C.g a z).2.1 h⟩
 ·obtain ⟨t,ht,z⟩:=Z10.mp z;exact T.there (C.ok _ t ht) (.inl z) h
 ·obtain ⟨w,t,ht,z⟩:=Z0W.mp z;exact T.there (C.ok _ t ht) (.inr z) h
 ·obtain ⟨t,ht,z⟩:=Z2M.mp z;exact T.there (C.ok _ t ht) (.inl z) h
 ·exact T.theres C.fok (.inl z) h
 ·exact T.theres C.fok (.inr z) h
theorem Cf.at(C:Cf R ix hd H σ ts fr)(v:V):Cf R ix hd H σ ts (.at v::fr) :=
 ⟨C.ok,⟨trivial,C.fok⟩,by simpa [T.owns,T.own] using C.nd,by simpa [T.owns,T.own,T.ros,T.ro] using C.sep,by simpa [T.owns,T.own] using C.rd,by simpa [T.owns,T.own] using C.g,C.bg,C.bor,C.ixs,C.sl,C.hdi,C.hdx,C.len,C.hdn⟩
theorem Cf.less{fr':List T}{x:List Addr}(C:Cf R ix hd H σ ts fr)(ho:T.oks H fr')(h1:(T.owns fr).Perm (T.owns fr'++x))(h2:∀ a,a∈T.ros fr'→a∈T.ros fr∨a∈roS ts∨a∈x):Cf R ix hd H σ ts fr':=by
 have m1:∀ a,a∈T.owns fr'→a∈T.owns fr:=fun a z=>h1.mem_iff.mpr (Qh _ z)
 have nd:=(List.Perm.append_left (Zd ts) h1).nodup_iff.mp C.nd
 rw [← Qq] at nd
 have nd1:=(Qk.mp nd)
 refine ⟨C.ok,ho,nd1.1,fun a z=>?_,fun a z=>⟨(C.rd a z).1,fun q=>(C.rd a z).2 (m1 a q)⟩,fun a z=>⟨(C.g a z).1,(C.g a z).2.1,(C.g a z).2.2.1,fun q=>(C.g a z).2.2.2 (m1 a q)⟩,C.bg,C.bor,C.ixs,C.sl,C.hdi,C.hdx,C.len,C.hdn⟩
 have old:a∈roS ts∨a∈T.ros fr→a∉Zd ts∧a∉T.owns fr'∧¬ R.B a:=fun z=>⟨(C.sep a z).1,fun q=>(C.sep a z).2.1 (m1 a q),(C.sep a z).2.2⟩
 rcases z with z | z
 ·exact old (.inl z)
 ·rcases h2 a z with z | z | z
  ·exact old (.inr z)
  ·exact old (.inl z)
  ·refine ⟨fun q=>nd1.2.2 a (Qh _ q) a z rfl,fun q=>nd1.2.2 a (Qg _ q) a z rfl,fun q=>?_⟩
   exact (C.g a (C.bg a q)).2.2.2 (h1.mem_iff.mpr (Qg _ z))
theorem Cf.drop{t:T}(C:Cf R ix hd H σ ts (t::fr)):Cf R ix hd H σ ts fr :=
 C.less (x:=t.own) C.fok.2 (by rw [T.owns_cons];exact Jx) fun a z=>.inl (by rw [T.ros_cons];exact Qg _ z)
theorem Cf.drops{l:List T}(C:Cf R ix hd H σ ts (l++fr)):Cf R ix hd H σ ts fr:=by
 induction l with
 | nil=>exact C
 | cons t r ih=>exact ih C.drop
end
end RM

namespace RM
open PySem PySem.Spec PyProof.Rows L2
inductive ER(α:Type) where
 | ok (a:α) (s:Sd) | ex (C:Str) (s:Sd) | no
inductive SR where
 | nx (s:Sd) | rt (r:DV) (s:Sd) | bk (s:Sd) | ct (s:Sd) | ex (C:Str) (s:Sd) | no
noncomputable abbrev EF:=Sd→ER DV
noncomputable abbrev AF:=Sd→ER (List DV)
noncomputable abbrev BF:=Sd→ER Bool
noncomputable abbrev SF:=Sd→SR
noncomputable def trs(tvs:List TV):List T:=tvs.flatMap TV.tr
inductive TvsOk(ts:Ts):List V→List TV→Prop where
 | nil:TvsOk ts [] []
 | cons {v:V} {tv:TV} {vs:List V} {tvs:List TV}:Z0D ts v tv→TvsOk ts vs tvs→TvsOk ts (v::vs) (tv::tvs)
section
variable (R:RC)(ix:List Nat)
noncomputable def lE(f:EF):TE:=fun σ H Q=>∃ hd ts fr,Cf R ix hd H σ ts fr∧match f (ts.map TL.er) with
 | .ok r s'=>∀ H' ts' tv v,ts'.map TL.er=s'→tv.er=r→Z0D ts' v tv→Cf R ix hd H' σ ts' (tv.tr++fr)→Q v H'
 | .ex C s'=>∀ H' ts',ts'.map TL.er=s'→Cf R ix hd H' σ ts' fr→R.EX σ (.ref (R.ad C)) none H'
 | .no=>False
noncomputable def lA(f:AF):TA:=fun σ H Q=>∃ hd ts fr,Cf R ix hd H σ ts fr∧match f (ts.map TL.er) with
 | .ok r s'=>∀ H' ts' tvs vs,ts'.map TL.er=s'→tvs.map TV.er=r→TvsOk ts' vs tvs→Cf R ix hd H' σ ts' (trs tvs++fr)→Q vs H'
 | .ex C s'=>∀ H' ts',ts'.map TL.er=s'→Cf R ix hd H' σ ts' fr→R.EX σ (.ref (R.ad C)) none H'
 | .no=>False
noncomputable def lT(f:BF):TT:=fun σ H Q=>∃ hd ts fr,Cf R ix hd H σ ts fr∧match f (ts.map TL.er) with
 | .ok r s'=>∀ H' ts',ts'.map TL.er=s'→Cf R ix hd H' σ ts' fr→Q r H'
 | .ex C s'=>∀ H' ts',ts'.map TL.er=s'→Cf R ix hd H' σ ts' fr→R.EX σ (.ref (R.ad C)) none H'
 | .no=>False
noncomputable def lS(f:SF):L2.TS:=fun D σ H=>∃ hd ts fr,Cf R ix hd H σ ts fr∧match f (ts.map TL.er) with
 | .nx s'=>∀ H' σ' ts',ts'.map TL.er=s'→Cf R ix hd H' σ' ts' fr→D.nx σ' H'
 | .rt r s'=>∀ H' σ' ts' tv v,ts'.map TL.er=s'→tv.er=r→Z0D ts' v tv→Cf R ix hd H' σ' ts' (tv.tr++fr)→D.rt v H'
 | .bk s'=>∀ H' σ' ts',ts'.map TL.er=s'→Cf R ix hd H' σ' ts' fr→D.bk σ' H'
 | .ct s'=>∀ H' σ' ts',ts'.map TL.er=s'→Cf R ix hd H' σ' ts' fr→D.ct σ' H'
 | .ex C s'=>∀ H' σ' ts',ts'.map TL.er=s'→Cf R ix hd H' σ' ts' fr→R.EX σ' (.ref (R.ad C)) none H'
 | .no=>False
end
section
variable {X:Cx}{e:Expr}{es:List Expr}{st:Stmt}{sts:List Stmt}
theorem peM{t t':TE}(h:PE X e t)(m:∀ σ H Q,t' σ H Q→t σ H Q):PE X e t':=fun pins s σ H Q I q=>h pins s σ H Q I (m _ _ _ q)
theorem paM{t t':TA}(h:PA X es t)(m:∀ σ H Q,t' σ H Q→t σ H Q):PA X es t':=fun pos pins s σ H Q I q=>h pos pins s σ H Q I (m _ _ _ q)
theorem ptM{t t':TT}(h:PT X e t)(m:∀ σ H Q,t' σ H Q→t σ H Q):PT X e t':=fun pins s σ H Q I q=>h pins s σ H Q I (m _ _ _ q)
theorem psM{t t':L2.TS}(h:PS X st t)(m:∀ D σ H,t' D σ H→t D σ H):PS X st t':=fun pins s σ H D I q=>h pins s σ H D I (m _ _ _ q)
theorem pssM{t t':L2.TS}(h:PSs X sts t)(m:∀ D σ H,t' D σ H→t D σ H):PSs X sts t':=fun pins s σ H D I q=>h pins s σ H D I (m _ _ _ q)
end

noncomputable def eC(v:V):EF:=fun s=>.ok (.val (.at v)) s
section
variable {R:RC}{ix:List Nat}{hd:List (Nat×Addr)}{X:Cx}{e:Expr}
theorem lE_C{v:V}(hc:cl v=v)(σ:L2.St)(H:Hp)(Q:VK)(h:lE R ix (eC v) σ H Q):tC v σ H Q:=by
 obtain ⟨hd,ts,fr,C,h⟩:=h
 exact h H ts (.val (.at v)) v rfl (by simp only [TV.er,T.er,hc]) rfl (C.at v)
theorem Za{v:V}(h:PE X e (tC v))(hc:cl v=v:=by rfl):PE X e (lE R ix (eC v)):=peM h (lE_C hc)

noncomputable def Zq(s:Sd):DV→Option D
 | .val d=>some d
 | .plc k p=>match s[k]? with | some (.own _ d)=>d.get p | _=>none
theorem Z4K{H:Hp}{σ:L2.St}{ts:Ts}{fr:List T}{tv:TV}{v:V}{d:D}(C:Cf R ix hd H σ ts fr)(hv:Z0D ts v tv)(ho:T.oks H tv.tr)(h:Zq (ts.map TL.er) tv.er=some d) :
  ∃ t:T,t.er=d∧t.val=v∧t.ok H∧(tv=.val t∨∃ k p a w u,tv=.plc k p a∧ts[k]?=some (TL.own w u)∧u.get p=some t):=by
 cases tv with
 | val t =>
  cases h
  exact ⟨t,rfl,hv.symm,ho.1,.inl rfl⟩
 | plc k p a =>
  obtain ⟨rfl,w,t,s,h1,h2,h3⟩:=hv
  simp only [TV.er,Zq,Qa,h1,Option.map_some,TL.er,T.get_er,h2,Option.some.injEq] at h
  exact ⟨s,h,h3,T.get_ok h2 (C.ok w t (Qf h1)),.inr ⟨k,p,a,w,t,rfl,h1,h2⟩⟩

noncomputable def mkV(k:Nat)(p:List Nat)(d:D):DV:=if d.imm then .val d else .plc k p
noncomputable def Z1(j:Nat):EF:=fun s=>match s[j]? with
 | some (.own _ d)=>.ok (mkV j [] d) s
 | some (.bor k p)=>match Zq s (.plc k p) with | some d=>.ok (mkV k p d) s | none=>.no
 | _=>.no
theorem Cf.copy{H:Hp}{σ:L2.St}{ts:Ts}{fr:List T}{w:Bool}{t s:T}(C:Cf R ix hd H σ ts fr)(hm:TL.own w t∈ts){p:List Nat}(hp:t.get p=some s)(hi:s.own=[]):Cf R ix hd H σ ts (s::fr):=by
 have ho:s.ok H:=T.get_ok hp (C.ok w t hm)
 obtain ⟨c,r,K⟩:=T.ctx hp
 have hro:∀ a,a∈s.ro→a∈roS ts:=fun a z=>Z0W.mpr ⟨w,t,hm,K.ro.mem_iff.mpr (Qg _ z)⟩
 refine ⟨C.ok,⟨ho,C.fok⟩,?_,fun a z=>?_,?_,?_,C.bg,C.bor,C.ixs,C.sl,C.hdi,C.hdx,C.len,C.hdn⟩
 ·rw [T.owns_cons,hi];exact C.nd
 ·rw [T.owns_cons,hi]
  refine C.sep a ?_
  rcases z with z | z
  ·exact .inl z
  ·rw [T.ros_cons] at z
   rcases Qe.mp z with z | z
   ·exact .inl (hro a z)
   ·exact .inr z
 ·rw [T.owns_cons,hi];exact C.rd
 ·rw [T.owns_cons,hi];exact C.g
theorem Z5u(t:T)(h:t.er.imm=false):∃ a,t.val=.ref a:=by
 cases t with
 | «at» v=>cases h
 | nd a k l=>exact ⟨a,rfl⟩
theorem mk_ok{H:Hp}{σ:L2.St}{ts:Ts}{fr:List T}{w:Bool}{t s:T}{k:Nat}{p:List Nat}(C:Cf R ix hd H σ ts fr)(h1:ts[k]?=some (TL.own w t))(hp:t.get p=some s) :
  ∃ tv,tv.er=mkV k p s.er∧Z0D ts s.val tv∧Cf R ix hd H σ ts (tv.tr++fr):=by
 unfold mkV
 cases hi:s.er.imm with
 | true=>exact ⟨.val s,rfl,rfl,C.copy (Qf h1) hp (T.imm_own hi)⟩
 | false =>
  obtain ⟨a,ha⟩:=Z5u s hi
  exact ⟨.plc k p a,rfl,⟨ha,w,t,s,h1,hp,ha⟩,C⟩
theorem Zbi{i j:Nat}(hix:ix[i]?=some j)(σ:L2.St)(H:Hp)(Q:VK)(h:lE R ix (Z1 j) σ H Q):tVar i σ H Q:=by
 obtain ⟨hd,ts,fr,C,h⟩:=h
 unfold Z1 at h
 rw [Qa] at h
 cases e:ts[j]? with
 | none=>rw [e] at h;exact h.elim
 | some s =>
  rw [e] at h
  cases s with
  | non=>exact h.elim
  | own w t =>
   obtain ⟨tv,e1,e2,e3⟩:=mk_ok C e (show t.get []=some t from rfl)
   exact ⟨t.val,C.sl i j _ _ hix e rfl,h H ts tv t.val rfl e1 e2 e3⟩
  | bor k p a =>
   obtain ⟨w,t,s,h1,h2,h3⟩:=C.bor j k p a e
   have hd:Zq (ts.map TL.er) (.plc k p)=some s.er:=by simp only [Zq,Qa,h1,Option.map_some,TL.er,T.get_er,h2]
   simp only [Option.map_some,TL.er,hd] at h
   obtain ⟨tv,e1,e2,e3⟩:=mk_ok C h1 h2
   rw [h3] at e2
   exact ⟨.ref a,C.sl i j _ _ hix e rfl,h H ts tv (.ref a) rfl e1 e2 e3⟩
theorem Z3{i j:Nat}(h:PE X e (tVar i))(hix:ix[i]?=some j):PE X e (lE R ix (Z1 j)):=peM h (Zbi hix)
end
end RM

namespace RM
open PySem PySem.Spec PyProof.Rows L2

noncomputable def Z2:AF:=fun s=>.ok [] s
noncomputable def unh(n k:Nat)(p:List Nat)(s:Sd):Option Sd:=match s.getLast? with
 | some (.bor k' p')=>if k'=k∧p'=p∧s.length=n + 1 then some s.dropLast else none
 | _=>none
noncomputable def unx(n:Nat)(s:Sd):Option Sd:=match s.getLast? with
 | some (.own _ _)=>none
 | some _=>if s.length=n + 1 then some s.dropLast else none
 | none=>none
noncomputable def Z0(f:EF)(g:AF):AF:=fun s=>match f s with
 | .ok (.val d) s1=>(match g s1 with | .ok rs s2=>.ok (.val d::rs) s2 | .ex C s2=>.ex C s2 | .no=>.no)
 | .ok (.plc k p) s1=>(match g (s1++[.bor k p]) with
  | .ok rs s2=>(match unh s1.length k p s2 with | some s3=>.ok (.plc k p::rs) s3 | none=>.no)
  | .ex C s2=>(match unx s1.length s2 with | some s3=>.ex C s3 | none=>.no) | .no=>.no)
 | .ex C s1=>.ex C s1
 | .no=>.no
section
variable {R:RC}{ix:List Nat}{hd:List (Nat×Addr)}{X:Cx}{e:Expr}{H:Hp}{σ:L2.St}{ts:Ts}{fr:List T}
theorem Z1x(a b:Ts):Zd (a++b)=Zd a++Zd b:=by simp [Zd]
theorem Z3t(a b:Ts):roS (a++b)=roS a++roS b:=by simp [roS]
theorem Z2x(a b:Ts):rdS (a++b)=rdS a++rdS b:=by simp [rdS]
theorem PlOk.app{a:Ts}{k:Nat}{p:List Nat}{x:Addr}(h:PlOk a k p x)(b:Ts):PlOk (a++b) k p x:=by
 obtain ⟨w,t,s,h1,h2,h3⟩:=h
 exact ⟨w,t,s,by rw [Qo (Qc.mp h1).1];exact h1,h2,h3⟩
theorem Cf.hide{k:Nat}{p:List Nat}{a:Addr}(C:Cf R ix hd H σ ts fr)(h:PlOk ts k p a):Cf R ix (hd++[(ts.length,a)]) H σ (ts++[.bor k p a]) fr:=by
 have e1:Zd (ts++[.bor k p a])=Zd ts:=by rw [Z1x];simp [Zd,TL.own1]
 have e2:roS (ts++[.bor k p a])=roS ts:=by rw [Z3t];simp [roS,TL.ro1]
 have e3:rdS (ts++[.bor k p a])=rdS ts:=by rw [Z2x];simp [rdS,TL.rd1]
 refine ⟨fun w t z=>?_,C.fok,by rw [e1];exact C.nd,by rw [e1,e2];exact C.sep,by rw [e1,e3];exact C.rd,by rw [e1];exact C.g,C.bg,fun j k' p' a' z=>?_,fun j z=>by simpa using Wj (C.ixs j z),fun i j s v z1 z2 z3=>?_,fun j b z=>?_,fun j b z=>?_,C.len,fun j b z s v z2 z3=>?_⟩
 ·rcases Qe.mp z with z | z
  ·exact C.ok w t z
  ·simp at z
 ·by_cases hj:j < ts.length
  ·rw [Qo hj] at z
   exact (C.bor j k' p' a' z).app _
  ·rw [Jf (by omega)] at z
   have:j - ts.length=0:=by
    have:=(Qc.mp z).1
    simp at this;omega
   rw [this] at z
   cases z
   exact h.app _
 ·have:=C.ixs j (Qf z1)
  rw [Qo this] at z2
  exact C.sl i j s v z1 z2 z3
 ·rcases Qe.mp z with z | z
  ·simpa using Wj (C.hdi j b z)
  ·simp only [Qw,Prod.mk.injEq] at z
   simp [z.1]
 ·rcases Qe.mp z with z | z
  ·exact C.hdx j b z
  ·simp only [Qw,Prod.mk.injEq] at z
   rw [z.1]
   exact fun q=>absurd (C.ixs _ q) (Js _)
 ·rcases Qe.mp z with z | z
  ·by_cases hj:j < ts.length
   ·rw [Qo hj] at z2
    exact C.hdn j b z s v z2 z3
   ·exact absurd (C.hdi j b z) hj
  ·simp only [Qw,Prod.mk.injEq] at z
   obtain ⟨rfl,rfl⟩:=z
   rw [Jf (Qu _),Gr] at z2
   cases z2
   cases z3
   rfl
theorem Cf.pop{x:TL}{hm:List (Nat×Addr)}(C:Cf R ix (hd++hm) H σ (ts++[x]) fr)(hx:∀ w t,x≠.own w t)(hi:∀ j∈ix,j < ts.length)(hj:∀ j a,(j,a)∈hd→j < ts.length):Cf R ix hd H σ ts fr∧∀ k p a,x=.bor k p a→PlOk ts k p a:=by
 have e1:Zd (ts++[x])=Zd ts:=by rw [Z1x];cases x <;> simp_all [Zd,TL.own1]
 have e2:roS (ts++[x])=roS ts:=by rw [Z3t];cases x <;> simp_all [roS,TL.ro1]
 have e3:rdS (ts++[x])=rdS ts:=by rw [Z2x];cases x <;> simp_all [rdS,TL.rd1]
 have dn:∀ {k':Nat} {p':List Nat} {a':Addr},PlOk (ts++[x]) k' p' a'→PlOk ts k' p' a':=by
  rintro k' p' a' ⟨w,t,s,h1,h2,h3⟩
  refine ⟨w,t,s,?_,h2,h3⟩
  by_cases hj:k' < ts.length
  ·rwa [Qo hj] at h1
  ·rw [Jf (by omega)] at h1
   have:k' - ts.length=0:=by
    have:=(Qc.mp h1).1
    simp at this;omega
   rw [this] at h1
   exact absurd (Option.some.inj h1) (hx w t)
 refine ⟨⟨fun w t z=>C.ok w t (Qh _ z),C.fok,by rw [← e1];exact C.nd,by rw [← e1,← e2];exact C.sep,by rw [← e1,← e3];exact C.rd,by rw [← e1];exact C.g,C.bg,fun j k' p' a' z=>?_,hi,fun i j s v z1 z2 z3=>?_,hj,fun j b z=>C.hdx j b (Qh _ z),C.len,fun j b z s v z2 z3=>C.hdn j b (Qh _ z) s v (by rw [Qo (Qc.mp z2).1];exact z2) z3⟩,?_⟩
 ·refine dn (C.bor j k' p' a' ?_)
  rw [Qo (Qc.mp z).1];exact z
 ·refine C.sl i j s v z1 ?_ z3
  rw [Qo (Qc.mp z2).1];exact z2
 ·rintro k p a rfl
  refine dn (C.bor ts.length k p a ?_)
  rw [Jf (Qu _),Gr];rfl
theorem Z76{s:Sd}{l:DL}(h:ts.map TL.er=s++[l]):∃ ts0 t,ts=ts0++[t]∧ts0.map TL.er=s∧t.er=l:=by
 have hne:ts≠[]:=by rintro rfl;simp at h
 refine ⟨ts.dropLast,ts.getLast hne,(Gm hne).symm,?_,?_⟩
 ·rw [Gz,h];simp
 ·have:=congrArg List.getLast? h
  rw [List.getLast?_map,List.getLast?_eq_some_getLast hne] at this
  simpa using this
theorem Z9S{s s':Sd}{n k:Nat}{p:List Nat}(h:unh n k p s=some s'):s=s'++[.bor k p]∧s'.length=n:=by
 unfold unh at h
 split at h
 case h_1 k' p' e =>
  split at h
  case isTrue q =>
   obtain ⟨rfl,rfl,q⟩:=q
   cases h
   obtain ⟨l,rfl⟩:=Gv.mp e
   simp at q ⊢
   exact q
  case isFalse=>cases h
 case h_2=>cases h
theorem Z9T{n:Nat}{s s':Sd}(h:unx n s=some s'):∃ x,s=s'++[x]∧(∀ w d,x≠.own w d)∧s'.length=n:=by
 unfold unx at h
 split at h
 case h_1=>cases h
 case h_2 x e q =>
  split at h
  case isTrue z =>
   cases h
   obtain ⟨l,rfl⟩:=Gv.mp q
   simp at z
   exact ⟨x,by simp,e,by simp [z]⟩
  case isFalse=>cases h
 case h_3=>cases h
theorem Zb0{t:TL}(h:∀ w d,t.er≠.own w d):∀ w u,t≠.own w u:=by
 rintro w u rfl
 exact h w u.er rfl
theorem Z0D.pop{x:TL}{v:V}{tv:TV}(h:Z0D (ts++[x]) v tv)(hx:∀ w t,x≠.own w t):Z0D ts v tv:=by
 cases tv with
 | val t=>exact h
 | plc k p a =>
  obtain ⟨rfl,w,t,s,h1,h2,h3⟩:=h
  refine ⟨rfl,w,t,s,?_,h2,h3⟩
  by_cases hj:k < ts.length
  ·rwa [Qo hj] at h1
  ·rw [Jf (by omega)] at h1
   have:k - ts.length=0:=by
    have:=(Qc.mp h1).1
    simp at this;omega
   rw [this] at h1
   exact absurd (Option.some.inj h1) (hx w t)
theorem TvsOk.pop{x:TL}(hx:∀ w t,x≠.own w t):∀ {vs:List V} {tvs:List TV},TvsOk (ts++[x]) vs tvs→TvsOk ts vs tvs
 | _,_,.nil=>.nil
 | _,_,.cons h r=>.cons (h.pop hx) (TvsOk.pop hx r)
theorem Z49{s:Sd}(h:ts.map TL.er=s):ts.length=s.length:=by rw [← h];simp
theorem Z6g(σ:L2.St)(H:Hp)(Q:List V→Hp→Prop)(h:lA R ix Z2 σ H Q):tNil σ H Q:=by
 obtain ⟨hd,ts,fr,C,h⟩:=h
 exact h H ts [] [] rfl rfl .nil C
theorem Z2L{f:EF}{g:AF}(σ:L2.St)(H:Hp)(Q:List V→Hp→Prop)(h:lA R ix (Z0 f g) σ H Q):Z1Z (lE R ix f) (lA R ix g) σ H Q:=by
 obtain ⟨hd,ts,fr,C,h⟩:=h
 refine ⟨hd,ts,fr,C,?_⟩
 unfold Z0 at h
 cases ef:f (ts.map TL.er) with
 | no=>rw [ef] at h;exact h
 | ex E s1=>rw [ef] at h;exact h
 | ok r s1 =>
  rw [ef] at h
  intro H1 ts1 tv v e1 e2 hv C1
  cases r with
  | val d =>
   obtain ⟨t,rfl,rfl,rfl⟩:=hv.er_val e2
   refine ⟨hd,ts1,t::fr,C1,?_⟩
   rw [e1]
   dsimp only at h
   cases eg:g s1 with
   | no=>rw [eg] at h;exact h
   | ex E s2=>rw [eg] at h;intro H2 ts2 e3 C2;exact h H2 ts2 e3 C2.drop
   | ok rs s2 =>
    rw [eg] at h
    intro H2 ts2 tvs vs e3 e4 hvs C2
    refine h H2 ts2 (.val t::tvs) (t.val::vs) e3 (by simp [TV.er,e4]) (.cons rfl hvs) ?_
    refine C2.less (x:=[]) ?_ ?_ ?_
    ·exact ⟨(T.oks_app.mp C2.fok).2.1,T.oks_app.mpr ⟨(T.oks_app.mp C2.fok).1,(T.oks_app.mp C2.fok).2.2⟩⟩
    ·show (T.owns (trs tvs++t::fr)).Perm (T.owns (t::(trs tvs++fr))++[])
     rw [Jm,T.owns_app,T.owns_cons,T.owns_cons,T.owns_app]
     rw [← Qq,← Qq]
     exact List.Perm.append_right _ Jx
    ·intro a z
     left
     have z:a∈T.ros (t::(trs tvs++fr)):=z
     rw [T.ros_app,T.ros_cons]
     rw [T.ros_cons,T.ros_app] at z
     simp only [Qe] at z ⊢
     rcases z with z | z | z <;> simp [z]
  | plc k p =>
   obtain ⟨a,rfl,rfl,hp⟩:=hv.er_plc e2
   refine ⟨hd++[(ts1.length,a)],ts1++[.bor k p a],fr,C1.hide hp,?_⟩
   rw [Qt,e1]
   show (match g (s1++[.bor k p]) with | .ok r s'=>_ | .ex C s'=>_ | .no=>_)
   dsimp only at h
   cases eg:g (s1++[.bor k p]) with
   | no=>rw [eg] at h;exact h
   | ex E s2 =>
    rw [eg] at h
    intro H2 ts2 e3 C2
    dsimp only at h
    cases eu:unx s1.length s2 with
    | none=>rw [eu] at h;exact h.elim
    | some s3 =>
     rw [eu] at h
     obtain ⟨x,rfl,hx',hn⟩:=Z9T eu
     obtain ⟨ts3,y,rfl,e4,rfl⟩:=Z76 e3
     have hln:ts3.length=ts1.length:=by rw [Z49 e4,hn,Z49 e1]
     exact h H2 ts3 e4 (C2.pop (Zb0 hx') (fun j hj=>by rw [hln];exact C1.ixs j hj) fun j b hj=>by rw [hln];exact C1.hdi j b hj).1
   | ok rs s2 =>
    rw [eg] at h
    intro H2 ts2 tvs vs e3 e4 hvs C2
    dsimp only at h
    cases eu:unh s1.length k p s2 with
    | none=>rw [eu] at h;exact h.elim
    | some s3 =>
     rw [eu] at h
     obtain ⟨rfl,hn⟩:=Z9S eu
     obtain ⟨ts3,y,rfl,e5,e6⟩:=Z76 e3
     obtain ⟨b,rfl⟩:∃ b,y=.bor k p b:=by
      cases y with
      | bor k' p' b=>simp only [TL.er,DL.bor.injEq] at e6;obtain ⟨rfl,rfl⟩:=e6;exact ⟨b,rfl⟩
      | _=>simp [TL.er] at e6
     have hln:ts3.length=ts1.length:=by rw [Z49 e5,hn,Z49 e1]
     obtain rfl:b=a:=by
      have:=C2.hdn ts1.length a (Qg _ (by simp)) (.bor k p b) (.ref b) (by rw [← hln,Jf (Qu _),Gr];rfl) rfl
      cases this
      rfl
     obtain ⟨C3,hpl⟩:=C2.pop (by intro w t z;cases z) (fun j hj=>by rw [hln];exact C1.ixs j hj) fun j b hj=>by rw [hln];exact C1.hdi j b hj
     exact h H2 ts3 (.plc k p b::tvs) (.ref b::vs) e5 (by simp [TV.er,e4]) (.cons ⟨rfl,hpl k p b rfl⟩ (hvs.pop (by intro w t z;cases z))) C3
theorem Zi:PA X [] (lA R ix Z2):=paM ZX Z6g
theorem Z4{es:List Expr}{f:EF}{g:AF}(he:PE X e (lE R ix f))(hr:PA X es (lA R ix g))(hs:starEach (e::es) X.env=(false,eval e X.env)::starEach es X.env:=by rfl):PA X (e::es) (lA R ix (Z0 f g)) :=
 paM (Zk he hr hs) Z2L
end
end RM

namespace RM
open PySem PySem.Spec PyProof.Rows L2
noncomputable def Z0i(s:Sd):List DV→Option (List D)
 | []=>some []
 | r::rs=>match Zq s r,Z0i s rs with | some d,some ds=>some (d::ds) | _,_=>none
structure NewOk(H H':Hp)(l:List T)(t:T):Prop where
 ok:t.ok H'
 nd:t.own.Nodup
 own:∀ a∈t.own,H a=none
 ro:∀ a∈t.ro,H a=none∨a∈T.ros l
 sep:∀ a∈t.ro,a∉t.own
 keep:∀ a,H a≠none→H' a=H a
noncomputable def gNw(h:List D→Option D):List V→Hp→VK→Prop:=fun vs H Q=>∃ l:List T,T.oks H l∧l.map T.val=vs∧∃ d,h (T.ers l)=some d∧∀ t H',t.er=d→NewOk H H' l t→Q t.val H'
noncomputable def eNw(h:List D→Option D)(f:AF):EF:=fun s=>match f s with
 | .ok rs s1=>(match Z0i s1 rs with | some ds=>(match h ds with | some d=>.ok (.val d) s1 | none=>.no) | none=>.no)
 | .ex C s1=>.ex C s1
 | .no=>.no
section
variable {R:RC}{ix:List Nat}{hd:List (Nat×Addr)}{X:Cx}{e:Expr}{H H':Hp}{σ:L2.St}{ts:Ts}{fr:List T}
theorem NewOk.atom{l:List T}(v:V):NewOk H H l (.at v):=⟨trivial,Wq,by simp [T.own],by simp [T.ro],by simp [T.ro],fun _ _=>rfl⟩
theorem Z4n(C:Cf R ix hd H σ ts fr):∀ {tvs:List TV} {vs:List V} {ds:List D},TvsOk ts vs tvs→T.oks H (trs tvs)→Z0i (ts.map TL.er) (tvs.map TV.er)=some ds →
  ∃ l:List T,T.ers l=ds∧l.map T.val=vs∧T.oks H l∧∀ a∈T.ros l,a∈roS ts∨a∈T.ros (trs tvs)
 | [],_,_,.nil,_,h=>by cases h;exact ⟨[],rfl,rfl,trivial,by simp [T.ros]⟩
 | tv::tvs,_,_,.cons hv hr,ho,h=>by
  simp only [Ql,Z0i] at h
  cases e1:Zq (ts.map TL.er) tv.er with
  | none=>simp [e1] at h
  | some d =>
   cases e2:Z0i (ts.map TL.er) (tvs.map TV.er) with
   | none=>simp [e1,e2] at h
   | some ds =>
    simp only [e1,e2,Option.some.injEq] at h
    subst h
    have ho':T.oks H (tv.tr++trs tvs):=ho
    obtain ⟨t,t1,t2,t3,t4⟩:=Z4K C hv (T.oks_app.mp ho').1 e1
    obtain ⟨l,l1,l2,l3,l4⟩:=Z4n C hr (T.oks_app.mp ho').2 e2
    refine ⟨t::l,by rw [T.ers,t1,l1],by simp [t2,l2],⟨t3,l3⟩,fun a z=>?_⟩
    show a∈roS ts∨a∈T.ros (tv.tr++trs tvs)
    rw [T.ros_app,Qe]
    rw [T.ros_cons] at z
    rcases Qe.mp z with z | z
    ·rcases t4 with rfl | ⟨k,p,b,w,u,rfl,h1,h2⟩
     ·exact .inr (.inl (by simpa [TV.tr,T.ros] using z))
     ·obtain ⟨c,r,K⟩:=T.ctx h2
      exact .inl (Z0W.mpr ⟨w,u,Qf h1,K.ro.mem_iff.mpr (Qg _ z)⟩)
    ·rcases l4 a z with z | z
     ·exact .inl z
     ·exact .inr (.inr z)
theorem Cf.new{l m:List T}{t:T}(C:Cf R ix hd H σ ts (m++fr))(N:NewOk H H' l t)(hl:∀ a∈T.ros l,a∈roS ts∨a∈T.ros m):Cf R ix hd H' σ ts (t::fr):=by
 have Cd:=C.drops
 have kp:∀ a,H a≠none→H' a=H a:=N.keep
 have nown:∀ a∈t.own,a∉Zd ts∧a∉roS ts∧a∉rdS ts∧a∉T.owns fr∧a∉T.ros fr∧¬ R.G a:=fun a z=>Cd.fresh (N.own a z)
 refine ⟨fun w u z=>T.keep (C.ok w u z) fun a q=>kp a (T.there (C.ok w u z) q),⟨N.ok,T.keeps Cd.fok fun a q=>kp a (T.theres Cd.fok q)⟩,?_,fun a z=>?_,fun a z=>?_,fun a z=>?_,C.bg,C.bor,C.ixs,C.sl,C.hdi,C.hdx,C.len,C.hdn⟩
 ·rw [T.owns_cons]
  have h1:=Qk.mp Cd.nd
  refine Qk.mpr ⟨h1.1,Qk.mpr ⟨N.nd,h1.2.1,fun a za b zb e=>(nown a za).2.2.2.1 (by rw [e];exact zb)⟩,fun a za b zb e=>?_⟩
  rcases Qe.mp zb with zb | zb
  ·exact (nown b zb).1 (by rw [← e];exact za)
  ·exact h1.2.2 a za b zb e
 ·rw [T.owns_cons,Qe]
  have old:a∈roS ts∨a∈T.ros (m++fr)→a∉Zd ts∧¬ (a∈t.own∨a∈T.owns fr)∧¬ R.B a:=fun z=>by
   obtain ⟨h1,h2,h3⟩:=C.sep a z
   refine ⟨h1,fun q=>?_,h3⟩
   rcases q with q | q
   ·rcases z with z | z
    ·exact (nown a q).2.1 z
    ·have:=T.theres C.fok (.inr z)
     exact this (N.own a q)
   ·exact h2 (by rw [T.owns_app];exact Qg _ q)
  rcases z with z | z
  ·exact old (.inl z)
  ·rw [T.ros_cons] at z
   rcases Qe.mp z with z | z
   ·rcases N.ro a z with z' | z'
    ·obtain ⟨f1,f2,f3,f4,f5,f6⟩:=Cd.fresh z'
     exact ⟨f1,fun q=>q.elim (N.sep a z) f4,fun q=>f6 (C.bg a q)⟩
    ·rcases hl a z' with q | q
     ·exact old (.inl q)
     ·exact old (.inr (by rw [T.ros_app];exact Qh _ q))
   ·exact old (.inr (by rw [T.ros_app];exact Qg _ z))
 ·rw [T.owns_cons,Qe]
  exact ⟨(Cd.rd a z).1,fun q=>q.elim (fun q=>(nown a q).2.2.1 z) (Cd.rd a z).2⟩
 ·rw [T.owns_cons,Qe]
  obtain ⟨g1,g2,g3,g4⟩:=Cd.g a z
  exact ⟨(kp a g2).trans g1,by rw [kp a g2];exact g2,g3,fun q=>q.elim (fun q=>(nown a q).2.2.2.2.2 z) g4⟩
theorem Z2z{h:List D→Option D}{f:AF}(σ:L2.St)(H:Hp)(Q:VK)(q:lE R ix (eNw h f) σ H Q):lA R ix f σ H fun vs H1=>gNw h vs H1 Q:=by
 obtain ⟨hd,ts,fr,C,q⟩:=q
 refine ⟨hd,ts,fr,C,?_⟩
 unfold eNw at q
 cases ef:f (ts.map TL.er) with
 | no=>rw [ef] at q;exact q
 | ex E s1=>rw [ef] at q;exact q
 | ok rs s1 =>
  rw [ef] at q
  intro H1 ts1 tvs vs e1 e2 hv C1
  subst e1 e2
  dsimp only at q
  cases ed:Z0i (ts1.map TL.er) (tvs.map TV.er) with
  | none=>rw [ed] at q;exact q.elim
  | some ds =>
   rw [ed] at q
   dsimp only at q
   cases eh:h ds with
   | none=>rw [eh] at q;exact q.elim
   | some d =>
    rw [eh] at q
    obtain ⟨l,l1,l2,l3,l4⟩:=Z4n C1 hv (T.oks_app.mp C1.fok).1 ed
    exact ⟨l,l3,l2,d,by rw [l1];exact eh,fun t H' e N=>q H' ts1 (.val t) t.val rfl (by rw [← e];rfl) rfl (C1.new N l4)⟩
theorem Zt{f:EF}{Q Q':VK}(m:∀ v H,Q v H→Q' v H)(h:lE R ix f σ H Q):lE R ix f σ H Q':=by
 obtain ⟨hd,ts,fr,C,h⟩:=h
 refine ⟨hd,ts,fr,C,?_⟩
 cases ef:f (ts.map TL.er) with
 | no=>rw [ef] at h;exact h
 | ex E s1=>rw [ef] at h;exact h
 | ok r s1=>rw [ef] at h;intro H1 ts1 tv v a b c d;exact m _ _ (h H1 ts1 tv v a b c d)
theorem lA_1{f:EF}{r:List V→Hp→Prop}(h:lA R ix (Z0 f Z2) σ H r):lE R ix f σ H fun x H1=>r [x] H1:=by
 have h1:=Z2L σ H r h
 exact Zt (fun v H1 q=>Z6g σ H1 (fun vs H2=>r (v::vs) H2) q) h1
theorem lA_2{f g:EF}{r:List V→Hp→Prop}(h:lA R ix (Z0 f (Z0 g Z2)) σ H r):lE R ix f σ H fun x H1=>lE R ix g σ H1 fun y H2=>r [x,y] H2:=by
 have h1:=Z2L σ H r h
 exact Zt (fun v H1 q=>lA_1 (r:=fun vs H2=>r (v::vs) H2) q) h1
theorem lA_3{f g k:EF}{r:List V→Hp→Prop}(h:lA R ix (Z0 f (Z0 g (Z0 k Z2))) σ H r):lE R ix f σ H fun x H1=>lE R ix g σ H1 fun y H2=>lE R ix k σ H2 fun z H3=>r [x,y,z] H3:=by
 have h1:=Z2L σ H r h
 exact Zt (fun v H1 q=>lA_2 (r:=fun vs H2=>r (v::vs) H2) q) h1
noncomputable def oNw(h:List D→Option D):R2:=fun x y H Q=>gNw h [x,y] H Q
theorem Zm{a b:Expr}{pos:Pos}{op:Operator}{h:List D→Option D}{fa fb:EF}(ho:OpR X (binaryOp op) (oNw h))(ha:PE X a (lE R ix fa))(hb:PE X b (lE R ix fb)):PE X (.BinOp a op b pos) (lE R ix (eNw h (Z0 fa (Z0 fb Z2)))) :=
 peM (pe_op ho ha hb) fun σ H Q q=>lA_2 (Z2z σ H Q q)
theorem Z97{a b:Expr}{pos:Pos}{op:CmpOp}{h:List D→Option D}{fa fb:EF}(ho:OpR X (compareOp op) (oNw h))(ha:PE X a (lE R ix fa))(hb:PE X b (lE R ix fb))(hm:behindInMarks op b=false):PE X (.Compare a [op] [b] pos) (lE R ix (eNw h (Z0 fa (Z0 fb Z2)))) :=
 peM (Z3p ho ha hb hm) fun σ H Q q=>lA_2 (Z2z σ H Q q)
theorem opM{f:Value→Value→Sem Value}{r r':R2}(h:OpR X f r)(m:∀ x y H Q,r' x y H Q→r x y H Q):OpR X f r':=fun pins s σ H x y v u Q I rx ry q=>h pins s σ H x y v u Q I rx ry (m _ _ _ _ q)
theorem callM{f:Value}{r r':List V→Hp→VK→Prop}(h:Z0f X f r)(m:∀ vs H Q,r' vs H Q→r vs H Q):Z0f X f r':=fun pins s σ H x u Q I rx q=>h pins s σ H x u Q I rx (m _ _ _ q)
end
end RM

namespace RM
open PySem PySem.Spec PyProof.Rows L2
inductive Sel where
 | ch (j:Nat) | ar (m:Nat) | cs (v:V)
noncomputable def pick(rs:List DV)(ds:List D)(s1:Sd):Sel→ER DV
 | .ch j=>match rs,ds with
  | .val _::_,.nd _ l::_=>(match l[j]? with | some c=>.ok (.val c) s1 | none=>.no)
  | .plc k p::_,.nd _ l::_=>(match l[j]? with | some c=>.ok (mkV k (p++[j]) c) s1 | none=>.no)
  | _,_=>.no
 | .ar m=>match rs[m]? with | some r=>.ok r s1 | none=>.no
 | .cs v=>.ok (.val (.at (cl v))) s1
noncomputable def eCh(h:List D→Option Sel)(f:AF):EF:=fun s=>match f s with
 | .ok rs s1=>(match Z0i s1 rs with | some ds=>(match h ds with | some c=>pick rs ds s1 c | none=>.no) | none=>.no)
 | .ex C s1=>.ex C s1
 | .no=>.no
noncomputable def selT(l:List T):Sel→Option V
 | .ch j=>match l with | .nd _ _ c::_=>(c[j]?).map T.val | _=>none
 | .ar m=>(l[m]?).map T.val
 | .cs v=>some v
noncomputable def gCh(h:List D→Option Sel):List V→Hp→VK→Prop:=fun vs H Q=>∃ l:List T,T.oks H l∧l.map T.val=vs∧∃ c v,h (T.ers l)=some c∧selT l c=some v∧Q v H
section
variable {R:RC}{ix:List Nat}{hd:List (Nat×Addr)}{X:Cx}{e:Expr}{H H':Hp}{σ:L2.St}{ts:Ts}{fr:List T}
theorem Z4v{m:Nat}{tv:TV}:∀ {tvs:List TV},tvs[m]?=some tv→∃ x,(T.owns (trs tvs)).Perm (T.owns tv.tr++x)∧(∀ a∈T.ros tv.tr,a∈T.ros (trs tvs))∧∀ t∈tv.tr,t∈trs tvs:=by
 induction m with
 | zero =>
  intro tvs h
  match tvs,h with
  | y::r,h =>
   cases h
   show ∃ x,(T.owns (tv.tr++trs r)).Perm _∧_
   exact ⟨T.owns (trs r),by rw [T.owns_app],fun a z=>by show a∈T.ros (tv.tr++trs r);rw [T.ros_app];exact Qh _ z,fun t z=>Qh _ z⟩
 | succ m ih =>
  intro tvs h
  match tvs,h with
  | y::r,h =>
   obtain ⟨x,h1,h2,h3⟩:=ih (tvs:=r) (by simpa using h)
   refine ⟨T.owns y.tr++x,?_,fun a z=>?_,fun t z=>Qg _ (h3 t z)⟩
   ·show (T.owns (y.tr++trs r)).Perm _
    rw [T.owns_app]
    refine (List.Perm.append_left _ h1).trans ?_
    rw [← Qq,← Qq]
    exact List.Perm.append_right _ Jx
   ·show a∈T.ros (y.tr++trs r)
    rw [T.ros_app];exact Qg _ (h2 a z)
theorem Cf.one{m:Nat}{tv:TV}{tvs:List TV}(C:Cf R ix hd H σ ts (trs tvs++fr))(h:tvs[m]?=some tv):Cf R ix hd H σ ts (tv.tr++fr):=by
 obtain ⟨x,h1,h2,h3⟩:=Z4v h
 have ok:=T.oks_app.mp C.fok
 refine C.less (x:=x) (T.oks_app.mpr ⟨T.oks_iff.mpr fun t z=>T.oks_iff.mp ok.1 t (h3 t z),ok.2⟩) ?_ fun a z=>?_
 ·rw [T.owns_app,T.owns_app,Qq]
  refine (List.Perm.append_right _ h1).trans ?_
  rw [Qq]
  exact List.Perm.append_left _ Jx
 ·rw [T.ros_app] at z ⊢
  rcases Qe.mp z with z | z
  ·exact .inl (Qh _ (h2 a z))
  ·exact .inl (Qg _ z)
theorem Cf.child{a:Addr}{k:NK}{l:List T}{j:Nat}{c:T}(C:Cf R ix hd H σ ts (.nd a k l::fr))(h:l[j]?=some c):Cf R ix hd H σ ts (c::fr):=by
 obtain ⟨x,y,e1,e2⟩:=T.owns_get h
 obtain ⟨x',y',f1,f2⟩:=T.ros_get h
 refine C.less (x:=(if k.mut then [a] else [])++(x++y)) ⟨T.oks_iff.mp C.fok.1.2 c (Qf h),C.fok.2⟩ ?_ fun b z=>?_
 ·rw [T.owns_cons,T.owns_cons,T.own,e1]
  refine Qx.mpr fun b=>?_
  simp only [Jj];omega
 ·left
  rw [T.ros_cons,T.ro,f1]
  rw [T.ros_cons] at z
  simp only [Qe] at z ⊢
  rcases z with z | z <;> simp [z]
theorem TvsOk.get:∀ {vs:List V} {tvs:List TV} {m:Nat} {tv:TV},TvsOk ts vs tvs→tvs[m]?=some tv→∃ v,vs[m]?=some v∧Z0D ts v tv
 | _,_,0,_,.cons h _,e=>by cases e;exact ⟨_,rfl,h⟩
 | _,_,m + 1,_,.cons _ r,e=>by simpa using TvsOk.get r (by simpa using e)
theorem lA_ch{h:List D→Option Sel}{f:AF}(σ:L2.St)(H:Hp)(Q:VK)(q:lE R ix (eCh h f) σ H Q):lA R ix f σ H fun vs H1=>gCh h vs H1 Q:=by
 obtain ⟨hd,ts,fr,C,q⟩:=q
 refine ⟨hd,ts,fr,C,?_⟩
 unfold eCh at q
 cases ef:f (ts.map TL.er) with
 | no=>rw [ef] at q;exact q
 | ex E s1=>rw [ef] at q;exact q
 | ok rs s1 =>
  rw [ef] at q
  intro H1 ts1 tvs vs e1 e2 hv C1
  subst e1 e2
  dsimp only at q
  cases ed:Z0i (ts1.map TL.er) (tvs.map TV.er) with
  | none=>rw [ed] at q;exact q.elim
  | some ds =>
   rw [ed] at q
   dsimp only at q
   cases eh:h ds with
   | none=>rw [eh] at q;exact q.elim
   | some c =>
    rw [eh] at q
    obtain ⟨l,l1,l2,l3,l4⟩:=Z4n C1 hv (T.oks_app.mp C1.fok).1 ed
    dsimp only at q
    cases c with
    | cs v=>exact ⟨l,l3,l2,_,v,by rw [l1];exact eh,rfl,q H1 ts1 (.val (.at v)) v rfl rfl rfl (C1.drops.at v)⟩
    | ar m =>
     simp only [pick,Qa] at q
     cases em:tvs[m]? with
     | none=>rw [em] at q;exact q.elim
     | some tv =>
      rw [em] at q
      obtain ⟨v,v1,v2⟩:=hv.get em
      refine ⟨l,l3,l2,_,v,by rw [l1];exact eh,?_,q H1 ts1 tv v rfl rfl v2 (C1.one em)⟩
      rw [← l2,Qa] at v1
      exact v1
    | ch j =>
     cases hv with
     | nil=>simp only [Wo,pick] at q
     | @cons v tv vs tvs hv hr =>
      simp only [Ql,Z0i] at ed
      cases e1:Zq (ts1.map TL.er) tv.er with
      | none=>rw [e1] at ed;cases ed
      | some d =>
       cases e2:Z0i (ts1.map TL.er) (tvs.map TV.er) with
       | none=>rw [e1,e2] at ed;cases ed
       | some ds' =>
        rw [e1,e2] at ed
        cases ed
        have ho:T.oks H1 (tv.tr++trs tvs):=(T.oks_app.mp C1.fok).1
        obtain ⟨t,t1,t2,t3,t4⟩:=Z4K C1 hv (T.oks_app.mp ho).1 e1
        obtain ⟨l',l1',l2',l3',_⟩:=Z4n C1 hr (T.oks_app.mp ho).2 e2
        have C2:Cf R ix hd H1 σ ts1 (tv.tr++fr):=C1.one (m:=0) (tvs:=tv::tvs) rfl
        cases t with
        | «at» v0 =>
         cases t1
         rcases t4 with rfl | ⟨k,p,a,w,u,rfl,_,_⟩ <;> simp only [Ql,TV.er,T.er,pick] at q
        | nd a k ch =>
         simp only [T.er] at t1
         subst t1
         rcases t4 with rfl | ⟨k',p,a',w,u,rfl,h1,h2⟩
         ·simp only [Ql,TV.er,pick,T.ers_eq,Qa] at q
          cases ec:ch[j]? with
          | none=>rw [ec] at q;exact q.elim
          | some c =>
           rw [ec] at q
           refine ⟨.nd a k ch::l',⟨t3,l3'⟩,by simp [t2,l2'],.ch j,c.val,by rw [T.ers,l1'];exact eh,by simp [selT,ec],?_⟩
           exact q H1 ts1 (.val c) c.val rfl rfl rfl (C2.child ec)
         ·simp only [Ql,TV.er,pick,T.ers_eq,Qa] at q
          cases ec:ch[j]? with
          | none=>rw [ec] at q;exact q.elim
          | some c =>
           rw [ec] at q
           refine ⟨.nd a k ch::l',⟨t3,l3'⟩,by simp [t2,l2'],.ch j,c.val,by rw [T.ers,l1'];exact eh,by simp [selT,ec],?_⟩
           obtain ⟨tv',f1,f2,f3⟩:=mk_ok (p:=p++[j]) C2 h1 (by rw [T.get_app,h2];show T.get [j] (.nd a k ch)=some c;simp only [T.get,ec])
           exact q H1 ts1 tv' c.val rfl f1 f2 f3
end
end RM

namespace RM
open PySem PySem.Spec PyProof.Rows L2
noncomputable def sub:List Nat→List Nat→Option Nat
 | [],i::_=>some i
 | x::p,y::q=>if x=y then sub p q else none
 | _,[]=>none
theorem Z4H{i:Nat}:∀ {p q:List Nat},sub p q=some i→∃ r,q=p++i::r
 | [],j::r,h=>by cases h;exact ⟨r,rfl⟩
 | x::p,y::q,h=>by
  unfold sub at h
  split at h
  case isTrue e=>subst e;obtain ⟨r,rfl⟩:=Z4H h;exact ⟨r,rfl⟩
  case isFalse=>cases h
 | x::p,[],h=>by cases h
 | [],[],h=>by cases h
noncomputable def gone(k:Nat)(p:List Nat)(keep:Nat→Bool)(k':Nat)(q:List Nat):Bool:=decide (k'=k) && (match sub p q with | some i=>!keep i | none=>false)
noncomputable def Z1X(k:Nat)(p:List Nat)(keep:Nat→Bool):DL→DL
 | .bor k' q=>if gone k p keep k' q then .non else .bor k' q
 | s=>s
noncomputable def Zw(k:Nat)(p:List Nat)(keep:Nat→Bool):TL→TL
 | .bor k' q a=>if gone k p keep k' q then .non else .bor k' q a
 | s=>s
theorem Z36{k:Nat}{p:List Nat}{keep:Nat→Bool}{k':Nat}{q:List Nat}{a:Addr}:Zw k p keep (.bor k' q a)=if gone k p keep k' q then .non else .bor k' q a:=rfl
theorem Z8N{k:Nat}{p:List Nat}{keep:Nat→Bool}{k':Nat}{q:List Nat}:Z1X k p keep (.bor k' q)=if gone k p keep k' q then .non else .bor k' q:=rfl
theorem Zaa{k:Nat}{p:List Nat}{keep:Nat→Bool}(s:TL):(Zw k p keep s).er=Z1X k p keep s.er:=by
 cases s with
 | non=>rfl
 | own w t=>rfl
 | bor k' q a =>
  simp only [TL.er]
  rw [Z36,Z8N]
  cases gone k p keep k' q <;> rfl
theorem Z0y{k:Nat}{p:List Nat}{keep:Nat→Bool}(s:TL):Zw k p keep s=s∨(Zw k p keep s=.non∧∃ k' q a,s=.bor k' q a):=by
 cases s with
 | non=>exact .inl rfl
 | own w t=>exact .inl rfl
 | bor k' q a =>
  rw [Z36]
  cases gone k p keep k' q
  ·exact .inl rfl
  ·exact .inr ⟨rfl,_,_,_,rfl⟩
theorem Z0Z{α:Type}{f:TL→List α}{k:Nat}{y:TL}:∀ {ts:Ts},ts[k]?=some y→∃ x z,ts.flatMap f=x++(f y++z)∧∀ y',(ts.set k y').flatMap f=x++(f y'++z):=by
 induction k with
 | zero =>
  intro ts h
  match ts,h with
  | t::r,h=>cases h;exact ⟨[],r.flatMap f,rfl,fun y'=>rfl⟩
 | succ k ih =>
  intro ts h
  match ts,h with
  | t::r,h =>
   obtain ⟨x,z,e1,e2⟩:=ih (ts:=r) (by simpa using h)
   exact ⟨f t++x,z,by simp [e1],fun y'=>by simp [e2 y']⟩
theorem Z2K{α:Type}{f:TL→List α}{k:Nat}{p:List Nat}{keep:Nat→Bool}(hb:∀ k q a,f (.bor k q a)=f .non)(ts:Ts):(ts.map (Zw k p keep)).flatMap f=ts.flatMap f:=by
 induction ts with
 | nil=>rfl
 | cons t r ih =>
  simp only [Ql,Wc,ih]
  rcases Z0y (k:=k) (p:=p) (keep:=keep) t with e | ⟨e,k',q,a,rfl⟩
  ·rw [e]
  ·rw [e,hb]
theorem Z4p{s s':T}:∀ {p q:List Nat} {t u:T},t.get p=some s→s'.val=s.val→sub p q=none→t.get q=some u→∃ u',(T.put s' p t).get q=some u'∧u'.val=u.val
 | [],[],t,u,h1,h2,_,h4=>by cases h1;cases h4;exact ⟨s',rfl,h2⟩
 | [],j::q,t,u,_,_,h3,_=>by cases h3
 | i::p,[],t,u,h1,h2,_,h4=>by cases h4;exact ⟨_,rfl,T.put_val h1 h2⟩
 | i::p,j::q,.at v,u,h1,_,_,_=>by cases h1
 | i::p,j::q,.nd a k l,u,h1,h2,h3,h4=>by
  simp only [T.get] at h1 h4
  cases e:l[i]? with
  | none=>rw [e] at h1;cases h1
  | some c =>
   rw [e] at h1
   simp only [T.put,e,T.get]
   unfold sub at h3
   by_cases hij:i=j
   ·subst hij
    rw [if_pos rfl] at h3
    rw [e] at h4
    rw [Qm,if_pos rfl,if_pos (Qc.mp e).1]
    exact Z4p h1 h2 h3 h4
   ·rw [Qm,if_neg hij]
    exact ⟨u,h4,rfl⟩
theorem Z46{s s':T}:∀ {p r:List Nat} {t:T},t.get p=some s→(T.put s' p t).get (p++r)=s'.get r
 | [],r,t,_=>rfl
 | i::p,r,.at v,h=>by cases h
 | i::p,r,.nd a k l,h=>by
  simp only [T.get] at h
  cases e:l[i]? with
  | none=>rw [e] at h;cases h
  | some c =>
   rw [e] at h
   simp only [T.put,e,Jh,T.get]
   rw [Qm,if_pos rfl,if_pos (Qc.mp e).1]
   exact Z46 h
section
variable {R:RC}{ix:List Nat}{hd:List (Nat×Addr)}{X:Cx}{e:Expr}{H H':Hp}{σ:L2.St}{ts:Ts}{fr:List T}
theorem Cf.write{k:Nat}{t:T}{p:List Nat}{a:Addr}{kd kd':NK}{l l' fr':List T}{x:List Addr}{o:HO}{keep:Nat→Bool}(C:Cf R ix hd H σ ts fr)(hk:ts[k]?=some (.own true t))(hp:t.get p=some (.nd a kd l))(hm:kd.mut=true)(hm':kd'.mut=true)
  (ho:(T.nd a kd' l').ok (upd H a o)) (hf:T.oks (upd H a o) fr') (hown:(T.owns l++T.owns fr).Perm (T.owns l'++T.owns fr'++x))
  (hro:∀ b,b∈T.ros l'∨b∈T.ros fr'→b∈T.ros l∨b∈T.ros fr∨b∈roS ts∨b∈x) (hkeep:∀ (i:Nat) (c:T),keep i=true→l[i]?=some c→l'[i]?=some c) :
  Cf R ix hd (upd H a o) σ ((ts.set k (.own true (T.put (.nd a kd' l') p t))).map (Zw k p keep)) fr':=by
 obtain ⟨c,r,K⟩:=T.ctx hp
 obtain ⟨x1,z1,o1,o2⟩:=Z0Z (f:=TL.own1) hk
 obtain ⟨x2,z2,r1,r2⟩:=Z0Z (f:=TL.ro1) hk
 obtain ⟨x3,z3,d1,d2⟩:=Z0Z (f:=TL.rd1) hk
 have own_nd:(T.nd a kd l).own=a::T.owns l:=by simp [T.own,hm]
 have own_nd':(T.nd a kd' l').own=a::T.owns l':=by simp [T.own,hm']
 have ro_nd:(T.nd a kd l).ro=T.ros l:=by simp [T.ro,hm]
 have ro_nd':(T.nd a kd' l').ro=T.ros l':=by simp [T.ro,hm']
 generalize hs':T.nd a kd' l'=s' at *
 have hv:s'.val=(T.nd a kd l).val:=by rw [← hs'];rfl
 generalize ht':T.put s' p t=t'
 have eO:Zd ((ts.set k (.own true t')).map (Zw k p keep))=x1++(t'.own++z1):=by
  unfold Zd;rw [Z2K (by intros;rfl),o2];rfl
 have eR:roS ((ts.set k (.own true t')).map (Zw k p keep))=x2++(t'.ro++z2):=by
  unfold roS;rw [Z2K (by intros;rfl),r2];rfl
 have eD:rdS ((ts.set k (.own true t')).map (Zw k p keep))=rdS ts:=by
  unfold rdS;rw [Z2K (by intros;rfl),d2,d1];rfl
 have fO:Zd ts=x1++(t.own++z1):=o1
 have fR:roS ts=x2++(t.ro++z2):=r1
 have pm:(Zd ts++T.owns fr).Perm ((x1++(t'.own++z1)++T.owns fr')++x):=by
  rw [fO]
  refine Qx.mpr fun b=>?_
  have q1:=(Qx.mp K.own b)
  have q2:=(Qx.mp (K.own' s') b)
  have q3:=(Qx.mp hown b)
  rw [ht'] at q2
  rw [own_nd] at q1
  rw [own_nd'] at q2
  simp only [Jj,List.count_cons] at q1 q2 q3 ⊢
  omega
 have nd2:=pm.nodup_iff.mp C.nd
 have nd3:=Qk.mp nd2
 have sub1:∀ b,b∈x1++(t'.own++z1)∨b∈T.owns fr'→b∈Zd ts∨b∈T.owns fr:=fun b z=>by
  have:b∈Zd ts++T.owns fr:=pm.mem_iff.mpr (Qh _ (by rcases z with z | z;exact Qh _ z;exact Qg _ z))
  exact Qe.mp this
 have subx:∀ b,b∈x→b∈Zd ts∨b∈T.owns fr:=fun b z=>Qe.mp (pm.mem_iff.mpr (Qg _ z))
 have ina:a∈t.own:=K.own.mem_iff.mpr (Qg _ (by rw [own_nd];exact Qy))
 have inS:a∈Zd ts:=by rw [fO];simp [ina]
 have hn1:=(Qk.mp C.nd).1
 rw [fO] at hn1
 have up:∀ b,b≠a→upd H a o b=H b:=fun b hb=>Zc hb
 have other:∀ (j:Nat) w u,j≠k→ts[j]?=some (TL.own w u)→u.ok (upd H a o):=by
  intro j w u hj hu
  have hm:=Qf hu
  refine T.keep (C.ok w u hm) fun b hb=>up b ?_
  rintro rfl
  rcases hb with hb | hb
  ·cases w with
   | false=>exact (C.rd b (Z2M.mpr ⟨u,hm,hb⟩)).1 inS
   | true =>
    have h1:b∈Zd (ts.set k .non):=Z10.mpr ⟨u,Qf (by rw [Qm,if_neg (Ne.symm hj)];exact hu),hb⟩
    unfold Zd at h1
    rw [o2] at h1
    have h2:=Qk.mp hn1
    have h3:=Qk.mp h2.2.1
    simp only [TL.own1,Je,Qe] at h1
    rcases h1 with h1 | h1
    ·exact h2.2.2 b h1 b (Qh _ ina) rfl
    ·exact h3.2.2 b ina b h1 rfl
  ·exact (C.sep b (.inl (Z0W.mpr ⟨w,u,hm,hb⟩))).1 inS
 have tok':t'.ok (upd H a o):=by
  rw [← ht']
  refine K.ok (C.ok true t (Qf hk)) (fun b hb=>up b ?_) ho hv
  rintro rfl
  rcases hb with hb | hb
  ·have h2:=(Qk.mp hn1).2.1
   have h3:=(Qk.mp h2).1
   have h4:=K.own.nodup_iff.mp h3
   exact (Qk.mp h4).2.2 b hb b (by rw [own_nd];exact Qy) rfl
  ·exact (C.sep b (.inl (by rw [fR];simp [K.ro.mem_iff.mpr (Qh _ hb)]))).1 inS
 have slot:∀ (j:Nat) (y:TL),((ts.set k (.own true t')).map (Zw k p keep))[j]?=some y→(j=k∧y=.own true t')∨(j≠k∧∃ y0,ts[j]?=some y0∧y=Zw k p keep y0):=by
  intro j y hy
  rw [Qa,Qm] at hy
  by_cases hj:k=j
  ·subst hj
   rw [if_pos rfl,if_pos (Qc.mp hk).1] at hy
   cases hy
   exact .inl ⟨rfl,rfl⟩
  ·rw [if_neg hj] at hy
   cases ey:ts[j]? with
   | none=>rw [ey] at hy;cases hy
   | some y0=>rw [ey] at hy;cases hy;exact .inr ⟨Ne.symm hj,y0,rfl,rfl⟩
 have tv':t'.val=t.val:=by rw [← ht'];exact T.put_val hp hv
 have slv:∀ (j:Nat) (y:TL) (v:V),((ts.set k (.own true t')).map (Zw k p keep))[j]?=some y→y.v=some v→∃ y0,ts[j]?=some y0∧y0.v=some v:=by
  intro j y v hy hv
  rcases slot j y hy with ⟨rfl,rfl⟩ | ⟨hj,y0,h0,rfl⟩
  ·exact ⟨_,hk,by rw [← hv];simp only [TL.v,tv']⟩
  ·refine ⟨y0,h0,?_⟩
   rcases Z0y (k:=k) (p:=p) (keep:=keep) y0 with e | ⟨e,_⟩
   ·rwa [e] at hv
   ·rw [e] at hv;cases hv
 have len:((ts.set k (.own true t')).map (Zw k p keep)).length=ts.length:=by simp
 refine ⟨fun w u hu=>?_,hf,by rw [eO];exact nd3.1,fun b z=>?_,fun b z=>?_,fun b z=>?_,C.bg,fun j k' q b hj=>?_,fun j hj=>by rw [len];exact C.ixs j hj,fun i j y v h1 h2 h3=>?_,fun j b hj=>by rw [len];exact C.hdi j b hj,C.hdx,C.len,fun j b hj y v h2 h3=>?_⟩
 ·obtain ⟨j,hj⟩:=Jd.mp hu
  rcases slot j _ hj with ⟨rfl,e⟩ | ⟨hjk,y0,h0,e⟩
  ·cases e;exact tok'
  ·rcases Z0y (k:=k) (p:=p) (keep:=keep) y0 with e' | ⟨e',_⟩
   ·rw [e'] at e;subst e;exact other j w u hjk h0
   ·rw [e'] at e;cases e
 ·have old:b∈roS ts∨b∈T.ros fr→b∉x1++(t'.own++z1)∧b∉T.owns fr'∧¬ R.B b:=fun z=>by
   obtain ⟨h1,h2,h3⟩:=C.sep b z
   exact ⟨fun q=>(sub1 b (.inl q)).elim h1 h2,fun q=>(sub1 b (.inr q)).elim h1 h2,h3⟩
  have new:b∈T.ros l'∨b∈T.ros fr'→b∉x1++(t'.own++z1)∧b∉T.owns fr'∧¬ R.B b:=fun z=>by
   rcases hro b z with q | q | q | q
   ·exact old (.inl (by rw [fR];simp [K.ro.mem_iff.mpr (Qg _ (by rw [ro_nd];exact q))]))
   ·exact old (.inr q)
   ·exact old (.inl q)
   ·refine ⟨fun y=>nd3.2.2 b (Qh _ y) b q rfl,fun y=>nd3.2.2 b (Qg _ y) b q rfl,fun y=>?_⟩
    obtain ⟨_,_,g3,g4⟩:=C.g b (C.bg b y)
    exact (subx b q).elim g3 g4
  rw [eO]
  rw [eR] at z
  rcases z with z | z
  ·simp only [Qe] at z
   rcases z with z | z | z
   ·exact old (.inl (by rw [fR];simp [z]))
   ·have z':=(K.ro' s').mem_iff.mp (by rw [ht'];exact z)
    rcases Qe.mp z' with z' | z'
    ·exact old (.inl (by rw [fR];simp [K.ro.mem_iff.mpr (Qh _ z')]))
    ·rw [ro_nd'] at z';exact new (.inl z')
   ·exact old (.inl (by rw [fR];simp [z]))
  ·exact new (.inr z)
 ·rw [eD] at z
  rw [eO]
  obtain ⟨h1,h2⟩:=C.rd b z
  exact ⟨fun q=>(sub1 b (.inl q)).elim h1 h2,fun q=>(sub1 b (.inr q)).elim h1 h2⟩
 ·rw [eO]
  obtain ⟨g1,g2,g3,g4⟩:=C.g b z
  have hb:b≠a:=by rintro rfl;exact g3 inS
  rw [up b hb]
  exact ⟨g1,g2,fun q=>(sub1 b (.inl q)).elim g3 g4,fun q=>(sub1 b (.inr q)).elim g3 g4⟩
 ·
  rcases slot j _ hj with ⟨rfl,e⟩ | ⟨hjk,y0,h0,e⟩
  ·cases e
  ·rcases Z0y (k:=k) (p:=p) (keep:=keep) y0 with e' | ⟨e',_⟩
   ·rw [e'] at e
    subst e
    obtain ⟨w,u,s,h1,h2,h3⟩:=C.bor j k' q b h0
    by_cases hkk:k'=k
    ·subst hkk
     rw [hk] at h1
     cases h1
     have at':((ts.set k' (.own true t')).map (Zw k' p keep))[k']?=some (.own true t'):=by
      rw [Qa,Qm,if_pos rfl,if_pos (Qc.mp hk).1];rfl
     cases hs:sub p q with
     | none =>
      obtain ⟨u',q1,q2⟩:=Z4p (s':=s') hp hv hs h2
      rw [ht'] at q1
      exact ⟨true,t',u',at',q1,q2.trans h3⟩
     | some i =>
      have hki:keep i=true:=by
       rw [Z36] at e'
       cases hg:keep i with
       | true=>rfl
       | false =>
        have:gone k' p keep k' q=true:=by simp [gone,hs,hg]
        rw [this] at e'
        cases e'
      obtain ⟨r',rfl⟩:=Z4H hs
      refine ⟨true,t',s,at',?_,h3⟩
      rw [← ht',Z46 hp,← hs']
      rw [T.get_app,hp] at h2
      have h2':T.get (i::r') (.nd a kd l)=some s:=h2
      simp only [T.get] at h2' ⊢
      cases el:l[i]? with
      | none=>rw [el] at h2';cases h2'
      | some ch=>rw [el] at h2';rw [hkeep i ch hki el];exact h2'
    ·refine ⟨w,u,s,?_,h2,h3⟩
     rw [Qa,Qm,if_neg (Ne.symm hkk),h1];rfl
   ·rw [e'] at e;cases e
 ·obtain ⟨y0,q1,q2⟩:=slv j y v h2 h3
  exact C.sl i j y0 v h1 q1 q2
 ·obtain ⟨y0,q1,q2⟩:=slv j y v h2 h3
  exact C.hdn j b hj y0 v q1 q2
end
end RM

namespace RM
open PySem PySem.Spec PyProof.Rows L2
inductive Mu where
 | add (kd:NK) (m:Nat)
 | set (j m:Nat)
noncomputable def HoOk(o:HO):NK→List V→Prop
 | .lst true,vs=>o=.lst vs
 | .dic true ks,vs=>ks.length=vs.length∧ks.Nodup∧o=.dK (ks.zip vs)
 | .dit true ks,vs=>ks.length=vs.length∧ks.Nodup∧o=.dT (ks.zip vs)
 | .ins true C ns,vs=>ns.length=vs.length∧∃ dx,o=.ins C dx (ns.zip vs)
 | _,_=>False
theorem HoOk.node{o:HO}{kd:NK}{vs:List V}{H:Hp}{a:Addr}(h:HoOk o kd vs):NodeOk (upd H a o) a kd vs∧kd.mut=true:=by
 cases kd with
 | tup=>exact h.elim
 | lst m=>cases m with
  | true=>cases h;exact ⟨Zx,rfl⟩
  | false=>exact h.elim
 | dic m ks=>cases m with
  | true=>obtain ⟨h1,h2,rfl⟩:=h;exact ⟨⟨h1,h2,Zx⟩,rfl⟩
  | false=>exact h.elim
 | dit m ks=>cases m with
  | true=>obtain ⟨h1,h2,rfl⟩:=h;exact ⟨⟨h1,h2,Zx⟩,rfl⟩
  | false=>exact h.elim
 | ins m C ns=>cases m with
  | true=>obtain ⟨h1,dx,rfl⟩:=h;exact ⟨⟨h1,dx,Zx⟩,rfl⟩
  | false=>exact h.elim
 | kst K=>exact h.elim
noncomputable def wr(s:Sd)(k:Nat)(p:List Nat)(n:D)(keep:Nat→Bool):Sd:=match s[k]? with
 | some (.own true d)=>(s.set k (.own true (D.put n p d))).map (Z1X k p keep)
 | _=>s
noncomputable def eMu(ri:Nat)(h:List D→Option Mu)(f:AF):EF:=fun s=>match f s with
 | .ok rs s1=>(match Z0i s1 rs,rs[ri]? with
  | some ds,some (.plc k p)=>(match s1[k]?,ds[ri]?,h ds with
   | some (.own true _),some (.nd kd l),some (.add kd' m)=>if kd.mut then (match rs[m]? with | some (.val x)=>.ok (.val (.at .non)) (wr s1 k p (.nd kd' (l++[x])) fun _=>true) | _=>.no) else .no
   | some (.own true _),some (.nd kd l),some (.set j m)=>if kd.mut∧j < l.length then (match rs[m]? with | some (.val x)=>.ok (.val (.at .non)) (wr s1 k p (.nd kd (l.set j x)) fun i=>i != j) | _=>.no) else .no
   | _,_,_=>.no)
  | _,_=>.no)
 | .ex C s1=>.ex C s1
 | .no=>.no
noncomputable def gMu(ri:Nat)(h:List D→Option Mu):List V→Hp→(Hp→Prop)→Prop:=fun vs H Q=>∃ l:List T,T.oks H l∧l.map T.val=vs∧∃ a kd ch op,l[ri]?=some (.nd a kd ch)∧kd.mut=true∧h (T.ers l)=some op∧match op with
 | .add kd' m=>∃ x,l[m]?=some x∧∀ o,HoOk o kd' (ch.map T.val++[x.val])→Q (upd H a o)
 | .set j m=>∃ x,l[m]?=some x∧j < ch.length∧∀ o,HoOk o kd ((ch.map T.val).set j x.val)→Q (upd H a o)
section
variable {R:RC}{ix:List Nat}{hd:List (Nat×Addr)}{X:Cx}{e:Expr}{H H':Hp}{σ:L2.St}{ts:Ts}{fr:List T}
theorem Z45(C:Cf R ix hd H σ ts fr):∀ {tvs:List TV} {vs:List V} {ds:List D},TvsOk ts vs tvs→T.oks H (trs tvs)→Z0i (ts.map TL.er) (tvs.map TV.er)=some ds →
  ∃ l:List T,T.ers l=ds∧l.map T.val=vs∧T.oks H l∧l.length=tvs.length∧∀ (m:Nat) tv t,tvs[m]?=some tv→l[m]?=some t→(tv=.val t∨∃ k p a w u,tv=.plc k p a∧ts[k]?=some (TL.own w u)∧u.get p=some t)
 | [],_,_,.nil,_,h=>by cases h;exact ⟨[],rfl,rfl,trivial,rfl,by simp⟩
 | tv::tvs,_,_,.cons hv hr,ho,h=>by
  simp only [Ql,Z0i] at h
  cases e1:Zq (ts.map TL.er) tv.er with
  | none=>simp [e1] at h
  | some d =>
   cases e2:Z0i (ts.map TL.er) (tvs.map TV.er) with
   | none=>simp [e1,e2] at h
   | some ds =>
    simp only [e1,e2,Option.some.injEq] at h
    subst h
    have ho':T.oks H (tv.tr++trs tvs):=ho
    obtain ⟨t,t1,t2,t3,t4⟩:=Z4K C hv (T.oks_app.mp ho').1 e1
    obtain ⟨l,l1,l2,l3,l4,l5⟩:=Z45 C hr (T.oks_app.mp ho').2 e2
    refine ⟨t::l,by rw [T.ers,t1,l1],by simp [t2,l2],⟨t3,l3⟩,by simp [l4],fun m y z h1 h2=>?_⟩
    cases m with
    | zero=>cases h1;cases h2;exact t4
    | succ m=>exact l5 m y z (by simpa using h1) (by simpa using h2)
theorem Z2A{k:Nat}{p:List Nat}{t s':T}{keep:Nat→Bool}(hk:ts[k]?=some (.own true t)):((ts.set k (.own true (T.put s' p t))).map (Zw k p keep)).map TL.er=wr (ts.map TL.er) k p s'.er keep:=by
 unfold wr
 rw [Qa,hk]
 show _=((ts.map TL.er).set k (.own true (D.put s'.er p t.er))).map (Z1X k p keep)
 rw [← T.put_er,show DL.own true (T.put s' p t).er=(TL.own true (T.put s' p t)).er from rfl,← Wb,Jp,Jp]
 exact Wk fun s _=>Zaa s
set_option maxHeartbeats 2000000 in
theorem lA_mu{ri:Nat}{h:List D→Option Mu}{f:AF}(σ:L2.St)(H:Hp)(Q:VK)(q:lE R ix (eMu ri h f) σ H Q):lA R ix f σ H fun vs H1=>gMu ri h vs H1 (Q .non):=by
 obtain ⟨hd,ts,fr,C,q⟩:=q
 refine ⟨hd,ts,fr,C,?_⟩
 unfold eMu at q
 cases ef:f (ts.map TL.er) with
 | no=>rw [ef] at q;exact q
 | ex E s1=>rw [ef] at q;exact q
 | ok rs s1 =>
  rw [ef] at q
  intro H1 ts1 tvs vs e1 e2 hv C1
  subst e1 e2
  dsimp only at q
  cases ed:Z0i (ts1.map TL.er) (tvs.map TV.er) with
  | none=>rw [ed] at q;exact q.elim
  | some ds =>
   rw [ed,Qa] at q
   obtain ⟨l,l1,l2,l3,l4,l5⟩:=Z45 C1 hv (T.oks_app.mp C1.fok).1 ed
   cases er:tvs[ri]? with
   | none=>rw [er] at q;exact q.elim
   | some tr =>
    rw [er] at q
    cases tr with
    | val t=>exact q.elim
    | plc k p a =>
     simp only [Option.map_some,TV.er,Qa] at q
     have hri:ri < l.length:=by rw [l4];exact (Qc.mp er).1
     obtain ⟨tn,hn⟩:∃ tn,l[ri]?=some tn:=⟨l[ri],Qj hri⟩
     have hnd:ds[ri]?=some tn.er:=by rw [← l1,T.ers_eq,Qa,hn];rfl
     rcases l5 ri _ tn er hn with z | ⟨k',p',a',w,u,z,hk,hp⟩
     ·cases z
     ·cases z
      rw [hk,hnd] at q
      simp only [Option.map_some,TL.er] at q
      cases w with
      | false=>exact q.elim
      | true =>
       cases tn with
       | «at» v=>exact q.elim
       | nd a2 kd ch =>
        simp only [T.er] at q
        have hkn:kd.mut=true∧True:=⟨by
         cases hm:kd.mut with
         | true=>rfl
         | false =>
          exfalso
          cases eh:h ds with
          | none=>rw [eh] at q;exact q
          | some op=>cases op with
           | add kd' m=>rw [eh] at q;dsimp only at q;rw [hm] at q;exact q
           | set j m =>
            rw [eh] at q
            dsimp only at q
            rw [hm] at q
            rw [if_neg (by rintro ⟨z,_⟩;cases z)] at q
            exact q,trivial⟩
        refine ⟨l,l3,l2,a2,kd,ch,?_⟩
        have ok:=T.oks_app.mp C1.fok
        have hok:(T.nd a2 kd ch).ok H1:=T.oks_iff.mp l3 _ (Qf hn)
        have ha2:a2∈Zd ts1:=by
         obtain ⟨c,r,K⟩:=T.ctx hp
         exact Z10.mpr ⟨u,Qf hk,K.own.mem_iff.mpr (Qg _ (by simp [T.own,hkn.1]))⟩
        have stay:∀ (o:HO) (y:T),y∈trs tvs++fr→y.ok (upd H1 a2 o):=fun o y hy=>T.keep (T.oks_iff.mp C1.fok y hy) fun b hb=>Zc (by
         rintro rfl
         rcases hb with hb | hb
         ·have:=(Qk.mp C1.nd).2.2 b ha2 b (T.mem_owns.mpr ⟨y,hy,hb⟩)
          exact this rfl
         ·exact (C1.sep b (.inr (T.mem_ros.mpr ⟨y,hy,hb⟩))).1 ha2)
        have kid:∀ (o:HO) (y:T),y∈ch→y.ok (upd H1 a2 o):=fun o y hy=>T.keep (T.oks_iff.mp hok.2 y hy) fun b hb=>Zc (by
         rintro rfl
         obtain ⟨c,r,K⟩:=T.ctx hp
         rcases hb with hb | hb
         ·have n1:=(Qk.mp C1.nd).1
          obtain ⟨x1,z1,o1,_⟩:=Z0Z (f:=TL.own1) hk
          unfold Zd at n1
          rw [o1] at n1
          have n2:=(Qk.mp ((Qk.mp n1).2.1)).1
          have n3:=(Qk.mp (K.own.nodup_iff.mp n2)).2.1
          simp only [T.own,hkn.1,if_true,Wl,Ji] at n3
          exact n3.1 (T.mem_owns.mpr ⟨y,hy,hb⟩)
         ·refine (C1.sep b (.inl (Z0W.mpr ⟨true,u,Qf hk,K.ro.mem_iff.mpr (Qg _ ?_)⟩))).1 ha2
          simp only [T.ro,hkn.1,if_true,Je]
          exact T.mem_ros.mpr ⟨y,hy,hb⟩)
        cases eh:h ds with
        | none=>rw [eh] at q;exact q.elim
        | some op =>
         rw [eh] at q
         have arg:∀ {m:Nat} {x:D} ,(tvs[m]?).map TV.er=some (.val x)→∃ t,tvs[m]?=some (.val t)∧l[m]?=some t∧t.er=x:=by
          intro m x hx
          cases em:tvs[m]? with
          | none=>rw [em] at hx;cases hx
          | some tv =>
           rw [em] at hx
           cases tv with
           | plc _ _ _=>cases hx
           | val t =>
            cases hx
            have hml:m < l.length:=by rw [l4];exact (Qc.mp em).1
            rcases l5 m _ _ em (Qj hml) with z | ⟨_,_,_,_,_,z,_⟩
            ·cases z;exact ⟨l[m],rfl,Qj hml,rfl⟩
            ·cases z
         cases op with
         | add kd' m =>
          simp only [hkn.1,if_true] at q
          cases em:(tvs[m]?).map TV.er with
          | none=>rw [em] at q;exact q.elim
          | some r =>
           rw [em] at q
           cases r with
           | plc _ _=>exact q.elim
           | val x =>
            obtain ⟨t,t1,t2,rfl⟩:=arg em
            refine ⟨.add kd' m,hn,hkn.1,by rw [l1];exact eh,t,t2,fun o ho=>?_⟩
            obtain ⟨n1,n2⟩:=HoOk.node (H:=H1) (a:=a2) ho
            obtain ⟨x,p1,p2,p3⟩:=Z4v t1
            have W:=Cf.write (kd':=kd') (l':=ch++[t]) (fr':=fr) (x:=x) (o:=o) (keep:=fun _=>true) C1 hk hp hkn.1 n2
             ⟨by simpa using n1,T.oks_app.mpr ⟨T.oks_iff.mpr (kid o),stay o t (Qh _ (p3 t (by simp [TV.tr]))),trivial⟩⟩ (T.oks_iff.mpr fun y hy=>stay o y (Qg _ hy))
             (by
              rw [T.owns_app,T.owns_app]
              refine Qx.mpr fun b=>?_
              have:=Qx.mp p1 b
              simp only [TV.tr,T.owns,Jj,Gb] at this ⊢
              omega)
             (fun b hb=>by
              rw [T.ros_app] at hb ⊢
              rcases hb with hb | hb
              ·rcases Qe.mp hb with hb | hb
               ·exact .inl hb
               ·exact .inr (.inl (Qh _ (p2 b (by simpa [TV.tr] using hb))))
              ·exact .inr (.inl (Qg _ hb)))
             (fun i c _ hc=>by rw [Qo (Qc.mp hc).1];exact hc)
            refine q _ _ (.val (.at .non)) .non ?_ rfl rfl (W.at .non)
            rw [Z2A hk]
            simp only [T.er,T.ers_eq,Qt,Ql,Wo]
         | set j m =>
          simp only [hkn.1,true_and] at q
          by_cases hj:j < (T.ers ch).length
          case neg=>rw [if_neg hj] at q;exact q.elim
          rw [if_pos hj] at q
          have hj:j < ch.length:=by simpa [T.ers_eq] using hj
          cases em:(tvs[m]?).map TV.er with
          | none=>rw [em] at q;exact q.elim
          | some r =>
           rw [em] at q
           cases r with
           | plc _ _=>exact q.elim
           | val x =>
            obtain ⟨t,t1,t2,rfl⟩:=arg em
            refine ⟨.set j m,hn,hkn.1,by rw [l1];exact eh,t,t2,hj,fun o ho=>?_⟩
            obtain ⟨n1,n2⟩:=HoOk.node (H:=H1) (a:=a2) ho
            obtain ⟨x,p1,p2,p3⟩:=Z4v t1
            obtain ⟨x0,y0,c1,c2⟩:=T.owns_get (Qj hj)
            have W:=Cf.write (kd':=kd) (l':=ch.set j t) (fr':=fr) (x:=ch[j].own++x) (o:=o) (keep:=fun i=>i != j) C1 hk hp hkn.1 n2
             ⟨by rw [Wb];exact n1,T.oks_iff.mpr fun y hy=>by
              rcases Nq hy with hy | rfl
              ·exact kid o y hy
              ·exact stay o _ (Qh _ (p3 _ (by simp [TV.tr])))⟩ (T.oks_iff.mpr fun y hy=>stay o y (Qg _ hy))
             (by
              rw [T.owns_app,c1,c2]
              refine Qx.mpr fun b=>?_
              have:=Qx.mp p1 b
              simp only [TV.tr,T.owns,Jj,Gb] at this ⊢
              omega)
             (fun b hb=>by
              rw [T.ros_app]
              rcases hb with hb | hb
              ·obtain ⟨y,hy,hb2⟩:=T.mem_ros.mp hb
               rcases Nq hy with hy | hy
               ·exact .inl (T.mem_ros.mpr ⟨y,hy,hb2⟩)
               ·rw [hy] at hb2
                exact .inr (.inl (Qh _ (p2 b (by simpa [TV.tr,T.ros] using hb2))))
              ·exact .inr (.inl (Qg _ hb)))
             (fun i c hi hc=>by
              have:j≠i:=by rintro rfl;simp at hi
              rw [Qm,if_neg this];exact hc)
            refine q _ _ (.val (.at .non)) .non ?_ rfl rfl (W.at .non)
            rw [Z2A hk]
            simp only [T.er,T.ers_eq,Wb]
end
end RM

namespace RM
open PySem PySem.Spec PyProof.Rows L2
noncomputable def Zz(j:Nat):DL→DL
 | .bor k q=>if k=j then .non else .bor k q
 | s=>s
noncomputable def Zh(j:Nat):TL→TL
 | .bor k q a=>if k=j then .non else .bor k q a
 | s=>s
theorem Z2E{j:Nat}(s:TL):(Zh j s).er=Zz j s.er:=by
 cases s with
 | bor k q a =>
  show (if k=j then TL.non else _).er=if k=j then DL.non else _
  split <;> rfl
 | _=>rfl
theorem Z09{j:Nat}(s:TL):(Zh j s=s∧∀ q a,s≠.bor j q a)∨(Zh j s=.non∧∃ q a,s=.bor j q a):=by
 cases s with
 | bor k q a =>
  by_cases h:k=j
  ·subst h;exact .inr ⟨if_pos rfl,q,a,rfl⟩
  ·exact .inl ⟨if_neg h,fun q' a' z=>h (by cases z;rfl)⟩
 | non=>exact .inl ⟨rfl,fun _ _ z=>by cases z⟩
 | own w t=>exact .inl ⟨rfl,fun _ _ z=>by cases z⟩
theorem Z2d{α:Type}{f:TL→List α}{j:Nat}(hb:∀ k q a,f (.bor k q a)=f .non)(ts:Ts):(ts.map (Zh j)).flatMap f=ts.flatMap f:=by
 induction ts with
 | nil=>rfl
 | cons t r ih =>
  simp only [Ql,Wc,ih]
  rcases Z09 (j:=j) t with ⟨e,_⟩ | ⟨e,q,a,rfl⟩
  ·rw [e]
  ·rw [e,hb]
noncomputable def Z5(j:Nat)(s:Sd):DV→Option Sd
 | .val d=>some ((s.map (Zz j)).set j (.own true d))
 | .plc k p=>if k=j then (if p=[] then some s else none) else some ((s.map (Zz j)).set j (.bor k p))
section
variable {R:RC}{ix:List Nat}{hd:List (Nat×Addr)}{X:Cx}{e:Expr}{H H':Hp}{σ:L2.St}{ts:Ts}{fr:List T}
theorem Cf.slot{i j:Nat}{y:TL}{m:List T}{v:V}(C:Cf R ix hd H σ ts (m++fr))(hix:ix[i]?=some j)(hnd:ix.Nodup)(hv:y.v=some v)(hm:(∃ t,y=.own true t∧m=[t])∨(m=[]∧∃ k p a,y=.bor k p a∧k≠j∧PlOk ts k p a)) :
  Cf R ix hd H (σ.set i (some v)) ((ts.map (Zh j)).set j y) fr:=by
 have hj:j < ts.length:=C.ixs j (Qf hix)
 obtain ⟨y0,hy0⟩:∃ y0,ts[j]?=some y0:=⟨ts[j],Qj hj⟩
 have hy0':(ts.map (Zh j))[j]?=some (Zh j y0):=by rw [Qa,hy0];rfl
 obtain ⟨x1,z1,o1,o2⟩:=Z0Z (f:=TL.own1) hy0'
 obtain ⟨x2,z2,r1,r2⟩:=Z0Z (f:=TL.ro1) hy0'
 obtain ⟨x3,z3,d1,d2⟩:=Z0Z (f:=TL.rd1) hy0'
 rw [Z2d (by intros;rfl)] at o1 r1 d1
 have e1:(Zh j y0).own1=y0.own1∧(Zh j y0).ro1=y0.ro1∧(Zh j y0).rd1=y0.rd1:=by
  rcases Z09 (j:=j) y0 with ⟨e,_⟩ | ⟨e,q,a,rfl⟩ <;> rw [e] <;> exact ⟨rfl,rfl,rfl⟩
 rw [e1.1] at o1;rw [e1.2.1] at r1;rw [e1.2.2] at d1
 have fO:Zd ts=x1++(y0.own1++z1):=o1
 have fR:roS ts=x2++(y0.ro1++z2):=r1
 have fD:rdS ts=x3++(y0.rd1++z3):=d1
 have gO:Zd ((ts.map (Zh j)).set j y)=x1++(y.own1++z1):=o2 y
 have gR:roS ((ts.map (Zh j)).set j y)=x2++(y.ro1++z2):=r2 y
 have gD:rdS ((ts.map (Zh j)).set j y)=x3++(y.rd1++z3):=d2 y
 have yo:y.own1=T.owns m:=by
  rcases hm with ⟨t,rfl,rfl⟩ | ⟨rfl,k,p,a,rfl,_⟩
  ·simp [TL.own1,T.owns]
  ·rfl
 have yr:y.ro1=T.ros m:=by
  rcases hm with ⟨t,rfl,rfl⟩ | ⟨rfl,k,p,a,rfl,_⟩
  ·simp [TL.ro1,T.ros]
  ·rfl
 have yd:y.rd1=[]:=by
  rcases hm with ⟨t,rfl,rfl⟩ | ⟨rfl,k,p,a,rfl,_⟩ <;> rfl
 have pm:(Zd ts++T.owns (m++fr)).Perm ((x1++(y.own1++z1)++T.owns fr)++y0.own1):=by
  rw [fO,T.owns_app,yo]
  refine Qx.mpr fun b=>?_
  simp only [Jj];omega
 have nd2:=Qk.mp (pm.nodup_iff.mp C.nd)
 have sub1:∀ b,b∈x1++(y.own1++z1)∨b∈T.owns fr→b∈Zd ts∨b∈T.owns (m++fr):=fun b z=>Qe.mp (pm.mem_iff.mpr (Qh _ (by
  rcases z with z | z
  ·exact Qh _ z
  ·exact Qg _ z)))
 have slot:∀ (j':Nat) (s:TL),((ts.map (Zh j)).set j y)[j']?=some s→(j'=j∧s=y)∨(j'≠j∧∃ s0,ts[j']?=some s0∧s=Zh j s0):=by
  intro j' s hs
  rw [Qm] at hs
  by_cases h:j=j'
  ·subst h
   rw [if_pos rfl,if_pos (by simpa using hj)] at hs
   cases hs;exact .inl ⟨rfl,rfl⟩
  ·rw [if_neg h,Qa] at hs
   cases e:ts[j']? with
   | none=>rw [e] at hs;cases hs
   | some s0=>rw [e] at hs;cases hs;exact .inr ⟨Ne.symm h,s0,rfl,rfl⟩
 have plk:∀ {k:Nat} {p:List Nat} {a:Addr},k≠j→PlOk ts k p a→PlOk ((ts.map (Zh j)).set j y) k p a:=by
  rintro k p a hk ⟨w,u,s,h1,h2,h3⟩
  exact ⟨w,u,s,by rw [Qm,if_neg (Ne.symm hk),Qa,h1];rfl,h2,h3⟩
 have lenS:((ts.map (Zh j)).set j y).length=ts.length:=by simp
 have hi:i < σ.length:=Jc (Qc.mp hix).1 C.len
 refine ⟨fun w u hu=>?_,(T.oks_app.mp C.fok).2,by rw [gO];exact nd2.1,fun b z=>?_,fun b z=>?_,fun b z=>?_,C.bg,fun j' k q b hj'=>?_,fun j' hj'=>by rw [lenS];exact C.ixs j' hj',fun i' j' s u h1 h2 h3=>?_,fun j' b hb=>by rw [lenS];exact C.hdi j' b hb,C.hdx,by rw [Gk];exact C.len,fun j' b hb s u h2 h3=>?_⟩
 ·obtain ⟨j',hj'⟩:=Jd.mp hu
  rcases slot j' _ hj' with ⟨rfl,e⟩ | ⟨_,s0,h0,e⟩
  ·rcases hm with ⟨t,rfl,rfl⟩ | ⟨rfl,k,p,a,rfl,_⟩
   ·cases e;exact (T.oks_app.mp C.fok).1.1
   ·cases e
  ·rcases Z09 (j:=j) s0 with ⟨e',_⟩ | ⟨e',_⟩
   ·rw [e'] at e;subst e;exact C.ok w u (Qf h0)
   ·rw [e'] at e;cases e
 ·have old:b∈roS ts∨b∈T.ros (m++fr)→b∉x1++(y.own1++z1)∧b∉T.owns fr∧¬ R.B b:=fun z=>by
   obtain ⟨h1,h2,h3⟩:=C.sep b z
   exact ⟨fun q=>(sub1 b (.inl q)).elim h1 h2,fun q=>(sub1 b (.inr q)).elim h1 h2,h3⟩
  rw [gO]
  rw [gR] at z
  rcases z with z | z
  ·rw [yr] at z
   simp only [Qe] at z
   rcases z with z | z | z
   ·exact old (.inl (by rw [fR];simp [z]))
   ·exact old (.inr (by rw [T.ros_app];simp [z]))
   ·exact old (.inl (by rw [fR];simp [z]))
  ·exact old (.inr (by rw [T.ros_app];simp [z]))
 ·rw [gO]
  rw [gD,yd] at z
  have z':b∈rdS ts:=by
   rw [fD]
   simp only [Je,Qe] at z ⊢
   rcases z with z | z <;> simp [z]
  obtain ⟨h1,h2⟩:=C.rd b z'
  exact ⟨fun q=>(sub1 b (.inl q)).elim h1 h2,fun q=>(sub1 b (.inr q)).elim h1 h2⟩
 ·rw [gO]
  obtain ⟨g1,g2,g3,g4⟩:=C.g b z
  exact ⟨g1,g2,fun q=>(sub1 b (.inl q)).elim g3 g4,fun q=>(sub1 b (.inr q)).elim g3 g4⟩
 ·rcases slot j' _ hj' with ⟨rfl,e⟩ | ⟨_,s0,h0,e⟩
  ·rcases hm with ⟨t,rfl,rfl⟩ | ⟨rfl,k',p',a',rfl,hk,hp⟩
   ·cases e
   ·cases e;exact plk hk hp
  ·rcases Z09 (j:=j) s0 with ⟨e',hne⟩ | ⟨e',_⟩
   ·rw [e'] at e
    subst e
    exact plk (fun z=>hne q b (by rw [z])) (C.bor j' k q b h0)
   ·rw [e'] at e;cases e
 ·rcases slot j' _ h2 with ⟨rfl,rfl⟩ | ⟨hne,s0,h0,rfl⟩
  ·have:i'=i:=by
    have a1:=(Qc.mp h1)
    have a2:=(Qc.mp hix)
    exact (Wr hnd).mp (a1.2.trans a2.2.symm)
   subst this
   rw [hv] at h3
   cases h3
   rw [Qm,if_pos rfl,if_pos hi]
  ·have hii:i≠i':=by rintro rfl;rw [hix] at h1;cases h1;exact hne rfl
   rw [Qm,if_neg hii]
   refine C.sl i' j' s0 u h1 h0 ?_
   rcases Z09 (j:=j) s0 with ⟨e',_⟩ | ⟨e',_⟩
   ·rwa [e'] at h3
   ·rw [e'] at h3;cases h3
 ·have hne:j'≠j:=by rintro rfl;exact C.hdx j' b hb (Qf hix)
  rcases slot j' _ h2 with ⟨rfl,rfl⟩ | ⟨_,s0,h0,rfl⟩
  ·exact absurd rfl hne
  ·refine C.hdn j' b hb s0 u h0 ?_
   rcases Z09 (j:=j) s0 with ⟨e',_⟩ | ⟨e',_⟩
   ·rwa [e'] at h3
   ·rw [e'] at h3;cases h3
noncomputable def lG(R:RC)(ix:List Nat)(b:Sd→DV→Option Sd):TG:=fun v σ H Q=>∃ hd ts fr tv,Cf R ix hd H σ ts (tv.tr++fr)∧Z0D ts v tv∧∃ s',b (ts.map TL.er) tv.er=some s'∧∀ σ' ts',ts'.map TL.er=s'→Cf R ix hd H σ' ts' fr→Q σ' H
theorem Z7I{i j:Nat}(hix:ix[i]?=some j)(hnd:ix.Nodup)(v:V)(σ:L2.St)(H:Hp)(Q:L2.St→Hp→Prop)(h:lG R ix (Z5 j) v σ H Q):Z1j i v σ H Q:=by
 obtain ⟨hd,ts,fr,tv,C,hv,s',hs,q⟩:=h
 have er1:∀ y:TL,((ts.map (Zh j)).set j y).map TL.er=((ts.map TL.er).map (Zz j)).set j y.er:=fun y=>by
  rw [Wb,Jp,Jp]
  exact congrArg (fun l=>List.set l j y.er) (Wk fun s _=>Z2E s)
 cases tv with
 | val t =>
  cases hv
  cases hs
  exact q _ _ (er1 (.own true t)) (Cf.slot (y:=.own true t) C hix hnd rfl (.inl ⟨t,rfl,rfl⟩))
 | plc k p a =>
  obtain ⟨rfl,hp⟩:=hv
  simp only [TV.er,Z5] at hs
  by_cases hk:k=j
  ·subst hk
   rw [if_pos rfl] at hs
   by_cases hp0:p=[]
   ·subst hp0
    rw [if_pos rfl] at hs
    cases hs
    have:σ.set i (some (.ref a))=σ:=by
     obtain ⟨w,t,s,h1,h2,h3⟩:=hp
     cases h2
     have h4:=C.sl i k _ _ hix h1 rfl
     rw [h3] at h4
     refine Ju fun n=>?_
     rw [Qm]
     by_cases hn:i=n
     ·subst hn
      rw [if_pos rfl,if_pos (Qc.mp h4).1,h4]
     ·rw [if_neg hn]
    show Q (σ.set i (some (.ref a))) H
    rw [this]
    exact q σ ts rfl C
   ·rw [if_neg hp0] at hs;cases hs
  ·rw [if_neg hk] at hs
   cases hs
   exact q _ _ (er1 (.bor k p a)) (Cf.slot (y:=.bor k p a) (m:=[]) C hix hnd rfl (.inr ⟨rfl,k,p,a,rfl,hk,hp⟩))
end
end RM

namespace RM
open PySem PySem.Spec PyProof.Rows L2
noncomputable def bV(f:EF):BF:=fun s=>match f s with
 | .ok (.val (.at (.bl b))) s1=>.ok b s1
 | .ok _ _=>.no
 | .ex C s1=>.ex C s1
 | .no=>.no
noncomputable def bNot(f:BF):BF:=fun s=>match f s with
 | .ok b s1=>.ok (!b) s1
 | r=>r
noncomputable def bAnd(f g:BF):BF:=fun s=>match f s with
 | .ok true s1=>g s1
 | r=>r
noncomputable def bOr(f g:BF):BF:=fun s=>match f s with
 | .ok false s1=>g s1
 | r=>r
noncomputable def Zj(f g:SF):SF:=fun s=>match f s with
 | .nx s1=>g s1
 | r=>r
noncomputable def sIf(c:BF)(a b:SF):SF:=fun s=>match c s with
 | .ok true s1=>a s1
 | .ok false s1=>b s1
 | .ex C s1=>.ex C s1
 | .no=>.no
noncomputable def sE(f:EF):SF:=fun s=>match f s with
 | .ok _ s1=>.nx s1
 | .ex C s1=>.ex C s1
 | .no=>.no
noncomputable def Z00(f:EF):SF:=fun s=>match f s with
 | .ok r s1=>.rt r s1
 | .ex C s1=>.ex C s1
 | .no=>.no
noncomputable def sRetN:SF:=fun s=>.rt (.val (.at .non)) s
noncomputable def ZV:SF:=fun s=>.nx s
noncomputable def sBrk:SF:=fun s=>.bk s
noncomputable def sCt:SF:=fun s=>.ct s
noncomputable def Zn(f:EF)(b:Sd→DV→Option Sd):SF:=fun s=>match f s with
 | .ok r s1=>(match b s1 r with | some s2=>.nx s2 | none=>.no)
 | .ex C s1=>.ex C s1
 | .no=>.no
noncomputable def eIf(c:BF)(a b:EF):EF:=fun s=>match c s with
 | .ok true s1=>a s1
 | .ok false s1=>b s1
 | .ex C s1=>.ex C s1
 | .no=>.no
section
variable {R:RC}{ix:List Nat}{hd:List (Nat×Addr)}{X:Cx}{e:Expr}{H H':Hp}{σ:L2.St}{ts:Ts}{fr:List T}
theorem lT_v{f:EF}(σ:L2.St)(H:Hp)(Q:Bool→Hp→Prop)(h:lT R ix (bV f) σ H Q):lE R ix f σ H fun x H1=>∃ c,x=.bl c∧Q c H1:=by
 obtain ⟨hd,ts,fr,C,h⟩:=h
 refine ⟨hd,ts,fr,C,?_⟩
 unfold bV at h
 cases ef:f (ts.map TL.er) with
 | no=>rw [ef] at h;exact h
 | ex E s1=>rw [ef] at h;exact h
 | ok r s1 =>
  rw [ef] at h
  intro H1 ts1 tv v e1 e2 hv C1
  cases r with
  | plc k p=>exact h.elim
  | val d =>
   obtain ⟨t,rfl,rfl,rfl⟩:=hv.er_val e2
   cases t with
   | nd a k l=>exact h.elim
   | «at» v =>
    cases v with
    | bl b=>exact ⟨b,rfl,h H1 ts1 e1 C1.drop⟩
    | _=>exact h.elim
theorem Zbo{f:BF}(σ:L2.St)(H:Hp)(Q:Bool→Hp→Prop)(h:lT R ix (bNot f) σ H Q):tNot (lT R ix f) σ H Q:=by
 obtain ⟨hd,ts,fr,C,h⟩:=h
 refine ⟨hd,ts,fr,C,?_⟩
 unfold bNot at h
 cases ef:f (ts.map TL.er) with
 | no=>rw [ef] at h;exact h
 | ex E s1=>rw [ef] at h;exact h
 | ok r s1=>rw [ef] at h;exact h
theorem Zbn{f g:BF}(σ:L2.St)(H:Hp)(Q:Bool→Hp→Prop)(h:lT R ix (bAnd f g) σ H Q):tAnd (lT R ix f) (lT R ix g) σ H Q:=by
 obtain ⟨hd,ts,fr,C,h⟩:=h
 refine ⟨hd,ts,fr,C,?_⟩
 unfold bAnd at h
 cases ef:f (ts.map TL.er) with
 | no=>rw [ef] at h;exact h
 | ex E s1=>rw [ef] at h;exact h
 | ok r s1 =>
  rw [ef] at h
  intro H1 ts1 e1 C1
  cases r with
  | true=>subst e1;rw [if_pos rfl];exact ⟨hd,ts1,fr,C1,h⟩
  | false=>rw [if_neg Qp];exact h H1 ts1 e1 C1
theorem lT_or{f g:BF}(σ:L2.St)(H:Hp)(Q:Bool→Hp→Prop)(h:lT R ix (bOr f g) σ H Q):tOr (lT R ix f) (lT R ix g) σ H Q:=by
 obtain ⟨hd,ts,fr,C,h⟩:=h
 refine ⟨hd,ts,fr,C,?_⟩
 unfold bOr at h
 cases ef:f (ts.map TL.er) with
 | no=>rw [ef] at h;exact h
 | ex E s1=>rw [ef] at h;exact h
 | ok r s1 =>
  rw [ef] at h
  intro H1 ts1 e1 C1
  cases r with
  | true=>rw [if_pos rfl];exact h H1 ts1 e1 C1
  | false=>subst e1;rw [if_neg Qp];exact ⟨hd,ts1,fr,C1,h⟩
theorem Zbm{f g:SF}(D:Ends)(σ:L2.St)(H:Hp)(h:lS R ix (Zj f g) D σ H):tSeq (lS R ix f) (lS R ix g) D σ H:=by
 obtain ⟨hd,ts,fr,C,h⟩:=h
 refine ⟨hd,ts,fr,C,?_⟩
 unfold Zj at h
 cases ef:f (ts.map TL.er) with
 | nx s1 =>
  rw [ef] at h
  intro H1 σ1 ts1 e1 C1
  subst e1
  exact ⟨hd,ts1,fr,C1,h⟩
 | no=>rw [ef] at h;exact h
 | ex E s1=>rw [ef] at h;exact h
 | rt r s1=>rw [ef] at h;exact h
 | bk s1=>rw [ef] at h;exact h
 | ct s1=>rw [ef] at h;exact h
theorem lS_if{c:BF}{f g:SF}(D:Ends)(σ:L2.St)(H:Hp)(h:lS R ix (sIf c f g) D σ H):tIfS (lT R ix c) (lS R ix f) (lS R ix g) D σ H:=by
 obtain ⟨hd,ts,fr,C,h⟩:=h
 refine ⟨hd,ts,fr,C,?_⟩
 unfold sIf at h
 cases ef:c (ts.map TL.er) with
 | no=>rw [ef] at h;exact h
 | ex E s1=>rw [ef] at h;intro H1 ts1 e1 C1;exact h H1 σ ts1 e1 C1
 | ok r s1 =>
  rw [ef] at h
  intro H1 ts1 e1 C1
  subst e1
  cases r with
  | true=>rw [if_pos rfl];exact ⟨hd,ts1,fr,C1,h⟩
  | false=>rw [if_neg Qp];exact ⟨hd,ts1,fr,C1,h⟩
theorem lS_e{f:EF}(D:Ends)(σ:L2.St)(H:Hp)(h:lS R ix (sE f) D σ H):tDrop (lE R ix f) D σ H:=by
 obtain ⟨hd,ts,fr,C,h⟩:=h
 refine ⟨hd,ts,fr,C,?_⟩
 unfold sE at h
 cases ef:f (ts.map TL.er) with
 | no=>rw [ef] at h;exact h
 | ex E s1=>rw [ef] at h;intro H1 ts1 e1 C1;exact h H1 σ ts1 e1 C1
 | ok r s1=>rw [ef] at h;intro H1 ts1 tv v e1 e2 hv C1;exact h H1 σ ts1 e1 C1.drops
theorem Zbl{f:EF}(D:Ends)(σ:L2.St)(H:Hp)(h:lS R ix (Z00 f) D σ H):tRet (lE R ix f) D σ H:=by
 obtain ⟨hd,ts,fr,C,h⟩:=h
 refine ⟨hd,ts,fr,C,?_⟩
 unfold Z00 at h
 cases ef:f (ts.map TL.er) with
 | no=>rw [ef] at h;exact h
 | ex E s1=>rw [ef] at h;intro H1 ts1 e1 C1;exact h H1 σ ts1 e1 C1
 | ok r s1=>rw [ef] at h;intro H1 ts1 tv v e1 e2 hv C1;exact h H1 σ ts1 tv v e1 e2 hv C1
theorem Zah(D:Ends)(σ:L2.St)(H:Hp)(h:lS R ix ZV D σ H):tNext D σ H:=by
 obtain ⟨hd,ts,fr,C,h⟩:=h
 exact h H σ ts rfl C
theorem Z8P{f:EF}{b:Sd→DV→Option Sd}(D:Ends)(σ:L2.St)(H:Hp)(h:lS R ix (Zn f b) D σ H):tAsg (lE R ix f) (lG R ix b) D σ H:=by
 obtain ⟨hd,ts,fr,C,h⟩:=h
 refine ⟨hd,ts,fr,C,?_⟩
 unfold Zn at h
 cases ef:f (ts.map TL.er) with
 | no=>rw [ef] at h;exact h
 | ex E s1=>rw [ef] at h;intro H1 ts1 e1 C1;exact h H1 σ ts1 e1 C1
 | ok r s1 =>
  rw [ef] at h
  intro H1 ts1 tv v e1 e2 hv C1
  subst e1 e2
  refine ⟨hd,ts1,fr,tv,C1,hv,?_⟩
  dsimp only at h
  cases eb:b (ts1.map TL.er) tv.er with
  | none=>rw [eb] at h;exact h.elim
  | some s2=>rw [eb] at h;exact ⟨s2,rfl,fun σ' ts' e C'=>h H1 σ' ts' e C'⟩
end
section
variable {R:RC}{ix:List Nat}{X:Cx}{e a b c:Expr}{st:Stmt}{sts as bs:List Stmt}{pos:Pos}{f g:SF}{fe fa fb:EF}{fc fd:BF}
theorem Z0b:PSs X [] (lS R ix ZV):=pssM Z3s Zah
theorem Z7(h1:PS X st (lS R ix f))(h2:PSs X sts (lS R ix g)):PSs X (st::sts) (lS R ix (Zj f g)):=pssM (Z2Z h1 h2) Zbm
theorem Zb(h1:PS X st (lS R ix f)):PSs X [st] (lS R ix f):=Z2N h1
theorem Z0z(hc:PT X c (lT R ix fc))(ha:PSs X as (lS R ix f))(hb:PSs X bs (lS R ix g)):PS X (.If c as bs pos) (lS R ix (sIf fc f g)):=psM (ps_if hc ha hb) lS_if
theorem rs_e(he:PE X e (lE R ix fe))(hs:swapsWith e none pos.line X.env=pure false:=by rfl):PS X (.Expr e pos) (lS R ix (sE fe)):=psM (Z7M he hs) lS_e
theorem ZZ(he:PE X e (lE R ix fe)):PS X (.Return (some e) pos) (lS R ix (Z00 fe)):=psM (Z3r he) Zbl
theorem Zg{i j:Nat}{x:Str}(hN:X.N.Nodup)(hi:X.N[i]?=some x)(hx:Loc X.env.scope x)(hix:ix[i]?=some j)(hnd:ix.Nodup)(hf:X.fn x=true∨X.env.scope.names.lookup x=some .local:=by first | exact .inl rfl | exact .inr rfl | assumption):PG X (.Name x pos) (lG R ix (Z5 j)):=by
 intro pins s σ H v u Q I r h
 exact Z27 hN hi hx hf pins s σ H v u Q I r (Z7I hix hnd v σ H Q h)
theorem ZS{tg:Expr}{bd:Sd→DV→Option Sd}(he:PE X e (lE R ix fe))(hg:PG X tg (lG R ix bd))(hs:swapsWithSole [tg] e pos.line X.env=pure false:=by rfl)(hw:swappedStores [tg] e X.env=pure none:=by rfl)(h1:(assignEach [tg] X.env).map (·.2)=[assign tg X.env]:=by rfl):PS X (.Assign [tg] e pos) (lS R ix (Zn fe bd)) :=
 psM (Z95 he hg hs hw h1) Z8P
theorem rt_v(h:PE X e (lE R ix fe))(he:∀ whole,isTrue e X.env whole=(do let v ← whole;standAt e.pos;holding [v] (truthy v)):=by intro _;rfl):PT X e (lT R ix (bV fe)):=ptM (Z96 h he) lT_v
theorem Z4X(h:PT X a (lT R ix fc)):PT X (.UnaryOp .Not a pos) (lT R ix (bNot fc)):=ptM (ZbI h) Zbo
theorem Z3x(h:PT X a (lT R ix fc)):PW X (.BoolOp .And [a] pos) (lT R ix fc):=Zav h
theorem Z4i(h:PT X a (lT R ix fc)):PW X (.BoolOp .Or [a] pos) (lT R ix fc):=Z4V h
theorem Z4h{rest:List Expr}(ha:PT X a (lT R ix fc))(hb:PW X (.BoolOp .And (b::rest) pos) (lT R ix fd)):PW X (.BoolOp .And (a::b::rest) pos) (lT R ix (bAnd fc fd)) :=
 fun whole pins s σ H Q I q=>ZbK ha hb whole pins s σ H Q I (Zbn σ H Q q)
theorem rw_or{rest:List Expr}(ha:PT X a (lT R ix fc))(hb:PW X (.BoolOp .Or (b::rest) pos) (lT R ix fd)):PW X (.BoolOp .Or (a::b::rest) pos) (lT R ix (bOr fc fd)) :=
 fun whole pins s σ H Q I q=>pw_or ha hb whole pins s σ H Q I (lT_or σ H Q q)
end
end RM

namespace RM
open PySem PySem.Spec PyProof.Rows L2
noncomputable def Ze(it:Nat→Sd→Option (Option DV))(b:Sd→DV→Option Sd)(body:SF):Nat→Nat→Sd→SR
 | 0,_,_=>.no
 | m + 1,i,s=>match it i s with
  | none=>.no
  | some none=>.nx s
  | some (some r)=>match b s r with
   | none=>.no
   | some s1=>match body s1 with
    | .nx s2=>Ze it b body m (i + 1) s2
    | .ct s2=>Ze it b body m (i + 1) s2
    | .bk s2=>.nx s2
    | .rt r s2=>.rt r s2
    | .ex C s2=>.ex C s2
    | .no=>.no
noncomputable def Z1o(n:Nat)(s:Sd):Option Sd:=if s.length=n + 1 then some (s.map (Zz n)).dropLast else none
noncomputable def fin(n:Nat):SR→SR
 | .nx s=>(match Z1o n s with | some s'=>.nx s' | none=>.no)
 | .rt (.val d) s=>(match Z1o n s with | some s'=>.rt (.val d) s' | none=>.no)
 | .rt (.plc k p) s=>if k=n then .no else (match Z1o n s with | some s'=>.rt (.plc k p) s' | none=>.no)
 | .ex C s=>(match Z1o n s with | some s'=>.ex C s' | none=>.no)
 | _=>.no
noncomputable def held(n k:Nat)(p:List Nat)(s:Sd):Bool:=match s[n]? with
 | some (.bor k' p')=>decide (k'=k) && decide (p'=p)
 | some (.own _ _)=>decide (k=n) && decide (p=[])
 | _=>false
noncomputable def itP(isT:Bool)(n k:Nat)(p:List Nat)(i:Nat)(s:Sd):Option (Option DV):=if held n k p s then (match Zq s (.plc k p),isT with
  | some (.nd (.lst _) l),false=>some ((l[i]?).map (mkV k (p++[i])))
  | some (.nd .tup l),true=>some ((l[i]?).map (mkV k (p++[i])))
  | _,_=>none) else none
noncomputable def Z1K:Option D→Option (Bool×Nat)
 | some (.nd (.lst _) l)=>some (false,l.length)
 | some (.nd .tup l)=>some (true,l.length)
 | _=>none
noncomputable def Z1y(f:EF)(b:Sd→DV→Option Sd)(body:SF):SF:=fun s=>match f s with
 | .ok (.plc k p) s1=>(match Z1K (Zq s1 (.plc k p)) with
  | some (t,m)=>fin s1.length (Ze (itP t s1.length k p) b body (m + 1) 0 (s1++[.bor k p]))
  | none=>.no)
 | .ok (.val d) s1=>(match Z1K (some d) with
  | some (t,m)=>fin s1.length (Ze (itP t s1.length s1.length []) b body (m + 1) 0 (s1++[.own true d]))
  | none=>.no)
 | .ex C s1=>.ex C s1
 | .no=>.no
noncomputable def itR(lo:Int)(n:Nat)(i:Nat)(_:Sd):Option (Option DV):=some (if i < n then some (.val (.at (.int (lo + i)))) else none)
noncomputable def Z1e(f:AF)(b:Sd→DV→Option Sd)(body:SF):SF:=fun s=>match f s with
 | .ok [.val (.at (.int j))] s1=>if -(2 ^ 62)≤j∧j < 2 ^ 62 then Ze (itR 0 j.toNat) b body (j.toNat + 1) 0 s1 else .no
 | .ok [.val (.at (.int i)),.val (.at (.int j))] s1=>if -(2 ^ 62)≤i∧i < 2 ^ 62∧-(2 ^ 62)≤j∧j < 2 ^ 62 then Ze (itR i (j - i).toNat) b body ((j - i).toNat + 1) 0 s1 else .no
 | .ok _ _=>.no
 | .ex C s1=>.ex C s1
 | .no=>.no
theorem map1{α β:Type}{f:α→β}{l:List α}{b:β}(h:l.map f=[b]):∃ a,l=[a]∧f a=b:=by
 cases l with
 | nil=>cases h
 | cons x r=>cases r with
  | nil=>simp at h;exact ⟨x,rfl,h⟩
  | cons y r=>simp at h
theorem map2{α β:Type}{f:α→β}{l:List α}{b c:β}(h:l.map f=[b,c]):∃ x y,l=[x,y]∧f x=b∧f y=c:=by
 cases l with
 | nil=>cases h
 | cons x r =>
  simp only [Ql,Wf.injEq] at h
  obtain ⟨y,rfl,h2⟩:=map1 h.2
  exact ⟨x,y,rfl,h.1,h2⟩
section
variable {R:RC}{ix:List Nat}{hd:List (Nat×Addr)}{X:Cx}{e:Expr}{H H':Hp}{σ:L2.St}{ts:Ts}{fr:List T}{D:Ends}
noncomputable def Post(R:RC)(ix:List Nat)(hd:List (Nat×Addr))(fr:List T)(D:Ends):SR→Prop
 | .nx s'=>∀ H' σ' ts',ts'.map TL.er=s'→Cf R ix hd H' σ' ts' fr→D.nx σ' H'
 | .rt r s'=>∀ H' σ' ts' tv v,ts'.map TL.er=s'→tv.er=r→Z0D ts' v tv→Cf R ix hd H' σ' ts' (tv.tr++fr)→D.rt v H'
 | .ex C s'=>∀ H' σ' ts',ts'.map TL.er=s'→Cf R ix hd H' σ' ts' fr→R.EX σ' (.ref (R.ad C)) none H'
 | _=>False
theorem Z1S{J:It}{it:Nat→Sd→Option (Option DV)}{b:Sd→DV→Option Sd}{body:SF}{m:Nat}
  (ok:∀ i H σ ts,Cf R ix hd H σ ts fr→(it i (ts.map TL.er)=some none→J.stop i H)∧∀ r,it i (ts.map TL.er)=some (some r)→J.go i H∧∀ x H',J.yld i H x H'→∃ tv,tv.er=r∧Z0D ts x tv∧Cf R ix hd H' σ ts (tv.tr++fr))
  (C:Cf R ix hd H σ ts fr) (P:Post R ix hd fr D (Ze it b body m 0 (ts.map TL.er))) :
  ∃ W:Nat→Nat→L2.St→Hp→Prop,(∃ m,W 0 m σ H)∧∀ i m σ H,W i m σ H →
   (J.stop i H∧D.nx σ H)∨(J.go i H∧∃ N:L2.St→Hp→Prop,(∀ σ' H',N σ' H'→∃ m',m' < m∧W (i + 1) m' σ' H')∧∀ x H',J.yld i H x H'→lG R ix b x σ H' fun σ2 H2=>lS R ix body { D with nx:=N,ct:=N,bk:=D.nx } σ2 H2):=by
 refine ⟨fun i m σ H=>∃ ts,Cf R ix hd H σ ts fr∧Post R ix hd fr D (Ze it b body m i (ts.map TL.er)),⟨m,ts,C,P⟩,?_⟩
 rintro i m σ H ⟨ts,C,P⟩
 cases m with
 | zero=>exact P.elim
 | succ m =>
  unfold Ze at P
  obtain ⟨o1,o2⟩:=ok i H σ ts C
  cases ei:it i (ts.map TL.er) with
  | none=>rw [ei] at P;exact P.elim
  | some y =>
   rw [ei] at P
   cases y with
   | none=>exact .inl ⟨o1 ei,P H σ ts rfl C⟩
   | some r =>
    obtain ⟨g1,g2⟩:=o2 r ei
    refine .inr ⟨g1,fun σ' H'=>∃ ts',Cf R ix hd H' σ' ts' fr∧Post R ix hd fr D (Ze it b body m (i + 1) (ts'.map TL.er)),fun σ' H' n=>⟨m,Nm m,n⟩,fun x H' hy=>?_⟩
    obtain ⟨tv,rfl,hv,C'⟩:=g2 x H' hy
    dsimp only at P
    cases eb:b (ts.map TL.er) tv.er with
    | none=>rw [eb] at P;exact P.elim
    | some s1 =>
     rw [eb] at P
     refine ⟨hd,ts,fr,tv,C',hv,s1,eb,fun σ2 ts2 e2 C2=>⟨hd,ts2,fr,C2,?_⟩⟩
     rw [e2]
     dsimp only at P
     cases ed:body s1 with
     | nx s2=>rw [ed] at P;intro H3 σ3 ts3 e3 C3;subst e3;exact ⟨ts3,C3,P⟩
     | ct s2=>rw [ed] at P;intro H3 σ3 ts3 e3 C3;subst e3;exact ⟨ts3,C3,P⟩
     | bk s2=>rw [ed] at P;exact P
     | rt r s2=>rw [ed] at P;exact P
     | ex E s2=>rw [ed] at P;exact P
     | no=>rw [ed] at P;exact P.elim
theorem Z6f{lo:Int}{n:Nat}(i:Nat)(H:Hp)(σ:L2.St)(ts:Ts)(C:Cf R ix hd H σ ts fr):(itR lo n i (ts.map TL.er)=some none→(Itr lo n).stop i H)∧∀ r,itR lo n i (ts.map TL.er)=some (some r)→(Itr lo n).go i H∧∀ x H',(Itr lo n).yld i H x H'→∃ tv,tv.er=r∧Z0D ts x tv∧Cf R ix hd H' σ ts (tv.tr++fr):=by
 unfold itR
 by_cases h:i < n
 ·rw [if_pos h]
  refine ⟨fun z=>by simp at z,fun r hr=>⟨h,?_⟩⟩
  cases hr
  rintro x _ ⟨rfl,rfl⟩
  exact ⟨.val (.at (.int (lo + i))),rfl,rfl,C.at _⟩
 ·rw [if_neg h]
  exact ⟨fun _=>Gg h,fun r hr=>by simp at hr⟩
theorem Post.of{f:SF}(h:match f (ts.map TL.er) with
 | .nx s'=>∀ H' σ' ts',ts'.map TL.er=s'→Cf R ix hd H' σ' ts' fr→D.nx σ' H'
 | .rt r s'=>∀ H' σ' ts' tv v,ts'.map TL.er=s'→tv.er=r→Z0D ts' v tv→Cf R ix hd H' σ' ts' (tv.tr++fr)→D.rt v H'
 | .bk s'=>∀ H' σ' ts',ts'.map TL.er=s'→Cf R ix hd H' σ' ts' fr→D.bk σ' H'
 | .ct s'=>∀ H' σ' ts',ts'.map TL.er=s'→Cf R ix hd H' σ' ts' fr→D.ct σ' H'
 | .ex C s'=>∀ H' σ' ts',ts'.map TL.er=s'→Cf R ix hd H' σ' ts' fr→R.EX σ' (.ref (R.ad C)) none H'
 | .no=>False) (hb:∀ s,f (ts.map TL.er)≠.bk s) (hc:∀ s,f (ts.map TL.er)≠.ct s):Post R ix hd fr D (f (ts.map TL.er)):=by
 cases e:f (ts.map TL.er) with
 | nx s=>rw [e] at h;exact h
 | rt r s=>rw [e] at h;exact h
 | ex E s=>rw [e] at h;exact h
 | no=>rw [e] at h;exact h
 | bk s=>exact absurd e (hb s)
 | ct s=>exact absurd e (hc s)
theorem Z24{it:Nat→Sd→Option (Option DV)}{b:Sd→DV→Option Sd}{body:SF}:∀ (m i:Nat) (s s':Sd),Ze it b body m i s≠.bk s'∧Ze it b body m i s≠.ct s'
 | 0,_,_,_=>⟨(by intro z;cases z),(by intro z;cases z)⟩
 | m + 1,i,s,s'=>by
  unfold Ze
  cases it i s with
  | none=>exact ⟨(by intro z;cases z),(by intro z;cases z)⟩
  | some y=>cases y with
   | none=>exact ⟨(by intro z;cases z),(by intro z;cases z)⟩
   | some r =>
    dsimp only
    cases b s r with
    | none=>exact ⟨(by intro z;cases z),(by intro z;cases z)⟩
    | some s1 =>
     dsimp only
     cases body s1 with
     | nx s2=>exact Z24 m (i + 1) s2 s'
     | ct s2=>exact Z24 m (i + 1) s2 s'
     | _=>exact ⟨(by intro z;cases z),(by intro z;cases z)⟩
theorem Z6i{f:AF}{b:Sd→DV→Option Sd}{body:SF}(D:Ends)(σ:L2.St)(H:Hp)(h:lS R ix (Z1e f b body) D σ H) :
  lA R ix f σ H fun vs H1=>(∃ j:Int,vs=[.int j]∧(-(2 ^ 62)≤j∧j < 2 ^ 62)∧(∃ W:Nat→Nat→L2.St→Hp→Prop,(∃ m,W 0 m σ H1)∧∀ i m σ H,W i m σ H →
   ((Itr 0 j.toNat).stop i H∧D.nx σ H)∨((Itr 0 j.toNat).go i H∧∃ N:L2.St→Hp→Prop,(∀ σ' H',N σ' H'→∃ m',m' < m∧W (i + 1) m' σ' H')∧∀ x H',(Itr 0 j.toNat).yld i H x H'→lG R ix b x σ H' fun σ2 H2=>lS R ix body { D with nx:=N,ct:=N,bk:=D.nx } σ2 H2))) ∨
   (∃ k j:Int,vs=[.int k,.int j]∧(-(2 ^ 62)≤k∧k < 2 ^ 62∧-(2 ^ 62)≤j∧j < 2 ^ 62)∧(∃ W:Nat→Nat→L2.St→Hp→Prop,(∃ m,W 0 m σ H1)∧∀ i m σ H,W i m σ H →
   ((Itr k (j - k).toNat).stop i H∧D.nx σ H)∨((Itr k (j - k).toNat).go i H∧∃ N:L2.St→Hp→Prop,(∀ σ' H',N σ' H'→∃ m',m' < m∧W (i + 1) m' σ' H')∧∀ x H',(Itr k (j - k).toNat).yld i H x H'→lG R ix b x σ H' fun σ2 H2=>lS R ix body { D with nx:=N,ct:=N,bk:=D.nx } σ2 H2))):=by
 obtain ⟨hd,ts,fr,C,h⟩:=h
 refine ⟨hd,ts,fr,C,?_⟩
 unfold Z1e at h
 cases ef:f (ts.map TL.er) with
 | no=>rw [ef] at h;exact h
 | ex E s1=>rw [ef] at h;intro H1 ts1 e1 C1;exact h H1 σ ts1 e1 C1
 | ok rs s1 =>
  rw [ef] at h
  intro H1 ts1 tvs vs e1 e2 hv C1
  subst e1
  have one:∀ {r:DV} {v:V} {tv:TV} {i:Int},tv.er=r→Z0D ts1 v tv→r=.val (.at (.int i))→v=.int i:=by
   rintro r v tv i rfl hv hr
   obtain ⟨t,rfl,te,rfl⟩:=hv.er_val hr
   cases t with
   | nd a k l=>cases te
   | «at» u=>cases u with
    | int j=>cases te;rfl
    | _=>cases te
  match rs,h with
  | [.val (.at (.int j))],h =>
    obtain ⟨tv,rfl,e5⟩:=map1 e2
    cases hv with
    | cons hv hn =>
    cases hn
    cases one e5 hv rfl
    by_cases hj:-(2 ^ 62)≤j∧j < 2 ^ 62
    ·dsimp only at h
     rw [if_pos hj] at h
     refine .inl ⟨j,rfl,hj,Z1S Z6f (C1.drops) (Post.of (f:=fun s=>Ze (itR 0 j.toNat) b body (j.toNat + 1) 0 s) h (fun s=>(Z24 _ _ _ s).1) fun s=>(Z24 _ _ _ s).2)⟩
    ·dsimp only at h;rw [if_neg hj] at h;exact h.elim
  | [.val (.at (.int k)),.val (.at (.int j))],h =>
    obtain ⟨tv,tw,rfl,e5,e3⟩:=map2 e2
    cases hv with
    | cons hv hw =>
    cases hw with
    | cons hw hn =>
    cases hn
    cases one e5 hv rfl
    cases one e3 hw rfl
    by_cases hj:-(2 ^ 62)≤k∧k < 2 ^ 62∧-(2 ^ 62)≤j∧j < 2 ^ 62
    ·dsimp only at h
     rw [if_pos hj] at h
     exact .inr ⟨k,j,rfl,hj,Z1S Z6f (C1.drops) (Post.of (f:=fun s=>Ze (itR k (j - k).toNat) b body ((j - k).toNat + 1) 0 s) h (fun s=>(Z24 _ _ _ s).1) fun s=>(Z24 _ _ _ s).2)⟩
    ·dsimp only at h;rw [if_neg hj] at h;exact h.elim
end
end RM

namespace RM
open PySem PySem.Spec PyProof.Rows L2
section
variable {R:RC}{ix:List Nat}{hd hm:List (Nat×Addr)}{X:Cx}{e:Expr}{H H':Hp}{σ:L2.St}{ts:Ts}{fr:List T}{D:Ends}
theorem Cf.push{t:T}{a:Addr}(C:Cf R ix hd H σ ts (t::fr))(ha:t.val=.ref a):Cf R ix (hd++[(ts.length,a)]) H σ (ts++[.own true t]) fr:=by
 have e1:Zd (ts++[.own true t])=Zd ts++t.own:=by rw [Z1x];simp [Zd,TL.own1]
 have e2:roS (ts++[.own true t])=roS ts++t.ro:=by rw [Z3t];simp [roS,TL.ro1]
 have e3:rdS (ts++[.own true t])=rdS ts:=by rw [Z2x];simp [rdS,TL.rd1]
 refine ⟨fun w u z=>?_,C.fok.2,?_,fun b z=>?_,fun b z=>?_,fun b z=>?_,C.bg,fun j k' p' a' z=>?_,fun j z=>by simpa using Wj (C.ixs j z),fun i j s v z1 z2 z3=>?_,fun j b z=>?_,fun j b z=>?_,C.len,fun j b z s v z2 z3=>?_⟩
 ·rcases Qe.mp z with z | z
  ·exact C.ok w u z
  ·simp only [Qw,TL.own.injEq] at z
   rw [z.2];exact C.fok.1
 ·rw [e1,Qq];exact C.nd
 ·rw [e1]
  have:=C.sep b (by
   rw [e2] at z
   rw [T.ros_cons]
   simp only [Qe] at z ⊢
   rcases z with (z | z) | z <;> simp [z])
  rw [T.owns_cons] at this
  simp only [Qe,not_or] at this ⊢
  exact ⟨⟨this.1,this.2.1.1⟩,this.2.1.2,this.2.2⟩
 ·rw [e3] at z
  rw [e1]
  have:=C.rd b z
  rw [T.owns_cons] at this
  simp only [Qe,not_or] at this ⊢
  exact ⟨⟨this.1,this.2.1⟩,this.2.2⟩
 ·rw [e1]
  have:=C.g b z
  rw [T.owns_cons] at this
  simp only [Qe,not_or] at this ⊢
  exact ⟨this.1,this.2.1,⟨this.2.2.1,this.2.2.2.1⟩,this.2.2.2.2⟩
 ·have hj:j < ts.length:=by
   rcases Qai j ts.length with h | h
   ·exact h
   ·rw [Jf h] at z
    have:j - ts.length=0:=by
     have:=(Qc.mp z).1
     simp at this;omega
    rw [this] at z;cases z
  rw [Qo hj] at z
  exact (C.bor j k' p' a' z).app _
 ·have:=C.ixs j (Qf z1)
  rw [Qo this] at z2
  exact C.sl i j s v z1 z2 z3
 ·rcases Qe.mp z with z | z
  ·simpa using Wj (C.hdi j b z)
  ·simp only [Qw,Prod.mk.injEq] at z
   simp [z.1]
 ·rcases Qe.mp z with z | z
  ·exact C.hdx j b z
  ·simp only [Qw,Prod.mk.injEq] at z
   rw [z.1]
   exact fun q=>absurd (C.ixs _ q) (Js _)
 ·rcases Qe.mp z with z | z
  ·rw [Qo (C.hdi j b z)] at z2
   exact C.hdn j b z s v z2 z3
  ·simp only [Qw,Prod.mk.injEq] at z
   obtain ⟨rfl,rfl⟩:=z
   rw [Jf (Qu _),Gr] at z2
   cases z2
   simp only [TL.v,Option.some.injEq] at z3
   rw [← z3,ha]
theorem Cf.popAny{x:TL}(C:Cf R ix (hd++hm) H σ (ts++[x]) fr)(hi:∀ j∈ix,j < ts.length)(hj:∀ j a,(j,a)∈hd→j < ts.length):Cf R ix hd H σ (ts.map (Zh ts.length)) fr:=by
 have o1:∀ a,a∈Zd (ts.map (Zh ts.length))→a∈Zd (ts++[x]):=fun a z=>by
  unfold Zd at z;rw [Z2d (by intros;rfl)] at z;rw [Z1x];exact Qh _ z
 have r1:∀ a,a∈roS (ts.map (Zh ts.length))→a∈roS (ts++[x]):=fun a z=>by
  unfold roS at z;rw [Z2d (by intros;rfl)] at z;rw [Z3t];exact Qh _ z
 have d1:∀ a,a∈rdS (ts.map (Zh ts.length))→a∈rdS (ts++[x]):=fun a z=>by
  unfold rdS at z;rw [Z2d (by intros;rfl)] at z;rw [Z2x];exact Qh _ z
 have slot:∀ (j:Nat) (s:TL),(ts.map (Zh ts.length))[j]?=some s→∃ s0,ts[j]?=some s0∧s=Zh ts.length s0∧(ts++[x])[j]?=some s0:=by
  intro j s hs
  rw [Qa] at hs
  cases e:ts[j]? with
  | none=>rw [e] at hs;cases hs
  | some s0=>rw [e] at hs;cases hs;exact ⟨s0,rfl,rfl,by rw [Qo (Qc.mp e).1];exact e⟩
 have vv:∀ (s0:TL) (v:V),(Zh ts.length s0).v=some v→s0.v=some v:=by
  intro s0 v h
  rcases Z09 (j:=ts.length) s0 with ⟨e',_⟩ | ⟨e',_⟩
  ·rwa [e'] at h
  ·rw [e'] at h;cases h
 refine ⟨fun w u z=>?_,C.fok,?_,fun b z=>?_,fun b z=>?_,fun b z=>?_,C.bg,fun j k q b z=>?_,fun j z=>by simpa using hi j z,fun i j s v z1 z2 z3=>?_,fun j b z=>by simpa using hj j b z,fun j b z=>C.hdx j b (Qh _ z),C.len,fun j b z s v z2 z3=>?_⟩
 ·obtain ⟨j,hj'⟩:=Jd.mp z
  obtain ⟨s0,h1,h2,h3⟩:=slot j _ hj'
  rcases Z09 (j:=ts.length) s0 with ⟨e',_⟩ | ⟨e',_⟩
  ·rw [e'] at h2;subst h2;exact C.ok w u (Qf h3)
  ·rw [e'] at h2;cases h2
 ·have:=C.nd
  rw [Z1x,Qq] at this
  have h1:=Qk.mp this
  have h2:=Qk.mp h1.2.1
  have e:Zd (ts.map (Zh ts.length))=Zd ts:=by unfold Zd;exact Z2d (by intros;rfl) ts
  rw [e]
  exact Qk.mpr ⟨h1.1,h2.2.1,fun a za b zb=>h1.2.2 a za b (Qg _ zb)⟩
 ·have:=C.sep b (z.imp (r1 b) id)
  exact ⟨fun q=>this.1 (o1 b q),this.2.1,this.2.2⟩
 ·have:=C.rd b (d1 b z)
  exact ⟨fun q=>this.1 (o1 b q),this.2⟩
 ·have:=C.g b z
  exact ⟨this.1,this.2.1,fun q=>this.2.2.1 (o1 b q),this.2.2.2⟩
 ·obtain ⟨s0,h1,h2,h3⟩:=slot j _ z
  rcases Z09 (j:=ts.length) s0 with ⟨e',hne⟩ | ⟨e',_⟩
  ·rw [e'] at h2
   subst h2
   have hk:k≠ts.length:=fun z=>hne q b (by rw [z])
   obtain ⟨w,u,s,q1,q2,q3⟩:=C.bor j k q b h3
   refine ⟨w,u,s,?_,q2,q3⟩
   have hlt:k < ts.length:=by
    have:=(Qc.mp q1).1
    simp at this;omega
   rw [Qo hlt] at q1
   rw [Qa,q1];rfl
  ·rw [e'] at h2;cases h2
 ·obtain ⟨s0,h1,rfl,h3⟩:=slot j _ z2
  exact C.sl i j s0 v z1 h3 (vv s0 v z3)
 ·obtain ⟨s0,h1,rfl,h3⟩:=slot j _ z2
  exact C.hdn j b (Qh _ z) s0 v h3 (vv s0 v z3)
theorem Z1t{n:Nat}{s s':Sd}{ts':Ts}(h:Z1o n s=some s')(e:ts'.map TL.er=s):∃ ts0 x,ts'=ts0++[x]∧ts0.length=n∧(ts0.map (Zh n)).map TL.er=s':=by
 unfold Z1o at h
 split at h
 case isFalse=>cases h
 case isTrue hl =>
  cases h
  have hne:ts'≠[]:=by rintro rfl;rw [← e] at hl;simp at hl
  refine ⟨ts'.dropLast,ts'.getLast hne,(Gm hne).symm,?_,?_⟩
  ·rw [List.length_dropLast,Z49 e,hl];rfl
  ·rw [← e,← Gz,Jp,← Gz,Jp]
   exact Wk fun s _=>Z2E s
theorem Z3F{r:SR}{n:Nat}{hm:List (Nat×Addr)}(hi:∀ j∈ix,j < n)(hj:∀ j a,(j,a)∈hd→j < n)
  (h:match fin n r with
  | .nx s'=>∀ H' σ' ts',ts'.map TL.er=s'→Cf R ix hd H' σ' ts' fr→D.nx σ' H'
  | .rt r s'=>∀ H' σ' ts' tv v,ts'.map TL.er=s'→tv.er=r→Z0D ts' v tv→Cf R ix hd H' σ' ts' (tv.tr++fr)→D.rt v H'
  | .bk s'=>∀ H' σ' ts',ts'.map TL.er=s'→Cf R ix hd H' σ' ts' fr→D.bk σ' H'
  | .ct s'=>∀ H' σ' ts',ts'.map TL.er=s'→Cf R ix hd H' σ' ts' fr→D.ct σ' H'
  | .ex C s'=>∀ H' σ' ts',ts'.map TL.er=s'→Cf R ix hd H' σ' ts' fr→R.EX σ' (.ref (R.ad C)) none H'
  | .no=>False):Post R ix (hd++hm) fr D r:=by
 cases r with
 | nx s =>
  intro H' σ' ts' e C
  simp only [fin] at h
  cases ep:Z1o n s with
  | none=>rw [ep] at h;exact h.elim
  | some s' =>
   rw [ep] at h
   obtain ⟨ts0,x,rfl,hl,e2⟩:=Z1t ep e
   subst hl
   exact h H' σ' _ e2 (C.popAny hi hj)
 | ex E s =>
  intro H' σ' ts' e C
  simp only [fin] at h
  cases ep:Z1o n s with
  | none=>rw [ep] at h;exact h.elim
  | some s' =>
   rw [ep] at h
   obtain ⟨ts0,x,rfl,hl,e2⟩:=Z1t ep e
   subst hl
   exact h H' σ' _ e2 (C.popAny hi hj)
 | rt r s =>
  intro H' σ' ts' tv v e e1 hv C
  cases r with
  | val d =>
   obtain ⟨t,rfl,rfl,rfl⟩:=hv.er_val e1
   simp only [fin] at h
   cases ep:Z1o n s with
   | none=>rw [ep] at h;exact h.elim
   | some s' =>
    rw [ep] at h
    obtain ⟨ts0,x,rfl,hl,e2⟩:=Z1t ep e
    subst hl
    exact h H' σ' _ (.val t) t.val e2 rfl rfl (C.popAny hi hj)
  | plc k p =>
   obtain ⟨a,rfl,rfl,hp⟩:=hv.er_plc e1
   simp only [fin] at h
   by_cases hk:k=n
   ·rw [if_pos hk] at h;exact h.elim
   ·rw [if_neg hk] at h
    cases ep:Z1o n s with
    | none=>rw [ep] at h;exact h.elim
    | some s' =>
     rw [ep] at h
     obtain ⟨ts0,x,rfl,hl,e2⟩:=Z1t ep e
     subst hl
     refine h H' σ' _ (.plc k p a) (.ref a) e2 rfl ⟨rfl,?_⟩ (C.popAny hi hj)
     obtain ⟨w,u,s,q1,q2,q3⟩:=hp
     refine ⟨w,u,s,?_,q2,q3⟩
     have hlt:k < ts0.length:=by
      have:=(Qc.mp q1).1
      simp at this;omega
     rw [Qo hlt] at q1
     rw [Qa,q1];rfl
 | bk s=>exact h.elim
 | ct s=>exact h.elim
 | no=>exact h.elim
end
end RM

namespace RM
open PySem PySem.Spec PyProof.Rows L2
noncomputable def iSeq(K:Qd)(tl:TE):TI:=fun σ H R=>tl σ H fun x H1=>∃ a,x=.ref a∧(((∃ xs,SqL K H1 a xs)∧R (Itl K a) H1)∨((∃ xs,SqT K H1 a xs)∧R (Itt K a) H1))
section
variable {X:Cx}{tg:Expr}
theorem Z93{l:Expr}{tl:TE}(hl:PE X l tl):PI X tg l (iSeq X.K tl):=by
 intro pins s σ H R I h
 refine thn (hl pins s σ H _ I h) fun v s1 ⟨x,H1,I1,r1,q1⟩=>?_
 obtain ⟨a,e,⟨⟨xs,hq⟩,q⟩ | ⟨⟨xs,hq⟩,q⟩⟩:=q1
 ·subst e
  cases r1
  obtain ⟨its,rv,p,hz⟩:=I1.list hq
  refine wpAny_pyIter_list p.isList ?_
  refine ⟨s1.heap.objs.size,[s1.heap.objs.size],_,_,H1,rfl,I1.kept (t':=s1.toks) fun b o e=>Heap.get?_push_of_some _ e,Z9i a _,⟨_,Heap.get?_push_size _ rfl,rfl,rfl⟩,fun b hb=>?_,q⟩
  have e:b=s1.heap.objs.size:=by simpa using hb
  subst e
  exact I1.fpOk (Qu _) (I1.hok.fresh (Qu _))
 ·subst e
  cases r1
  obtain ⟨its,rv,p,hz⟩:=I1.tuple hq
  refine wpAny_pyIter_tuple (show s1.heap.IsTuple a its.toArray from p) ?_
  refine ⟨s1.heap.objs.size,[s1.heap.objs.size],_,_,H1,rfl,I1.kept (t':=s1.toks) fun b o e=>Heap.get?_push_of_some _ e,Z80 a _,⟨_,Heap.get?_push_size _ rfl,rfl,rfl⟩,fun b hb=>?_,q⟩
  have e:b=s1.heap.objs.size:=by simpa using hb
  subst e
  exact I1.fpOk (Qu _) (I1.hok.fresh (Qu _))
end
section
variable {K:Qd}{R:RC}{ix:List Nat}{hd hm:List (Nat×Addr)}{X:Cx}{e:Expr}{H H':Hp}{σ:L2.St}{ts:Ts}{fr:List T}{D:Ends}
theorem NodeOk.sqL{a:Addr}{m:Bool}{vs:List V}(h:NodeOk H a (.lst m) vs):SqL K H a vs:=by
 cases m with
 | true=>exact .of h
 | false=>exact .inl h
theorem NodeOk.sqT{a:Addr}{vs:List V}(h:NodeOk H a .tup vs):SqT K H a vs:=.of h
theorem Z7z{n k:Nat}{p:List Nat}{a:Addr}(C:Cf R ix (hd++[(n,a)]) H σ ts fr)(h:held n k p (ts.map TL.er)=true){d:RM.D}(hd':Zq (ts.map TL.er) (.plc k p)=some d)(hn:∃ kd l,d=.nd kd l) :
  ∃ w t kd ch,ts[k]?=some (.own w t)∧t.get p=some (.nd a kd ch)∧d=.nd kd (T.ers ch)∧(T.nd a kd ch).ok H:=by
 have get:∀ w t,ts[k]?=some (TL.own w t)→∃ s,t.get p=some s∧s.er=d∧s.ok H:=by
  intro w t hk
  simp only [Zq,Qa,hk,Option.map_some,TL.er,T.get_er] at hd'
  cases es:t.get p with
  | none=>rw [es] at hd';cases hd'
  | some s=>rw [es] at hd';cases hd';exact ⟨s,rfl,rfl,T.get_ok es (C.ok w t (Qf hk))⟩
 have nodeOf:∀ s:T,s.er=d→s.val=.ref a→∃ kd ch,s=.nd a kd ch∧d=.nd kd (T.ers ch):=by
  rintro s rfl hv
  obtain ⟨kd,l,hl⟩:=hn
  cases s with
  | «at» v=>cases hl
  | nd b k ch=>cases hv;exact ⟨k,ch,rfl,rfl⟩
 unfold held at h
 rw [Qa] at h
 cases en:ts[n]? with
 | none=>rw [en] at h;cases h
 | some y =>
  rw [en] at h
  cases y with
  | non=>cases h
  | bor k' p' b =>
   simp only [Option.map_some,TL.er,Jr,decide_eq_true_eq] at h
   obtain ⟨rfl,rfl⟩:=h
   have hb:=C.hdn n a (Qg _ (by simp)) _ _ en rfl
   cases hb
   obtain ⟨w,t,s,h1,h2,h3⟩:=C.bor n k' p' a en
   obtain ⟨s',g1,g2,g3⟩:=get w t h1
   rw [h2] at g1
   cases g1
   obtain ⟨kd,ch,rfl,e2⟩:=nodeOf s g2 h3
   exact ⟨w,t,kd,ch,h1,h2,e2,g3⟩
  | own w t =>
   simp only [Option.map_some,TL.er,Jr,decide_eq_true_eq] at h
   obtain ⟨rfl,rfl⟩:=h
   have hb:=C.hdn k a (Qg _ (by simp)) _ _ en rfl
   obtain ⟨s',g1,g2,g3⟩:=get w t en
   cases g1
   obtain ⟨kd,ch,rfl,e2⟩:=nodeOf t g2 hb
   exact ⟨w,_,kd,ch,en,rfl,e2,g3⟩
theorem Z4q{n k:Nat}{p:List Nat}{a:Addr}(i:Nat)(H:Hp)(σ:L2.St)(ts:Ts)(C:Cf R ix (hd++[(n,a)]) H σ ts fr):(itP false n k p i (ts.map TL.er)=some none→(Itl K a).stop i H)∧∀ r,itP false n k p i (ts.map TL.er)=some (some r)→(Itl K a).go i H∧∀ x H',(Itl K a).yld i H x H'→∃ tv,tv.er=r∧Z0D ts x tv∧Cf R ix (hd++[(n,a)]) H' σ ts (tv.tr++fr):=by
 have main:∀ y,itP false n k p i (ts.map TL.er)=some y→∃ w t m ch,ts[k]?=some (TL.own w t)∧t.get p=some (.nd a (.lst m) ch)∧(T.nd a (.lst m) ch).ok H∧y=(ch[i]?).map fun c=>mkV k (p++[i]) c.er:=by
  intro y hy
  unfold itP at hy
  split at hy
  case isFalse=>cases hy
  case isTrue hh =>
   cases ed:Zq (ts.map TL.er) (.plc k p) with
   | none=>rw [ed] at hy;cases hy
   | some d =>
    rw [ed] at hy
    cases d with
    | «at» v=>cases hy
    | nd kd l =>
     cases kd with
     | lst m =>
      obtain ⟨w,t,kd,ch,h1,h2,h3,h4⟩:=Z7z C hh ed ⟨_,_,rfl⟩
      cases h3
      simp only [Option.some.injEq] at hy
      exact ⟨w,t,m,ch,h1,h2,h4,by rw [← hy,T.ers_eq,Qa,Option.map_map];rfl⟩
     | _=>cases hy
 refine ⟨fun h=>?_,fun r h=>?_⟩
 ·obtain ⟨w,t,m,ch,h1,h2,h3,h4⟩:=main _ h
  refine ⟨ch.map T.val,h3.1.sqL,?_⟩
  cases e:ch[i]? with
  | some c=>rw [e] at h4;cases h4
  | none=>simpa using e
 ·obtain ⟨w,t,m,ch,h1,h2,h3,h4⟩:=main _ h
  cases e:ch[i]? with
  | none=>rw [e] at h4;cases h4
  | some c =>
   rw [e] at h4
   have hs:SqL K H a (ch.map T.val):=h3.1.sqL
   refine ⟨⟨_,c.val,hs,by rw [Qa,e];rfl⟩,?_⟩
   rintro x _ ⟨rfl,hx⟩
   have:=hx _ hs
   rw [Qa,e] at this
   cases this
   obtain ⟨tv,q1,q2,q3⟩:=mk_ok (p:=p++[i]) C h1 (by rw [T.get_app,h2];show T.get [i] (.nd a (.lst m) ch)=some c;simp only [T.get,e])
   refine ⟨tv,?_,q2,q3⟩
   rw [q1];cases h4;rfl
theorem Z4r{n k:Nat}{p:List Nat}{a:Addr}(i:Nat)(H:Hp)(σ:L2.St)(ts:Ts)(C:Cf R ix (hd++[(n,a)]) H σ ts fr):(itP true n k p i (ts.map TL.er)=some none→(Itt K a).stop i H)∧∀ r,itP true n k p i (ts.map TL.er)=some (some r)→(Itt K a).go i H∧∀ x H',(Itt K a).yld i H x H'→∃ tv,tv.er=r∧Z0D ts x tv∧Cf R ix (hd++[(n,a)]) H' σ ts (tv.tr++fr):=by
 have main:∀ y,itP true n k p i (ts.map TL.er)=some y→∃ w t ch,ts[k]?=some (TL.own w t)∧t.get p=some (.nd a .tup ch)∧(T.nd a .tup ch).ok H∧y=(ch[i]?).map fun c=>mkV k (p++[i]) c.er:=by
  intro y hy
  unfold itP at hy
  split at hy
  case isFalse=>cases hy
  case isTrue hh =>
   cases ed:Zq (ts.map TL.er) (.plc k p) with
   | none=>rw [ed] at hy;cases hy
   | some d =>
    rw [ed] at hy
    cases d with
    | «at» v=>cases hy
    | nd kd l =>
     cases kd with
     | tup =>
      obtain ⟨w,t,kd,ch,h1,h2,h3,h4⟩:=Z7z C hh ed ⟨_,_,rfl⟩
      cases h3
      simp only [Option.some.injEq] at hy
      exact ⟨w,t,ch,h1,h2,h4,by rw [← hy,T.ers_eq,Qa,Option.map_map];rfl⟩
     | _=>cases hy
 refine ⟨fun h=>?_,fun r h=>?_⟩
 ·obtain ⟨w,t,ch,h1,h2,h3,h4⟩:=main _ h
  refine ⟨ch.map T.val,h3.1.sqT,?_⟩
  cases e:ch[i]? with
  | some c=>rw [e] at h4;cases h4
  | none=>simpa using e
 ·obtain ⟨w,t,ch,h1,h2,h3,h4⟩:=main _ h
  cases e:ch[i]? with
  | none=>rw [e] at h4;cases h4
  | some c =>
   rw [e] at h4
   have hs:SqT K H a (ch.map T.val):=h3.1.sqT
   refine ⟨⟨_,c.val,hs,by rw [Qa,e];rfl⟩,?_⟩
   rintro x _ ⟨rfl,hx⟩
   have:=hx _ hs
   rw [Qa,e] at this
   cases this
   obtain ⟨tv,q1,q2,q3⟩:=mk_ok (p:=p++[i]) C h1 (by rw [T.get_app,h2];show T.get [i] (.nd a .tup ch)=some c;simp only [T.get,e])
   refine ⟨tv,?_,q2,q3⟩
   rw [q1];cases h4;rfl
theorem Zag{f:EF}{b:Sd→DV→Option Sd}{body:SF}(D:Ends)(σ:L2.St)(H:Hp)(h:lS R ix (Z1y f b body) D σ H):tFor (iSeq K (lE R ix f)) (lG R ix b) (lS R ix body) D σ H:=by
 obtain ⟨hd,ts,fr,C,h⟩:=h
 refine ⟨hd,ts,fr,C,?_⟩
 unfold Z1y at h
 cases ef:f (ts.map TL.er) with
 | no=>rw [ef] at h;exact h
 | ex E s1=>rw [ef] at h;intro H1 ts1 e1 C1;exact h H1 σ ts1 e1 C1
 | ok r s1 =>
  rw [ef] at h
  intro H1 ts1 tv v e1 e2 hv C1
  subst e1
  have hlen:(ts1.map TL.er).length=ts1.length:=by simp
  cases r with
  | plc k p =>
   obtain ⟨a,rfl,rfl,hp⟩:=hv.er_plc e2
   dsimp only at h
   refine ⟨a,rfl,?_⟩
   obtain ⟨w,t,s,h1,h2,h3⟩:=id hp
   have hd1:Zq (ts1.map TL.er) (.plc k p)=some s.er:=by simp only [Zq,Qa,h1,Option.map_some,TL.er,T.get_er,h2]
   have sok:=T.get_ok h2 (C1.ok w t (Qf h1))
   rw [hd1,hlen] at h
   have C2:Cf R ix (hd++[(ts1.length,a)]) H1 σ (ts1++[.bor k p a]) fr:=Cf.hide C1 hp
   cases s with
   | «at» v=>exact h.elim
   | nd b' kd ch =>
    cases h3
    cases kd with
    | lst m =>
     refine .inl ⟨⟨_,sok.1.sqL⟩,?_⟩
     refine Z1S (it:=itP false ts1.length k p) (m:=ch.length + 1) Z4q C2 ?_
     have:=Z3F (hm:=[(ts1.length,a)]) C1.ixs C1.hdi h
     simpa [TL.er,T.ers_eq] using this
    | tup =>
     refine .inr ⟨⟨_,sok.1.sqT⟩,?_⟩
     refine Z1S (it:=itP true ts1.length k p) (m:=ch.length + 1) Z4r C2 ?_
     have:=Z3F (hm:=[(ts1.length,a)]) C1.ixs C1.hdi h
     simpa [TL.er,T.ers_eq] using this
    | _=>exact h.elim
  | val d =>
   obtain ⟨t,rfl,rfl,rfl⟩:=hv.er_val e2
   dsimp only at h
   cases t with
   | «at» v=>exact h.elim
   | nd a kd ch =>
    refine ⟨a,rfl,?_⟩
    rw [hlen] at h
    have C2:Cf R ix (hd++[(ts1.length,a)]) H1 σ (ts1++[.own true (.nd a kd ch)]) fr:=Cf.push (a:=a) C1 rfl
    have sok:=C1.fok.1
    cases kd with
    | lst m =>
     refine .inl ⟨⟨_,sok.1.sqL⟩,?_⟩
     refine Z1S (it:=itP false ts1.length ts1.length []) (m:=ch.length + 1) Z4q C2 ?_
     have:=Z3F (hm:=[(ts1.length,a)]) C1.ixs C1.hdi h
     simpa [TL.er,T.er,T.ers_eq] using this
    | tup =>
     refine .inr ⟨⟨_,sok.1.sqT⟩,?_⟩
     refine Z1S (it:=itP true ts1.length ts1.length []) (m:=ch.length + 1) Z4r C2 ?_
     have:=Z3F (hm:=[(ts1.length,a)]) C1.ixs C1.hdi h
     simpa [TL.er,T.er,T.ers_eq] using this
    | _=>exact h.elim
theorem Z3v{tg iter:Expr}{bs:List Stmt}{f:EF}{b:Sd→DV→Option Sd}{body:SF}{pos:Pos}(hp:PassesOwn (model X.prog X.w) X.A X.env X.xe)(hc:X.calm=true)(hi:PE X iter (lE R ix f))(hg:PG X tg (lG R ix b))(hb:PSs X bs (lS R ix body))
  (hs:∀ x,foldedSetIterable iter X.env x=pure x:=by intro _;rfl):PS X (.For tg iter bs [] pos) (lS R ix (Z1y f b body)):=psM (Z6u hp hc (Z93 hi) hg hb hs) Zag
theorem Z21{tg a:Expr}{bs:List Stmt}{f:EF}{b:Sd→DV→Option Sd}{body:SF}{p pos fpos:Pos}(hp:PassesOwn (model X.prog X.w) X.A X.env X.xe)(hc:X.calm=true)(hgl:Gl X "range")(hm:X.mg "range"=none)(ha:PE X a (lE R ix f))(hg:PG X tg (lG R ix b))(hb:PSs X bs (lS R ix body))
  (hst:starEach [a] X.env=[(false,eval a X.env)]:=by rfl) (hs:∀ x,foldedSetIterable (.Call (.Name "range" p) [a] [] pos) X.env x=pure x:=by intro _;rfl):PS X (.For tg (.Call (.Name "range" p) [a] [] pos) bs [] fpos) (lS R ix (Z1e (Z0 f Z2) b body)):=by
 refine psM (Z6u hp hc (Z38 (ta:=Z1Z (lE R ix f) tNil) hgl hm (Zk ha ZX hst) hst) hg hb hs) fun D σ H h=>?_
 have h1:=lA_1 (Z6i D σ H h)
 refine Zt (fun v H1 q=>?_) h1
 rcases q with ⟨j,e,hj,q⟩ | ⟨k,j,e,_⟩
 ·cases e;exact ⟨j,rfl,hj.1,hj.2,q⟩
 ·cases e
theorem Z9M{tg a c:Expr}{bs:List Stmt}{f g:EF}{b:Sd→DV→Option Sd}{body:SF}{p pos fpos:Pos}(hp:PassesOwn (model X.prog X.w) X.A X.env X.xe)(hc:X.calm=true)(hgl:Gl X "range")(hm:X.mg "range"=none)(ha:PE X a (lE R ix f))(hc2:PE X c (lE R ix g))(hg:PG X tg (lG R ix b))(hb:PSs X bs (lS R ix body))
  (hst:starEach [a,c] X.env=[(false,eval a X.env),(false,eval c X.env)]:=by rfl) (hst2:starEach [c] X.env=[(false,eval c X.env)]:=by rfl) (hs:∀ x,foldedSetIterable (.Call (.Name "range" p) [a,c] [] pos) X.env x=pure x:=by intro _;rfl):PS X (.For tg (.Call (.Name "range" p) [a,c] [] pos) bs [] fpos) (lS R ix (Z1e (Z0 f (Z0 g Z2)) b body)):=by
 refine psM (Z6u hp hc (Z92 (ta:=Z1Z (lE R ix f) (Z1Z (lE R ix g) tNil)) hgl hm (Zk ha (Zk hc2 ZX hst2) (by rw [hst,hst2])) hst hst2) hg hb hs) fun D σ H h=>?_
 have h1:=lA_2 (Z6i D σ H h)
 refine Zt (fun v H1 q=>Zt (fun u H2 q2=>?_) q) h1
 rcases q2 with ⟨j,e,_⟩ | ⟨k,j,e,hj,q3⟩
 ·cases e
 ·cases e;exact ⟨k,j,rfl,hj,q3⟩
end
end RM

namespace RM
open PySem PySem.Spec PyProof.Rows L2
noncomputable def hole:D:=.at (.flt 0)
section
variable {R:RC}{ix:List Nat}{hd hm:List (Nat×Addr)}{X:Cx}{e:Expr}{H H':Hp}{σ:L2.St}{ts:Ts}{fr:List T}
theorem Cf.exch{k:Nat}{t s s':T}{p:List Nat}{fr':List T}{x:List Addr}(C:Cf R ix hd H σ ts fr)(hk:ts[k]?=some (.own true t))(hp:t.get p=some s)(hv:s'.val=s.val)
  (ho:s'.ok H) (hf:T.oks H fr') (hown:(s.own++T.owns fr).Perm (s'.own++T.owns fr'++x)) (hro:∀ b,b∈s'.ro∨b∈T.ros fr'→b∈s.ro∨b∈T.ros fr) :
  Cf R ix hd H σ ((ts.set k (.own true (T.put s' p t))).map (Zw k p fun _=>false)) fr':=by
 obtain ⟨c,r,K⟩:=T.ctx hp
 obtain ⟨x1,z1,o1,o2⟩:=Z0Z (f:=TL.own1) hk
 obtain ⟨x2,z2,r1,r2⟩:=Z0Z (f:=TL.ro1) hk
 obtain ⟨x3,z3,d1,d2⟩:=Z0Z (f:=TL.rd1) hk
 generalize ht':T.put s' p t=t'
 have eO:Zd ((ts.set k (.own true t')).map (Zw k p fun _=>false))=x1++(t'.own++z1):=by
  unfold Zd;rw [Z2K (by intros;rfl),o2];rfl
 have eR:roS ((ts.set k (.own true t')).map (Zw k p fun _=>false))=x2++(t'.ro++z2):=by
  unfold roS;rw [Z2K (by intros;rfl),r2];rfl
 have eD:rdS ((ts.set k (.own true t')).map (Zw k p fun _=>false))=rdS ts:=by
  unfold rdS;rw [Z2K (by intros;rfl),d2,d1];rfl
 have fO:Zd ts=x1++(t.own++z1):=o1
 have fR:roS ts=x2++(t.ro++z2):=r1
 have pm:(Zd ts++T.owns fr).Perm ((x1++(t'.own++z1)++T.owns fr')++x):=by
  rw [fO]
  refine Qx.mpr fun b=>?_
  have q1:=(Qx.mp K.own b)
  have q2:=(Qx.mp (K.own' s') b)
  have q3:=(Qx.mp hown b)
  rw [ht'] at q2
  simp only [Jj] at q1 q2 q3 ⊢
  omega
 have nd3:=Qk.mp (pm.nodup_iff.mp C.nd)
 have sub1:∀ b,b∈x1++(t'.own++z1)∨b∈T.owns fr'→b∈Zd ts∨b∈T.owns fr:=fun b z=>Qe.mp (pm.mem_iff.mpr (Qh _ (by
  rcases z with z | z
  ·exact Qh _ z
  ·exact Qg _ z)))
 have tok':t'.ok H:=by
  rw [← ht']
  exact K.ok (C.ok true t (Qf hk)) (fun b hb=>rfl) ho hv
 have slot:∀ (j:Nat) (y:TL),((ts.set k (.own true t')).map (Zw k p fun _=>false))[j]?=some y→(j=k∧y=.own true t')∨(j≠k∧∃ y0,ts[j]?=some y0∧y=Zw k p (fun _=>false) y0):=by
  intro j y hy
  rw [Qa,Qm] at hy
  by_cases hj:k=j
  ·subst hj
   rw [if_pos rfl,if_pos (Qc.mp hk).1] at hy
   cases hy
   exact .inl ⟨rfl,rfl⟩
  ·rw [if_neg hj] at hy
   cases ey:ts[j]? with
   | none=>rw [ey] at hy;cases hy
   | some y0=>rw [ey] at hy;cases hy;exact .inr ⟨Ne.symm hj,y0,rfl,rfl⟩
 have tv':t'.val=t.val:=by rw [← ht'];exact T.put_val hp hv
 have slv:∀ (j:Nat) (y:TL) (v:V),((ts.set k (.own true t')).map (Zw k p fun _=>false))[j]?=some y→y.v=some v→∃ y0,ts[j]?=some y0∧y0.v=some v:=by
  intro j y v hy hv
  rcases slot j y hy with ⟨rfl,rfl⟩ | ⟨hj,y0,h0,rfl⟩
  ·exact ⟨_,hk,by rw [← hv];simp only [TL.v,tv']⟩
  ·refine ⟨y0,h0,?_⟩
   rcases Z0y (k:=k) (p:=p) (keep:=fun _=>false) y0 with e | ⟨e,_⟩
   ·rwa [e] at hv
   ·rw [e] at hv;cases hv
 have len:((ts.set k (.own true t')).map (Zw k p fun _=>false)).length=ts.length:=by simp
 refine ⟨fun w u hu=>?_,hf,by rw [eO];exact nd3.1,fun b z=>?_,fun b z=>?_,fun b z=>?_,C.bg,fun j k' q b hj=>?_,fun j hj=>by rw [len];exact C.ixs j hj,fun i j y v h1 h2 h3=>?_,fun j b hj=>by rw [len];exact C.hdi j b hj,C.hdx,C.len,fun j b hj y v h2 h3=>?_⟩
 ·obtain ⟨j,hj⟩:=Jd.mp hu
  rcases slot j _ hj with ⟨rfl,e⟩ | ⟨hjk,y0,h0,e⟩
  ·cases e;exact tok'
  ·rcases Z0y (k:=k) (p:=p) (keep:=fun _=>false) y0 with e' | ⟨e',_⟩
   ·rw [e'] at e;subst e;exact C.ok w u (Qf h0)
   ·rw [e'] at e;cases e
 ·have old:b∈roS ts∨b∈T.ros fr→b∉x1++(t'.own++z1)∧b∉T.owns fr'∧¬ R.B b:=fun z=>by
   obtain ⟨h1,h2,h3⟩:=C.sep b z
   exact ⟨fun q=>(sub1 b (.inl q)).elim h1 h2,fun q=>(sub1 b (.inr q)).elim h1 h2,h3⟩
  have new:b∈s'.ro∨b∈T.ros fr'→b∉x1++(t'.own++z1)∧b∉T.owns fr'∧¬ R.B b:=fun z=>by
   rcases hro b z with q | q
   ·exact old (.inl (by rw [fR];simp [K.ro.mem_iff.mpr (Qg _ q)]))
   ·exact old (.inr q)
  rw [eO]
  rw [eR] at z
  rcases z with z | z
  ·simp only [Qe] at z
   rcases z with z | z | z
   ·exact old (.inl (by rw [fR];simp [z]))
   ·have z':=(K.ro' s').mem_iff.mp (by rw [ht'];exact z)
    rcases Qe.mp z' with z' | z'
    ·exact old (.inl (by rw [fR];simp [K.ro.mem_iff.mpr (Qh _ z')]))
    ·exact new (.inl z')
   ·exact old (.inl (by rw [fR];simp [z]))
  ·exact new (.inr z)
 ·rw [eD] at z
  rw [eO]
  obtain ⟨h1,h2⟩:=C.rd b z
  exact ⟨fun q=>(sub1 b (.inl q)).elim h1 h2,fun q=>(sub1 b (.inr q)).elim h1 h2⟩
 ·rw [eO]
  obtain ⟨g1,g2,g3,g4⟩:=C.g b z
  exact ⟨g1,g2,fun q=>(sub1 b (.inl q)).elim g3 g4,fun q=>(sub1 b (.inr q)).elim g3 g4⟩
 ·rcases slot j _ hj with ⟨rfl,e⟩ | ⟨hjk,y0,h0,e⟩
  ·cases e
  ·rcases Z0y (k:=k) (p:=p) (keep:=fun _=>false) y0 with e' | ⟨e',_⟩
   ·rw [e'] at e
    subst e
    obtain ⟨w,u,s1,h1,h2,h3⟩:=C.bor j k' q b h0
    by_cases hkk:k'=k
    ·subst hkk
     rw [hk] at h1
     cases h1
     have at':((ts.set k' (.own true t')).map (Zw k' p fun _=>false))[k']?=some (.own true t'):=by
      rw [Qa,Qm,if_pos rfl,if_pos (Qc.mp hk).1];rfl
     cases hs:sub p q with
     | none =>
      obtain ⟨u',q1,q2⟩:=Z4p (s':=s') hp hv hs h2
      rw [ht'] at q1
      exact ⟨true,t',u',at',q1,q2.trans h3⟩
     | some i =>
      exfalso
      rw [Z36] at e'
      have:gone k' p (fun _=>false) k' q=true:=by simp [gone,hs]
      rw [this] at e'
      cases e'
    ·refine ⟨w,u,s1,?_,h2,h3⟩
     rw [Qa,Qm,if_neg (Ne.symm hkk),h1];rfl
   ·rw [e'] at e;cases e
 ·obtain ⟨y0,q1,q2⟩:=slv j y v h2 h3
  exact C.sl i j y0 v h1 q1 q2
 ·obtain ⟨y0,q1,q2⟩:=slv j y v h2 h3
  exact C.hdn j b hj y0 v q1 q2
end
end RM

namespace RM
open PySem PySem.Spec PyProof.Rows L2
inductive RV where
 | val (d:D) | arg (j:Nat) (q:List Nat)
inductive RT where
 | val (t:T) | arg (j:Nat) (q:List Nat) (a:Addr)
noncomputable def RT.er:RT→RV
 | .val t=>.val t.er | .arg j q _=>.arg j q
noncomputable def RT.tr:RT→List T
 | .val t=>[t] | .arg _ _ _=>[]
inductive FR where
 | ok (r:RV) (ds:List D) | ex (C:Str) (ds:List D) | no
noncomputable abbrev Fn:=List D→FR
noncomputable def Zo(b:Bool):List Bool→List T→List T
 | m::ms,t::l=>if m=b then t::Zo b ms l else Zo b ms l
 | _,_=>[]
noncomputable def RtOk(ms:List Bool)(l:List T)(v:V):RT→Prop
 | .val t=>v=t.val
 | .arg j q a=>v=.ref a∧ms[j]?=some true∧∃ t s,l[j]?=some t∧t.get q=some s∧s.val=.ref a
structure Ent(H:Hp)(B:Addr→Prop)(ms:List Bool)(l:List T):Prop where
 len:ms.length=l.length
 ok:T.oks H l
 nd:(T.owns (Zo true ms l)).Nodup
 sep:∀ a∈T.ros l,a∉T.owns (Zo true ms l)∧¬ B a
 rd:∀ a∈T.owns (Zo false ms l),a∉T.owns (Zo true ms l)
 b:∀ a,B a→a∉T.owns (Zo true ms l)∧H a≠none
structure Exi(H H':Hp)(B:Addr→Prop)(ms:List Bool)(l l' m:List T):Prop where
 len:l'.length=l.length
 val:l'.map T.val=l.map T.val
 ok:T.oks H' (Zo true ms l')
 fok:T.oks H' m
 nd:(T.owns (Zo true ms l')++T.owns m).Nodup
 own:∀ a,a∈T.owns (Zo true ms l')∨a∈T.owns m→a∈T.owns (Zo true ms l)∨H a=none
 sep:∀ a,a∈T.ros (Zo true ms l')∨a∈T.ros m→a∉T.owns (Zo true ms l')∧a∉T.owns m∧¬ B a
 keep:∀ a,H a≠none→a∉T.owns (Zo true ms l)→H' a=H a
noncomputable def spR(ad:Str→Addr)(ms:List Bool)(fn:Fn):Sp:=fun vs H Q E=>∃ (l:List T) (B:Addr→Prop),l.map T.val=vs∧Ent H B ms l∧match fn (T.ers l) with
 | .ok rv ds'=>∀ H' l' rt v,T.ers l'=ds'→rt.er=rv→RtOk ms l' v rt→Exi H H' B ms l l' rt.tr→Q v H'
 | .ex C ds'=>∀ H' l',T.ers l'=ds'→Exi H H' B ms l l' []→E (.ref (ad C)) none H'
 | .no=>False

noncomputable def ini(n:Nat)(ms:List Bool)(ds:List D):Sd:=ds.mapIdx (fun k d=>if d.imm then .own true d else .bor (n + k) [])++List.replicate (n - ds.length) .non++Qaj (fun m d=>if d.imm then DL.non else .own m d) ms ds
noncomputable def outs(s:Sd):Nat→List Bool→List D→Option (List D)
 | n,m::ms,d::r=>if d.imm then (outs s (n + 1) ms r).map (d::·) else (match s[n]?,outs s (n + 1) ms r with | some (.own w d'),some r'=>if w=m then some (d'::r') else none | _,_=>none)
 | _,_,[]=>some []
 | _,[],_=>none
noncomputable def ends(n:Nat)(ms:List Bool)(ds:List D)(r:DV)(s:Sd):FR:=match outs s n ms ds with
 | none=>.no
 | some ds'=>match r with
  | .val d=>.ok (.val d) ds'
  | .plc j q=>if n≤j then (match ms[j - n]?,ds[j - n]? with | some true,some d=>if d.imm then .no else .ok (.arg (j - n) q) ds' | _,_=>.no)
   else (match Zq s (.plc j q),s[j]? with | some d,some (.own true _)=>.ok (.val d) ds' | _,_=>.no)
noncomputable def ZL(n:Nat)(ms:List Bool)(body:SF):Fn:=fun ds=>match body (ini n ms ds) with
 | .nx s=>ends n ms ds (.val (.at .non)) s
 | .rt r s=>ends n ms ds r s
 | .ex C s=>(match outs s n ms ds with | some ds'=>.ex C ds' | none=>.no)
 | _=>.no
noncomputable def T.adr:T→Addr
 | .nd a _ _=>a | .at _=>0
theorem T.adr_val{t:T}(h:t.er.imm=false):t.val=.ref t.adr:=by
 cases t with
 | «at» v=>cases h
 | nd a k l=>rfl
noncomputable def iniT(n:Nat)(ms:List Bool)(l:List T):Ts:=l.mapIdx (fun k t=>if t.er.imm then .own true t else .bor (n + k) [] t.adr)++List.replicate (n - l.length) .non++Qaj (fun m t=>if t.er.imm then TL.non else .own m t) ms l
theorem Zb7{n:Nat}{ms:List Bool}{l:List T}:(iniT n ms l).map TL.er=ini n ms (T.ers l):=by
 unfold iniT ini
 rw [T.ers_eq,Qt,Qt,Qs]
 have cg:∀ {a b c a' b' c':Sd},a=a'→b=b'→c=c'→a++b++c=a'++b'++c':=by rintro _ _ _ _ _ _ rfl rfl rfl;rfl
 refine cg ?_ ?_ ?_
 ·refine Ju fun i=>?_
  simp only [Qa,Ww,Option.map_map]
  cases l[i]? with
  | none=>rfl
  | some t=>simp only [Option.map_some,Function.comp];cases t.er.imm <;> rfl
 ·simp [TL.er]
 ·refine Ju fun i=>?_
  simp only [Qa,Wt,Option.map_map]
  cases ms[i]? with
  | none=>rfl
  | some m=>cases l[i]? with
   | none=>rfl
   | some t=>simp only [Option.map_some,Function.comp];cases t.er.imm <;> rfl
section
variable {n:Nat}{ms:List Bool}{l:List T}{H:Hp}
theorem Z9v(hl:ms.length=l.length)(hn:l.length≤n):(iniT n ms l).length=n + l.length:=by
 unfold iniT
 simp only [Ja,Nz,Jt,List.length_zipWith,hl];omega
theorem Z7C(hn:l.length≤n){i:Nat}(hi:i < n):(iniT n ms l)[i]?=some (match l[i]? with | some t=>if t.er.imm then .own true t else .bor (n + i) [] t.adr | none=>.non):=by
 unfold iniT
 rw [Qq]
 by_cases h:i < l.length
 ·rw [Qo (by simpa using h),Ww,Qj h];rfl
 ·rw [Jf (by simpa using h),Qo (by simp;omega),Jo (Gg h)]
  simp only [Nz,Wx]
  rw [if_pos (by omega)]
theorem Z7B(hl:ms.length=l.length)(hn:l.length≤n){k:Nat}{m:Bool}{t:T}(h1:ms[k]?=some m)(h2:l[k]?=some t):(iniT n ms l)[n + k]?=some (if t.er.imm then .non else .own m t):=by
 unfold iniT
 rw [Jf (by simp only [Ja,Nz,Jt];omega)]
 have:n + k - (l.mapIdx (fun k t=>if t.er.imm then TL.own true t else .bor (n + k) [] t.adr)++List.replicate (n - l.length) TL.non).length=k:=by simp only [Ja,Nz,Jt];omega
 rw [this,Wt,h1,h2]
theorem Z7D:∀ {ms:List Bool} {l:List T},Zd (Qaj (fun m t=>if t.er.imm then TL.non else .own m t) ms l)=T.owns (Zo true ms l)∧rdS (Qaj (fun m t=>if t.er.imm then TL.non else .own m t) ms l)=T.owns (Zo false ms l)
 | [],l=>by cases l <;> exact ⟨rfl,rfl⟩
 | m::ms,[]=>⟨rfl,rfl⟩
 | m::ms,t::l=>by
  obtain ⟨h1,h2⟩:=Z7D (ms:=ms) (l:=l)
  simp only [Qak,Zo]
  unfold Zd rdS at *
  rw [Wc,Wc,h1,h2]
  cases hi:t.er.imm with
  | true =>
   have:=T.imm_own hi
   cases m <;> simp [TL.own1,TL.rd1,T.owns,this]
  | false=>cases m <;> simp [TL.own1,TL.rd1,T.owns]
theorem Z5l:∀ (l:List T) (f:Nat→T→TL),(∀ k t,f k t=.own true t∧t.er.imm=true∨∃ a b c,f k t=.bor a b c)→Zd (l.mapIdx f)=[]∧rdS (l.mapIdx f)=[]
 | [],f,h=>⟨rfl,rfl⟩
 | t::l,f,h=>by
  obtain ⟨h1,h2⟩:=Z5l l (fun k=>f (k + 1)) fun k t=>h (k + 1) t
  rw [List.mapIdx_cons]
  unfold Zd rdS at *
  rw [Wc,Wc,h1,h2]
  rcases h 0 t with ⟨e,hi⟩ | ⟨a,b,c,e⟩
  ·rw [e];exact ⟨by simp [TL.own1,T.imm_own hi],rfl⟩
  ·rw [e];exact ⟨rfl,rfl⟩
theorem Z9w:Zd (iniT n ms l)=T.owns (Zo true ms l)∧rdS (iniT n ms l)=T.owns (Zo false ms l):=by
 unfold iniT
 have h1:=Z5l l (fun k t=>if t.er.imm then TL.own true t else .bor (n + k) [] t.adr) fun k t=>by
  cases hi:t.er.imm with
  | true=>exact .inl ⟨rfl,rfl⟩
  | false=>exact .inr ⟨_,_,_,rfl⟩
 have h2:=Z7D (ms:=ms) (l:=l)
 rw [Z1x,Z1x,Z2x,Z2x,h1.1,h1.2,h2.1,h2.2]
 constructor
 ·simp [Zd,TL.own1]
 ·simp [rdS,TL.rd1]
theorem Z6d{w:Bool}{t:T}(h:TL.own w t∈iniT n ms l):t∈l:=by
 unfold iniT at h
 simp only [Qe] at h
 rcases h with (h | h) | h
 ·obtain ⟨i,hi⟩:=Jd.mp h
  rw [Ww] at hi
  cases e:l[i]? with
  | none=>rw [e] at hi;cases hi
  | some u =>
   rw [e] at hi
   simp only [Option.map_some,Option.some.injEq] at hi
   split at hi
   ·cases hi;exact Qf e
   ·cases hi
 ·simp at h
 ·obtain ⟨i,hi⟩:=Jd.mp h
  rw [Wt] at hi
  cases e1:ms[i]? with
  | none=>rw [e1] at hi;cases hi
  | some m =>
   cases e:l[i]? with
   | none=>rw [e1,e] at hi;cases hi
   | some u =>
    rw [e1,e] at hi
    simp only [Option.some.injEq] at hi
    split at hi
    ·cases hi
    ·cases hi;exact Qf e
noncomputable def ancs(n:Nat)(l:List T):List (Nat×Addr):=(l.mapIdx fun k t=>(n + k,t)).filterMap fun p=>if p.2.er.imm then none else some (p.1,p.2.adr)
theorem Z3G{j:Nat}{a:Addr}:(j,a)∈ancs n l↔∃ k t,l[k]?=some t∧t.er.imm=false∧j=n + k∧a=t.adr:=by
 unfold ancs
 rw [Nb]
 constructor
 ·rintro ⟨⟨x,t⟩,hm,h⟩
  obtain ⟨k,hk⟩:=Jd.mp hm
  rw [Ww] at hk
  cases e:l[k]? with
  | none=>rw [e] at hk;cases hk
  | some u =>
   rw [e] at hk
   cases hk
   dsimp only at h
   cases hi:t.er.imm with
   | true=>rw [hi] at h;cases h
   | false=>rw [hi] at h;cases h;exact ⟨k,t,e,hi,rfl,rfl⟩
 ·rintro ⟨k,t,hk,hi,rfl,rfl⟩
  refine ⟨(n + k,t),Qf (i:=k) (by rw [Ww,hk];rfl),?_⟩
  rw [hi];rfl
theorem Cf.entry{B:Addr→Prop}{EX:L2.St→XK}{ad:Str→Addr}{N:List Str}{vs:List V}(en:Ent H B ms l)(hv:l.map T.val=vs)(hn:l.length≤N.length) :
  Cf ⟨H,fun a=>H a≠none∧a∉T.owns (Zo true ms l),B,EX,ad⟩ (List.range N.length) (ancs N.length l) H (L2.start N vs) (iniT N.length ms l) []:=by
 obtain ⟨o1,o2⟩:=Z9w (n:=N.length) (ms:=ms) (l:=l)
 have ln:=Z9v (n:=N.length) en.len hn
 have ros:∀ a,a∈roS (iniT N.length ms l)→a∈T.ros l:=fun a z=>by
  obtain ⟨w,t,h1,h2⟩:=Z0W.mp z
  exact T.mem_ros.mpr ⟨t,Z6d h1,h2⟩
 have hms:∀ k t,l[k]?=some t→∃ m,ms[k]?=some m:=fun k t h=>⟨ms[k]'(by rw [en.len];exact (Qc.mp h).1),Qj _⟩
 have hi:∀ k t,l[k]?=some t→t.er.imm=false→∃ m,ms[k]?=some m∧(iniT N.length ms l)[N.length + k]?=some (TL.own m t):=fun k t h e=>by
  obtain ⟨m,hm⟩:=hms k t h
  exact ⟨m,hm,by rw [Z7B en.len hn hm h,e];rfl⟩
 refine ⟨fun w t z=>T.oks_iff.mp en.ok t (Z6d z),trivial,by rw [o1];simpa [T.owns] using en.nd,fun a z=>?_,fun a z=>?_,fun a z=>?_,fun a z=>?_,fun j k p a z=>?_,fun j z=>?_,fun i j s v z1 z2 z3=>?_,fun j a z=>?_,fun j a z=>?_,?_,fun j a z s v z2 z3=>?_⟩
 ·rw [o1]
  rcases z with z | z
  ·have:=en.sep a (ros a z)
   exact ⟨this.1,by simp [T.owns],this.2⟩
  ·simp [T.ros] at z
 ·rw [o2] at z;rw [o1];exact ⟨en.rd a z,by simp [T.owns]⟩
 ·rw [o1];exact ⟨rfl,z.1,z.2,by simp [T.owns]⟩
 ·exact ⟨(en.b a z).2,(en.b a z).1⟩
 ·have hj:j < N.length:=by
   rcases Qai j N.length with h | h
   ·exact h
   ·have hlt:=(Qc.mp z).1
    rw [ln] at hlt
    obtain ⟨t,ht⟩:∃ t,l[j - N.length]?=some t:=⟨l[j - N.length]'(by omega),Qj _⟩
    obtain ⟨m,hm⟩:=hms _ _ ht
    have:=Z7B en.len hn hm ht
    rw [show N.length + (j - N.length)=j by omega,z] at this
    split at this <;> cases this
  rw [Z7C hn hj] at z
  cases e:l[j]? with
  | none=>rw [e] at z;cases z
  | some t =>
   rw [e] at z
   dsimp only at z
   cases hi':t.er.imm with
   | true=>rw [hi'] at z;cases z
   | false =>
    rw [hi'] at z
    cases z
    obtain ⟨m,_,q⟩:=hi j t e hi'
    exact ⟨m,t,t,q,rfl,T.adr_val hi'⟩
 ·rw [ln];have:=Wi.mp z;omega
 ·have hir:=(Qc.mp z1)
  have hlt:i < N.length:=by simpa using hir.1
  obtain rfl:i=j:=by
   have:=hir.2
   simpa using this
  rw [Z7C hn hlt] at z2
  cases e:l[i]? with
  | none=>rw [e] at z2;cases z2;cases z3
  | some t =>
   rw [e] at z2
   have hvi:vs[i]?=some t.val:=by rw [← hv,Qa,e];rfl
   have hst:(L2.start N vs)[i]?=some (some t.val):=by
    unfold L2.start
    rw [Qo (by simpa using (Qc.mp hvi).1),Qa,hvi];rfl
   rw [hst]
   dsimp only at z2
   cases hi':t.er.imm with
   | true=>rw [hi'] at z2;cases z2;cases z3;rfl
   | false=>rw [hi'] at z2;cases z2;cases z3;rw [T.adr_val hi']
 ·obtain ⟨k,t,h1,_,rfl,_⟩:=Z3G.mp z
  rw [ln];have:=(Qc.mp h1).1;omega
 ·obtain ⟨k,t,h1,_,rfl,_⟩:=Z3G.mp z
  simp
 ·unfold L2.start
  have:vs.length=l.length:=by rw [← hv];simp
  simp;omega
 ·obtain ⟨k,t,h1,h2,rfl,rfl⟩:=Z3G.mp z
  obtain ⟨m,_,q⟩:=hi k t h1 h2
  rw [q] at z2
  cases z2
  simp only [TL.v,Option.some.injEq] at z3
  rw [← z3,T.adr_val h2]
end
end RM

namespace RM
open PySem PySem.Spec PyProof.Rows L2
section
variable {R:RC}{ix:List Nat}{hd:List (Nat×Addr)}{H H':Hp}{σ:L2.St}{ts:Ts}{fr:List T}{ms:List Bool}
theorem Z8W(C:Cf R ix hd H' σ ts fr):∀ {ms:List Bool} {l:List T} {n:Nat} {ds:List D},outs (ts.map TL.er) n ms (T.ers l)=some ds→(∀ k t,l[k]?=some t→t.er.imm=false→(n + k,t.adr)∈hd) →
  ∃ l':List T,T.ers l'=ds∧l'.length=l.length∧l'.map T.val=l.map T.val∧(∀ k t',l'[k]?=some t'→(∃ t,l[k]?=some t∧t.er.imm=true∧t'=t)∨∃ t m,l[k]?=some t∧t.er.imm=false∧ms[k]?=some m∧ts[n + k]?=some (.own m t')) ∧
   List.Sublist (T.owns (Zo true ms l')) (Zd (ts.drop n))
 | m::ms,t::l,n,ds,h,ha=>by
  simp only [T.ers,outs] at h
  have rest:∀ ds',outs (ts.map TL.er) (n + 1) ms (T.ers l)=some ds'→∃ l':List T,T.ers l'=ds'∧l'.length=l.length∧l'.map T.val=l.map T.val∧(∀ k t',l'[k]?=some t'→(∃ t,l[k]?=some t∧t.er.imm=true∧t'=t)∨∃ t m,l[k]?=some t∧t.er.imm=false∧ms[k]?=some m∧ts[n + 1 + k]?=some (.own m t')) ∧
    List.Sublist (T.owns (Zo true ms l')) (Zd (ts.drop (n + 1))):=fun ds' h'=>Z8W C h' fun k u hk hu=>by
   have:=ha (k + 1) u (by simpa using hk) hu
   rwa [show n + (k + 1)=n + 1 + k by omega] at this
  have dr:List.Sublist (Zd (ts.drop (n + 1))) (Zd (ts.drop n)):=by
   cases e:ts[n]? with
   | none =>
    have:=List.getElem?_eq_none_iff.mp e
    rw [Qal (by omega),Qal (by omega)];exact .refl _
   | some y =>
    rw [Nr (Qc.mp e).1]
    unfold Zd
    rw [Wc]
    exact Gw _ _
  cases hi:t.er.imm with
  | true =>
   rw [hi,if_pos rfl] at h
   cases er:outs (ts.map TL.er) (n + 1) ms (T.ers l) with
   | none=>rw [er] at h;cases h
   | some ds' =>
    rw [er] at h
    cases h
    obtain ⟨l',a1,a2,a3,a4,a5⟩:=rest ds' er
    refine ⟨t::l',by rw [T.ers,a1],by simp [a2],by simp [a3],fun k t' hk=>?_,?_⟩
    ·cases k with
     | zero=>cases hk;exact .inl ⟨t,rfl,hi,rfl⟩
     | succ k =>
      rcases a4 k t' (by simpa using hk) with ⟨u,u1,u2,u3⟩ | ⟨u,m',u1,u2,u3,u4⟩
      ·exact .inl ⟨u,by simpa using u1,u2,u3⟩
      ·exact .inr ⟨u,m',by simpa using u1,u2,by simpa using u3,by rw [show n + (k + 1)=n + 1 + k by omega];exact u4⟩
    ·simp only [Zo]
     cases m with
     | true=>rw [if_pos rfl,T.owns_cons,T.imm_own hi];exact a5.trans dr
     | false=>rw [if_neg Qp];exact a5.trans dr
  | false =>
   rw [hi,if_neg Qp,Qa] at h
   cases e:ts[n]? with
   | none=>rw [e] at h;cases h
   | some y =>
    rw [e] at h
    cases er:outs (ts.map TL.er) (n + 1) ms (T.ers l) with
    | none=>rw [er] at h;cases y <;> cases h
    | some ds' =>
     rw [er] at h
     cases y with
     | non=>cases h
     | bor _ _ _=>cases h
     | own w t' =>
      simp only [Option.map_some,TL.er] at h
      by_cases hw:w=m
      ·subst hw
       rw [if_pos rfl] at h
       cases h
       obtain ⟨l',a1,a2,a3,a4,a5⟩:=rest ds' er
       have hv:t'.val=t.val:=by
        rw [T.adr_val hi]
        exact C.hdn n t.adr (ha 0 t rfl hi) _ _ e rfl
       refine ⟨t'::l',by rw [T.ers,a1],by simp [a2],by simp [a3,hv],fun k u hk=>?_,?_⟩
       ·cases k with
        | zero=>cases hk;exact .inr ⟨t,w,rfl,hi,rfl,e⟩
        | succ k =>
         rcases a4 k u (by simpa using hk) with ⟨u',u1,u2,u3⟩ | ⟨u',m',u1,u2,u3,u4⟩
         ·exact .inl ⟨u',by simpa using u1,u2,u3⟩
         ·exact .inr ⟨u',m',by simpa using u1,u2,by simpa using u3,by rw [show n + (k + 1)=n + 1 + k by omega];exact u4⟩
       ·rw [Nr (Qc.mp e).1]
        unfold Zd
        rw [Wc,(Qc.mp e).2]
        simp only [Zo]
        cases w with
        | true=>rw [if_pos rfl,T.owns_cons];exact List.Sublist.append (.refl _) a5
        | false=>rw [if_neg Qp];exact a5
      ·rw [if_neg hw] at h;cases h
 | ms',[],n,ds,h,ha=>by
  have:ds=[]:=by
   cases ms' <;> (simp only [T.ers,outs] at h;cases h;rfl)
  subst this
  refine ⟨[],rfl,rfl,rfl,fun k t' hk=>by simp at hk,?_⟩
  cases ms' <;> exact List.nil_sublist _
 | [],t::l,n,ds,h,ha=>by simp only [T.ers,outs] at h;cases h
theorem Z3H{b:Bool}{t:T}:∀ {ms:List Bool} {l:List T},t∈Zo b ms l→∃ k:Nat,l[k]?=some t∧ms[k]?=some b
 | m::ms,u::l,h=>by
  simp only [Zo] at h
  by_cases hm:m=b
  ·rw [if_pos hm] at h
   rcases Qz.mp h with h | h
   ·subst h;exact ⟨0,rfl,by rw [hm];rfl⟩
   ·obtain ⟨k,h1,h2⟩:=Z3H h;exact ⟨k + 1,by simpa using h1,by simpa using h2⟩
  ·rw [if_neg hm] at h
   obtain ⟨k,h1,h2⟩:=Z3H h;exact ⟨k + 1,by simpa using h1,by simpa using h2⟩
 | [],_,h=>by simp [Zo] at h
 | _::_,[],h=>by simp [Zo] at h
theorem Cf.exit{B:Addr→Prop}{EX:L2.St→XK}{ad:Str→Addr}{n:Nat}{l m:List T}{ds:List D}(en:Ent H B ms l)(C:Cf ⟨H,fun a=>H a≠none∧a∉T.owns (Zo true ms l),B,EX,ad⟩ (List.range n) (ancs n l) H' σ ts m)
  (ho:outs (ts.map TL.er) n ms (T.ers l)=some ds):∃ l',T.ers l'=ds∧Exi H H' B ms l l' m∧∀ k t',l'[k]?=some t'→(∃ t,l[k]?=some t∧t.er.imm=true∧t'=t)∨∃ t w,l[k]?=some t∧t.er.imm=false∧ms[k]?=some w∧ts[n + k]?=some (.own w t'):=by
 obtain ⟨l',a1,a2,a3,a4,a5⟩:=Z8W C ho fun k t hk hi=>Z3G.mpr ⟨k,t,hk,hi,rfl,rfl⟩
 have kp:∀ a,H a≠none→a∉T.owns (Zo true ms l)→H' a=H a:=fun a h1 h2=>(C.g a ⟨h1,h2⟩).1
 have imk:∀ (k:Nat) (t:T),l[k]?=some t→t.er.imm=true→t.ok H'∧∀ a∈t.ro,a∉Zd ts∧a∉T.owns m∧¬ B a:=fun k t hk hi=>by
  have tok:=T.oks_iff.mp en.ok t (Qf hk)
  have G:∀ a∈t.ro,H a≠none∧a∉T.owns (Zo true ms l)∧¬ B a:=fun a z=>by
   have:=en.sep a (T.mem_ros.mpr ⟨t,Qf hk,z⟩)
   exact ⟨T.there tok (.inr z),this.1,this.2⟩
  refine ⟨T.keep tok fun a z=>?_,fun a z=>?_⟩
  ·rcases z with z | z
   ·rw [T.imm_own hi] at z;cases z
   ·exact kp a (G a z).1 (G a z).2.1
  ·obtain ⟨g1,g2,g3⟩:=G a z
   obtain ⟨_,_,q1,q2⟩:=C.g a ⟨g1,g2⟩
   exact ⟨q1,q2,g3⟩
 have tops:∀ t'∈Zo true ms l',(t'.ok H'∧∀ a∈t'.ro,a∉Zd ts∧a∉T.owns m∧¬ B a):=fun t' ht=>by
  obtain ⟨k,h1,h2⟩:=Z3H ht
  rcases a4 k t' h1 with ⟨t,u1,u2,rfl⟩ | ⟨t,w,u1,u2,u3,u4⟩
  ·exact imk k _ u1 u2
  ·refine ⟨C.ok w t' (Qf u4),fun a z=>C.sep a (.inl (Z0W.mpr ⟨w,t',Qf u4,z⟩))⟩
 have sb:List.Sublist (T.owns (Zo true ms l')) (Zd ts):=by
  refine a5.trans ?_
  have:Zd ts=Zd (ts.take n)++Zd (ts.drop n):=by rw [← Z1x,Gf]
  rw [this]
  exact Gw _ _
 refine ⟨l',a1,⟨a2,a3,T.oks_iff.mpr fun t' ht=>(tops t' ht).1,C.fok,?_,fun a z=>?_,fun a z=>?_,kp⟩,a4⟩
 ·exact (List.Sublist.append sb (List.Sublist.refl (T.owns m))).nodup C.nd
 ·have hz:a∈Zd ts∨a∈T.owns m:=z.imp (fun q=>sb.subset q) id
  by_cases h1:H a=none
  ·exact .inr h1
  ·left
   by_cases h2:a∈T.owns (Zo true ms l)
   ·exact h2
   ·obtain ⟨_,_,q1,q2⟩:=C.g a ⟨h1,h2⟩
    exact (hz.elim q1 q2).elim
 ·have:a∉Zd ts∧a∉T.owns m∧¬ B a:=by
   rcases z with z | z
   ·obtain ⟨t',ht,hz⟩:=T.mem_ros.mp z
    exact (tops t' ht).2 a hz
   ·exact C.sep a (.inr z)
  exact ⟨fun q=>this.1 (sb.subset q),this.2⟩
end
end RM

namespace RM
open PySem PySem.Spec PyProof.Rows L2
theorem Z4S{s s':Sd}:∀ {n:Nat} {ms:List Bool} {ds:List D},(∀ i,n≤i→∀ w d,s[i]?=some (.own w d)↔s'[i]?=some (.own w d))→outs s n ms ds=outs s' n ms ds
 | n,m::ms,d::r,h=>by
  simp only [outs]
  rw [Z4S (n:=n + 1) (ms:=ms) (ds:=r) fun i hi=>h i (by omega)]
  cases d.imm with
  | true=>rfl
  | false =>
   simp only [Jz,if_false]
   have h0:=h n (Qu n)
   cases e:s[n]? with
   | none =>
    cases e':s'[n]? with
    | none=>rfl
    | some y=>cases y with
     | own w d'=>have:=(h0 w d').mpr e';rw [e] at this;cases this
     | _=>cases outs s' (n + 1) ms r <;> rfl
   | some x =>
    cases x with
    | own w d'=>rw [(h0 w d').mp e]
    | non =>
     cases e':s'[n]? with
     | none=>cases outs s' (n + 1) ms r <;> rfl
     | some y=>cases y with
      | own w d'=>have:=(h0 w d').mpr e';rw [e] at this;cases this
      | _=>cases outs s' (n + 1) ms r <;> rfl
    | bor a b =>
     cases e':s'[n]? with
     | none=>cases outs s' (n + 1) ms r <;> rfl
     | some y=>cases y with
      | own w d'=>have:=(h0 w d').mpr e';rw [e] at this;cases this
      | _=>cases outs s' (n + 1) ms r <;> rfl
 | n,[],[],h=>rfl
 | n,_::_,[],h=>rfl
 | n,[],_::_,h=>rfl
theorem ZaG{ad:Str→Addr}{ms:List Bool}{fn:Fn}{vs:List V}{H:Hp}{Q:VK}{E:XK}(h:spR ad ms fn vs H Q E):vs.length=ms.length:=by
 obtain ⟨l,B,hv,en,_⟩:=h
 rw [← hv,Qs,en.len]
theorem Z8b{ad:Str→Addr}{N:List Str}{ms:List Bool}{body:SF}{vs:List V}{H:Hp}{Q:VK}{E:XK}(hn:ms.length≤N.length)(h:spR ad ms (ZL N.length ms body) vs H Q E) :
  ∃ R:RC,R.EX=(fun _=>E)∧R.ad=ad∧lS R (List.range N.length) body { nx:=fun _ H'=>Q .non H',rt:=Q } (L2.start N vs) H:=by
 obtain ⟨l,B,hv,en,h⟩:=h
 refine ⟨⟨H,fun a=>H a≠none∧a∉T.owns (Zo true ms l),B,fun _=>E,ad⟩,rfl,rfl,ancs N.length l,iniT N.length ms l,[],Cf.entry en hv (by rw [← en.len];exact hn),?_⟩
 rw [Zb7]
 unfold ZL at h
 generalize ini N.length ms (T.ers l)=s0 at h
 have fin:∀ {H':Hp} {σ':L2.St} {ts':Ts} {t:T} {s':Sd},ts'.map TL.er=s'→Cf ⟨H,fun a=>H a≠none∧a∉T.owns (Zo true ms l),B,fun _=>E,ad⟩ (List.range N.length) (ancs N.length l) H' σ' ts' [t] →
   (match ends N.length ms (T.ers l) (.val t.er) s' with | .ok rv ds'=>∀ H' l' rt v,T.ers l'=ds'→rt.er=rv→RtOk ms l' v rt→Exi H H' B ms l l' rt.tr→Q v H' | .ex C ds'=>∀ H' l',T.ers l'=ds'→Exi H H' B ms l l' []→E (.ref (ad C)) none H' | .no=>False)→Q t.val H':=by
  intro H' σ' ts' t s' e C h
  subst e
  unfold ends at h
  cases eo:outs (ts'.map TL.er) N.length ms (T.ers l) with
  | none=>rw [eo] at h;exact h.elim
  | some ds' =>
   rw [eo] at h
   obtain ⟨l',a1,a2,_⟩:=Cf.exit en C eo
   exact h H' l' (.val t) t.val a1 rfl rfl a2
 cases eb:body s0 with
 | nx s=>rw [eb] at h;intro H' σ' ts' e C;exact fin (t:=.at .non) e (C.at .non) h
 | bk s=>rw [eb] at h;exact h.elim
 | ct s=>rw [eb] at h;exact h.elim
 | no=>rw [eb] at h;exact h.elim
 | ex Cx s =>
  rw [eb] at h
  intro H' σ' ts' e C
  subst e
  dsimp only at h
  cases eo:outs (ts'.map TL.er) N.length ms (T.ers l) with
  | none=>rw [eo] at h;exact h.elim
  | some ds' =>
   rw [eo] at h
   obtain ⟨l',a1,a2,_⟩:=Cf.exit en C eo
   exact h H' l' a1 a2
 | rt r s =>
  rw [eb] at h
  intro H' σ' ts' tv v e1 e2 hv' C
  cases r with
  | val d =>
   obtain ⟨t,rfl,rfl,rfl⟩:=hv'.er_val e2
   exact fin e1 C h
  | plc j q =>
   obtain ⟨a,rfl,rfl,hp⟩:=hv'.er_plc e2
   subst e1
   obtain ⟨w,t,s1,h1,h2,h3⟩:=hp
   dsimp only at h
   unfold ends at h
   cases eo:outs (ts'.map TL.er) N.length ms (T.ers l) with
   | none=>rw [eo] at h;exact h.elim
   | some ds' =>
    rw [eo] at h
    dsimp only at h
    by_cases hj:N.length≤j
    ·rw [if_pos hj] at h
     obtain ⟨l',a1,a2,a3⟩:=Cf.exit (m:=[]) en C eo
     cases em:ms[j - N.length]? with
     | none=>rw [em] at h;exact h.elim
     | some m =>
      cases ed:(T.ers l)[j - N.length]? with
      | none=>rw [em,ed] at h;cases m <;> exact h.elim
      | some d =>
       rw [em,ed] at h
       cases m with
       | false=>exact h.elim
       | true =>
        dsimp only at h
        cases hi:d.imm with
        | true=>rw [hi] at h;exact h.elim
        | false =>
         rw [hi] at h
         refine h H' l' (.arg (j - N.length) q a) (.ref a) a1 rfl ⟨rfl,em,?_⟩ a2
         have hlt:j - N.length < l'.length:=by
          rw [a2.len]
          have:=(Qc.mp ed).1
          rwa [T.ers_eq,Qs] at this
         rcases a3 (j - N.length) l'[j - N.length] (Qj hlt) with ⟨u,u1,u2,_⟩ | ⟨u,w',u1,u2,u3,u4⟩
         ·rw [T.ers_eq,Qa,u1] at ed
          cases ed
          rw [u2] at hi;cases hi
         ·rw [show N.length + (j - N.length)=j by omega,h1] at u4
          cases u4
          exact ⟨_,s1,Qj hlt,h2,h3⟩
    ·rw [if_neg hj] at h
     have hd1:Zq (ts'.map TL.er) (.plc j q)=some s1.er:=by simp only [Zq,Qa,h1,Option.map_some,TL.er,T.get_er,h2]
     rw [hd1,Qa,h1] at h
     cases w with
     | false=>exact h.elim
     | true =>
      obtain ⟨c,r,K⟩:=T.ctx h2
      have C':Cf ⟨H,fun a=>H a≠none∧a∉T.owns (Zo true ms l),B,fun _=>E,ad⟩ (List.range N.length) (ancs N.length l) H' σ' ((ts'.set j (.own true (T.put (.at (.ref a)) q t))).map (Zw j q fun _=>false)) [s1]:=by
       refine Cf.exch (s':=.at (.ref a)) (x:=[]) (fr':=[s1]) C h1 h2 h3.symm trivial ⟨T.get_ok h2 (C.ok true t (Qf h1)),trivial⟩ ?_ ?_
       ·simp [T.owns,T.own,TV.tr]
       ·intro b hb
        simpa [T.ros,T.ro,TV.tr] using hb
      have eo':outs (((ts'.set j (.own true (T.put (.at (.ref a)) q t))).map (Zw j q fun _=>false)).map TL.er) N.length ms (T.ers l)=some ds':=by
       rw [← eo]
       refine (Z4S fun i hi w d=>?_).symm
       rw [Qa,Qa,Qa,Qm,if_neg (by omega)]
       cases e:ts'[i]? with
       | none=>simp
       | some y =>
        rcases Z0y (k:=j) (p:=q) (keep:=fun _=>false) y with e' | ⟨e',k',q',a',rfl⟩
        ·simp only [Option.map_some,e']
        ·simp only [Option.map_some,e',TL.er]
         exact ⟨fun z=>(by cases z),fun z=>(by cases z)⟩
      obtain ⟨l',a1,a2,_⟩:=Cf.exit en C' eo'
      exact h H' l' (.val s1) (.ref a) a1 rfl h3.symm a2
end RM

namespace RM
open PySem PySem.Spec PyProof.Rows L2
noncomputable def disj:List Nat→List Nat→Bool
 | x::p,y::q=>if x=y then disj p q else true
 | _,_=>false
noncomputable def apart(k:Nat)(p:List Nat):List DV→List Bool→Bool
 | .plc k' p'::rs,true::ms=>(decide (k'≠k) || disj p' p) && apart k p rs ms
 | _::rs,_::ms=>apart k p rs ms
 | _,_=>true
noncomputable def takes:List DV→List Bool→Sd→Option (Sd×List (Option D))
 | [],_,s=>some (s,[])
 | .val d::rs,_::ms,s=>(match takes rs ms s with | some (s',l)=>some (s',some d::l) | none=>none)
 | .plc k p::rs,true::ms,s=>(match s[k]?,Zq s (.plc k p),apart k p rs ms with
  | some (.own true _),some d,true=>(match takes rs ms (wr s k p hole fun _=>false) with | some (s',l)=>some (s',some d::l) | none=>none)
  | _,_,_=>none)
 | .plc _ _::rs,false::ms,s=>(match takes rs ms s with | some (s',l)=>some (s',none::l) | none=>none)
 | _::_,[],_=>none
noncomputable def fills(s:Sd):List DV→List (Option D)→Option (List D)
 | _::rs,some d::l=>(match fills s rs l with | some r=>some (d::r) | none=>none)
 | r::rs,none::l=>(match Zq s r,fills s rs l with | some d,some r=>some (d::r) | _,_=>none)
 | [],[]=>some []
 | _,_=>none
noncomputable def gives:List DV→List Bool→List D→Sd→Sd
 | .plc k p::rs,true::ms,d::ds,s=>wr (gives rs ms ds s) k p d fun _=>false
 | _::rs,_::ms,_::ds,s=>gives rs ms ds s
 | _,_,_,s=>s
noncomputable def retV(rs:List DV)(ms:List Bool)(s:Sd):RV→ER DV
 | .val d=>.ok (.val d) s
 | .arg j q=>match rs[j]?,ms[j]? with
  | some (.plc k p),some true=>(match Zq s (.plc k (p++q)) with | some d=>.ok (mkV k (p++q) d) s | none=>.no)
  | _,_=>.no
noncomputable def ZF(ms:List Bool)(fn:Fn)(f:AF):EF:=fun s=>match f s with
 | .ok rs s1=>(match takes rs ms s1 with
  | some (sh,l)=>(match fills sh rs l with
   | some ds=>(match fn ds with
    | .ok rv ds'=>retV rs ms (gives rs ms ds' sh) rv
    | .ex C ds'=>.ex C (gives rs ms ds' sh)
    | .no=>.no)
   | none=>.no)
  | none=>.no)
 | .ex C s1=>.ex C s1
 | .no=>.no
noncomputable def Z0F(ts:Ts)(k:Nat)(p:List Nat):Option (Bool×T):=match ts[k]? with
 | some (.own w t)=>(t.get p).map fun u=>(w,u)
 | _=>none
theorem Z5j:∀ {p q:List Nat},disj p q=disj q p
 | [],[]=>rfl
 | [],_::_=>rfl
 | _::_,[]=>rfl
 | x::p,y::q=>by
  unfold disj
  by_cases h:x=y
  ·subst h;rw [if_pos rfl,if_pos rfl,Z5j]
  ·rw [if_neg h,if_neg (Ne.symm h)]
theorem Z63{s':T}:∀ {p q:List Nat} {t:T},disj p q=true→(T.put s' p t).get q=t.get q
 | [],q,t,h=>by cases h
 | _::_,[],t,h=>by cases h
 | i::p,j::q,.at v,h=>rfl
 | i::p,j::q,.nd a k l,h=>by
  unfold disj at h
  simp only [T.put,T.get]
  cases e:l[i]? with
  | none=>rfl
  | some c =>
   simp only [T.get]
   rw [Qm]
   by_cases hij:i=j
   ·subst hij
    rw [if_pos rfl] at h
    rw [if_pos rfl,if_pos (Qc.mp e).1,e]
    exact Z63 h
   ·rw [if_neg hij]
noncomputable def TV.vv:TV→V
 | .val t=>t.val | .plc _ _ a=>.ref a
section
variable {R:RC}{ix:List Nat}{hd:List (Nat×Addr)}{X:Cx}{H H':Hp}{σ:L2.St}{ts:Ts}{fr:List T}
theorem Z3M{k:Nat}{p:List Nat}{t s':T}{keep:Nat→Bool}(hk:ts[k]?=some (.own true t)){k0:Nat}{p0:List Nat}(h:k0≠k∨disj p p0=true) :
  Z0F ((ts.set k (.own true (T.put s' p t))).map (Zw k p keep)) k0 p0=Z0F ts k0 p0:=by
 unfold Z0F
 rw [Qa,Qm]
 by_cases e:k=k0
 ·subst e
  rw [if_pos rfl,if_pos (Qc.mp hk).1,hk]
  have hd:disj p p0=true:=h.resolve_left (fun z=>z rfl)
  show ((T.put s' p t).get p0).map _=(t.get p0).map _
  rw [Z63 hd]
 ·rw [if_neg e]
  cases e1:ts[k0]? with
  | none=>rfl
  | some y =>
   rcases Z0y (k:=k) (p:=p) (keep:=keep) y with e' | ⟨e',k',q,a,rfl⟩
   ·simp only [Option.map_some,e']
   ·simp only [Option.map_some,e']
theorem Z4A{k:Nat}{p:List Nat}{t s s':T}{keep:Nat→Bool}(hk:ts[k]?=some (.own true t))(hp:t.get p=some s) :
  Z0F ((ts.set k (.own true (T.put s' p t))).map (Zw k p keep)) k p=some (true,s'):=by
 unfold Z0F
 rw [Qa,Qm,if_pos rfl,if_pos (Qc.mp hk).1]
 show ((T.put s' p t).get p).map _=_
 have:=Z46 (s':=s') (r:=[]) hp
 rw [Jm] at this
 rw [this];rfl
theorem Z4B{k:Nat}{p:List Nat}{w:Bool}{u:T}(h:Z0F ts k p=some (w,u)):∃ t,ts[k]?=some (.own w t)∧t.get p=some u:=by
 unfold Z0F at h
 cases e:ts[k]? with
 | none=>rw [e] at h;cases h
 | some y =>
  rw [e] at h
  cases y with
  | own w' t =>
   dsimp only at h
   cases e2:t.get p with
   | none=>rw [e2] at h;cases h
   | some v=>rw [e2] at h;cases h;exact ⟨t,rfl,e2⟩
  | _=>cases h
theorem Z34{k:Nat}{p:List Nat}:∀ {tvs:List TV} {ms:List Bool} {i k':Nat} {p':List Nat} {a:Addr},apart k p (tvs.map TV.er) ms=true→tvs[i]?=some (.plc k' p' a)→ms[i]?=some true→k'≠k∨disj p' p=true
 | tv::tvs,m::ms,i,k',p',a,h,h1,h2=>by
  cases i with
  | zero =>
   cases h1;cases h2
   simp only [Ql,TV.er,apart,Jr,Bool.or_eq_true,decide_eq_true_eq] at h
   exact h.1
  | succ i =>
   refine Z34 (tvs:=tvs) (ms:=ms) (i:=i) ?_ (by simpa using h1) (by simpa using h2)
   cases tv with
   | val t=>simpa only [Ql,TV.er,apart] using h
   | plc k2 p2 a2 =>
    cases m with
    | false=>simpa only [Ql,TV.er,apart] using h
    | true=>simp only [Ql,TV.er,apart,Jr] at h;exact h.2
 | [],_,i,_,_,_,_,h1,_=>by simp at h1
 | _::_,[],i,_,_,_,_,_,h2=>by simp at h2
noncomputable def Aparts:List TV→List Bool→Prop
 | .plc k p _::tvs,true::ms=>apart k p (tvs.map TV.er) ms=true∧Aparts tvs ms
 | _::tvs,_::ms=>Aparts tvs ms
 | _,_=>True
theorem Z55:∀ {tvs:List TV} {ms:List Bool} {l' rest:List T} {tsx:Ts},Aparts tvs ms→ms.length=tvs.length→l'.map T.val=tvs.map TV.vv→Cf R ix hd H' σ tsx (Zo true ms l'++rest) →
  (∀ (i k:Nat) p a,tvs[i]?=some (.plc k p a)→ms[i]?=some true→Z0F tsx k p=some (true,.at (.ref a))) →
  ∃ ts',ts'.map TL.er=gives (tvs.map TV.er) ms (T.ers l') (tsx.map TL.er)∧Cf R ix hd H' σ ts' rest∧(∀ (i k:Nat) p a t,tvs[i]?=some (.plc k p a)→ms[i]?=some true→l'[i]?=some t→Z0F ts' k p=some (true,t)) ∧
   ∀ k0 p0 u,(∀ (i k:Nat) p a,tvs[i]?=some (.plc k p a)→ms[i]?=some true→k0≠k∨disj p p0=true)→Z0F tsx k0 p0=some u→Z0F ts' k0 p0=some u
 | [],ms,l',rest,tsx,_,hl,hv,C,_=>by
  have:ms=[]:=by simpa using hl
  subst this
  refine ⟨tsx,by simp [gives],by simpa [Zo] using C,fun i k p a t h=>by simp at h,fun _ _ _ _ h=>h⟩
 | tv::tvs,[],_,_,_,_,hl,_,_,_=>by simp at hl
 | tv::tvs,m::ms,[],_,_,_,_,hv,_,_=>by simp at hv
 | tv::tvs,m::ms,t::l',rest,tsx,A,hl,hv,C,hh=>by
  simp only [Ql,Wf.injEq] at hv
  have hl':ms.length=tvs.length:=by simpa using hl
  have tail:∀ {rest':List T},Aparts tvs ms→Cf R ix hd H' σ tsx (Zo true ms l'++rest')→_:=fun {rest'} A' C'=>Z55 (rest:=rest') A' hl' hv.2 C' fun i k p a h1 h2=>hh (i + 1) k p a (by simpa using h1) (by simpa using h2)
  have plain:Aparts tvs ms→(∀ k p a,tv=.plc k p a→m=true→False)→gives ((tv::tvs).map TV.er) (m::ms) (T.ers (t::l')) (tsx.map TL.er)=gives (tvs.map TV.er) ms (T.ers l') (tsx.map TL.er)→Cf R ix hd H' σ tsx (Zo true ms l'++rest)→∃ ts',ts'.map TL.er=gives ((tv::tvs).map TV.er) (m::ms) (T.ers (t::l')) (tsx.map TL.er)∧Cf R ix hd H' σ ts' rest∧(∀ (i k:Nat) p a u,(tv::tvs)[i]?=some (.plc k p a)→(m::ms)[i]?=some true→(t::l')[i]?=some u→Z0F ts' k p=some (true,u)) ∧
   ∀ k0 p0 u,(∀ (i k:Nat) p a,(tv::tvs)[i]?=some (.plc k p a)→(m::ms)[i]?=some true→k0≠k∨disj p p0=true)→Z0F tsx k0 p0=some u→Z0F ts' k0 p0=some u:=by
   intro A' hno hg C'
   obtain ⟨ts',e1,e2,e3,e4⟩:=tail A' C'
   refine ⟨ts',e1.trans hg.symm,e2,fun i k p a u h1 h2 h3=>?_,fun k0 p0 u h1 h2=>e4 k0 p0 u (fun i k p a z1 z2=>h1 (i + 1) k p a (by simpa using z1) (by simpa using z2)) h2⟩
   cases i with
   | zero=>cases h1;cases h2;exact (hno k p a rfl rfl).elim
   | succ i=>exact e3 i k p a u (by simpa using h1) (by simpa using h2) (by simpa using h3)
  cases tv with
  | val t0 =>
   refine plain A (by intro _ _ _ z;cases z) rfl ?_
   simp only [Zo] at C
   cases m with
   | true=>rw [if_pos rfl] at C;exact C.drop
   | false=>rwa [if_neg Qp] at C
  | plc k p a =>
   cases m with
   | false =>
    refine plain A (by intro _ _ _ _ z;cases z) rfl ?_
    simp only [Zo] at C
    rwa [if_neg Qp] at C
   | true =>
    simp only [Zo,if_true] at C
    have C1:Cf R ix hd H' σ tsx (Zo true ms l'++(t::rest)):=by
     have ok:=C.fok
     refine C.less (x:=[]) (T.oks_app.mpr ⟨(T.oks_app.mp ok.2).1,ok.1,(T.oks_app.mp ok.2).2⟩) ?_ fun b hb=>?_
     ·refine Qx.mpr fun b=>?_
      simp only [Jh,T.owns_cons,T.owns_app,Jj,Jm];omega
     ·left
      simp only [Jh,T.ros_cons,T.ros_app,Qe] at hb ⊢
      rcases hb with hb | hb | hb <;> simp [hb]
    obtain ⟨ts1,e1,e2,e3,e4⟩:=tail (rest':=t::rest) A.2 C1
    have hole1:Z0F ts1 k p=some (true,.at (.ref a)):=by
     refine e4 k p _ (fun i k' p' a' z1 z2=>?_) (hh 0 k p a rfl rfl)
     exact (Z34 A.1 z1 z2).imp Ne.symm id
    obtain ⟨u,u1,u2⟩:=Z4B hole1
    have C2:=Cf.exch (s':=t) (fr':=rest) (x:=[]) e2 u1 u2 hv.1 e2.fok.1 e2.fok.2 (by simp [T.own,T.owns]) (fun b hb=>.inr (by rw [T.ros_cons];simpa using hb))
    refine ⟨_,?_,C2,fun i k' p' a' t' h1 h2 h3=>?_,fun k0 p0 x h1 h2=>?_⟩
    ·rw [Z2A u1,e1];rfl
    ·cases i with
     | zero=>cases h1;cases h3;exact Z4A u1 u2
     | succ i =>
      rw [Z3M u1 (by
       have:=Z34 A.1 (i:=i) (by simpa using h1) (by simpa using h2)
       rw [Z5j];exact this)]
      exact e3 i k' p' a' t' (by simpa using h1) (by simpa using h2) (by simpa using h3)
    ·rw [Z3M u1 (h1 0 k p a rfl rfl)]
     exact e4 k0 p0 x (fun i k p a z1 z2=>h1 (i + 1) k p a (by simpa using z1) (by simpa using z2)) h2
end
end RM

namespace RM
open PySem PySem.Spec PyProof.Rows L2
section
variable {R:RC}{ix:List Nat}{hd:List (Nat×Addr)}{X:Cx}{H H':Hp}{σ:L2.St}{ts:Ts}{fr:List T}
noncomputable def TvW(ts:Ts):TV→Prop
 | .val _=>True
 | .plc k p a=>Zq (ts.map TL.er) (.plc k p)≠none→PlOk ts k p a
theorem TvW.take{k:Nat}{p:List Nat}{t s s':T}{tv:TV}{a:Addr}(h:TvW ts tv)(hk:ts[k]?=some (.own true t))(hp:t.get p=some s)(hs:s'=.at (.ref a))(hv:s'.val=s.val):TvW ((ts.set k (.own true (T.put s' p t))).map (Zw k p fun _=>false)) tv:=by
 cases tv with
 | val _=>trivial
 | plc k0 p0 a0 =>
  intro hd
  have same:∀ (j:Nat) w u,j≠k→(ts[j]?=some (TL.own w u)↔((ts.set k (.own true (T.put s' p t))).map (Zw k p fun _=>false))[j]?=some (TL.own w u)):=by
   intro j w u hj
   rw [Qa,Qm,if_neg (Ne.symm hj)]
   cases e:ts[j]? with
   | none=>simp
   | some y =>
    rcases Z0y (k:=k) (p:=p) (keep:=fun _=>false) y with e' | ⟨e',_,_,_,rfl⟩
    ·simp only [Option.map_some,e']
    ·simp only [Option.map_some,e']
     exact ⟨fun z=>(by cases z),fun z=>(by cases z)⟩
  have atk:((ts.set k (.own true (T.put s' p t))).map (Zw k p fun _=>false))[k]?=some (TL.own true (T.put s' p t)):=by
   rw [Qa,Qm,if_pos rfl,if_pos (Qc.mp hk).1];rfl
  by_cases hk0:k0=k
  ·subst hk0
   have g:(T.put s' p t).get p0≠none:=by
    intro z
    apply hd
    simp only [Zq,Qa]
    rw [← Qa,← Qa,Qa,atk]
    simp only [Option.map_some,TL.er,T.get_er,z];rfl
   have hsub:sub p p0=none:=by
    cases hs2:sub p p0 with
    | none=>rfl
    | some i =>
     exfalso
     obtain ⟨r,rfl⟩:=Z4H hs2
     rw [Z46 hp,hs] at g
     exact g rfl
   have g0:t.get p0≠none:=by
    intro z
    have:∀ {p q:List Nat} {t:T},t.get q=none→sub p q=none→(T.put s' p t).get q=none:=by
     intro p
     induction p with
     | nil=>intro q t h1 h2;cases q with
      | nil=>cases h1
      | cons=>cases h2
     | cons i p ih =>
      intro q t h1 h2
      cases q with
      | nil=>cases h1
      | cons j q =>
       cases t with
       | «at» v=>rfl
       | nd a k l =>
        simp only [T.put]
        cases e:l[i]? with
        | none=>exact h1
        | some c =>
         simp only [T.get] at h1 ⊢
         rw [Qm]
         unfold sub at h2
         by_cases hij:i=j
         ·subst hij
          rw [if_pos rfl] at h2
          rw [e] at h1
          rw [if_pos rfl,if_pos (Qc.mp e).1]
          exact ih h1 h2
         ·rw [if_neg hij];exact h1
    exact g (this z hsub)
   obtain ⟨w,u,x,h1,h2,h3⟩:=h (by
    simp only [Zq,Qa,hk,Option.map_some,TL.er,T.get_er]
    cases e:t.get p0 with
    | none=>exact absurd e g0
    | some y=>simp)
   rw [hk] at h1
   cases h1
   obtain ⟨u',q1,q2⟩:=Z4p (s':=s') hp hv hsub h2
   exact ⟨true,_,u',atk,q1,q2.trans h3⟩
  ·obtain ⟨w,u,x,h1,h2,h3⟩:=h (by
    intro z
    apply hd
    simp only [Zq,Qa] at z ⊢
    cases e:ts[k0]? with
    | none =>
     rw [← Qa,← Qa,Qa]
     have:((ts.set k (.own true (T.put s' p t))).map (Zw k p fun _=>false))[k0]?=none:=by
      rw [Qa,Qm,if_neg (Ne.symm hk0),e];rfl
     rw [this];rfl
    | some y =>
     rw [e] at z
     cases y with
     | own w u =>
      have:=(same k0 w u hk0).mp e
      rw [← Qa,← Qa,Qa,this]
      exact z
     | non =>
      have:((ts.set k (.own true (T.put s' p t))).map (Zw k p fun _=>false))[k0]?=some .non:=by
       rw [Qa,Qm,if_neg (Ne.symm hk0),e];rfl
      rw [← Qa,← Qa,Qa,this];rfl
     | bor k1 p1 a1 =>
      have:∃ z,((ts.set k (.own true (T.put s' p t))).map (Zw k p fun _=>false))[k0]?=some z∧∀ w u,z≠.own w u:=by
       rw [Qa,Qm,if_neg (Ne.symm hk0),e]
       refine ⟨_,rfl,fun w u z=>?_⟩
       rcases Z0y (k:=k) (p:=p) (keep:=fun _=>false) (.bor k1 p1 a1) with e' | ⟨e',_⟩ <;> rw [e'] at z <;> cases z
      obtain ⟨z,hz,hn⟩:=this
      rw [← Qa,← Qa,Qa,hz]
      cases z with
      | own w u=>exact absurd rfl (hn w u)
      | _=>rfl)
   exact ⟨w,u,x,(same k0 w u hk0).mp h1,h2,h3⟩
theorem Z0D.w{v:V}{tv:TV}(h:Z0D ts v tv):TvW ts tv∧v=tv.vv:=by
 cases tv with
 | val t=>exact ⟨trivial,h⟩
 | plc k p a=>exact ⟨fun _=>h.2,h.1⟩
theorem Z4u:∀ {tvs:List TV} {ms:List Bool} {ts:Ts} {acc:List T} {sh:Sd} {lo:List (Option D)},(∀ tv∈tvs,TvW ts tv)→Cf R ix hd H σ ts (trs tvs++acc)→takes (tvs.map TV.er) ms (ts.map TL.er)=some (sh,lo)→ms.length=tvs.length →
  ∃ (tsh:Ts) (as:List (Option T)),tsh.map TL.er=sh∧as.map (Option.map T.er)=lo∧as.length=tvs.length∧Cf R ix hd H σ tsh (as.filterMap id++acc)∧Aparts tvs ms∧(∀ tv,TvW ts tv→TvW tsh tv) ∧
   (∀ (i:Nat) t tv,as[i]?=some (some t)→tvs[i]?=some tv→t.val=tv.vv)∧(∀ i:Nat,as[i]?=some none→ms[i]?=some false) ∧
   (∀ (i k:Nat) p a,tvs[i]?=some (.plc k p a)→ms[i]?=some true→Z0F tsh k p=some (true,.at (.ref a))) ∧
   ∀ k0 p0 u,(∀ (i k:Nat) p a,tvs[i]?=some (.plc k p a)→ms[i]?=some true→k0≠k∨disj p p0=true)→Z0F ts k0 p0=some u→Z0F tsh k0 p0=some u
 | [],ms,ts,acc,sh,lo,hw,C,h,hl=>by
  cases h
  exact ⟨ts,[],rfl,rfl,rfl,by simpa [trs] using C,by cases ms <;> trivial,fun _ z=>z,by simp,by simp,by simp,fun _ _ _ _ z=>z⟩
 | tv::tvs,[],_,_,_,_,_,_,_,hl=>by simp at hl
 | tv::tvs,m::ms,ts,acc,sh,lo,hw,C,h,hl=>by
  have hl':ms.length=tvs.length:=by simpa using hl
  have hw':∀ tv∈tvs,TvW ts tv:=fun x z=>hw x (Qv _ z)
  have reo:∀ {tsh:Ts} {as:List (Option T)} {t:T},Cf R ix hd H σ tsh (as.filterMap id++(t::acc))→Cf R ix hd H σ tsh ((some t::as).filterMap id++acc):=by
   intro tsh as t C
   have ok:=T.oks_app.mp C.fok
   refine C.less (x:=[]) ?_ ?_ fun b hb=>?_
   ·simp only [Jw,id,Jh]
    exact ⟨ok.2.1,T.oks_app.mpr ⟨ok.1,ok.2.2⟩⟩
   ·refine Qx.mpr fun b=>?_
    simp only [Jw,id,Jh,T.owns_cons,T.owns_app,Jj,Jm];omega
   ·left
    simp only [Jw,id,Jh,T.ros_cons,T.ros_app,Qe] at hb ⊢
    rcases hb with hb | hb | hb <;> simp [hb]
  cases tv with
  | val t =>
   have C1:Cf R ix hd H σ ts (trs tvs++(t::acc)):=by
    have C0:Cf R ix hd H σ ts (t::(trs tvs++acc)):=C
    have ok:=C0.fok
    refine C0.less (x:=[]) (T.oks_app.mpr ⟨(T.oks_app.mp ok.2).1,ok.1,(T.oks_app.mp ok.2).2⟩) ?_ fun b hb=>?_
    ·refine Qx.mpr fun b=>?_
     simp only [T.owns_cons,T.owns_app,Jj,Jm];omega
    ·left
     simp only [T.ros_cons,T.ros_app,Qe] at hb ⊢
     rcases hb with hb | hb | hb <;> simp [hb]
   simp only [Ql,TV.er,takes] at h
   cases et:takes (tvs.map TV.er) ms (ts.map TL.er) with
   | none=>rw [et] at h;cases h
   | some y =>
    obtain ⟨s',l⟩:=y
    rw [et] at h
    cases h
    obtain ⟨tsh,as,a1,a2,a3,a4,a5,a6,a7,a8,a9,a10⟩:=Z4u hw' C1 et hl'
    refine ⟨tsh,some t::as,a1,by simp [a2],by simp [a3],reo a4,a5,a6,fun i u x h1 h2=>?_,fun i h1=>?_,fun i k p a h1 h2=>?_,fun k0 p0 u h1 h2=>?_⟩
    ·cases i with
     | zero=>cases h1;cases h2;rfl
     | succ i=>exact a7 i u x (by simpa using h1) (by simpa using h2)
    ·cases i with
     | zero=>cases h1
     | succ i=>simpa using a8 i (by simpa using h1)
    ·cases i with
     | zero=>cases h1
     | succ i=>exact a9 i k p a (by simpa using h1) (by simpa using h2)
    ·exact a10 k0 p0 u (fun i k p a z1 z2=>h1 (i + 1) k p a (by simpa using z1) (by simpa using z2)) h2
  | plc k p a =>
   have C0:Cf R ix hd H σ ts (trs tvs++acc):=C
   cases m with
   | false =>
    simp only [Ql,TV.er,takes] at h
    cases et:takes (tvs.map TV.er) ms (ts.map TL.er) with
    | none=>rw [et] at h;cases h
    | some y =>
     obtain ⟨s',l⟩:=y
     rw [et] at h
     cases h
     obtain ⟨tsh,as,a1,a2,a3,a4,a5,a6,a7,a8,a9,a10⟩:=Z4u (acc:=acc) hw' C0 et hl'
     refine ⟨tsh,none::as,a1,by simp [a2],by simp [a3],by simpa using a4,a5,a6,fun i u x h1 h2=>?_,fun i h1=>?_,fun i k p a h1 h2=>?_,fun k0 p0 u h1 h2=>?_⟩
     ·cases i with
      | zero=>cases h1
      | succ i=>exact a7 i u x (by simpa using h1) (by simpa using h2)
     ·cases i with
      | zero=>rfl
      | succ i=>simpa using a8 i (by simpa using h1)
     ·cases i with
      | zero=>cases h2
      | succ i=>exact a9 i k p a (by simpa using h1) (by simpa using h2)
     ·exact a10 k0 p0 u (fun i k p a z1 z2=>h1 (i + 1) k p a (by simpa using z1) (by simpa using z2)) h2
   | true =>
    simp only [Ql,TV.er,takes,Qa] at h
    cases ek:ts[k]? with
    | none=>rw [ek] at h;cases h
    | some y =>
     rw [ek] at h
     cases y with
     | non=>cases h
     | bor _ _ _=>cases h
     | own w t =>
      cases w with
      | false=>simp only [Option.map_some,TL.er] at h;cases h
      | true =>
       simp only [Option.map_some,TL.er] at h
       cases ed:Zq (ts.map TL.er) (.plc k p) with
       | none=>rw [ed] at h;cases h
       | some d =>
        rw [ed] at h
        cases ea:apart k p (tvs.map TV.er) ms with
        | false=>rw [ea] at h;cases h
        | true =>
         rw [ea] at h
         dsimp only at h
         obtain ⟨w',t',s,h1,h2,h3⟩:=hw _ Qy (show Zq (ts.map TL.er) (.plc k p)≠none by rw [ed];simp)
         rw [ek] at h1
         cases h1
         have hds:d=s.er:=by
          simp only [Zq,Qa,ek,Option.map_some,TL.er,T.get_er,h2,Option.some.injEq] at ed
          exact ed.symm
         have sok:s.ok H:=T.get_ok h2 (C.ok true t (Qf ek))
         have C1:=Cf.exch (s':=.at (.ref a)) (fr':=trs tvs++(s::acc)) (x:=[]) C0 ek h2 h3.symm trivial (T.oks_app.mpr ⟨(T.oks_app.mp C0.fok).1,sok,(T.oks_app.mp C0.fok).2⟩) (by
          refine Qx.mpr fun b=>?_
          simp only [T.own,T.owns_cons,T.owns_app,Jj,Gb,Jm,Je];omega) (fun b hb=>by
          simp only [T.ro,T.ros_cons,T.ros_app,Qe,List.not_mem_nil,false_or] at hb ⊢
          rcases hb with hb | hb | hb <;> simp [hb])
         have er1:=Z2A (ts:=ts) (s':=.at (.ref a)) (p:=p) (keep:=fun _=>false) ek
         cases et:takes (tvs.map TV.er) ms (wr (ts.map TL.er) k p hole fun _=>false) with
         | none=>rw [et] at h;cases h
         | some y =>
          obtain ⟨s',l⟩:=y
          rw [et] at h
          cases h
          obtain ⟨tsh,as,a1,a2,a3,a4,a5,a6,a7,a8,a9,a10⟩:=Z4u (acc:=s::acc) (fun x z=>TvW.take (hw' x z) ek h2 rfl h3.symm) C1 (by rw [er1];exact et) hl'
          refine ⟨tsh,some s::as,a1,by simp [a2,hds],by simp [a3],reo a4,⟨ea,a5⟩,fun x z=>a6 x (TvW.take z ek h2 rfl h3.symm),fun i u x q1 q2=>?_,fun i q1=>?_,fun i k' p' a' q1 q2=>?_,fun k0 p0 u q1 q2=>?_⟩
          ·cases i with
           | zero=>cases q1;cases q2;exact h3
           | succ i=>exact a7 i u x (by simpa using q1) (by simpa using q2)
          ·cases i with
           | zero=>cases q1
           | succ i=>simpa using a8 i (by simpa using q1)
          ·cases i with
           | zero =>
            cases q1
            exact a10 k p _ (fun i k2 p2 a2 z1 z2=>(Z34 ea z1 z2).imp Ne.symm id) (Z4A ek h2)
           | succ i=>exact a9 i k' p' a' (by simpa using q1) (by simpa using q2)
          ·refine a10 k0 p0 u (fun i k2 p2 a2 z1 z2=>q1 (i + 1) k2 p2 a2 (by simpa using z1) (by simpa using z2)) ?_
           rw [Z3M ek (q1 0 k p a rfl rfl)]
           exact q2
end
end RM

namespace RM
open PySem PySem.Spec PyProof.Rows L2
section
variable {R:RC}{ix:List Nat}{hd:List (Nat×Addr)}{X:Cx}{H H':Hp}{σ:L2.St}{ts:Ts}{fr:List T}
theorem Z7r{tsh:Ts}(C:Cf R ix hd H σ tsh fr):∀ {tvs:List TV} {as:List (Option T)} {ds:List D},fills (tsh.map TL.er) (tvs.map TV.er) (as.map (Option.map T.er))=some ds→(∀ tv∈tvs,TvW tsh tv)→(∀ t,some t∈as→t.ok H)→(∀ (i:Nat) t tv,as[i]?=some (some t)→tvs[i]?=some tv→t.val=tv.vv)→(∀ (i:Nat) (t:T),as[i]?=some none→tvs[i]?≠some (.val t)) →
  ∃ l:List T,T.ers l=ds∧l.map T.val=tvs.map TV.vv∧T.oks H l∧l.length=as.length∧∀ (i:Nat) t,l[i]?=some t→as[i]?=some (some t)∨(as[i]?=some none∧∃ (k:Nat) (p:List Nat) (w:Bool) (u:T),tsh[k]?=some (TL.own w u)∧u.get p=some t)
 | [],[],ds,h,_,_,_,_=>by cases h;exact ⟨[],rfl,rfl,trivial,rfl,by simp⟩
 | [],_::_,ds,h,_,_,_,_=>by simp [fills] at h
 | tv::tvs,[],ds,h,_,_,_,_=>by simp [fills] at h
 | tv::tvs,o::as,ds,h,hw,ho,hv,hn=>by
  have rest:∀ ds',fills (tsh.map TL.er) (tvs.map TV.er) (as.map (Option.map T.er))=some ds'→_:=fun ds' h'=>Z7r C h' (fun x z=>hw x (Qv _ z)) (fun t z=>ho t (Qv _ z)) (fun i t x h1 h2=>hv (i + 1) t x (by simpa using h1) (by simpa using h2)) (fun i t h1=>by simpa using hn (i + 1) t (by simpa using h1))
  cases o with
  | some t =>
   simp only [Ql,Option.map_some,fills] at h
   cases ef:fills (tsh.map TL.er) (tvs.map TV.er) (as.map (Option.map T.er)) with
   | none=>rw [ef] at h;cases h
   | some ds' =>
    rw [ef] at h
    cases h
    obtain ⟨l,a1,a2,a3,a4,a5⟩:=rest ds' ef
    refine ⟨t::l,by rw [T.ers,a1],by simp [a2,hv 0 t tv rfl rfl],⟨ho t Qy,a3⟩,by simp [a4],fun i u hi=>?_⟩
    cases i with
    | zero=>cases hi;exact .inl rfl
    | succ i=>simpa using a5 i u (by simpa using hi)
  | none =>
   simp only [Ql,Option.map_none,fills] at h
   cases ed:Zq (tsh.map TL.er) tv.er with
   | none=>rw [ed] at h;cases h
   | some d =>
    rw [ed] at h
    cases ef:fills (tsh.map TL.er) (tvs.map TV.er) (as.map (Option.map T.er)) with
    | none=>rw [ef] at h;cases h
    | some ds' =>
     rw [ef] at h
     cases h
     obtain ⟨l,a1,a2,a3,a4,a5⟩:=rest ds' ef
     cases tv with
     | val t=>exact absurd rfl (hn 0 t rfl)
     | plc k p a =>
      obtain ⟨w,u,s,h1,h2,h3⟩:=hw _ Qy (show Zq (tsh.map TL.er) (.plc k p)≠none by rw [show Zq (tsh.map TL.er) (.plc k p)=some d from ed];simp)
      have hds:s.er=d:=by
       have ed':Zq (tsh.map TL.er) (.plc k p)=some d:=ed
       simp only [Zq,Qa,h1,Option.map_some,TL.er,T.get_er,h2,Option.some.injEq] at ed'
       exact ed'
      refine ⟨s::l,by rw [T.ers,a1,hds],by simp [a2,h3,TV.vv],⟨T.get_ok h2 (C.ok w u (Qf h1)),a3⟩,by simp [a4],fun i x hi=>?_⟩
      cases i with
      | zero=>cases hi;exact .inr ⟨rfl,k,p,w,u,h1,h2⟩
      | succ i=>simpa using a5 i x (by simpa using hi)
theorem Z6D:∀ {ms:List Bool} {l:List T} {as:List (Option T)},ms.length=l.length→l.length=as.length→(∀ (i:Nat) t,l[i]?=some t→as[i]?=some (some t)∨as[i]?=some none)→(∀ i:Nat,as[i]?=some none→ms[i]?=some false) →
  ∃ x,(T.owns (as.filterMap id)).Perm (T.owns (Zo true ms l)++x)∧∀ (i:Nat) t,ms[i]?=some false→as[i]?=some (some t)→∀ a∈t.own,a∈x
 | [],[],[],_,_,_,_=>⟨[],by simp [Zo,T.owns],by simp⟩
 | m::ms,t::l,o::as,h1,h2,h3,h4=>by
  obtain ⟨x,p1,p2⟩:=Z6D (ms:=ms) (l:=l) (as:=as) (by simpa using h1) (by simpa using h2) (fun i u hi=>by simpa using h3 (i + 1) u (by simpa using hi)) (fun i hi=>by simpa using h4 (i + 1) (by simpa using hi))
  cases o with
  | none =>
   have:m=false:=by have:=h4 0 rfl;simpa using this
   subst this
   refine ⟨x,by simpa [Zo] using p1,fun i u z1 z2=>?_⟩
   cases i with
   | zero=>cases z2
   | succ i=>exact p2 i u (by simpa using z1) (by simpa using z2)
  | some t' =>
   have:t'=t:=by
    rcases h3 0 t rfl with z | z
    ·cases z;rfl
    ·cases z
   subst this
   cases m with
   | true =>
    refine ⟨x,?_,fun i u z1 z2=>?_⟩
    ·simp only [Jw,id,Zo,if_true,T.owns_cons]
     refine Qx.mpr fun b=>?_
     have:=Qx.mp p1 b
     simp only [Jj] at this ⊢;omega
    ·cases i with
     | zero=>cases z1
     | succ i=>exact p2 i u (by simpa using z1) (by simpa using z2)
   | false =>
    refine ⟨t'.own++x,?_,fun i u z1 z2 a ha=>?_⟩
    ·simp only [Jw,id,Zo,T.owns_cons,Jz,if_false]
     refine Qx.mpr fun b=>?_
     have:=Qx.mp p1 b
     simp only [Jj] at this ⊢;omega
    ·cases i with
     | zero=>cases z2;exact Qh _ ha
     | succ i=>exact Qg _ (p2 i u (by simpa using z1) (by simpa using z2) a ha)
 | [],_::_,_,h1,_,_,_=>by simp at h1
 | _::_,[],_,h1,_,_,_=>by simp at h1
 | _,[],_::_,_,h2,_,_=>by simp at h2
 | _,_::_,[],_,h2,_,_=>by simp at h2
theorem Cf.after{tsh:Ts}{ws l l' m:List T}{ms:List Bool}{x:List Addr}{B:Addr→Prop}(C:Cf R ix hd H σ tsh (ws++fr))(hx:(T.owns ws).Perm (T.owns (Zo true ms l)++x))(hB:∀ a,R.B a∨a∈Zd tsh∨a∈T.owns fr→B a)(E:Exi H H' B ms l l' m) :
  Cf R ix hd H' σ tsh (Zo true ms l'++(m++fr)):=by
 have inw:∀ a,a∈T.owns (Zo true ms l)→a∈T.owns (ws++fr):=fun a z=>by
  rw [T.owns_app];exact Qh _ (hx.mem_iff.mpr (Qh _ z))
 have nd:=Qk.mp C.nd
 have ndw:(T.owns ws++T.owns fr).Nodup:=by have:=nd.2.1;rwa [T.owns_app] at this
 have ndw':=Qk.mp ndw
 have k1:∀ a,a∈Zd tsh→a∉T.owns (Zo true ms l):=fun a z q=>nd.2.2 a z a (inw a q) rfl
 have k2:∀ a,a∈T.owns fr→a∉T.owns (Zo true ms l):=fun a z q=>ndw'.2.2 a (hx.mem_iff.mpr (Qh _ q)) a z rfl
 have k3:∀ a,a∈roS tsh∨a∈T.ros (ws++fr)→a∉T.owns (Zo true ms l):=fun a z q=>(C.sep a z).2.1 (inw a q)
 have k4:∀ a,a∈rdS tsh→a∉T.owns (Zo true ms l):=fun a z q=>(C.rd a z).2 (inw a q)
 have tk:∀ w t,TL.own w t∈tsh→∀ a,a∈t.own∨a∈t.ro→H' a=H a:=fun w t ht a z=>by
  refine E.keep a (T.there (C.ok w t ht) z) ?_
  rcases z with z | z
  ·cases w with
   | true=>exact k1 a (Z10.mpr ⟨t,ht,z⟩)
   | false=>exact k4 a (Z2M.mpr ⟨t,ht,z⟩)
  ·exact k3 a (.inl (Z0W.mpr ⟨w,t,ht,z⟩))
 have ffok:T.oks H fr:=(T.oks_app.mp C.fok).2
 have fk:∀ a,a∈T.owns fr∨a∈T.ros fr→H' a=H a:=fun a z=>by
  refine E.keep a (T.theres ffok z) ?_
  rcases z with z | z
  ·exact k2 a z
  ·exact k3 a (.inr (by rw [T.ros_app];exact Qg _ z))
 have new:∀ a,a∈T.owns (Zo true ms l')∨a∈T.owns m→a∉Zd tsh∧a∉T.owns fr∧a∉roS tsh∧a∉T.ros fr∧a∉rdS tsh∧¬ R.G a:=fun a z=>by
  rcases E.own a z with z | z
  ·refine ⟨fun q=>k1 a q z,fun q=>k2 a q z,fun q=>k3 a (.inl q) z,fun q=>k3 a (.inr (by rw [T.ros_app];exact Qg _ q)) z,fun q=>k4 a q z,fun q=>?_⟩
   exact (C.g a q).2.2.2 (inw a z)
  ·obtain ⟨f1,f2,f3,f4,f5,f6⟩:=C.fresh z
   rw [T.owns_app] at f4;rw [T.ros_app] at f5
   exact ⟨f1,fun q=>f4 (Qg _ q),f2,fun q=>f5 (Qg _ q),f3,f6⟩
 have eo:T.owns (Zo true ms l'++(m++fr))=T.owns (Zo true ms l')++(T.owns m++T.owns fr):=by rw [T.owns_app,T.owns_app]
 have er:T.ros (Zo true ms l'++(m++fr))=T.ros (Zo true ms l')++(T.ros m++T.ros fr):=by rw [T.ros_app,T.ros_app]
 refine ⟨fun w t ht=>T.keep (C.ok w t ht) (tk w t ht),T.oks_app.mpr ⟨E.ok,T.oks_app.mpr ⟨E.fok,T.keeps ffok fk⟩⟩,?_,fun a z=>?_,fun a z=>?_,fun a z=>?_,C.bg,C.bor,C.ixs,C.sl,C.hdi,C.hdx,C.len,C.hdn⟩
 ·rw [eo]
  refine Qk.mpr ⟨nd.1,?_,fun a za b zb e=>?_⟩
  ·rw [← Qq]
   refine Qk.mpr ⟨E.nd,ndw'.2.1,fun a za b zb e=>?_⟩
   subst e
   exact (new a (Qe.mp za)).2.1 zb
  ·subst e
   rcases Qe.mp zb with zb | zb
   ·exact (new a (.inl zb)).1 za
   ·rcases Qe.mp zb with zb | zb
    ·exact (new a (.inr zb)).1 za
    ·exact nd.2.2 a za a (by rw [T.owns_app];exact Qg _ zb) rfl
 ·rw [eo]
  rw [er] at z
  simp only [Qe] at z ⊢
  have old:a∈roS tsh∨a∈T.ros fr→a∉Zd tsh∧¬ (a∈T.owns (Zo true ms l')∨a∈T.owns m∨a∈T.owns fr)∧¬ R.B a:=fun z=>by
   obtain ⟨s1,s2,s3⟩:=C.sep a (z.imp id fun q=>by rw [T.ros_app];exact Qg _ q)
   rw [T.owns_app] at s2
   refine ⟨s1,fun q=>?_,s3⟩
   rcases q with q | q | q
   ·rcases z with z | z
    ·exact (new a (.inl q)).2.2.1 z
    ·exact (new a (.inl q)).2.2.2.1 z
   ·rcases z with z | z
    ·exact (new a (.inr q)).2.2.1 z
    ·exact (new a (.inr q)).2.2.2.1 z
   ·exact s2 (Qg _ q)
  have nw:a∈T.ros (Zo true ms l')∨a∈T.ros m→a∉Zd tsh∧¬ (a∈T.owns (Zo true ms l')∨a∈T.owns m∨a∈T.owns fr)∧¬ R.B a:=fun z=>by
   obtain ⟨s1,s2,s3⟩:=E.sep a z
   refine ⟨fun q=>s3 (hB a (.inr (.inl q))),fun q=>?_,fun q=>s3 (hB a (.inl q))⟩
   rcases q with q | q | q
   ·exact s1 q
   ·exact s2 q
   ·exact s3 (hB a (.inr (.inr q)))
  rcases z with z | z | z | z
  ·exact old (.inl z)
  ·exact nw (.inl z)
  ·exact nw (.inr z)
  ·exact old (.inr z)
 ·rw [eo]
  simp only [Qe]
  obtain ⟨s1,s2⟩:=C.rd a z
  rw [T.owns_app] at s2
  refine ⟨s1,fun q=>?_⟩
  rcases q with q | q | q
  ·exact (new a (.inl q)).2.2.2.2.1 z
  ·exact (new a (.inr q)).2.2.2.2.1 z
  ·exact s2 (Qg _ q)
 ·rw [eo]
  simp only [Qe]
  obtain ⟨g1,g2,g3,g4⟩:=C.g a z
  have e:H' a=H a:=E.keep a g2 fun q=>g4 (inw a q)
  rw [T.owns_app] at g4
  refine ⟨e.trans g1,by rw [e];exact g2,g3,fun q=>?_⟩
  rcases q with q | q | q
  ·exact (new a (.inl q)).2.2.2.2.2 z
  ·exact (new a (.inr q)).2.2.2.2.2 z
  ·exact g4 (Qg _ q)
theorem TvsOk.all:∀ {vs:List V} {tvs:List TV},TvsOk ts vs tvs→(∀ tv∈tvs,TvW ts tv)∧vs=tvs.map TV.vv
 | _,_,.nil=>⟨by simp,rfl⟩
 | _,_,.cons h r=>by
  obtain ⟨h1,h2⟩:=h.w
  obtain ⟨r1,r2⟩:=TvsOk.all r
  refine ⟨fun x z=>?_,by rw [Ql,h2,r2]⟩
  rcases Qz.mp z with rfl | z
  ·exact h1
  ·exact r1 x z
theorem Z3a:∀ {rs:List DV} {ms:List Bool} {s sh:Sd} {lo:List (Option D)},takes rs ms s=some (sh,lo)→rs.length≤ms.length∧∀ (i:Nat) (d:D),lo[i]?=some none→rs[i]?≠some (.val d)
 | [],ms,s,sh,lo,h=>by cases h;simp
 | .val d::rs,[],s,sh,lo,h=>by simp [takes] at h
 | .plc k p::rs,[],s,sh,lo,h=>by simp [takes] at h
 | .val d::rs,m::ms,s,sh,lo,h=>by
  simp only [takes] at h
  cases et:takes rs ms s with
  | none=>rw [et] at h;cases h
  | some y =>
   obtain ⟨s',l⟩:=y
   rw [et] at h
   cases h
   obtain ⟨h1,h2⟩:=Z3a et
   refine ⟨by simpa using h1,fun i d' hi=>?_⟩
   cases i with
   | zero=>cases hi
   | succ i=>simpa using h2 i d' (by simpa using hi)
 | .plc k p::rs,false::ms,s,sh,lo,h=>by
  simp only [takes] at h
  cases et:takes rs ms s with
  | none=>rw [et] at h;cases h
  | some y =>
   obtain ⟨s',l⟩:=y
   rw [et] at h
   cases h
   obtain ⟨h1,h2⟩:=Z3a et
   refine ⟨by simpa using h1,fun i d' hi=>?_⟩
   cases i with
   | zero=>intro z;cases z
   | succ i=>simpa using h2 i d' (by simpa using hi)
 | .plc k p::rs,true::ms,s,sh,lo,h=>by
  simp only [takes] at h
  split at h
  case h_1 =>
   cases et:takes rs ms (wr s k p hole fun _=>false) with
   | none=>rw [et] at h;cases h
   | some y =>
    obtain ⟨s',l⟩:=y
    rw [et] at h
    cases h
    obtain ⟨h1,h2⟩:=Z3a et
    refine ⟨by simpa using h1,fun i d' hi=>?_⟩
    cases i with
    | zero=>intro z;cases z
    | succ i=>simpa using h2 i d' (by simpa using hi)
  case h_2=>cases h
theorem Zab{ms:List Bool}{fn:Fn}{f:AF}(σ:L2.St)(H:Hp)(Q:VK)(hms:∀ s rs s1,f s=.ok rs s1→rs.length=ms.length)(q:lE R ix (ZF ms fn f) σ H Q):lA R ix f σ H fun vs H1=>spR R.ad ms fn vs H1 Q (R.EX σ):=by
 obtain ⟨hd,ts,fr,C,q⟩:=q
 refine ⟨hd,ts,fr,C,?_⟩
 unfold ZF at q
 cases ef:f (ts.map TL.er) with
 | no=>rw [ef] at q;exact q
 | ex E s1=>rw [ef] at q;exact q
 | ok rs s1 =>
  rw [ef] at q
  intro H1 ts1 tvs vs e1 e2 hv C1
  subst e1 e2
  have hlen:ms.length=tvs.length:=by have:=hms _ _ _ ef;simpa using this.symm
  dsimp only at q
  cases et:takes (tvs.map TV.er) ms (ts1.map TL.er) with
  | none=>rw [et] at q;exact q.elim
  | some y =>
   obtain ⟨sh,lo⟩:=y
   rw [et] at q
   obtain ⟨hw,rfl⟩:=hv.all
   obtain ⟨tsh,as,a1,a2,a3,a4,a5,a6,a7,a8,a9,a10⟩:=Z4u hw C1 et hlen
   subst a1 a2
   have tl:=(Z3a et).2
   dsimp only at q
   cases el:fills (tsh.map TL.er) (tvs.map TV.er) (as.map (Option.map T.er)) with
   | none=>rw [el] at q;exact q.elim
   | some ds =>
    rw [el] at q
    have aok:∀ t,some t∈as→t.ok H1:=fun t z=>T.oks_iff.mp (T.oks_app.mp a4.fok).1 t (Nb.mpr ⟨some t,z,rfl⟩)
    obtain ⟨l,l1,l2,l3,l4,l5⟩:=Z7r a4 el (fun x z=>a6 x (hw x z)) aok a7 (fun i t h z=>tl i t.er (by rw [Qa,h];rfl) (by rw [Qa,z];rfl))
    obtain ⟨x,p1,p2⟩:=Z6D (ms:=ms) (l:=l) (as:=as) (by rw [hlen,l4,a3]) l4 (fun i t hi=>(l5 i t hi).imp id fun z=>z.1) a8
    have nd:=Qk.mp a4.nd
    have ndw:(T.owns (as.filterMap id)++T.owns fr).Nodup:=by have:=nd.2.1;rwa [T.owns_app] at this
    have ndw':=Qk.mp ndw
    have ndp:=Qk.mp (p1.nodup_iff.mp ndw'.1)
    have inw:∀ a,a∈T.owns (Zo true ms l)→a∈T.owns (as.filterMap id++fr):=fun a z=>by rw [T.owns_app];exact Qh _ (p1.mem_iff.mpr (Qh _ z))
    have rosl:∀ a∈T.ros l,a∈roS tsh∨a∈T.ros (as.filterMap id++fr):=fun a z=>by
     obtain ⟨t,ht,hz⟩:=T.mem_ros.mp z
     obtain ⟨i,hi⟩:=Jd.mp ht
     rcases l5 i t hi with h | ⟨_,k,p,w,u,h1,h2⟩
     ·exact .inr (by rw [T.ros_app];exact Qh _ (T.mem_ros.mpr ⟨t,Nb.mpr ⟨some t,Qf h,rfl⟩,hz⟩))
     ·obtain ⟨c,r,K⟩:=T.ctx h2
      exact .inl (Z0W.mpr ⟨w,u,Qf h1,K.ro.mem_iff.mpr (Qg _ hz)⟩)
    have ent:Ent H1 (fun a=>R.B a∨a∈Zd tsh∨a∈T.owns fr) ms l:=by
     refine ⟨by rw [hlen,l4,a3],l3,ndp.1,fun a z=>?_,fun a z=>?_,fun a z=>?_⟩
     ·obtain ⟨s1,s2,s3⟩:=a4.sep a (rosl a z)
      refine ⟨fun q=>s2 (inw a q),fun q=>?_⟩
      rcases q with q | q | q
      ·exact s3 q
      ·exact s1 q
      ·exact s2 (by rw [T.owns_app];exact Qg _ q)
     ·obtain ⟨t,ht,hz⟩:=T.mem_owns.mp z
      obtain ⟨i,hi,hm⟩:=Z3H ht
      rcases l5 i t hi with h | ⟨_,k,p,w,u,h1,h2⟩
      ·intro q
       exact ndp.2.2 a q a (p2 i t hm h a hz) rfl
      ·obtain ⟨c,r,K⟩:=T.ctx h2
       have hu:a∈u.own:=K.own.mem_iff.mpr (Qg _ hz)
       intro q
       cases w with
       | true=>exact nd.2.2 a (Z10.mpr ⟨u,Qf h1,hu⟩) a (inw a q) rfl
       | false=>exact (a4.rd a (Z2M.mpr ⟨u,Qf h1,hu⟩)).2 (inw a q)
     ·rcases z with z | z | z
      ·obtain ⟨g1,g2,g3,g4⟩:=a4.g a (a4.bg a z)
       exact ⟨fun q=>g4 (inw a q),g2⟩
      ·obtain ⟨t,ht,hz⟩:=Z10.mp z
       exact ⟨fun q=>nd.2.2 a z a (inw a q) rfl,T.there (a4.ok true t ht) (.inl hz)⟩
      ·exact ⟨fun q=>ndw'.2.2 a (p1.mem_iff.mpr (Qh _ q)) a z rfl,T.theres (T.oks_app.mp a4.fok).2 (.inl z)⟩
    refine ⟨l,_,l2,ent,?_⟩
    rw [l1]
    dsimp only at q
    cases en:fn ds with
    | no=>rw [en] at q;exact q.elim
    | ex E ds' =>
     rw [en] at q
     intro H2 l' e3 X2
     have C2:=a4.after p1 (fun a z=>z) X2
     obtain ⟨ts',g1,g2,g3,g4⟩:=Z55 (rest:=fr) a5 hlen (X2.val.trans l2) C2 a9
     rw [e3] at g1
     exact q H2 ts' g1 g2
    | ok rv ds' =>
     rw [en] at q
     intro H2 l' rt v e3 e4 hr X2
     have C2:=a4.after p1 (fun a z=>z) X2
     obtain ⟨ts',g1,g2,g3,g4⟩:=Z55 (rest:=rt.tr++fr) a5 hlen (X2.val.trans l2) C2 a9
     rw [e3] at g1
     subst e4
     cases rt with
     | val t =>
      cases hr
      exact q H2 ts' (.val t) t.val g1 rfl rfl g2
     | arg j qq a =>
      obtain ⟨rfl,hmj,t,s,hj,hs,hsv⟩:=hr
      simp only [RT.er,retV,Qa,hmj] at q
      cases ej:tvs[j]? with
      | none=>rw [ej] at q;exact q.elim
      | some tv =>
       rw [ej] at q
       cases tv with
       | val t0=>exact q.elim
       | plc k p a0 =>
        simp only [Option.map_some,TV.er] at q
        obtain ⟨u,u1,u2⟩:=Z4B (g3 j k p a0 t ej hmj hj)
        have u3:u.get (p++qq)=some s:=by rw [T.get_app,u2];exact hs
        have hdr:Zq (gives (tvs.map TV.er) ms ds' (tsh.map TL.er)) (.plc k (p++qq))=some s.er:=by
         rw [← g1];simp only [Zq,Qa,u1,Option.map_some,TL.er,T.get_er,u3]
        rw [hdr] at q
        obtain ⟨tv,f1,f2,f3⟩:=mk_ok (p:=p++qq) g2 u1 u3
        rw [hsv] at f2
        exact q H2 ts' tv (.ref a) g1 f1 f2 f3
end
end RM

namespace RM
open PySem PySem.Spec PyProof.Rows L2
noncomputable def ALen(n:Nat)(f:AF):Prop:=∀ s rs s1,f s=.ok rs s1→rs.length=n
theorem Z01:ALen 0 Z2:=fun s rs s1 h=>by cases h;rfl
theorem Z6{n:Nat}{f:EF}{g:AF}(h:ALen n g):ALen (n + 1) (Z0 f g):=by
 intro s rs s1 e
 unfold Z0 at e
 cases ef:f s with
 | no=>rw [ef] at e;cases e
 | ex C s'=>rw [ef] at e;cases e
 | ok r s' =>
  rw [ef] at e
  cases r with
  | val d =>
   dsimp only at e
   cases eg:g s' with
   | no=>rw [eg] at e;cases e
   | ex C s2=>rw [eg] at e;cases e
   | ok rs' s2=>rw [eg] at e;cases e;simp [h _ _ _ eg]
  | plc k p =>
   dsimp only at e
   cases eg:g (s'++[.bor k p]) with
   | no=>rw [eg] at e;cases e
   | ex C s2=>rw [eg] at e;dsimp only at e;split at e <;> cases e
   | ok rs' s2 =>
    rw [eg] at e
    dsimp only at e
    split at e
    ·cases e;simp [h _ _ _ eg]
    ·cases e
noncomputable def Z1N(chk:D→Bool)(f:EF):EF:=fun s=>match f s with
 | .ok r s1=>(match Zq s1 r with | some d=>if chk d then .ok r s1 else .no | none=>.no)
 | .ex C s1=>.ex C s1
 | .no=>.no
noncomputable def isObjD(C:Addr)(m:Str):D→Bool
 | .nd (.ins _ C' ns) _=>decide (C'=C) && !ns.contains m
 | _=>false
section
variable {R:RC}{ix:List Nat}{hd:List (Nat×Addr)}{X:Cx}{H H':Hp}{σ:L2.St}{ts:Ts}{fr:List T}
theorem Z6h{chk:D→Bool}{f:EF}{Q:VK}(h:lE R ix (Z1N chk f) σ H Q):lE R ix f σ H fun v H1=>(∃ t:T,t.val=v∧t.ok H1∧chk t.er=true)∧Q v H1:=by
 obtain ⟨hd,ts,fr,C,h⟩:=h
 refine ⟨hd,ts,fr,C,?_⟩
 unfold Z1N at h
 cases ef:f (ts.map TL.er) with
 | no=>rw [ef] at h;exact h
 | ex E s1=>rw [ef] at h;exact h
 | ok r s1 =>
  rw [ef] at h
  intro H1 ts1 tv v e1 e2 hv C1
  subst e1 e2
  dsimp only at h
  cases ed:Zq (ts1.map TL.er) tv.er with
  | none=>rw [ed] at h;exact h.elim
  | some d =>
   rw [ed] at h
   obtain ⟨t,t1,t2,t3,_⟩:=Z4K C1 hv (T.oks_app.mp C1.fok).1 ed
   dsimp only at h
   cases hc:chk d with
   | false=>rw [hc] at h;exact h.elim
   | true=>rw [hc] at h;exact ⟨⟨t,t2,t3,by rw [t1];exact hc⟩,h H1 ts1 tv v rfl rfl hv C1⟩
theorem Z0N{x:Str}{k:Nat}{ps:List Str}{ms:List Bool}{fn:Fn}{p pos:Pos}{e:Expr}{es:List Expr}{f:AF}(D:DefX X.prog X.w X.K X.mg X.base x k ps (spR R.ad ms fn))(hr:Room k X.A)(hx:PassT X R.EX)(ha:PA X (e::es) (lA R ix f))(hl:ALen ms.length f)
  (hg:Gl X x:=by rfl) (hdb:(x == ("__debug__":Str))=false:=by decide) (he:starEach (e::es) X.env=(false,eval e X.env)::starEach es X.env:=by rfl) (hpl:(backTo pos (starEach es X.env)).any (·.1)=false:=by rfl) :
  PE X (.Call (.Name x p) (e::es) [] pos) (lE R ix (ZF ms fn f)):=peM (Z8Z D hr hx ha hg hdb he hpl) fun σ H Q q=>Zab σ H Q hl q
end

section
variable {P:Program}{w:World}{K:Qd}{mg:Str→Option Value}{base:Heap}
theorem okD{x:Str}{st:Stmt}{ps N:List Str}{k:Nat}{ms:List Bool}{body:SF}{ad:Str→Addr}(F:At K mg x st ps)(S:FnScope N ps (Z9 st))(hps:ms.length=ps.length)(hN:ms.length≤N.length)
  (hb:∀ (f:Addr) (cdv:Value) (A:Around) (outer:List Env) (s:Shared) (H:Hp) (E:XK) (R:RC),Room k (A.deeper (envOfC x (Z9 st) s.heap.objs.size f cdv))→PassT (Z1m (CX1 P w) P w K mg base N x (Z9 st) f cdv A outer s H E) R.EX→(∀ σ,R.EX σ=E)→R.ad=ad →
   PSs (Z1m (CX1 P w) P w K mg base N x (Z9 st) f cdv A outer s H E) (Z02 st) (lS R (List.range N.length) body)):DefX P w K mg base x (k + 1) ps (spR ad ms (ZL N.length ms body)) :=
 F.okX S (fun vs H Q E h=>by rw [ZaG h,hps]) fun f cdv A outer s H vs Q E hr h=>by
  obtain ⟨R,e,ea,q⟩:=Z8b hN h
  exact ⟨_,hb f cdv A outer s H E R hr (by rw [e];exact passTX) (fun σ=>by rw [e]) ea,q⟩

variable {N:List Str}{qual:Str}{scope:Scope}{f:Addr}{cd:Value}{A:Around}{outer:List Env}{s:Shared}{H:Hp}{E:XK}{R:RC}{ix:List Nat}
noncomputable def sRaise(C:Str)(g:AF):SF:=fun s=>match g s with
 | .ok rs s1=>if rs.length≤1000 then .ex C s1 else .no
 | .ex C' s1=>.ex C' s1
 | .no=>.no
end
end RM

namespace RM
open PySem PySem.Spec PyProof.Rows L2
noncomputable def eMk(C:Addr)(ms:List Bool)(fn:Fn)(f:AF):EF:=fun s=>match f s with
 | .ok rs s1=>(match takes rs ms s1 with
  | some (sh,l)=>(match fills sh rs l with
   | some ds=>(match fn (.nd (.ins true C []) []::ds) with
    | .ok (.val (.at .non)) (d0::ds')=>.ok (.val d0) (gives rs ms ds' sh)
    | _=>.no)
   | none=>.no)
  | none=>.no)
 | .ex C s1=>.ex C s1
 | .no=>.no
section
variable {R:RC}{ix:List Nat}{hd:List (Nat×Addr)}{X:Cx}{H H':Hp}{σ:L2.St}{ts:Ts}{fr:List T}
theorem Cf.swap{t:T}{m fr:List T}(C:Cf R ix hd H σ ts (m++(t::fr))):Cf R ix hd H σ ts (t::(m++fr)):=by
 have ok:=T.oks_app.mp C.fok
 refine C.less (x:=[]) ⟨ok.2.1,T.oks_app.mpr ⟨ok.1,ok.2.2⟩⟩ ?_ fun b hb=>?_
 ·refine Qx.mpr fun b=>?_
  simp only [T.owns_cons,T.owns_app,Jj,Jm];omega
 ·left
  simp only [T.ros_cons,T.ros_app,Qe] at hb ⊢
  rcases hb with hb | hb | hb <;> simp [hb]

noncomputable def tryH(exm:Str→Str→Option Bool):List (Str×SF)→Str→Sd→SR
 | [],_,_=>.no
 | (x,f)::r,C,s=>match exm C x with | some true=>f s | some false=>tryH exm r C s | none=>.no
noncomputable def sTry(exm:Str→Str→Option Bool)(b:SF)(hs:List (Str×SF)):SF:=fun s=>match b s with
 | .ex C s1=>tryH exm hs C s1
 | r=>r

noncomputable def tgN:Sd→List DV→Option Sd
 | s,[]=>some s
 | _,_=>none
noncomputable def tgC(b:Sd→DV→Option Sd)(g:Sd→List DV→Option Sd):Sd→List DV→Option Sd
 | s,r::rs=>(match b s r with | some s1=>g s1 rs | none=>none)
 | _,[]=>none
noncomputable def tgT(g:Sd→List DV→Option Sd):Sd→DV→Option Sd
 | s,.val (.nd .tup l)=>if D.imms l then g s (l.map .val) else none
 | _,_=>none
noncomputable def lGs(R:RC)(ix:List Nat)(g:Sd→List DV→Option Sd):TGs:=fun vs σ H Q=>∃ hd ts fr l,Cf R ix hd H σ ts (l++fr)∧l.map T.val=vs∧∃ s',g (ts.map TL.er) ((T.ers l).map .val)=some s'∧∀ σ' ts',ts'.map TL.er=s'→Cf R ix hd H σ' ts' fr→Q σ' H
theorem Zae(vs:List V)(σ:L2.St)(H:Hp)(Q:L2.St→Hp→Prop)(h:lGs R ix tgN vs σ H Q):gNil vs σ H Q:=by
 obtain ⟨hd,ts,fr,l,C,rfl,s',e,q⟩:=h
 cases l with
 | nil=>cases e;exact ⟨rfl,q σ ts rfl C⟩
 | cons t l=>simp [T.ers,tgN] at e
theorem Z9z{b:Sd→DV→Option Sd}{g:Sd→List DV→Option Sd}(vs:List V)(σ:L2.St)(H:Hp)(Q:L2.St→Hp→Prop)(h:lGs R ix (tgC b g) vs σ H Q):gCons (lG R ix b) (lGs R ix g) vs σ H Q:=by
 obtain ⟨hd,ts,fr,l,C,rfl,s',e,q⟩:=h
 cases l with
 | nil=>simp [T.ers,tgC] at e
 | cons t l =>
  simp only [T.ers,Ql,tgC] at e
  cases eb:b (ts.map TL.er) (.val t.er) with
  | none=>rw [eb] at e;cases e
  | some s1 =>
   rw [eb] at e
   refine ⟨t.val,l.map T.val,rfl,hd,ts,l++fr,.val t,C,rfl,s1,eb,fun σ1 ts1 e1 C1=>⟨hd,ts1,fr,l,C1,rfl,s',by rw [e1];exact e,q⟩⟩
theorem Zbj{K:Qd}{n:Nat}{g:Sd→List DV→Option Sd}(hn:∀ s l s',g s l=some s'→l.length=n)(v:V)(σ:L2.St)(H:Hp)(Q:L2.St→Hp→Prop)(h:lG R ix (tgT g) v σ H Q):gTup K n (lGs R ix g) v σ H Q:=by
 obtain ⟨hd,ts,fr,tv,C,hv,s',e,q⟩:=h
 cases tv with
 | plc k p a=>simp [TV.er,tgT] at e
 | val t =>
  cases hv
  cases t with
  | «at» v=>simp [TV.er,T.er,tgT] at e
  | nd a kd ch =>
   cases kd with
   | tup =>
    simp only [TV.er,T.er,tgT] at e
    cases hi:D.imms (T.ers ch) with
    | false=>rw [hi] at e;simp at e
    | true =>
     rw [hi,if_pos rfl] at e
     have ok:=C.fok.1
     have ho:=T.imms_own hi
     refine ⟨a,ch.map T.val,rfl,ok.1.sqT,?_,hd,ts,fr,ch,?_,rfl,s',e,q⟩
     ·have:=hn _ _ _ e
      simpa [T.ers_eq] using this
     ·refine C.less (x:=[]) (T.oks_app.mpr ⟨ok.2,C.fok.2⟩) ?_ fun b hb=>?_
      ·show (T.owns (T.nd a .tup ch::fr)).Perm (T.owns (ch++fr)++[])
       rw [T.owns_cons,T.owns_app,T.own,ho];simp [NK.mut]
      ·left
       show b∈T.ros (T.nd a .tup ch::fr)
       rw [T.ros_cons,T.ro]
       rw [T.ros_app] at hb
       simp only [Qe] at hb ⊢
       rcases hb with hb | hb
       ·exact .inl (.inr hb)
       ·exact .inr hb
   | _=>simp [TV.er,T.er,tgT] at e
noncomputable def TgLen(n:Nat)(g:Sd→List DV→Option Sd):Prop:=∀ s l s',g s l=some s'→l.length=n
theorem Z7S:TgLen 0 tgN:=fun s l s' h=>by cases l with | nil=>rfl | cons=>simp [tgN] at h
theorem Z3L{n:Nat}{b:Sd→DV→Option Sd}{g:Sd→List DV→Option Sd}(h:TgLen n g):TgLen (n + 1) (tgC b g):=fun s l s' e=>by
 cases l with
 | nil=>simp [tgC] at e
 | cons r rs =>
  simp only [tgC] at e
  cases eb:b s r with
  | none=>rw [eb] at e;cases e
  | some s1=>rw [eb] at e;simp [h _ _ _ e]
theorem Z7P:PGs X [] (lGs R ix tgN):=fun pins s σ H vs us Q I r h=>Zap pins s σ H vs us Q I r (Zae vs σ H Q h)
theorem Z3J{e:Expr}{es:List Expr}{b:Sd→DV→Option Sd}{g:Sd→List DV→Option Sd}(h1:PG X e (lG R ix b))(h2:PGs X es (lGs R ix g))(hs:(assignEach (e::es) X.env).map (·.2)=assign e X.env::(assignEach es X.env).map (·.2):=by rfl):PGs X (e::es) (lGs R ix (tgC b g)) :=
 fun pins s σ H vs us Q I r h=>Z9I h1 h2 hs pins s σ H vs us Q I r (Z9z vs σ H Q h)
theorem Z99{es:List Expr}{k n:Nat}{pos:Pos}{g:Sd→List DV→Option Sd}(hc:X.calm=true)(h:PGs X es (lGs R ix g))(hl:TgLen n g)(hn:(assignEach es X.env).length=n:=by rfl)(hst:(assignEach es X.env).findIdx? (·.1)=none:=by rfl):PG X (.Tuple es k pos) (lG R ix (tgT g)) :=
 fun pins s σ H v u Q I r hh=>ZbG hc h hn hst pins s σ H v u Q I r (Zbj hl v σ H Q hh)
end
end RM

namespace RM
open PySem PySem.Spec PyProof.Rows L2
theorem Z1a{t:T}{v:V}(h:t.er=.at v)(hv:Z0j v=true):t=.at v:=by
 cases t with
 | nd a k l=>cases h
 | «at» u =>
  cases u with
  | ref a=>cases h;cases hv
  | _=>cases h;rfl
theorem Z70{v:V}(h:Z0j v=true):cl v=v:=by cases v <;> first | rfl | cases h
section
variable {X:Cx}{R:RC}{ix:List Nat}{H H':Hp}{σ:L2.St}
theorem gNw1{h:List D→Option D}{x:V}{Q:VK}(q:gNw h [x] H Q):∃ t:T,t.ok H∧t.val=x∧∃ d,h [t.er]=some d∧∀ t' H',t'.er=d→NewOk H H' [t] t'→Q t'.val H':=by
 obtain ⟨l,ok,hv,q⟩:=q
 obtain ⟨t,rfl,rfl⟩:=map1 hv
 exact ⟨t,ok.1,rfl,q⟩
theorem gNw2{h:List D→Option D}{x y:V}{Q:VK}(q:gNw h [x,y] H Q):∃ t u:T,t.ok H∧u.ok H∧t.val=x∧u.val=y∧∃ d,h [t.er,u.er]=some d∧∀ t' H',t'.er=d→NewOk H H' [t,u] t'→Q t'.val H':=by
 obtain ⟨l,ok,hv,q⟩:=q
 obtain ⟨t,u,rfl,rfl,rfl⟩:=map2 hv
 exact ⟨t,u,ok.1,ok.2.1,rfl,rfl,q⟩
theorem Z0f.or{f:Value}{r r':List V→Hp→VK→Prop}(h:Z0f X f r)(h':Z0f X f r'):Z0f X f fun x H Q=>r x H Q∨r' x H Q:=fun pins s σ H x u Q I rx q=>q.elim (h pins s σ H x u Q I rx) (h' pins s σ H x u Q I rx)

noncomputable def hI(C:Int→Int→Bool)(g:Int→Int→V):List D→Option D
 | [.at (.int i),.at (.int j)]=>if C i j then some (.at (g i j)) else none
 | _=>none
theorem Z7t{C:Int→Int→Bool}{g:Int→Int→V}{a b d:D}(h:hI C g [a,b]=some d):∃ i j,a=.at (.int i)∧b=.at (.int j)∧C i j=true∧d=.at (g i j):=by
 unfold hI at h
 split at h
 case h_1 i j e =>
  cases e
  split at h
  ·cases h;exact ⟨i,j,rfl,rfl,by assumption,rfl⟩
  ·cases h
 case h_2=>cases h
theorem on_hI{f:Value→Value→Sem Value}{Cp:Int→Int→Prop}{C:Int→Int→Bool}{g:Int→Int→V}(ho:OpR X f (rI Cp g))(hC:∀ i j,C i j=true→Cp i j)(hg:∀ i j,Z0j (g i j)=true):OpR X f (oNw (hI C g)):=opM ho fun x y H Q q=>by
 obtain ⟨t,u,ht,hu,rfl,rfl,d,hh,q⟩:=gNw2 q
 obtain ⟨i,j,e1,e2,c,rfl⟩:=Z7t hh
 cases Z1a e1 rfl
 cases Z1a e2 rfl
 exact ⟨i,j,rfl,rfl,hC i j c,q (.at (g i j)) H (by rw [T.er,Z70 (hg i j)]) (.atom _)⟩
theorem Z4Q{f:Value→Value→Sem Value}{g:Int→Int→V}(ho:OpR X f (rI0 g))(hg:∀ i j,Z0j (g i j)=true):OpR X f (oNw (hI (fun _ _=>true) g)):=opM ho fun x y H Q q=>by
 obtain ⟨t,u,ht,hu,rfl,rfl,d,hh,q⟩:=gNw2 q
 obtain ⟨i,j,e1,e2,c,rfl⟩:=Z7t hh
 cases Z1a e1 rfl
 cases Z1a e2 rfl
 exact ⟨i,j,rfl,rfl,q (.at (g i j)) H (by rw [T.er,Z70 (hg i j)]) (.atom _)⟩
noncomputable abbrev hSub:List D→Option D:=hI (fun _ _=>true) fun i j=>.int (i - j)
noncomputable abbrev hMul:List D→Option D:=hI (fun i j=>decide (-(2 ^ 64) < i∧i < 2 ^ 64) || decide (-(2 ^ 64) < j∧j < 2 ^ 64)) fun i j=>.int (i * j)
noncomputable abbrev hDiv:List D→Option D:=hI (fun _ j=>decide (0 < j) && decide (j < 1073741824)) fun i j=>.int (i / j)
noncomputable abbrev hMod:List D→Option D:=hI (fun _ j=>decide (0 < j)) fun i j=>.int (i % j)
noncomputable abbrev hLt:List D→Option D:=hI (fun _ _=>true) fun i j=>.bl (decide (i < j))
noncomputable abbrev hGt:List D→Option D:=hI (fun _ _=>true) fun i j=>.bl (decide (j < i))
theorem Z4R:OpR X (binaryOp .Sub) (oNw hSub):=Z4Q Zby fun _ _=>rfl
theorem Z2Y:OpR X (binaryOp .Mult) (oNw hMul):=on_hI Zbx (fun i j h=>by simpa [CMul] using h) fun _ _=>rfl
theorem Z1P:OpR X (binaryOp .FloorDiv) (oNw hDiv):=on_hI Zal (fun i j h=>by simpa [CDiv] using h) fun _ _=>rfl
theorem Z0u:OpR X (binaryOp .Mod) (oNw hMod):=on_hI Zbw (fun i j h=>by simpa using h) fun _ _=>rfl
theorem on_lt:OpR X (compareOp .Lt) (oNw hLt):=Z4Q op_lt fun _ _=>rfl
theorem on_gt:OpR X (compareOp .Gt) (oNw hGt):=Z4Q op_gt fun _ _=>rfl

noncomputable def hEq(neg:Bool):List D→Option D
 | [.at x,.at y]=>if Z0j x && Z0j y && scal x y then some (.at (.bl (decide (x=y) != neg))) else none
 | _=>none
theorem Z64{neg:Bool}{a b d:D}(h:hEq neg [a,b]=some d):∃ x y,a=.at x∧b=.at y∧Z0j x=true∧Z0j y=true∧scal x y=true∧d=.at (.bl (decide (x=y) != neg)):=by
 unfold hEq at h
 split at h
 case h_1 x y e =>
  cases e
  split at h
  case isTrue z =>
   simp only [Jr] at z
   cases h;exact ⟨x,y,rfl,rfl,z.1.1,z.1.2,z.2,rfl⟩
  case isFalse=>cases h
 case h_2=>cases h
theorem on_eq:OpR X (compareOp .Eq) (oNw (hEq false)):=opM op_eq fun x y H Q q=>by
 obtain ⟨t,u,ht,hu,rfl,rfl,d,hh,q⟩:=gNw2 q
 obtain ⟨i,j,e1,e2,f1,f2,c,rfl⟩:=Z64 hh
 cases Z1a e1 f1
 cases Z1a e2 f2
 exact ⟨c,q (.at (.bl (decide (i=j)))) H (by simp [T.er,cl]) (.atom _)⟩
theorem on_ne:OpR X (compareOp .NotEq) (oNw (hEq true)):=opM op_ne fun x y H Q q=>by
 obtain ⟨t,u,ht,hu,rfl,rfl,d,hh,q⟩:=gNw2 q
 obtain ⟨i,j,e1,e2,f1,f2,c,rfl⟩:=Z64 hh
 cases Z1a e1 f1
 cases Z1a e2 f2
 exact ⟨c,q (.at (.bl (!decide (i=j)))) H (by simp [T.er,cl]) (.atom _)⟩
noncomputable def hIsN(neg:Bool):List D→Option D
 | [.at x,.at .non]=>some (.at (.bl (decide (x=.non) != neg)))
 | [.nd _ _,.at .non]=>some (.at (.bl neg))
 | _=>none
theorem Z7E{t u:T}{d:D}{neg:Bool}(h:hIsN neg [t.er,u.er]=some d):u=.at .non∧d=.at (.bl (decide (t.val=.non) != neg)):=by
 cases u with
 | nd a k l=>cases t <;> simp [hIsN,T.er] at h
 | «at» y =>
  have hy:y=.non:=by
   cases y <;> first | rfl | (cases t <;> simp [hIsN,T.er,cl] at h)
  subst hy
  refine ⟨rfl,?_⟩
  cases t with
  | nd a k l =>
   simp only [T.er,hIsN,cl,Option.some.injEq] at h
   rw [← h];simp [T.val]
  | «at» x =>
   simp only [T.er,hIsN,cl,Option.some.injEq] at h
   rw [← h]
   cases x <;> simp [T.val,cl]
theorem Z6q:OpR X (compareOp .Is) (oNw (hIsN false)):=opM Z4f fun x y H Q q=>by
 obtain ⟨t,u,ht,hu,rfl,rfl,d,hh,q⟩:=gNw2 q
 obtain ⟨rfl,rfl⟩:=Z7E hh
 exact ⟨rfl,q (.at (.bl (decide (t.val=.non)))) H (by simp [T.er,cl]) (.atom _)⟩
theorem Z5b:OpR X (compareOp .IsNot) (oNw (hIsN true)):=opM Zam fun x y H Q q=>by
 obtain ⟨t,u,ht,hu,rfl,rfl,d,hh,q⟩:=gNw2 q
 obtain ⟨rfl,rfl⟩:=Z7E hh
 exact ⟨rfl,q (.at (.bl (!decide (t.val=.non)))) H (by simp [T.er,cl]) (.atom _)⟩

theorem Z2X{l:List T}{k:NK}{ch:List T}{p:Addr}{o:HO}(hp:H p=none)(ho:NodeOk (upd H p o) p k (ch.map T.val))(hk:k.mut=true∨k=.tup)(hc:∀ t∈ch,t.ok H∧t.own=[])(hr:∀ a∈T.ros ch,a∈T.ros l):NewOk H (upd H p o) l (.nd p k ch):=by
 have hown:T.owns ch=[]:=by
  refine Wz.mpr fun a z=>?_
  obtain ⟨t,h1,h2⟩:=T.mem_owns.mp z
  rw [(hc t h1).2] at h2;cases h2
 have there:∀ a∈T.ros ch,a≠p:=fun a z e=>by
  obtain ⟨t,h1,h2⟩:=T.mem_ros.mp z
  exact T.there (hc t h1).1 (.inr h2) (by rw [e];exact hp)
 refine ⟨⟨ho,T.oks_iff.mpr fun t ht=>T.keep (hc t ht).1 fun a z=>?_⟩,?_,fun a z=>?_,fun a z=>?_,fun a z=>?_,fun a z=>Zc (by rintro rfl;exact z hp)⟩
 ·refine Zc ?_
  rcases z with z | z
  ·rw [(hc t ht).2] at z;cases z
  ·exact there a (T.mem_ros.mpr ⟨t,ht,z⟩)
 ·rw [T.own,hown];cases k.mut <;> simp
 ·rw [T.own,hown] at z
  have:a=p:=by revert z;cases k.mut <;> simp
  rw [this];exact hp
 ·rw [T.ro] at z
  rcases Qe.mp z with z | z
  ·left
   have:a=p:=by revert z;cases k.mut <;> simp
   rw [this];exact hp
  ·exact .inr (hr a z)
 ·rw [T.ro] at z
  rw [T.own,hown]
  rcases Qe.mp z with z | z
  ·revert z;cases k.mut <;> simp
  ·intro q
   have:a=p:=by revert q;cases k.mut <;> simp
   exact there a z this
theorem Z3k{l:List T}(h:D.imms (T.ers l)=true):∀ t∈l,t.own=[]:=fun t ht=>by
 have:=T.imms_own h
 refine Wz.mpr fun a z=>?_
 have:a∈T.owns l:=T.mem_owns.mpr ⟨t,ht,z⟩
 rw [T.imms_own h] at this;cases this
noncomputable def hAdd:List D→Option D
 | [.at (.int i),.at (.int j)]=>some (.at (.int (i + j)))
 | [.at (.str x),.at (.str y)]=>if x.length + y.length≤sizeLine then some (.at (.str (x++y))) else none
 | [.nd (.lst true) l,.nd (.lst true) m]=>if D.imms l && D.imms m && decide (l.length + m.length≤sizeLine) then some (.nd (.lst true) (l++m)) else none
 | [.nd .tup l,.nd .tup m]=>if D.imms l && D.imms m && decide (l≠[]∧m≠[]∧l.length + m.length≤sizeLine) then some (.nd .tup (l++m)) else none
 | _=>none
theorem Z4a{t:T}{m:Bool}{l:List D}(h:t.er=.nd (.lst m) l):∃ a ch,t=.nd a (.lst m) ch∧l=T.ers ch:=by
 cases t with
 | «at» v=>cases h
 | nd a k ch=>cases h;exact ⟨a,ch,rfl,rfl⟩
theorem ZbT{t:T}{l:List D}(h:t.er=.nd .tup l):∃ a ch,t=.nd a .tup ch∧l=T.ers ch:=by
 cases t with
 | «at» v=>cases h
 | nd a k ch=>cases h;exact ⟨a,ch,rfl,rfl⟩
theorem Za4(l m:List T):T.ers (l++m)=T.ers l++T.ers m:=by rw [T.ers_eq,T.ers_eq,T.ers_eq,Qt]
theorem Z0V(l:List T):(T.ers l).length=l.length:=by rw [T.ers_eq,Qs]

open Classical in
noncomputable def hLen(K:Qd):List D→Option D
 | [.at (.str x)]=>if x.length≤sizeLine then some (.at (.int x.length)) else none
 | [.nd (.lst _) l]=>some (.at (.int l.length))
 | [.nd .tup l]=>some (.at (.int l.length))
 | [.nd (.dic _ _) l]=>some (.at (.int l.length))
 | [.nd (.kst K') l]=>if K'=K then some (.at (.int l.length)) else none
 | _=>none
theorem Z1M:Z0f X (.builtin "len") (gNw (hLen X.K)):=callM (Z0f.or call_len Z84) fun vs H Q q=>by
 obtain ⟨l,ok,hv,q⟩:=q
 obtain ⟨d,hh,q⟩:=q
 match l,ok,hv,hh,q with
 | [],_,_,hh,_=>cases hh
 | _::_::_,_,_,hh,_=>simp [T.ers,hLen] at hh
 | [t],ok,hv,hh,q =>
  subst hv
  simp only [T.ers] at hh
  cases t with
  | «at» v =>
   cases v with
   | str x =>
    simp only [T.er,cl,hLen] at hh
    split at hh
    ·cases hh
     exact .inl ⟨.str x,x.length,rfl,⟨by assumption,rfl⟩,q (.at (.int x.length)) H rfl (.atom _)⟩
    ·cases hh
   | _=>simp [T.er,cl,hLen] at hh
  | nd a k ch =>
   cases k with
   | lst m =>
    simp only [T.er,hLen,Option.some.injEq,Z0V] at hh
    subst hh
    exact .inl ⟨.ref a,ch.length,rfl,.inl ⟨_,ok.1.1.sqL,by simp⟩,q (.at (.int ch.length)) H rfl (.atom _)⟩
   | tup =>
    simp only [T.er,hLen,Option.some.injEq,Z0V] at hh
    subst hh
    exact .inl ⟨.ref a,ch.length,rfl,.inr ⟨_,ok.1.1.sqT,by simp⟩,q (.at (.int ch.length)) H rfl (.atom _)⟩
   | dic m ks =>
    simp only [T.er,hLen,Option.some.injEq,Z0V] at hh
    subst hh
    obtain ⟨h1,_,h2⟩:=ok.1.1
    refine .inr ⟨a,ks.zip (ch.map T.val),rfl,h2,?_⟩
    have:(ks.zip (ch.map T.val)).length=ch.length:=by
     simp only [Qs] at h1
     simp [h1]
    rw [this]
    exact q (.at (.int ch.length)) H rfl (.atom _)
   | kst K' =>
    simp only [T.er,hLen,Z0V] at hh
    split at hh
    case isTrue e =>
     subst e
     cases hh
     exact .inl ⟨.ref a,ch.length,rfl,.inl ⟨_,.inr ok.1.1,by simp⟩,q (.at (.int ch.length)) H rfl (.atom _)⟩
    case isFalse=>cases hh
   | _=>simp [T.er,hLen] at hh
theorem rc_b{x:Str}{id:String}{h:List D→Option D}{p pos:Pos}{e:Expr}{es:List Expr}{f:AF}(hc:Z0f X (.builtin id) (gNw h))(hg:Gl X x)(hm:X.mg x=none)(hv:bootBuiltins x=some (.builtin id))(ha:PA X (e::es) (lA R ix f))(hn:x ≠ "__name__":=by decide)(hdb:(x == ("__debug__":Str))=false:=by decide)
  (he:starEach (e::es) X.env=(false,eval e X.env)::starEach es X.env:=by rfl) (hpl:(backTo pos (starEach es X.env)).any (·.1)=false:=by rfl):PE X (.Call (.Name x p) (e::es) [] pos) (lE R ix (eNw h f)) :=
 peM (Z0t hc hg hm hv ha hn hdb he hpl) fun σ H Q q=>Z2z σ H Q q
theorem rc_ty{x:Str}{Ty:String}{h:List D→Option D}{p pos:Pos}{e:Expr}{es:List Expr}{f:AF}(hc:Z0f X (.type Ty) (gNw h))(hg:Gl X x)(hm:X.mg x=none)(hv:bootBuiltins x=some (.type Ty))(ha:PA X (e::es) (lA R ix f))(hn:x ≠ "__name__":=by decide)(hdb:(x == ("__debug__":Str))=false:=by decide)
  (he:starEach (e::es) X.env=(false,eval e X.env)::starEach es X.env:=by rfl) (hpl:(backTo pos (starEach es X.env)).any (·.1)=false:=by rfl):PE X (.Call (.Name x p) (e::es) [] pos) (lE R ix (eNw h f)) :=
 peM (Z5q hc hg hm hv ha hn hdb he hpl) fun σ H Q q=>Z2z σ H Q q
noncomputable def Z1W:List D→Option D
 | [.nd (.lst _) l]=>if D.imms l then some (.nd (.lst true) l) else none
 | [.nd .tup l]=>if D.imms l then some (.nd (.lst true) l) else none
 | _=>none
theorem Z71:Z0f X (.type "list") (gNw Z1W):=callM Z5F fun vs H Q q=>by
 obtain ⟨l,ok,hv,d,hh,q⟩:=q
 match l,ok,hv,hh,q with
 | [],_,_,hh,_=>cases hh
 | _::_::_,_,_,hh,_=>simp [T.ers,Z1W] at hh
 | [t],ok,hv,hh,q =>
  subst hv
  simp only [T.ers] at hh
  cases t with
  | «at» v=>simp [T.er,Z1W] at hh
  | nd a k ch =>
   have main:(SqL X.K H a (ch.map T.val)∨SqT X.K H a (ch.map T.val))→D.imms (T.ers ch)=true→d=.nd (.lst true) (T.ers ch)→(∀ b∈T.ros ch,b∈T.ros [T.nd a k ch])→∃ p ys,[(T.nd a k ch).val]=[V.ref p]∧(SqL X.K H p ys∨SqT X.K H p ys)∧∀ l,H l=none→Q (.ref l) (upd H l (.lst ys)):=by
    rintro hs hi rfl hr
    exact ⟨a,ch.map T.val,rfl,hs,fun p hp=>q (.nd p (.lst true) ch) _ rfl (Z2X hp Zx (.inl rfl) (fun t ht=>⟨T.oks_iff.mp ok.1.2 t ht,Z3k hi t ht⟩) hr)⟩
   cases k with
   | lst m =>
    simp only [T.er,Z1W] at hh
    split at hh
    ·cases hh
     exact main (.inl ok.1.1.sqL) (by assumption) rfl fun b hb=>by simp [T.ros,T.ro,hb]
    ·cases hh
   | tup =>
    simp only [T.er,Z1W] at hh
    split at hh
    ·cases hh
     exact main (.inr ok.1.1.sqT) (by assumption) rfl fun b hb=>by simp [T.ros,T.ro,hb]
    ·cases hh
   | _=>simp [T.er,Z1W] at hh
end
end RM

namespace RM
open PySem PySem.Spec PyProof.Rows L2
section
variable {X:Cx}{R:RC}{ix:List Nat}{H H':Hp}{σ:L2.St}{K:Qd}
theorem gCh2{h:List D→Option Sel}{x y:V}{Q:VK}(q:gCh h [x,y] H Q):∃ t u:T,t.ok H∧u.ok H∧t.val=x∧u.val=y∧∃ c v,h [t.er,u.er]=some c∧selT [t,u] c=some v∧Q v H:=by
 obtain ⟨l,ok,hv,q⟩:=q
 obtain ⟨t,u,rfl,rfl,rfl⟩:=map2 hv
 exact ⟨t,u,ok.1,ok.2.1,rfl,rfl,q⟩
open Classical in
noncomputable def hIx(K:Qd):List D→Option Sel
 | [.nd (.lst _) l,.at (.int i)]=>(ixN l.length i).map .ch
 | [.nd .tup l,.at (.int i)]=>(ixN l.length i).map .ch
 | [.nd (.kst K') l,.at (.int i)]=>if K'=K then (ixN l.length i).map .ch else none
 | [.at (.str z),.at (.int i)]=>if z.length≤sizeLine then (atI z.cps.toList i).map fun c=>.cs (.str ⟨#[c]⟩) else none
 | _=>none
theorem ixM{r r':R2}(h:IxR X r)(m:∀ x y H Q,r' x y H Q→r x y H Q):IxR X r':=fun v sl pins s σ H x y ov u Q I rx ry q hs=>h v sl pins s σ H x y ov u Q I rx ry (m _ _ _ _ q) hs
theorem ix_h:IxR X fun x y H Q=>gCh (hIx X.K) [x,y] H Q:=ixM ix_seq fun x y H Q q=>by
 obtain ⟨t,u,ht,hu,rfl,rfl,c,v,hh,hs,qq⟩:=gCh2 q
 have hi:∃ i,u=.at (.int i):=by
  cases u with
  | nd a k l=>cases t with
   | nd b k' l'=>cases k' <;> simp [T.er,hIx] at hh
   | «at» w=>cases w <;> simp [T.er,hIx,cl] at hh
  | «at» w=>cases w with
   | int i=>exact ⟨i,rfl⟩
   | _=>cases t with
    | nd b k' l'=>cases k' <;> simp [T.er,hIx,cl] at hh
    | «at» w=>cases w <;> simp [T.er,hIx,cl] at hh
 obtain ⟨i,rfl⟩:=hi
 have seq:∀ {a:Addr} {k:NK} {ch:List T},T.nd a k ch=t→(ixN (T.ers ch).length i).map Sel.ch=some c→atI (ch.map T.val) i=some v:=by
  rintro a k ch rfl h
  rw [Z0V] at h
  cases e:ixN ch.length i with
  | none=>rw [e] at h;cases h
  | some j =>
   rw [e] at h
   cases h
   unfold atI
   rw [Qs,e]
   simpa [selT] using hs
 cases t with
 | nd a k ch =>
  cases k with
  | lst m=>exact .inl ⟨a,ch.map T.val,i,v,rfl,rfl,ht.1.sqL,seq rfl (by simpa [T.er,hIx,cl] using hh),qq⟩
  | tup=>exact .inr (.inl ⟨a,ch.map T.val,i,v,rfl,rfl,ht.1.sqT,seq rfl (by simpa [T.er,hIx,cl] using hh),qq⟩)
  | kst K' =>
   have e:K'=X.K:=by
    by_cases e:K'=X.K
    ·exact e
    ·simp [T.er,hIx,cl,e] at hh
   subst e
   exact .inl ⟨a,ch.map T.val,i,v,rfl,rfl,.inr ht.1,seq rfl (by simpa [T.er,hIx,cl] using hh),qq⟩
  | _=>simp [T.er,hIx] at hh
 | «at» w =>
  cases w with
  | str z =>
   simp only [T.er,cl,hIx] at hh
   split at hh
   ·cases e:atI z.cps.toList i with
    | none=>rw [e] at hh;cases hh
    | some ch =>
     rw [e] at hh
     cases hh
     cases hs
     exact .inr (.inr ⟨z,i,ch,rfl,rfl,by assumption,e,qq⟩)
   ·cases hh
  | _=>simp [T.er,hIx,cl] at hh
theorem Z06{a b:Expr}{pos:Pos}{fa fb:EF}(ha:PE X a (lE R ix fa))(hb:PE X b (lE R ix fb))(hs:PlainIx b):PE X (.Subscript a b pos) (lE R ix (eCh (hIx X.K) (Z0 fa (Z0 fb Z2)))) :=
 peM (pe_ix ix_h ha hb hs) fun σ H Q q=>lA_2 (lA_ch σ H Q q)

noncomputable def idx(f:Str)(ns:List Str):Option Nat:=ns.findIdx? (· == f)
noncomputable def hFld(C:Addr)(f:Str):List D→Option Sel
 | [.nd (.ins _ C' ns) _]=>if C'=C then (idx f ns).map .ch else none
 | _=>none

noncomputable def keyD:D→Option Key
 | .at (.int i)=>some (.inl i)
 | .at (.str x)=>some (.inr x)
 | _=>none
theorem Z4N{t:T}{k:Key}(h:keyD t.er=some k):t=.at (kV k):=by
 cases t with
 | nd a q l=>simp [T.er,keyD] at h
 | «at» v=>cases v <;> simp [T.er,cl,keyD] at h <;> (subst h;rfl)
noncomputable def Z2h:List D→Option (List Key)
 | []=>some []
 | d::r=>match keyD d,Z2h r with | some k,some ks=>some (k::ks) | _,_=>none
theorem Z57:∀ {l:List T} {ks:List Key},Z2h (T.ers l)=some ks→l.map T.val=ks.map kV
 | [],ks,h=>by cases h;rfl
 | t::l,ks,h=>by
  simp only [T.ers,Z2h] at h
  cases e1:keyD t.er with
  | none=>simp [e1] at h
  | some k=>cases e2:Z2h (T.ers l) with
   | none=>simp [e1,e2] at h
   | some r =>
    simp only [e1,e2,Option.some.injEq] at h
    subst h
    rw [Z4N e1,Ql,Ql,Z57 e2];rfl
noncomputable def idk{κ:Type}[DecidableEq κ](k:κ)(ks:List κ):Option Nat:=ks.findIdx? fun x=>decide (x=k)
theorem Z33{κ:Type}[DecidableEq κ](k:κ):∀ {ks:List κ} {vs:List V},ks.length=vs.length→valV (ks.zip vs) k=(idk k ks).bind fun j=>vs[j]?
 | [],vs,h=>by cases vs with | nil=>rfl | cons=>simp at h
 | x::ks,[],h=>by simp at h
 | x::ks,v::vs,h=>by
  have ih:=Z33 k (ks:=ks) (vs:=vs) (by simpa using h)
  unfold idk at *
  rw [List.zip_cons_cons,Gs]
  by_cases e:x=k
  ·rw [Z3O (by exact e),decide_eq_true e];rfl
  ·rw [Z3N (by exact e),decide_eq_false e,if_neg Qp,ih]
   cases List.findIdx? (fun x=>decide (x=k)) ks <;> rfl
noncomputable def Z0S:D→D→Option (Option Nat)
 | .nd (.dic _ ks) _,k=>(keyD k).map fun k=>idk k ks
 | .nd (.dit _ ks) _,.nd .tup l=>(Z2h l).map fun k=>idk k ks
 | _,_=>none
theorem Z62{t u:T}{o:Option Nat}(ht:t.ok H)(hu:u.ok H)(h:Z0S t.er u.er=some o):∃ a k ch,t=.nd a k ch∧DGet H a u.val (o.bind fun j=>(ch.map T.val)[j]?):=by
 cases t with
 | «at» v=>simp [T.er,Z0S] at h
 | nd a k ch =>
  cases k with
  | dic m ks =>
   refine ⟨a,_,ch,rfl,?_⟩
   simp only [T.er,Z0S] at h
   cases e:keyD u.er with
   | none=>rw [e] at h;cases h
   | some key =>
    rw [e] at h
    cases h
    obtain ⟨h1,_,h2⟩:=ht.1
    rw [Z4N e,← Z33 key h1]
    exact DGet.k h2
  | dit m ks =>
   refine ⟨a,_,ch,rfl,?_⟩
   cases u with
   | «at» v=>simp [T.er,Z0S] at h
   | nd b k' l =>
    cases k' with
    | tup =>
     simp only [T.er,Z0S] at h
     cases e:Z2h (T.ers l) with
     | none=>rw [e] at h;cases h
     | some key =>
      rw [e] at h
      cases h
      obtain ⟨h1,_,h2⟩:=ht.1
      rw [← Z33 key h1]
      refine DGet.t h2 ?_
      rw [← Z57 e];exact hu.1
    | _=>simp [T.er,Z0S] at h
  | _=>simp [T.er,Z0S] at h
noncomputable def hDGet:List D→Option Sel
 | [d,k]=>match Z0S d k with | some (some j)=>some (.ch j) | _=>none
 | _=>none
theorem Z7O{o i:Expr}{pos:Pos}{fo fi:EF}(hu:X.A.units + 1 < cLine)(ho:PE X o (lE R ix fo))(hi:PE X i (lE R ix fi))(hs:NoSl i):PE X (.Subscript o i pos) (lE R ix (eCh hDGet (Z0 fo (Z0 fi Z2)))) :=
 peM (Zan hu ho hi hs) fun σ H Q q=>by
  refine Zt (fun x H1 q=>Zt (fun y H2 q=>?_) q) (lA_2 (lA_ch σ H Q q))
  obtain ⟨t,u,ht,hu',rfl,rfl,c,v,hh,hs',qq⟩:=gCh2 q
  simp only [hDGet] at hh
  split at hh
  case h_1 j e =>
   cases hh
   obtain ⟨a,k,ch,rfl,g⟩:=Z62 ht hu' e
   refine ⟨a,v,rfl,?_,qq⟩
   have:(some j).bind (fun j=>(ch.map T.val)[j]?)=some v:=by simpa [selT] using hs'
   rwa [this] at g
  case h_2=>cases hh
noncomputable def hDIn(neg:Bool):List D→Option D
 | [k,d]=>match Z0S d k with | some o=>some (.at (.bl (o.isSome != neg))) | none=>none
 | _=>none
theorem Z8w{neg:Bool}{k d r:D}(h:hDIn neg [k,d]=some r):∃ o,Z0S d k=some o∧r=.at (.bl (o.isSome != neg)):=by
 simp only [hDIn] at h
 split at h
 case h_1 o e=>cases h;exact ⟨o,e,rfl⟩
 case h_2=>cases h
theorem Z6R{o:Option Nat}{ch:List T}{k:NK}{a:Addr}{u:T}(h:Z0S (T.nd a k ch).er u.er=some o)(hok:(T.nd a k ch).ok H):(o.bind fun j=>(ch.map T.val)[j]?).isSome=o.isSome:=by
 cases o with
 | none=>rfl
 | some j =>
  have hj:j < ch.length:=by
   cases k with
   | dic m ks =>
    simp only [T.er,Z0S] at h
    cases e:keyD u.er with
    | none=>rw [e] at h;cases h
    | some key =>
     rw [e] at h
     simp only [Option.map_some,Option.some.injEq] at h
     have:=(Wu.mp h).1
     have h1:=hok.1.1
     simp only [Qs] at h1
     omega
   | dit m ks =>
    cases u with
    | «at» v=>simp [T.er,Z0S] at h
    | nd b k' l =>
     cases k' with
     | tup =>
      simp only [T.er,Z0S] at h
      cases e:Z2h (T.ers l) with
      | none=>rw [e] at h;cases h
      | some key =>
       rw [e] at h
       simp only [Option.map_some,Option.some.injEq] at h
       have:=(Wu.mp h).1
       have h1:=hok.1.1
       simp only [Qs] at h1
       omega
     | _=>simp [T.er,Z0S] at h
   | _=>simp [T.er,Z0S] at h
  simp [hj]
theorem Z3u{i o:Expr}{fi fo:EF}(hu:X.A.units + 1 < cLine)(hi:PE X i (lE R ix fi))(ho:PE X o (lE R ix fo)):PC X .NotIn i o (lE R ix (eNw (hDIn true) (Z0 fi (Z0 fo Z2)))):=fun pins s σ H Q I q=>Z8X hu hi ho pins s σ H Q I (by
 refine Zt (fun x H1 q=>Zt (fun y H2 q=>?_) q) (lA_2 (Z2z σ H Q q))
 obtain ⟨t,u,ht,hu',rfl,rfl,d,hh,qq⟩:=gNw2 q
 obtain ⟨oo,e,rfl⟩:=Z8w hh
 obtain ⟨a,k,ch,rfl,g⟩:=Z62 hu' ht e
 refine ⟨a,_,rfl,g,?_⟩
 rw [Z6R e hu']
 exact qq (.at (.bl (!oo.isSome))) H2 (by simp [T.er,cl]) (.atom _))

noncomputable def hGet2:List D→Option Sel
 | [d,k,_]=>match Z0S d k with | some (some j)=>some (.ch j) | some none=>some (.ar 2) | none=>none
 | _=>none
noncomputable def isDic:D→Bool
 | .nd (.dic _ _) _=>true | .nd (.dit _ _) _=>true | _=>false
end
end RM

namespace RM
open PySem PySem.Spec PyProof.Rows L2
noncomputable def vals:List DV→Option (List D)
 | []=>some []
 | .val d::r=>(match vals r with | some l=>some (d::l) | none=>none)
 | .plc _ _::_=>none
noncomputable def Z04(k:NK)(f:AF):EF:=fun s=>match f s with
 | .ok rs s1=>(match vals rs with | some l=>if l.length≤sizeLine then .ok (.val (.nd k l)) s1 else .no | none=>.no)
 | .ex C s1=>.ex C s1
 | .no=>.no
section
variable {X:Cx}{R:RC}{ix:List Nat}{hd:List (Nat×Addr)}{H H':Hp}{σ:L2.St}{K:Qd}{ts:Ts}{fr:List T}
theorem Z6K:∀ {tvs:List TV} {vs:List V} {l:List D},vals (tvs.map TV.er)=some l→TvsOk ts vs tvs→∃ ch:List T,trs tvs=ch∧T.ers ch=l∧ch.map T.val=vs
 | [],_,_,h,.nil=>by cases h;exact ⟨[],rfl,rfl,rfl⟩
 | tv::tvs,_,l,h,.cons hv hr=>by
  cases tv with
  | plc k p a=>simp [TV.er,vals] at h
  | val t =>
   simp only [Ql,TV.er,vals] at h
   cases e:vals (tvs.map TV.er) with
   | none=>rw [e] at h;cases h
   | some r =>
    rw [e] at h
    cases h
    obtain ⟨ch,h1,h2,h3⟩:=Z6K e hr
    refine ⟨t::ch,?_,by rw [T.ers,h2],by rw [Ql,h3,hv]⟩
    show [t]++trs tvs=t::ch
    rw [h1];rfl
theorem Cf.wrap{ch:List T}{k:NK}{p:Addr}{o:HO}(C:Cf R ix hd H σ ts (ch++fr))(hp:H p=none)(ho:NodeOk (upd H p o) p k (ch.map T.val))(hko:k.out=false:=by rfl):Cf R ix hd (upd H p o) σ ts (.nd p k ch::fr):=by
 obtain ⟨f1,f2,f3,f4,f5,f6⟩:=C.fresh hp
 have ok:=T.oks_app.mp C.fok
 have kp:∀ a,H a≠none→upd H p o a=H a:=fun a z=>Zc (by rintro rfl;exact z hp)
 rw [T.owns_app] at f4
 rw [T.ros_app] at f5
 simp only [Qe,not_or] at f4 f5
 have eo:T.owns (.nd p k ch::fr)=(if k.mut then [p] else [])++(T.owns ch++T.owns fr):=by rw [T.owns_cons,T.own,Qq]
 have er:T.ros (.nd p k ch::fr)=(if k.mut then [] else [p])++(T.ros ch++T.ros fr):=by rw [T.ros_cons,T.ro,hko,Bool.or_false,Qq]
 have hin:∀ a,a∈(if k.mut then [p] else [])→a=p:=fun a z=>by revert z;cases k.mut <;> simp
 have hin':∀ a,a∈(if k.mut then [] else [p])→a=p∧k.mut=false:=fun a z=>by revert z;cases k.mut <;> simp
 refine ⟨fun w t z=>T.keep (C.ok w t z) fun a q=>kp a (T.there (C.ok w t z) q),⟨⟨ho,T.keeps ok.1 fun a q=>kp a (T.theres ok.1 q)⟩,T.keeps ok.2 fun a q=>kp a (T.theres ok.2 q)⟩,?_,fun a z=>?_,fun a z=>?_,fun a z=>?_,C.bg,C.bor,C.ixs,C.sl,C.hdi,C.hdx,C.len,C.hdn⟩
 ·rw [eo]
  have nd:=C.nd
  rw [T.owns_app] at nd
  have n1:=Qk.mp nd
  refine Qk.mpr ⟨n1.1,Qk.mpr ⟨by cases k.mut <;> simp,n1.2.1,fun a za b zb e=>?_⟩,fun a za b zb e=>?_⟩
  ·subst e
   rw [hin a za] at zb
   exact (Qe.mp zb).elim f4.1 f4.2
  ·subst e
   rcases Qe.mp zb with zb | zb
   ·rw [hin a zb] at za;exact f1 za
   ·exact n1.2.2 a za a zb rfl
 ·rw [eo]
  rw [er] at z
  have zz:=z
  have main:∀ a,a∈roS ts∨a∈T.ros (ch++fr)→a∉Zd ts∧a∉(if k.mut then [p] else [])++(T.owns ch++T.owns fr)∧¬ R.B a:=by
   clear z
   intro a z
   obtain ⟨s1,s2,s3⟩:=C.sep a z
   rw [T.owns_app] at s2
   refine ⟨s1,fun q=>?_,s3⟩
   rcases Qe.mp q with q | q
   ·have e:=hin a q
    rw [e] at z
    rcases z with z | z
    ·exact f2 z
    ·rw [T.ros_app] at z;exact (Qe.mp z).elim f5.1 f5.2
   ·exact s2 q
  rcases zz with z | z
  ·exact main a (.inl z)
  ·rcases Qe.mp z with z | z
   ·obtain ⟨rfl,hm⟩:=hin' a z
    refine ⟨f1,fun q=>?_,fun q=>f6 (C.bg a q)⟩
    rw [hm] at q
    simp only [Jz,if_false,Je] at q
    exact (Qe.mp q).elim f4.1 f4.2
   ·exact main a (.inr (by rw [T.ros_app];exact z))
 ·rw [eo]
  obtain ⟨s1,s2⟩:=C.rd a z
  rw [T.owns_app] at s2
  refine ⟨s1,fun q=>?_⟩
  rcases Qe.mp q with q | q
  ·rw [hin a q] at z;exact f3 z
  ·exact s2 q
 ·rw [eo]
  obtain ⟨g1,g2,g3,g4⟩:=C.g a z
  rw [T.owns_app] at g4
  refine ⟨(kp a g2).trans g1,by rw [kp a g2];exact g2,g3,fun q=>?_⟩
  rcases Qe.mp q with q | q
  ·rw [hin a q] at z;exact f6 z
  ·exact g4 q
theorem Zac{k:NK}{f:AF}{o:List V→HO}(hko:k.out=false)(hk:∀ (H:Hp) p vs,NodeOk (upd H p (o vs)) p k vs)(σ:L2.St)(H:Hp)(Q:VK)(q:lE R ix (Z04 k f) σ H Q):lA R ix f σ H fun vs H1=>vs.length≤sizeLine∧∀ p,H1 p=none→Q (.ref p) (upd H1 p (o vs)):=by
 obtain ⟨hd,ts,fr,C,q⟩:=q
 refine ⟨hd,ts,fr,C,?_⟩
 unfold Z04 at q
 cases ef:f (ts.map TL.er) with
 | no=>rw [ef] at q;exact q
 | ex E s1=>rw [ef] at q;exact q
 | ok rs s1 =>
  rw [ef] at q
  intro H1 ts1 tvs vs e1 e2 hv C1
  subst e1 e2
  dsimp only at q
  cases ev:vals (tvs.map TV.er) with
  | none=>rw [ev] at q;exact q.elim
  | some l =>
   rw [ev] at q
   obtain ⟨ch,c1,c2,c3⟩:=Z6K ev hv
   subst c2 c3
   rw [c1] at C1
   dsimp only at q
   by_cases hz:(T.ers ch).length≤sizeLine
   ·rw [if_pos hz] at q
    refine ⟨by rw [Z0V] at hz;simpa using hz,fun p hp=>?_⟩
    exact q _ ts1 (.val (.nd p k ch)) (.ref p) rfl rfl rfl (C1.wrap hp (hk H1 p _) hko)
   ·rw [if_neg hz] at q;exact q.elim
theorem Z1U{es:List Expr}{pos:Pos}{f:AF}(h:PA X es (lA R ix f)):PE X (.List es pos) (lE R ix (Z04 (.lst true) f)):=peM (ZbA h) fun σ H Q q=>Zac (k:=.lst true) (o:=HO.lst) rfl (fun _ _ _=>Zx) σ H Q q
theorem Z4t{pos:Pos}:PE X (.Dict [] [] pos) (lE R ix (Z04 (.dic true []) Z2)):=peM Z9G fun σ H Q q=>by
 obtain ⟨hd,ts,fr,C,q⟩:=q
 intro p hp
 refine q _ ts (.val (.nd p (.dic true []) [])) (.ref p) rfl rfl rfl (Cf.wrap (ch:=[]) C hp ⟨rfl,Wq,Zx⟩)

noncomputable def hPutF(C:Addr)(f:Str):List D→Option Mu
 | [_,.nd (.ins true C' ns) l]=>if C'=C∧l.length < 1000 then (match idx f ns with | some j=>some (.set j 0) | none=>some (.add (.ins true C (ns++[f])) 0)) else none
 | _=>none

noncomputable def Z0E:List D→Option Mu
 | [_,.nd (.dic true ks) l,k]=>if l.length < sizeLine then (match keyD k with | some k=>(match idk k ks with | some j=>some (.set j 0) | none=>some (.add (.dic true (ks++[k])) 0)) | none=>none) else none
 | [_,.nd (.dit true ks) l,.nd .tup kl]=>if l.length < sizeLine then (match Z2h kl with | some k=>(match idk k ks with | some j=>some (.set j 0) | none=>some (.add (.dit true (ks++[k])) 0)) | none=>none) else none
 | _=>none
theorem Z6v{κ:Type}[DecidableEq κ]{k:κ}{v:V}:∀ {ks:List κ} {vs:List V},ks.length=vs.length→ks.Nodup→putK (ks.zip vs) k v=match idk k ks with | some j=>ks.zip (vs.set j v) | none=>(ks++[k]).zip (vs++[v]):=by
 intro ks vs hl hn
 cases e:idk k ks with
 | none =>
  have:valV (ks.zip vs) k=none:=by rw [Z33 k hl,e];rfl
  rw [Z6w v this]
  dsimp only
  rw [List.zip_append hl];rfl
 | some j =>
  have hj:=Wu.mp e
  obtain ⟨h1,h2,h3⟩:=hj
  have hk:ks[j]=k:=by simpa using h2
  have hv:valV (ks.zip vs) k=some (vs[j]'(by omega)):=by
   rw [Z33 k hl,e]
   simp [show j < vs.length by omega]
  unfold putK
  rw [Z32,hv]
  simp only [Option.isSome_some,if_true]
  refine Ju fun i=>?_
  rw [Qa,Qao,Qao,Wt,Wt,Qm]
  by_cases hij:j=i
  ·subst hij
   rw [if_pos rfl,if_pos (by omega),Qj h1,Qj (show j < vs.length by omega)]
   simp [hk]
  ·rw [if_neg hij]
   cases e1:ks[i]? with
   | none=>rfl
   | some x =>
    cases e2:vs[i]? with
    | none=>rfl
    | some y =>
     have hx:x≠k:=by
      rintro rfl
      obtain ⟨hi,rfl⟩:=Qc.mp e1
      exact hij ((Wr hn).mp hk)
     simp [hx]
theorem Z6c{κ:Type}[DecidableEq κ]{k:κ}{ks:List κ}(h:idk k ks=none):k∉ks:=fun z=>by
 have:=Nt.mp h k z
 simp at this
theorem ZbJ{Q:Hp→Prop}{v d k:T}(hk:k.ok H){a:Addr}{kd:NK}{ch:List T}{op:Mu}(hd:d=.nd a kd ch)(ok:(T.nd a kd ch).ok H)(hh:Z0E [v.er,(T.nd a kd ch).er,k.er]=some op)
  (q:match op with
   | .add kd' m=>∃ x,[v,d,k][m]?=some x∧∀ o,HoOk o kd' (ch.map T.val++[x.val])→Q (upd H a o)
   | .set j m=>∃ x,[v,d,k][m]?=some x∧j < ch.length∧∀ o,HoOk o kd ((ch.map T.val).set j x.val)→Q (upd H a o)):∃ H4,DPut H a k.val v.val H4∧Q H4:=by
 subst hd
 cases kd with
 | dic m ks =>
  cases m with
  | false=>simp [T.er,Z0E] at hh
  | true =>
   simp only [T.er,Z0E] at hh
   split at hh
   case isFalse=>cases hh
   case isTrue hz =>
    cases ek:keyD k.er with
    | none=>rw [ek] at hh;cases hh
    | some key =>
     rw [ek] at hh
     obtain ⟨h1,h2,h3⟩:=ok.1
     have hzl:(ks.zip (ch.map T.val)).length < sizeLine:=by
      rw [Z0V] at hz
      simp only [Qam];simp only [Qs] at h1 ⊢;omega
     refine ⟨_,by rw [Z4N ek];exact DPut.k h3 hzl,?_⟩
     rw [Z6v h1 h2]
     dsimp only at hh
     cases ei:idk key ks with
     | none =>
      rw [ei] at hh
      cases hh
      obtain ⟨x,hx,q⟩:=q
      cases hx
      refine q _ ⟨by simp at h1 ⊢;omega,Z59 h2 (Z6c ei),rfl⟩
     | some j =>
      rw [ei] at hh
      cases hh
      obtain ⟨x,hx,_,q⟩:=q
      cases hx
      exact q _ ⟨by simpa using h1,h2,rfl⟩
 | dit m ks =>
  cases m with
  | false=>cases k with
   | «at» u=>simp [T.er,Z0E] at hh
   | nd b k' l=>cases k' <;> simp [T.er,Z0E] at hh
  | true =>
   cases k with
   | «at» u=>simp [T.er,Z0E] at hh
   | nd b k' kl =>
    cases k' with
    | tup =>
     simp only [T.er,Z0E] at hh
     split at hh
     case isFalse=>cases hh
     case isTrue hz =>
      cases ek:Z2h (T.ers kl) with
      | none=>rw [ek] at hh;cases hh
      | some key =>
       rw [ek] at hh
       obtain ⟨h1,h2,h3⟩:=ok.1
       have hzl:(ks.zip (ch.map T.val)).length < sizeLine:=by
        rw [Z0V] at hz
        simp only [Qam];simp only [Qs] at h1 ⊢;omega
       refine ⟨_,DPut.t h3 (show H b=some (.tup (key.map kV)) by rw [← Z57 ek];exact hk.1) hzl,?_⟩
       rw [Z6v h1 h2]
       dsimp only at hh
       cases ei:idk key ks with
       | none =>
        rw [ei] at hh
        cases hh
        obtain ⟨x,hx,q⟩:=q
        cases hx
        refine q _ ⟨by simp at h1 ⊢;omega,Z59 h2 (Z6c ei),rfl⟩
       | some j =>
        rw [ei] at hh
        cases hh
        obtain ⟨x,hx,_,q⟩:=q
        cases hx
        exact q _ ⟨by simpa using h1,h2,rfl⟩
    | _=>simp [T.er,Z0E] at hh
 | _=>cases k with
  | «at» u=>simp [T.er,Z0E] at hh
  | nd b k' l=>cases k' <;> simp [T.er,Z0E] at hh
theorem Z28{o i value:Expr}{pos pos':Pos}{fo fi fv:EF}(hu:X.A.units + 1 < cLine)(ho:PE X o (lE R ix fo))(hi:PE X i (lE R ix fi))(hv:PE X value (lE R ix fv))(hs:swapsWith value (some (.Subscript o i pos')) pos.line X.env=pure false:=by rfl) :
  PS X (.Assign [.Subscript o i pos'] value pos) (lS R ix (sE (eMu 1 Z0E (Z0 fv (Z0 fo (Z0 fi Z2)))))):=psM (Zat hu ho hi hv hs) fun D σ H h=>by
 have h1:=lA_3 (lA_mu σ H (fun _ H1=>D.nx σ H1) (lS_e D σ H h))
 refine Zt (fun v H1 q=>Zt (fun x H2 q=>Zt (fun y H3 q=>?_) q) q) h1
 obtain ⟨l,ok,hvl,a,kd,ch,op,hl,hm,hh,qq⟩:=q
 obtain ⟨tv,r,rfl,e1⟩:∃ t r,l=t::r∧r.map T.val=[x,y]:=by
  cases l with
  | nil=>cases hvl
  | cons t r=>exact ⟨t,r,rfl,(Wf.inj hvl).2⟩
 obtain ⟨td,tk,rfl,rfl,rfl⟩:=map2 e1
 cases (Wf.inj hvl).1
 cases hl
 obtain ⟨H4,p1,p2⟩:=ZbJ (Q:=fun H1=>D.nx σ H1) (v:=tv) (k:=tk) ok.2.2.1 rfl ok.2.1 hh (by cases op <;> exact qq)
 exact ⟨a,H4,rfl,p1,p2⟩

noncomputable def Z1J:D→Bool
 | .nd (.lst _) _=>true | _=>false
noncomputable def hApp:List D→Option Mu
 | [.nd (.lst true) l,_]=>if l.length < sizeLine then some (.add (.lst true) 1) else none
 | _=>none
theorem Z4g{o e:Expr}{apos cpos:Pos}{fo fe:EF}(ho:PE X o (lE R ix fo))(he:PE X e (lE R ix fe))(hbase:attributeBase o "append" X.env (eval o X.env)=eval o X.env:=by rfl)
  (hfew:((backTo cpos (starEach [e] X.env)).all (fun x=>!x.1) && (backToKw cpos (keywordEach [] X.env)).all (fun x=>x.1.isSome) && decide ([e].length + ([]:List Keyword).length + (if ([]:List Keyword).isEmpty then 0 else 1) < 30))=true:=by rfl)
  (hline:(apos.endLine == cpos.line)=true:=by rfl) (hs:starEach [e] X.env=(false,eval e X.env)::starEach [] X.env:=by rfl) (hplain:(backTo cpos (starEach [] X.env)).any (·.1)=false:=by rfl) :
  PE X (.Call (.Attribute o "append" apos) [e] [] cpos) (lE R ix (eMu 0 hApp (Z0 (Z1N Z1J fo) (Z0 fe Z2)))) :=
 peM (pe_bm PySem.F.plainAttrs_list PySem.F.slot_list_append PySem.F.type_list_append Z4c ho (Zk he ZX hs) hbase hfew hline hs hplain) fun σ H Q q=>by
  have q1:=lA_2 (lA_mu σ H Q q)
  refine Zt (fun x H1 q=>?_) (Z6h q1)
  obtain ⟨⟨t0,rfl,t2,t3⟩,q⟩:=q
  obtain ⟨a,k,ch,rfl,hD⟩:∃ a m ch,t0=.nd a (.lst m) ch∧SqL X.K H1 a (ch.map T.val):=by
   cases t0 with
   | «at» v=>simp [T.er,Z1J] at t3
   | nd a k ch=>cases k with
    | lst m=>exact ⟨a,m,ch,rfl,t2.1.sqL⟩
    | _=>simp [T.er,Z1J] at t3
  refine ⟨.inl ⟨rfl,_,hD⟩,Zt (fun y H2 q=>?_) q⟩
  obtain ⟨l,ok,hvl,a',kd,ch',op,hl,hm,hh,q⟩:=q
  obtain ⟨tl,te,rfl,e1,rfl⟩:=map2 hvl
  cases hl
  cases e1
  simp only [T.ers,T.er] at hh
  cases kd with
  | lst m =>
   cases m with
   | false=>simp [hApp] at hh
   | true =>
    simp only [hApp] at hh
    split at hh
    case isFalse=>cases hh
    case isTrue hz =>
     cases hh
     obtain ⟨x,hx,q⟩:=q
     cases hx
     exact ⟨a,ch'.map T.val,te.val,rfl,rfl,ok.1.1,by rw [Z0V] at hz;simpa using hz,q _ rfl⟩
  | _=>simp [hApp] at hh
end
theorem Z07{X:Cx}{R:RC}{ix:List Nat}{a b:Expr}{op:CmpOp}{pos:Pos}{h:List D→Option D}{fa fb:EF}(ho:OpR X (compareOp op) (oNw h))(ha:PE X a (lE R ix fa))(hb:PE X b (lE R ix fb))(hm:behindInMarks op b=false):PT X (.Compare a [op] [b] pos) (lT R ix (bV (eNw h (Z0 fa (Z0 fb Z2))))) :=
 ptM (Z2w ho ha hb hm) fun σ H Q q=>lA_2 (Z2z σ H _ (lT_v σ H Q q))
theorem Z3w{X:Cx}{R:RC}{ix:List Nat}{a b:Expr}{op:CmpOp}{pos:Pos}{fe:EF}(h:PC X op a b (lE R ix fe))(h1:behindInMarks op b=false:=by first | exact nobehind _ (by decide) (by decide) | rfl):PT X (.Compare a [op] [b] pos) (lT R ix (bV fe)) :=
 ptM (ZbH h h1) fun σ H Q q=>lT_v σ H Q q
end RM

namespace RM
open PySem PySem.Spec PyProof.Rows L2
noncomputable def augGo(k:Nat)(p:List Nat)(sel:D→Option Nat)(g:Int→Int→Int)(fe:EF)(s1:Sd):SR:=match Zq s1 (.plc k p),s1[k]? with
 | some (.nd kd l),some (.own true _)=>(match sel (.nd kd l) with
  | some j=>(match l[j]? with
   | some (.at (.int x))=>(match fe (s1++[.bor k p]) with
    | .ok (.val (.at (.int y))) s2=>(match unh s1.length k p s2 with
     | some s3=>(match Zq s3 (.plc k p),s3[k]? with
      | some (.nd kd' l'),some (.own true _)=>(match sel (.nd kd' l') with
       | some j'=>if kd'.mut=true∧j' < l'.length then .nx (wr s3 k p (.nd kd' (l'.set j' (.at (.int (g x y))))) fun i=>i != j') else .no
       | none=>.no)
      | _,_=>.no)
     | none=>.no)
    | .ok _ _=>.no
    | .ex C s2=>(match unx s1.length s2 with | some s3=>.ex C s3 | none=>.no)
    | .no=>.no)
   | _=>.no)
  | none=>.no)
 | _,_=>.no
noncomputable def selF(C:Addr)(f:Str):D→Option Nat
 | .nd (.ins true C' ns) l=>if C'=C∧l.length < 1000 then idx f ns else none
 | _=>none
noncomputable def selI(i:Int):D→Option Nat
 | .nd (.lst true) l=>if 0≤i∧i < l.length then some i.toNat else none
 | _=>none
noncomputable def sAugF(C:Addr)(f:Str)(g:Int→Int→Int)(fo fe:EF):SF:=fun s=>match fo s with
 | .ok (.plc k p) s1=>augGo k p (selF C f) g fe s1
 | .ok _ _=>.no
 | .ex C s1=>.ex C s1
 | .no=>.no
noncomputable def sAugI(g:Int→Int→Int)(fo fi fe:EF):SF:=fun s=>match Z0 fo (Z0 fi Z2) s with
 | .ok [.plc k p,.val (.at (.int i))] s1=>augGo k p (selI i) g fe s1
 | .ok _ _=>.no
 | .ex C s1=>.ex C s1
 | .no=>.no
section
variable {X:Cx}{R:RC}{ix:List Nat}{hd:List (Nat×Addr)}{H H':Hp}{σ:L2.St}{K:Qd}{ts:Ts}{fr:List T}
end
section
variable {X:Cx}{R:RC}{ix:List Nat}{hd:List (Nat×Addr)}{H H':Hp}{σ:L2.St}{K:Qd}{ts:Ts}{fr:List T}
theorem Cf.fill{p:Addr}{kd kd':NK}{l l' m:List T}{x:List Addr}{o:HO}(C:Cf R ix hd H σ ts (.nd p kd l::(m++fr)))(hm:kd.mut=true)(hm':kd'.mut=true)(ho:NodeOk (upd H p o) p kd' (l'.map T.val))(hl:∀ t∈l',t.ok H)(hown:(T.owns l++T.owns m).Perm (T.owns l'++x))(hro:∀ a∈T.ros l',a∈T.ros l∨a∈T.ros m):Cf R ix hd (upd H p o) σ ts (.nd p kd' l'::fr):=by
 have eo:T.owns (.nd p kd l::(m++fr))=p::(T.owns l++(T.owns m++T.owns fr)):=by rw [T.owns_cons,T.own,hm,T.owns_app];simp
 have er:T.ros (.nd p kd l::(m++fr))=T.ros l++(T.ros m++T.ros fr):=by rw [T.ros_cons,T.ro,hm,T.ros_app];simp
 have eo':T.owns (.nd p kd' l'::fr)=p::(T.owns l'++T.owns fr):=by rw [T.owns_cons,T.own,hm'];simp
 have er':T.ros (.nd p kd' l'::fr)=T.ros l'++T.ros fr:=by rw [T.ros_cons,T.ro,hm'];simp
 have nd:=C.nd
 rw [eo] at nd
 have pm:(Zd ts++p::(T.owns l++(T.owns m++T.owns fr))).Perm ((Zd ts++p::(T.owns l'++T.owns fr))++x):=by
  refine Qx.mpr fun b=>?_
  have:=Qx.mp hown b
  simp only [Jj,List.count_cons] at this ⊢;omega
 have nd2:=Qk.mp (pm.nodup_iff.mp nd)
 have n1:=Qk.mp nd
 have n2:=Ji.mp n1.2.1
 have pS:p∉Zd ts:=fun z=>n1.2.2 p z p Qy rfl
 have pro:∀ a,a∈roS ts∨a∈T.ros l++(T.ros m++T.ros fr)→a≠p:=fun a z e=>by
  have:=(C.sep a (by rw [er];exact z)).2.1
  rw [eo,e] at this
  exact this Qy
 have prd:∀ a,a∈rdS ts→a≠p:=fun a z e=>by
  have:=(C.rd a z).2
  rw [eo,e] at this
  exact this Qy
 have sub:∀ a,a∈p::(T.owns l'++T.owns fr)→a∈p::(T.owns l++(T.owns m++T.owns fr)):=fun a z=>by
  rcases Qz.mp z with rfl | z
  ·exact Qy
  ·refine Qv _ ?_
   rcases Qe.mp z with z | z
   ·have:=hown.mem_iff.mpr (Qh x z)
    simp only [Qe] at this ⊢
    rcases this with z | z <;> simp [z]
   ·simp [z]
 have fok:=C.fok
 have ffr:=(T.oks_app.mp fok.2).2
 refine ⟨fun w t z=>T.keep (C.ok w t z) fun a q=>Zc ?_,⟨⟨ho,T.oks_iff.mpr fun t ht=>T.keep (hl t ht) fun a q=>Zc ?_⟩,T.keeps ffr fun a q=>Zc ?_⟩,?_,fun a z=>?_,fun a z=>?_,fun a z=>?_,C.bg,C.bor,C.ixs,C.sl,C.hdi,C.hdx,C.len,C.hdn⟩
 ·rintro rfl
  rcases q with q | q
  ·cases w with
   | true=>exact pS (Z10.mpr ⟨t,z,q⟩)
   | false=>exact prd a (Z2M.mpr ⟨t,z,q⟩) rfl
  ·exact pro a (.inl (Z0W.mpr ⟨w,t,z,q⟩)) rfl
 ·rintro rfl
  rcases q with q | q
  ·have:=hown.mem_iff.mpr (Qh x (T.mem_owns.mpr ⟨t,ht,q⟩))
   apply n2.1
   simp only [Qe] at this ⊢
   rcases this with z | z <;> simp [z]
  ·refine pro a (.inr ?_) rfl
   have:=hro a (T.mem_ros.mpr ⟨t,ht,q⟩)
   simp only [Qe]
   rcases this with z | z <;> simp [z]
 ·rintro rfl
  rcases q with q | q
  ·exact n2.1 (by simp [q])
  ·exact pro a (.inr (by simp [q])) rfl
 ·rw [eo'];exact nd2.1
 ·rw [eo']
  rw [er'] at z
  have:a∈roS ts∨a∈T.ros (.nd p kd l::(m++fr)):=by
   rw [er]
   simp only [Qe] at z ⊢
   rcases z with z | z | z
   ·exact .inl z
   ·rcases hro a z with z | z <;> simp [z]
   ·simp [z]
  obtain ⟨s1,s2,s3⟩:=C.sep a this
  rw [eo] at s2
  exact ⟨s1,fun q=>s2 (sub a q),s3⟩
 ·rw [eo']
  obtain ⟨s1,s2⟩:=C.rd a z
  rw [eo] at s2
  exact ⟨s1,fun q=>s2 (sub a q)⟩
 ·rw [eo']
  obtain ⟨g1,g2,g3,g4⟩:=C.g a z
  rw [eo] at g4
  have:a≠p:=by rintro rfl;exact g4 Qy
  rw [Zc this]
  exact ⟨g1,g2,g3,fun q=>g4 (sub a q)⟩

noncomputable def Z2C:List (EF×EF)→AF
 | []=>Z2
 | (k,v)::r=>Z0 k (Z0 v (Z2C r))
noncomputable def kvD:List D→Option (List Key×List D)
 | []=>some ([],[])
 | k::v::r=>(match keyD k,kvD r with | some k,some (ks,vs)=>some (k::ks,v::vs) | _,_=>none)
 | [_]=>none
noncomputable def eDict(fs:List (EF×EF)):EF:=fun s=>match Z2C fs s with
 | .ok rs s1=>(match vals rs with
  | some l=>(match kvD l with | some (ks,vs)=>if ks.Nodup∧ks.length≤15 then .ok (.val (.nd (.dic true ks) vs)) s1 else .no | none=>.no)
  | none=>.no)
 | .ex C s1=>.ex C s1
 | .no=>.no
theorem kvD_t:∀ {ch:List T} {ks:List Key} {vs:List D},kvD (T.ers ch)=some (ks,vs)→∃ cv:List T,T.ers cv=vs∧ks.length=cv.length∧(T.owns ch).Perm (T.owns cv)∧(∀ a,a∈T.ros cv→a∈T.ros ch)∧(∀ t∈cv,t∈ch)∧∃ ps:List (V×V),ps=(ks.zip (cv.map T.val)).map (fun kv=>(kV kv.1,kv.2))∧ch.map T.val=ps.flatMap fun p=>[p.1,p.2]
 | [],ks,vs,h=>by cases h;exact ⟨[],rfl,rfl,.refl _,by simp,by simp,[],rfl,rfl⟩
 | [t],ks,vs,h=>by simp [T.ers,kvD] at h
 | k::v::ch,ks,vs,h=>by
  simp only [T.ers,kvD] at h
  cases e1:keyD k.er with
  | none=>simp [e1] at h
  | some key =>
   cases e2:kvD (T.ers ch) with
   | none=>simp [e1,e2] at h
   | some r =>
    obtain ⟨ks',vs'⟩:=r
    simp only [e1,e2,Option.some.injEq,Prod.mk.injEq] at h
    obtain ⟨rfl,rfl⟩:=h
    obtain ⟨cv,c1,c2,c3,c4,c5,ps,c6,c7⟩:=kvD_t e2
    have hk:=Z4N e1
    subst hk
    refine ⟨v::cv,by rw [T.ers,c1],by simp [c2],?_,fun a z=>?_,fun t z=>?_,(kV key,v.val)::ps,by rw [c6];rfl,by rw [Ql,Ql,c7];rfl⟩
    ·rw [T.owns_cons,T.owns_cons,T.owns_cons,T.own,Je]
     exact List.Perm.append_left _ c3
    ·rw [T.ros_cons] at z
     rw [T.ros_cons,T.ros_cons]
     simp only [Qe] at z ⊢
     rcases z with z | z
     ·exact .inr (.inl z)
     ·exact .inr (.inr (c4 a z))
    ·rcases Qz.mp z with rfl | z
     ·simp
     ·simp [c5 t z]
theorem Z6t:∀ {fs:List (EF×EF)} {σ:L2.St} {H:Hp} {Q:List V→Hp→Prop},lA R ix (Z2C fs) σ H Q→Z3A (fs.map fun p=>(lE R ix p.1,lE R ix p.2)) σ H fun ps H1=>Q (ps.flatMap fun p=>[p.1,p.2]) H1
 | [],σ,H,Q,h=>Z6g σ H Q h
 | (k,v)::r,σ,H,Q,h=>by
  have h1:=Z2L σ H Q h
  refine Zt (fun x H1 q=>?_) h1
  have h2:=Z2L σ H1 _ q
  refine Zt (fun y H2 q=>?_) h2
  exact Z6t (fs:=r) q
theorem Z4z:∀ {trs:List (TE×TE)} {σ:L2.St} {H:Hp} {Q Q':List (V×V)→Hp→Prop},(∀ p∈trs,∀ σ H (Q Q':VK),(∀ v H,Q v H→Q' v H)→(p.1 σ H Q→p.1 σ H Q')∧(p.2 σ H Q→p.2 σ H Q'))→(∀ ps H,Q ps H→Q' ps H)→Z3A trs σ H Q→Z3A trs σ H Q'
 | [],_,_,_,_,_,m,h=>m _ _ h
 | (tk,tv)::r,σ,H,Q,Q',hm,m,h=>((hm (tk,tv) Qy σ H _ _ fun x H1 q=>((hm (tk,tv) Qy σ H1 _ _ fun y H2 q=>Z4z (fun p hp=>hm p (Qv _ hp)) (fun ps H3 z=>m _ _ z) q).2 q)).1 h)
theorem Z5p:∀ {ks:List Key} {vs:List V} {acc:List (Key×V)},(acc.map (·.1)++ks).Nodup→ks.length=vs.length→Z2k acc (ks.zip vs)=acc++ks.zip vs
 | [],_,acc,_,_=>by simp [Z2k]
 | k::ks,[],acc,_,h=>by simp at h
 | k::ks,v::vs,acc,hn,h=>by
  have hnew:valV acc k=none:=by
   have hk:k∉acc.map (·.1):=fun z=>(Qk.mp hn).2.2 k z k Qy rfl
   cases e:valV acc k with
   | none=>rfl
   | some u=>exact absurd (ZaN e) hk
  show Z2k (putK acc k v) (ks.zip vs)=_
  rw [Z6w v hnew,Z5p (by simpa using hn) (by simpa using h)]
  simp
theorem Zax{pos:Pos}{keys:List (Option Expr)}{values:List Expr}{fs:List (EF×EF)}(h:PPs X pos keys values (fs.map fun p=>(lE R ix p.1,lE R ix p.2)))(hall:keys.all (·.isSome)=true)(hl:keys.length=values.length)(h0:keys≠[])(h15:keys.length≤15):PE X (.Dict keys values pos) (lE R ix (eDict fs)) :=
 peM (Zao h hall hl h0 h15) fun σ H Q q=>by
  obtain ⟨hd,ts,fr,C,q⟩:=q
  intro p hp
  have C1:Cf R ix hd (upd H p (.dK [])) σ ts (T.nd p (.dic true []) []::fr):=Cf.wrap (ch:=[]) C hp ⟨rfl,Wq,Zx⟩
  have key:lA R ix (Z2C fs) σ (upd H p (.dK [])) fun vs H2=>∀ ps:List (V×V),(ps.flatMap fun p=>[p.1,p.2])=vs→H2 p=some (.dK [])∧∃ kvs:List (Key×V),ps=kvs.map (fun kv=>(kV kv.1,kv.2))∧kvs.length≤15∧Q (.ref p) (upd H2 p (.dK (Z2k [] kvs))):=by
   refine ⟨hd,ts,_,C1,?_⟩
   unfold eDict at q
   cases ef:Z2C fs (ts.map TL.er) with
   | no=>rw [ef] at q;exact q
   | ex E s1=>rw [ef] at q;intro H1 ts1 e1 C2;exact q H1 ts1 e1 C2.drop
   | ok rs s1 =>
    rw [ef] at q
    intro H2 ts1 tvs vs e1 e2 hv C2 ps hps
    subst e1 e2
    dsimp only at q
    cases ev:vals (tvs.map TV.er) with
    | none=>rw [ev] at q;exact q.elim
    | some l =>
     rw [ev] at q
     obtain ⟨ch,c1,c2,c3⟩:=Z6K ev hv
     subst c2
     rw [c1] at C2
     dsimp only at q
     cases ek:kvD (T.ers ch) with
     | none=>rw [ek] at q;exact q.elim
     | some r =>
      obtain ⟨ks,ds⟩:=r
      rw [ek] at q
      dsimp only at q
      by_cases hz:ks.Nodup∧ks.length≤15
      case neg=>rw [if_neg hz] at q;exact q.elim
      rw [if_pos hz] at q
      obtain ⟨cv,d1,d2,d3,d4,d5,ps',d6,d7⟩:=kvD_t ek
      subst d1
      have hps':ps=ps':=by
       have:(ps.flatMap fun p=>[p.1,p.2])=ps'.flatMap fun p=>[p.1,p.2]:=by rw [hps,← c3,d7]
       clear hps d7 d6
       induction ps generalizing ps' with
       | nil=>cases ps' with
        | nil=>rfl
        | cons=>simp at this
       | cons x r ih=>cases ps' with
        | nil=>simp at this
        | cons y r' =>
         simp only [Wc,Jh,Je,Wf.injEq] at this
         rw [ih r' this.2.2,show x=y from Prod.ext this.1 this.2.1]
      subst hps'
      have okd:=(T.oks_app.mp C2.fok).2.1
      have hpH:H2 p=some (.dK []):=okd.1.2.2
      refine ⟨hpH,ks.zip (cv.map T.val),d6,by simp [d2];omega,?_⟩
      have hm:=Z5p (acc:=[]) (ks:=ks) (vs:=cv.map T.val) (by simpa using hz.1) (by simpa using d2)
      rw [hm,Je]
      have okc:=(T.oks_app.mp C2.fok).1
      refine q _ ts1 (.val (.nd p (.dic true ks) cv)) (.ref p) rfl rfl rfl (Cf.fill (m:=ch) (x:=[]) (Cf.swap C2) rfl rfl ⟨by simpa using d2,hz.1,Zx⟩ (fun t ht=>T.oks_iff.mp okc t (d5 t ht)) ?_ fun a z=>.inr (d4 a z))
      simpa [T.owns] using d3
  have kk:=Z6t key
  refine Z4z (fun p hp σ H Q Q' m=>?_) (fun ps H2 z=>z ps rfl) kk
  obtain ⟨x,_,rfl⟩:=Qi.mp hp
  exact ⟨fun h=>Zt m h,fun h=>Zt m h⟩
end
section
variable {X:Cx}{R:RC}{ix:List Nat}{hd:List (Nat×Addr)}{H H':Hp}{σ:L2.St}{K:Qd}{ts:Ts}{fr:List T}

noncomputable def eAppT(f:AF):EF:=fun s=>match f s with
 | .ok [.val (.nd (.lst true) l),.val _] s1=>if l.length < sizeLine then .ok (.val (.at .non)) s1 else .no
 | .ok _ _=>.no
 | .ex C s1=>.ex C s1
 | .no=>.no

noncomputable def killN(j:Nat)(s:Sd):Sd:=(s.map (Zz j)).set j .non
theorem Cf.killN{i j:Nat}(C:Cf R ix hd H σ ts fr)(hix:ix[i]?=some j):Cf R ix hd H σ ((ts.map (Zh j)).set j .non) fr:=by
 have hj:j < ts.length:=C.ixs j (Qf hix)
 obtain ⟨y0,hy0⟩:∃ y0,ts[j]?=some y0:=⟨ts[j],Qj hj⟩
 have hy0':(ts.map (Zh j))[j]?=some (Zh j y0):=by rw [Qa,hy0];rfl
 obtain ⟨x1,z1,o1,o2⟩:=Z0Z (f:=TL.own1) hy0'
 obtain ⟨x2,z2,r1,r2⟩:=Z0Z (f:=TL.ro1) hy0'
 obtain ⟨x3,z3,d1,d2⟩:=Z0Z (f:=TL.rd1) hy0'
 rw [Z2d (by intros;rfl)] at o1 r1 d1
 have fO:Zd ts=x1++((Zh j y0).own1++z1):=o1
 have fR:roS ts=x2++((Zh j y0).ro1++z2):=r1
 have fD:rdS ts=x3++((Zh j y0).rd1++z3):=d1
 have gO:Zd ((ts.map (Zh j)).set j .non)=x1++z1:=by unfold Zd;rw [o2];rfl
 have gR:roS ((ts.map (Zh j)).set j .non)=x2++z2:=by unfold roS;rw [r2];rfl
 have gD:rdS ((ts.map (Zh j)).set j .non)=x3++z3:=by unfold rdS;rw [d2];rfl
 have s1:∀ a,a∈x1++z1→a∈Zd ts:=fun a z=>by rw [fO];simp only [Qe] at z ⊢;rcases z with z | z <;> simp [z]
 have s2:∀ a,a∈x2++z2→a∈roS ts:=fun a z=>by rw [fR];simp only [Qe] at z ⊢;rcases z with z | z <;> simp [z]
 have s3:∀ a,a∈x3++z3→a∈rdS ts:=fun a z=>by rw [fD];simp only [Qe] at z ⊢;rcases z with z | z <;> simp [z]
 have slot:∀ (j':Nat) (s:TL),((ts.map (Zh j)).set j .non)[j']?=some s→(j'=j∧s=.non)∨(j'≠j∧∃ s0,ts[j']?=some s0∧s=Zh j s0):=by
  intro j' s hs
  rw [Qm] at hs
  by_cases h:j=j'
  ·subst h
   rw [if_pos rfl,if_pos (by simpa using hj)] at hs
   cases hs;exact .inl ⟨rfl,rfl⟩
  ·rw [if_neg h,Qa] at hs
   cases e:ts[j']? with
   | none=>rw [e] at hs;cases hs
   | some s0=>rw [e] at hs;cases hs;exact .inr ⟨Ne.symm h,s0,rfl,rfl⟩
 have vv:∀ (j':Nat) (s:TL) (v:V),((ts.map (Zh j)).set j .non)[j']?=some s→s.v=some v→∃ s0,ts[j']?=some s0∧s0.v=some v:=by
  intro j' s v hs hv
  rcases slot j' s hs with ⟨rfl,rfl⟩ | ⟨_,s0,h0,rfl⟩
  ·cases hv
  ·refine ⟨s0,h0,?_⟩
   rcases Z09 (j:=j) s0 with ⟨e',_⟩ | ⟨e',_⟩
   ·rwa [e'] at hv
   ·rw [e'] at hv;cases hv
 have lenS:((ts.map (Zh j)).set j TL.non).length=ts.length:=by simp
 refine ⟨fun w u hu=>?_,C.fok,?_,fun b z=>?_,fun b z=>?_,fun b z=>?_,C.bg,fun j' k q b hj'=>?_,fun j' hj'=>by rw [lenS];exact C.ixs j' hj',fun i' j' s u h1 h2 h3=>?_,fun j' b hb=>by rw [lenS];exact C.hdi j' b hb,C.hdx,C.len,fun j' b hb s u h2 h3=>?_⟩
 ·obtain ⟨j',hj'⟩:=Jd.mp hu
  rcases slot j' _ hj' with ⟨rfl,e⟩ | ⟨_,s0,h0,e⟩
  ·cases e
  ·rcases Z09 (j:=j) s0 with ⟨e',_⟩ | ⟨e',_⟩
   ·rw [e'] at e;subst e;exact C.ok w u (Qf h0)
   ·rw [e'] at e;cases e
 ·rw [gO]
  have nd:=C.nd
  rw [fO] at nd
  have pm:((x1++((Zh j y0).own1++z1))++T.owns fr).Perm ((x1++z1++T.owns fr)++(Zh j y0).own1):=by
   refine Qx.mpr fun b=>?_
   simp only [Jj];omega
  exact (Qk.mp (pm.nodup_iff.mp nd)).1
 ·rw [gO]
  obtain ⟨q1,q2,q3⟩:=C.sep b (z.imp (fun z=>s2 b (by rwa [gR] at z)) id)
  exact ⟨fun q=>q1 (s1 b q),q2,q3⟩
 ·rw [gO]
  rw [gD] at z
  obtain ⟨q1,q2⟩:=C.rd b (s3 b z)
  exact ⟨fun q=>q1 (s1 b q),q2⟩
 ·rw [gO]
  obtain ⟨g1,g2,g3,g4⟩:=C.g b z
  exact ⟨g1,g2,fun q=>g3 (s1 b q),g4⟩
 ·rcases slot j' _ hj' with ⟨rfl,e⟩ | ⟨_,s0,h0,e⟩
  ·cases e
  ·rcases Z09 (j:=j) s0 with ⟨e',hne⟩ | ⟨e',_⟩
   ·rw [e'] at e
    subst e
    obtain ⟨w,u,s,q1,q2,q3⟩:=C.bor j' k q b h0
    have hk:k≠j:=fun z=>hne q b (by rw [z])
    exact ⟨w,u,s,by rw [Qm,if_neg (Ne.symm hk),Qa,q1];rfl,q2,q3⟩
   ·rw [e'] at e;cases e
 ·obtain ⟨s0,q1,q2⟩:=vv j' s u h2 h3
  exact C.sl i' j' s0 u h1 q1 q2
 ·obtain ⟨s0,q1,q2⟩:=vv j' s u h2 h3
  exact C.hdn j' b hb s0 u q1 q2
noncomputable def Z1w(js:List Nat)(s:Sd):Sd:=js.foldl (fun s j=>killN j s) s
theorem Cf.Z1w{js:List Nat}:∀ {ts:Ts},(∀ j∈js,j∈ix)→Cf R ix hd H σ ts fr→∃ ts',ts'.map TL.er=RM.Z1w js (ts.map TL.er)∧Cf R ix hd H σ ts' fr:=by
 induction js with
 | nil=>intro ts _ C;exact ⟨ts,rfl,C⟩
 | cons j js ih =>
  intro ts h C
  obtain ⟨i,hi⟩:=Jd.mp (h j Qy)
  obtain ⟨ts',e,C'⟩:=ih (fun x z=>h x (Qv _ z)) (C.killN hi)
  refine ⟨ts',?_,C'⟩
  rw [e]
  show RM.Z1w js _=RM.Z1w js (RM.killN j (ts.map TL.er))
  congr 1
  unfold RM.killN
  rw [Wb,Jp,Jp]
  exact congrArg (fun l=>List.set l j DL.non) (Wk fun s _=>Z2E s)
noncomputable def Z15(js:List Nat)(f:SF):SF:=fun s=>match f s with
 | .nx s1=>.nx (Z1w js s1)
 | .ct s1=>.ct (Z1w js s1)
 | .bk s1=>.bk (Z1w js s1)
 | r=>r
theorem Z12{js:List Nat}{sts:List Stmt}{f:SF}(hj:∀ j∈js,j∈ix)(h:PSs X sts (lS R ix f)):PSs X sts (lS R ix (Z15 js f)):=pssM h fun D σ H q=>by
 obtain ⟨hd,ts,fr,C,q⟩:=q
 refine ⟨hd,ts,fr,C,?_⟩
 unfold Z15 at q
 cases ef:f (ts.map TL.er) with
 | nx s=>rw [ef] at q;intro H' σ' ts' e C';subst e;obtain ⟨t2,e2,C2⟩:=C'.Z1w hj;exact q H' σ' t2 e2 C2
 | ct s=>rw [ef] at q;intro H' σ' ts' e C';subst e;obtain ⟨t2,e2,C2⟩:=C'.Z1w hj;exact q H' σ' t2 e2 C2
 | bk s=>rw [ef] at q;intro H' σ' ts' e C';subst e;obtain ⟨t2,e2,C2⟩:=C'.Z1w hj;exact q H' σ' t2 e2 C2
 | rt r s=>rw [ef] at q;exact q
 | ex E s=>rw [ef] at q;exact q
 | no=>rw [ef] at q;exact q

noncomputable def Scr(K:Qd)(k:NK):Prop:=k=.lst false∨k=.kst K
noncomputable def scD(k:NK)(ns:List Int):D:=.nd k (ns.map fun n=>.at (.int n))
noncomputable def spLaw(K:Qd):Sp:=fun vs H Q _=>∃ (a:Addr) (ns:List Int),vs=[.ref a]∧SqL K H a (ns.map V.int)∧ns.length≤63∧∀ H',Q (.bl true) H'
theorem Z9d{a:Addr}{ns:List Int}{E:XK}(hl:ns.length≤63)(hS:SqL K H a (ns.map V.int)):spLaw K [.ref a] H (fun v _=>v=.bl true) E:=⟨a,ns,rfl,hS,hl,fun _=>rfl⟩
theorem Zbp{ad:Str→Addr}{fn:Fn}(h:∀ k ns,Scr K k→ns.length≤63→∃ ds,fn [scD k ns]=.ok (.val (.at (.bl true))) ds){vs:List V}{Q:VK}{E:XK}(q:spLaw K vs H Q E):spR ad [false] fn vs H Q E:=by
 obtain ⟨a,ns,rfl,hS,hl,q⟩:=q
 have main:∀ k,Scr K k→NodeOk H a k (ns.map V.int)→spR ad [false] fn [.ref a] H Q E:=by
  intro k hk hn
  obtain ⟨ds,e⟩:=h k ns hk hl
  have vm:(ns.map fun n=>T.at (.int n)).map T.val=ns.map V.int:=by rw [Jp];rfl
  have em:T.ers (ns.map fun n=>T.at (.int n))=ns.map fun n=>D.at (.int n):=by rw [T.ers_eq,Jp];rfl
  refine ⟨[.nd a k (ns.map fun n=>.at (.int n))],fun _=>False,rfl,⟨rfl,⟨⟨by rw [vm];exact hn,T.oks_iff.mpr fun t ht=>?_⟩,trivial⟩,Wq,fun b _=>⟨by simp [Zo,T.owns],fun z=>z⟩,fun b _=>by simp [Zo,T.owns],fun b z=>z.elim⟩,?_⟩
  ·obtain ⟨n,_,rfl⟩:=Qi.mp ht;trivial
  ·have:T.ers [T.nd a k (ns.map fun n=>.at (.int n))]=[scD k ns]:=by simp only [T.ers,T.er,em,scD]
   rw [this,e]
   intro H' l' rt v _ e2 hr _
   cases rt with
   | arg _ _ _=>cases e2
   | val t =>
    simp only [RT.er,RV.val.injEq] at e2
    have:=Z1a e2 rfl
    subst this
    cases hr
    exact q H'
 rcases hS with hS | hS
 ·exact main (.lst false) (.inl rfl) hS
 ·exact main (.kst K) (.inr rfl) hS
theorem DefX.imp{P:Program}{w:World}{mg:Str→Option Value}{base:Heap}{x:Str}{k:Nat}{ps:List Str}{sp sp':Sp}(D:DefX P w K mg base x k ps sp)(h:∀ vs H Q E,sp' vs H Q E→sp vs H Q E):DefX P w K mg base x k ps sp':=by
 obtain ⟨f,fd,G,rest⟩:=D.ex
 exact ⟨f,fd,G.imp h,rest⟩
end
end RM

namespace RM
open PySem PySem.Spec PyProof.Rows L2
mutual
noncomputable def toDt:D→Option Dt
 | .at .non=>some .non
 | .at (.bl b)=>some (.bl b)
 | .at (.int i)=>some (.int i)
 | .at (.str x)=>some (.str x)
 | .at _=>none
 | .nd (.lst true) l=>if l.length < sizeLine then (match Z2p l with | some r=>some (.lst r) | none=>none) else none
 | .nd .tup l=>if l.length < sizeLine then (match Z2p l with | some r=>some (.tup r) | none=>none) else none
 | .nd _ _=>none
noncomputable def Z2p:List D→Option (List Dt)
 | []=>some []
 | d::l=>match toDt d,Z2p l with | some x,some r=>some (x::r) | _,_=>none
end
mutual
theorem Z6A{H:Hp}:∀ {t:T} {d:Dt},t.ok H→toDt t.er=some d→RelD H d t.val
 | .at v,d,_,h=>by
  cases v <;> simp only [T.er,cl,toDt,Option.some.injEq,reduceCtorEq] at h <;> (subst h;rfl)
 | .nd a k l,d,ok,h=>by
  cases k with
  | lst m =>
   cases m with
   | false=>simp [T.er,toDt] at h
   | true =>
    simp only [T.er,toDt] at h
    split at h
    case isFalse=>cases h
    case isTrue hz =>
     cases e:Z2p (T.ers l) with
     | none=>rw [e] at h;cases h
     | some r =>
      rw [e] at h
      cases h
      refine ⟨a,l.map T.val,rfl,ok.1,?_,Z5c ok.2 e⟩
      rw [T.ers_eq,Qs] at hz
      simpa using hz
  | tup =>
   simp only [T.er,toDt] at h
   split at h
   case isFalse=>cases h
   case isTrue hz =>
    cases e:Z2p (T.ers l) with
    | none=>rw [e] at h;cases h
    | some r =>
     rw [e] at h
     cases h
     refine ⟨a,l.map T.val,rfl,ok.1,?_,Z5c ok.2 e⟩
     rw [T.ers_eq,Qs] at hz
     simpa using hz
  | _=>simp [T.er,toDt] at h
theorem Z5c{H:Hp}:∀ {l:List T} {r:List Dt},T.oks H l→Z2p (T.ers l)=some r→Z14 H r (l.map T.val)
 | [],r,_,h=>by simp only [T.ers,Z2p,Option.some.injEq] at h;subst h;trivial
 | t::l,r,ok,h=>by
  simp only [T.ers,Z2p] at h
  cases e1:toDt t.er with
  | none=>simp [e1] at h
  | some x =>
   cases e2:Z2p (T.ers l) with
   | none=>simp [e1,e2] at h
   | some r' =>
    simp only [e1,e2,Option.some.injEq] at h
    subst h
    exact ⟨Z6A ok.1 e1,Z5c ok.2 e2⟩
end
noncomputable def sameF(n:Nat):Fn
 | [a,b]=>match toDt a,toDt b with | some d,some d'=>if d'.dep≤n then .ok (.val (.at (.bl (Dt.eq d d')))) [a,b] else .no | _,_=>.no
 | _=>.no
theorem Z9O{ad:Str→Addr}{n:Nat}{vs:List V}{H:Hp}{Q:VK}{E:XK}(h:spR ad [false,false] (sameF n) vs H Q E):∃ (x y:V) (d d':Dt),vs=[x,y]∧RelD H d x∧RelD H d' y∧d'.dep≤n∧∀ H',Z16 H H'→Q (.bl (Dt.eq d d')) H':=by
 obtain ⟨l,B,rfl,en,h⟩:=h
 have hl:l.length=2:=en.len.symm
 match l,hl,en,h with
 | [t,u],_,en,h =>
  simp only [T.ers,sameF] at h
  cases e1:toDt t.er with
  | none=>simp only [e1] at h
  | some d =>
   cases e2:toDt u.er with
   | none=>simp only [e1,e2] at h
   | some d' =>
    simp only [e1,e2] at h
    by_cases hd:d'.dep≤n
    case neg=>rw [if_neg hd] at h;exact h.elim
    rw [if_pos hd] at h
    refine ⟨t.val,u.val,d,d',rfl,Z6A en.ok.1 e1,Z6A en.ok.2.1 e2,hd,fun H' sm=>?_⟩
    refine h H' [t,u] (.val (.at (.bl (Dt.eq d d')))) _ rfl rfl rfl ⟨rfl,rfl,trivial,⟨trivial,trivial⟩,by simp [Zo,T.owns,RT.tr,T.own],fun a z=>?_,fun a z=>?_,fun a hn _=>?_⟩
    ·simp [Zo,T.owns,RT.tr,T.own] at z
    ·simp [Zo,T.ros,RT.tr,T.ro] at z
    ·cases e:H a with
     | none=>exact absurd e hn
     | some o=>exact sm a o e
noncomputable def sNo:SF:=fun _=>.no
theorem ZbQ{X:Cx}{R:RC}{ix:List Nat}{sts:List Stmt}:PSs X sts (lS R ix sNo):=fun pins s σ H D I h=>by
 obtain ⟨hd,ts,fr,C,h⟩:=h
 exact h.elim
noncomputable def RPs(R:RC)(ix:List Nat)(X:Cx)(pos:Pos)(keys:List (Option Expr))(values:List Expr)(fs:List (EF×EF)):Prop:=PPs X pos keys values (fs.map fun p=>(lE R ix p.1,lE R ix p.2))
section
variable {R:RC}{ix:List Nat}{X:Cx}{pos:Pos}
theorem Z7Q:RPs R ix X pos [] [] []:=Zas
theorem Z6B{k v:Expr}{ks:List (Option Expr)}{vs:List Expr}{fk fv:EF}{fs:List (EF×EF)}(hk:PE X k (lE R ix fk))(hv:PE X v (lE R ix fv))(hr:RPs R ix X pos ks vs fs):RPs R ix X pos (some k::ks) (v::vs) ((fk,fv)::fs):=Z9J hk hv hr
theorem Z6z{k:Option Expr}{keys:List (Option Expr)}{values:List Expr}{fs:List (EF×EF)}(h:RPs R ix X pos (k::keys) values fs)(hall:(k::keys).all (·.isSome)=true:=by rfl)(hl:(k::keys).length=values.length:=by rfl)(h15:(k::keys).length≤15:=by decide):PE X (.Dict (k::keys) values pos) (lE R ix (eDict fs)):=Zax h hall hl (by simp) h15
end
end RM

namespace RM
open PySem PySem.Spec PyProof.Rows L2
section
variable {s:Sd}{f g:SF}{e e':EF}{c d:BF}{a b:AF}{v:V}{j k:Nat}{p:List Nat}
theorem Zr:Zj f g s=(match f s with | .nx s1=>g s1 | r=>r):=id rfl
theorem ev_if:sIf c f g s=(match c s with | .ok true s1=>f s1 | .ok false s1=>g s1 | .ex C s1=>.ex C s1 | .no=>.no):=id rfl
theorem ev_e:sE e s=(match e s with | .ok _ s1=>.nx s1 | .ex C s1=>.ex C s1 | .no=>.no):=id rfl
theorem Z8p:Z00 e s=(match e s with | .ok r s1=>.rt r s1 | .ex C s1=>.ex C s1 | .no=>.no):=id rfl
theorem Z7p:sRetN s=.rt (.val (.at .non)) s:=id rfl
theorem Z7n:ZV s=.nx s:=id rfl
theorem Z8h:sBrk s=.bk s:=id rfl
theorem ev_ct:sCt s=.ct s:=id rfl
theorem Z8g{w:Sd→DV→Option Sd}:Zn e w s=(match e s with | .ok r s1=>(match w s1 r with | some s2=>.nx s2 | none=>.no) | .ex C s1=>.ex C s1 | .no=>.no):=id rfl
theorem Z8j:eIf c e e' s=(match c s with | .ok true s1=>e s1 | .ok false s1=>e' s1 | .ex C s1=>.ex C s1 | .no=>.no):=id rfl
theorem ev_v:bV e s=(match e s with | .ok (.val (.at (.bl b))) s1=>.ok b s1 | .ok _ _=>.no | .ex C s1=>.ex C s1 | .no=>.no):=id rfl
theorem Z8o:bNot c s=(match c s with | .ok b s1=>.ok (!b) s1 | r=>r):=id rfl
theorem Z8f:bAnd c d s=(match c s with | .ok true s1=>d s1 | r=>r):=id rfl
theorem ev_or:bOr c d s=(match c s with | .ok false s1=>d s1 | r=>r):=id rfl
theorem ev_C:eC v s=.ok (.val (.at v)) s:=id rfl
theorem Z8t:Z1 j s=(match s[j]? with
 | some (.own _ d)=>.ok (mkV j [] d) s
 | some (.bor k p)=>(match Zq s (.plc k p) with | some d=>.ok (mkV k p d) s | none=>.no)
 | _=>.no):=id rfl
theorem Z8n:Z2 s=.ok [] s:=id rfl
theorem Z7c:Z0 e a s=(match e s with
 | .ok (.val d) s1=>(match a s1 with | .ok rs s2=>.ok (.val d::rs) s2 | .ex C s2=>.ex C s2 | .no=>.no)
 | .ok (.plc k p) s1=>(match a (s1++[.bor k p]) with
  | .ok rs s2=>(match unh s1.length k p s2 with | some s3=>.ok (.plc k p::rs) s3 | none=>.no)
  | .ex C s2=>(match unx s1.length s2 with | some s3=>.ex C s3 | none=>.no) | .no=>.no)
 | .ex C s1=>.ex C s1
 | .no=>.no):=id rfl
theorem ev_nw{h:List D→Option D}:eNw h a s=(match a s with
 | .ok rs s1=>(match Z0i s1 rs with | some ds=>(match h ds with | some d=>.ok (.val d) s1 | none=>.no) | none=>.no)
 | .ex C s1=>.ex C s1
 | .no=>.no):=id rfl
theorem ev_ch{h:List D→Option Sel}:eCh h a s=(match a s with
 | .ok rs s1=>(match Z0i s1 rs with | some ds=>(match h ds with | some c=>pick rs ds s1 c | none=>.no) | none=>.no)
 | .ex C s1=>.ex C s1
 | .no=>.no):=id rfl
theorem Z7e{k:NK}:Z04 k a s=(match a s with
 | .ok rs s1=>(match vals rs with | some l=>if l.length≤sizeLine then .ok (.val (.nd k l)) s1 else .no | none=>.no)
 | .ex C s1=>.ex C s1
 | .no=>.no):=id rfl
theorem Z7d{fs:List (EF×EF)}:eDict fs s=(match Z2C fs s with
 | .ok rs s1=>(match vals rs with
  | some l=>(match kvD l with | some (ks,vs)=>if ks.Nodup∧ks.length≤15 then .ok (.val (.nd (.dic true ks) vs)) s1 else .no | none=>.no)
  | none=>.no)
 | .ex C s1=>.ex C s1
 | .no=>.no):=id rfl
theorem ev_mu{ri:Nat}{h:List D→Option Mu}:eMu ri h a s=(match a s with
 | .ok rs s1=>(match Z0i s1 rs,rs[ri]? with
  | some ds,some (.plc k p)=>(match s1[k]?,ds[ri]?,h ds with
   | some (.own true _),some (.nd kd l),some (.add kd' m)=>if kd.mut then (match rs[m]? with | some (.val x)=>.ok (.val (.at .non)) (wr s1 k p (.nd kd' (l++[x])) fun _=>true) | _=>.no) else .no
   | some (.own true _),some (.nd kd l),some (.set j m)=>if kd.mut∧j < l.length then (match rs[m]? with | some (.val x)=>.ok (.val (.at .non)) (wr s1 k p (.nd kd (l.set j x)) fun i=>i != j) | _=>.no) else .no
   | _,_,_=>.no)
  | _,_=>.no)
 | .ex C s1=>.ex C s1
 | .no=>.no):=id rfl
theorem Z77:eAppT a s=(match a s with
 | .ok [.val (.nd (.lst true) l),.val _] s1=>if l.length < sizeLine then .ok (.val (.at .non)) s1 else .no
 | .ok _ _=>.no
 | .ex C s1=>.ex C s1
 | .no=>.no):=id rfl
theorem Z5Q{chk:D→Bool}:Z1N chk e s=(match e s with
 | .ok r s1=>(match Zq s1 r with | some d=>if chk d then .ok r s1 else .no | none=>.no)
 | .ex C s1=>.ex C s1
 | .no=>.no):=id rfl
theorem Z7b{ms:List Bool}{fn:Fn}:ZF ms fn a s=(match a s with
 | .ok rs s1=>(match takes rs ms s1 with
  | some (sh,l)=>(match fills sh rs l with
   | some ds=>(match fn ds with
    | .ok rv ds'=>retV rs ms (gives rs ms ds' sh) rv
    | .ex C ds'=>.ex C (gives rs ms ds' sh)
    | .no=>.no)
   | none=>.no)
  | none=>.no)
 | .ex C s1=>.ex C s1
 | .no=>.no):=id rfl
theorem ev_mk{C:Addr}{ms:List Bool}{fn:Fn}:eMk C ms fn a s=(match a s with
 | .ok rs s1=>(match takes rs ms s1 with
  | some (sh,l)=>(match fills sh rs l with
   | some ds=>(match fn (.nd (.ins true C []) []::ds) with
    | .ok (.val (.at .non)) (d0::ds')=>.ok (.val d0) (gives rs ms ds' sh)
    | _=>.no)
   | none=>.no)
  | none=>.no)
 | .ex C s1=>.ex C s1
 | .no=>.no):=id rfl
theorem Z78{C:Addr}{x:Str}{o:Int→Int→Int}:sAugF C x o e e' s=(match e s with
 | .ok (.plc k p) s1=>augGo k p (selF C x) o e' s1
 | .ok _ _=>.no
 | .ex C s1=>.ex C s1
 | .no=>.no):=id rfl
theorem Z79{o:Int→Int→Int}{ei:EF}:sAugI o e ei e' s=(match Z0 e (Z0 ei Z2) s with
 | .ok [.plc k p,.val (.at (.int i))] s1=>augGo k p (selI i) o e' s1
 | .ok _ _=>.no
 | .ex C s1=>.ex C s1
 | .no=>.no):=id rfl
theorem Z4o{js:List Nat}:Z15 js f s=(match f s with
 | .nx s1=>.nx (Z1w js s1)
 | .ct s1=>.ct (Z1w js s1)
 | .bk s1=>.bk (Z1w js s1)
 | r=>r):=id rfl
theorem Z7k{w:Sd→DV→Option Sd}:Z1e a w f s=(match a s with
 | .ok [.val (.at (.int j))] s1=>if -(2 ^ 62)≤j∧j < 2 ^ 62 then Ze (itR 0 j.toNat) w f (j.toNat + 1) 0 s1 else .no
 | .ok [.val (.at (.int i)),.val (.at (.int j))] s1=>if -(2 ^ 62)≤i∧i < 2 ^ 62∧-(2 ^ 62)≤j∧j < 2 ^ 62 then Ze (itR i (j - i).toNat) w f ((j - i).toNat + 1) 0 s1 else .no
 | .ok _ _=>.no
 | .ex C s1=>.ex C s1
 | .no=>.no):=id rfl
theorem Z7j{w:Sd→DV→Option Sd}:Z1y e w f s=(match e s with
 | .ok (.plc k p) s1=>(match Z1K (Zq s1 (.plc k p)) with
  | some (t,m)=>fin s1.length (Ze (itP t s1.length k p) w f (m + 1) 0 (s1++[.bor k p]))
  | none=>.no)
 | .ok (.val d) s1=>(match Z1K (some d) with
  | some (t,m)=>fin s1.length (Ze (itP t s1.length s1.length []) w f (m + 1) 0 (s1++[.own true d]))
  | none=>.no)
 | .ex C s1=>.ex C s1
 | .no=>.no):=id rfl
theorem Z8s{exm:Str→Str→Option Bool}{hs:List (Str×SF)}:sTry exm f hs s=(match f s with | .ex C s1=>tryH exm hs C s1 | r=>r):=id rfl
theorem Z5X{C:Str}:sRaise C a s=(match a s with
 | .ok rs s1=>if rs.length≤1000 then .ex C s1 else .no
 | .ex C' s1=>.ex C' s1
 | .no=>.no):=id rfl
theorem Z8q{n:Nat}{ms:List Bool}{ds:List D}:ZL n ms f ds=(match f (ini n ms ds) with
 | .nx s=>ends n ms ds (.val (.at .non)) s
 | .rt r s=>ends n ms ds r s
 | .ex C s=>(match outs s n ms ds with | some ds'=>.ex C ds' | none=>.no)
 | _=>.no):=id rfl
end
theorem Z8K{k:Nat}{p:List Nat}{kp:Nat→Bool}{w:Bool}{d:D}:Z1X k p kp (.own w d)=.own w d:=rfl
theorem Z8J{k:Nat}{p:List Nat}{kp:Nat→Bool}:Z1X k p kp .non=.non:=rfl
theorem Z8I{k:Nat}{p:List Nat}{kp:Nat→Bool}{k':Nat}{q:List Nat}:Z1X k p kp (.bor k' q)=if decide (k'=k) && (match RM.sub p q with | some i=>!kp i | none=>false) then .non else .bor k' q:=rfl
theorem Z9n{j:Nat}{w:Bool}{d:D}:Zz j (.own w d)=.own w d:=rfl
theorem Z9m{j:Nat}:Zz j .non=.non:=rfl
theorem Z9l{j k:Nat}{q:List Nat}:Zz j (.bor k q)=if k=j then .non else .bor k q:=rfl
theorem Z9g:RM.sub [] []=none:=rfl
theorem Z9f{i:Nat}{q:List Nat}:RM.sub [] (i::q)=some i:=rfl
theorem sub_cn{i:Nat}{q:List Nat}:RM.sub (i::q) []=none:=rfl
theorem Z9e{x y:Nat}{p q:List Nat}:RM.sub (x::p) (y::q)=if x=y then RM.sub p q else none:=rfl
theorem Z4s{it:Nat→Sd→Option (Option DV)}{b:Sd→DV→Option Sd}{body:SF}{P:Nat→Sd→Prop}{n:Nat}
  (hs:∀ i s,i < n→P i s→∃ r s1 s2,it i s=some (some r)∧b s r=some s1∧(body s1=.nx s2∨body s1=.ct s2)∧P (i + 1) s2) (he:∀ s,P n s→it n s=some none) :
  ∀ m i s,i + m=n→P i s→∃ s',Ze it b body (m + 1) i s=.nx s'∧P n s'
 | 0,i,s,hi,h=>by
  have:i=n:=by omega
  subst this
  exact ⟨s,by simp only [Ze,he s h],h⟩
 | m + 1,i,s,hi,h=>by
  obtain ⟨r,s1,s2,h1,h2,h3,h4⟩:=hs i s (by omega) h
  obtain ⟨s',h5,h6⟩:=Z4s hs he m (i + 1) s2 (by omega) h4
  refine ⟨s',?_,h6⟩
  rw [← h5,Ze,h1]
  dsimp only
  rw [h2]
  dsimp only
  rcases h3 with h3 | h3 <;> rw [h3]
theorem Z20{lo:Int}{n:Nat}{b:Sd→DV→Option Sd}{body:SF}{s:Sd}(P:Nat→Sd→Prop)(h0:P 0 s)
  (hs:∀ (i:Nat) s,i < n→P i s→∃ s1 s2,b s (.val (.at (.int (lo + i))))=some s1∧(body s1=.nx s2∨body s1=.ct s2)∧P (i + 1) s2) :
  ∃ s',Ze (itR lo n) b body (n + 1) 0 s=.nx s'∧P n s' :=
 Z4s (P:=P) (fun i s hi h=>by
  obtain ⟨s1,s2,h1,h2,h3⟩:=hs i s hi h
  exact ⟨_,s1,s2,by unfold itR;rw [if_pos hi],h1,h2,h3⟩) (fun s h=>by unfold itR;rw [if_neg (Js _)]) n 0 s (by omega) h0
theorem Z4E{t:Bool}{n k:Nat}{p:List Nat}{l:List D}{kd:NK}{b:Sd→DV→Option Sd}{body:SF}{s:Sd}(hk:t=false∧(∃ m,kd=.lst m)∨t=true∧kd=.tup)(P:Nat→Sd→Prop)(h0:P 0 s)
  (hh:∀ i s,P i s→held n k p s=true∧Zq s (.plc k p)=some (.nd kd l))
  (hs:∀ (i:Nat) s c,l[i]?=some c→P i s→∃ s1 s2,b s (mkV k (p++[i]) c)=some s1∧(body s1=.nx s2∨body s1=.ct s2)∧P (i + 1) s2) :
  ∃ s',Ze (itP t n k p) b body (l.length + 1) 0 s=.nx s'∧P l.length s':=by
 have it:∀ i s,P i s→itP t n k p i s=some ((l[i]?).map (mkV k (p++[i]))):=by
  intro i s h
  obtain ⟨h1,h2⟩:=hh i s h
  unfold itP
  rw [h1,h2]
  rcases hk with ⟨rfl,m,rfl⟩ | ⟨rfl,rfl⟩ <;> rfl
 refine Z4s (P:=P) (fun i s hi h=>?_) (fun s h=>?_) l.length 0 s (by omega) h0
 ·obtain ⟨s1,s2,h1,h2,h3⟩:=hs i s l[i] (Qj hi) h
  exact ⟨_,s1,s2,by rw [it i s h,Qj hi];rfl,h1,h2,h3⟩
 ·rw [it _ s h,Jo (Qu _)];rfl

noncomputable def DtN(n:Nat)(a:D):Prop:=∃ d,toDt a=some d∧d.dep≤n
theorem ZaY{n:Nat}{i:Int}:DtN (n + 1) (.at (.int i)):=⟨.int i,rfl,by simp [Dt.dep]⟩
theorem Z75{n:Nat}:∀ {l:List D},(∀ x∈l,DtN n x)→∃ r,Z2p l=some r∧Dt.deps r≤n
 | [],_=>⟨[],rfl,Nk _⟩
 | x::l,h=>by
  obtain ⟨d,h1,h2⟩:=h x Qy
  obtain ⟨r,h3,h4⟩:=Z75 fun y hy=>h y (Qv _ hy)
  exact ⟨d::r,by rw [Z2p,h1,h3],Nat.max_le.mpr ⟨h2,h4⟩⟩
theorem Z8d{n:Nat}{l:List D}(hl:l.length < sizeLine)(h:∀ x∈l,DtN n x):DtN (n + 1) (.nd (.lst true) l):=by
 obtain ⟨r,h1,h2⟩:=Z75 h
 exact ⟨.lst r,by rw [toDt,if_pos hl,h1],Nat.succ_le_succ h2⟩
theorem Z9P{n:Nat}{a:D}(h:DtN n a):sameF n [a,a]=.ok (.val (.at (.bl true))) [a,a]:=by
 obtain ⟨d,h1,h2⟩:=h
 simp only [sameF,h1,if_pos h2,(Dt.eq_iff d d).mpr rfl]
theorem ixN_0{n:Nat}(h:0 < n):ixN n 0=some 0:=by unfold ixN;rw [if_pos (by omega),if_pos (by omega)];rfl
theorem ixN_1{n:Nat}(h:1 < n):ixN n 1=some 1:=by unfold ixN;rw [if_pos (by omega),if_pos (by omega)];rfl
theorem ixN_2{n:Nat}(h:2 < n):ixN n 2=some 2:=by unfold ixN;rw [if_pos (by omega),if_pos (by omega)];rfl
theorem ixN_3{n:Nat}(h:3 < n):ixN n 3=some 3:=by unfold ixN;rw [if_pos (by omega),if_pos (by omega)];rfl
theorem ixN_4{n:Nat}(h:4 < n):ixN n 4=some 4:=by unfold ixN;rw [if_pos (by omega),if_pos (by omega)];rfl
theorem ixN_5{n:Nat}(h:5 < n):ixN n 5=some 5:=by unfold ixN;rw [if_pos (by omega),if_pos (by omega)];rfl
theorem ixN_6{n:Nat}(h:6 < n):ixN n 6=some 6:=by unfold ixN;rw [if_pos (by omega),if_pos (by omega)];rfl
theorem ixN_7{n:Nat}(h:7 < n):ixN n 7=some 7:=by unfold ixN;rw [if_pos (by omega),if_pos (by omega)];rfl
theorem ixN_8{n:Nat}(h:8 < n):ixN n 8=some 8:=by unfold ixN;rw [if_pos (by omega),if_pos (by omega)];rfl
theorem ixN_9{n:Nat}(h:9 < n):ixN n 9=some 9:=by unfold ixN;rw [if_pos (by omega),if_pos (by omega)];rfl
theorem Z8F{n:Nat}(h:10 < n):ixN n 10=some 10:=by unfold ixN;rw [if_pos (by omega),if_pos (by omega)];rfl
theorem Z8G{n:Nat}(h:11 < n):ixN n 11=some 11:=by unfold ixN;rw [if_pos (by omega),if_pos (by omega)];rfl
theorem Z8H{n:Nat}(h:12 < n):ixN n 12=some 12:=by unfold ixN;rw [if_pos (by omega),if_pos (by omega)];rfl
section
variable {K:Qd}
theorem Z69{x:Str}:hLen K [.at (.str x)]=if x.length≤sizeLine then some (.at (.int x.length)) else none:=rfl
theorem Z68{m:Bool}{l:List D}:hLen K [.nd (.lst m) l]=some (.at (.int l.length)):=rfl
theorem Z6a{l:List D}:hLen K [.nd .tup l]=some (.at (.int l.length)):=rfl
theorem Z66{m:Bool}{ks:List Key}{l:List D}:hLen K [.nd (.dic m ks) l]=some (.at (.int l.length)):=rfl
theorem Z67{l:List D}:hLen K [.nd (.kst K) l]=some (.at (.int l.length)):=if_pos rfl
theorem Z7v{m:Bool}{l:List D}{i:Int}:hIx K [.nd (.lst m) l,.at (.int i)]=(ixN l.length i).map .ch:=rfl
theorem Z7x{l:List D}{i:Int}:hIx K [.nd .tup l,.at (.int i)]=(ixN l.length i).map .ch:=rfl
theorem Z7u{l:List D}{i:Int}:hIx K [.nd (.kst K) l,.at (.int i)]=(ixN l.length i).map .ch:=if_pos rfl
theorem Z7w{z:Str}{i:Int}:hIx K [.at (.str z),.at (.int i)]=if z.length≤sizeLine then (atI z.cps.toList i).map fun c=>.cs (.str ⟨#[c]⟩) else none:=rfl
end
theorem sz:sizeLine=16777216:=by decide
theorem Z2T{α:Type}{f:α→D}(h:∀ a,(f a).imm=true):∀ l:List α,D.imms (l.map f)=true
 | []=>rfl
 | a::l=>by rw [Ql,D.imms,h,Z2T h l];rfl
end RM

namespace RM
open PySem PySem.Spec PyProof.Rows L2
section
variable {X:Cx}{R:RC}{ix:List Nat}{hd:List (Nat×Addr)}{H H':Hp}{σ:L2.St}{ts:Ts}{fr:List T}{e:Expr}{pos:Pos}

noncomputable def hFmt:List D→Option D
 | [.at (.int i)]=>if i.natAbs.log2 < 1920 then some (.at (.str (toString i))) else none
 | [.at (.str x)]=>if x.length≤sizeLine then some (.at (.str x)) else none
 | _=>none
theorem ers1{l:List T}{a:D}(h:T.ers l=[a]):∃ t,l=[t]∧t.er=a:=by
 rw [T.ers_eq] at h
 exact map1 h
theorem ers2{l:List T}{a b:D}(h:T.ers l=[a,b]):∃ t u,l=[t,u]∧t.er=a∧u.er=b:=by
 rw [T.ers_eq] at h
 exact map2 h

inductive PJ(X:Cx):List Expr→List TE→Prop where
 | nil:PJ X [] []
 | cons {e:Expr} {es:List Expr} {t:TE} {ts:List TE}:PE X e t→PJ X es ts→PJ X (e::es) (t::ts)
noncomputable def eJoin:List EF→Str→EF
 | [],acc=>fun s=>if acc.length≤sizeLine then .ok (.val (.at (.str acc))) s else .no
 | f::r,acc=>fun s=>match f s with
  | .ok (.val (.at (.str y))) s1=>if (acc++y).length≤sizeLine then eJoin r (acc++y) s1 else .no
  | .ok _ _=>.no
  | .ex C s1=>.ex C s1
  | .no=>.no

noncomputable def hNeg:List D→Option D
 | [.at (.int i)]=>some (.at (.int (-i)))
 | _=>none
theorem ZbN{a:Expr}{f:EF}(ha:PE X a (lE R ix f)):PE X (.UnaryOp .USub a pos) (lE R ix (eNw hNeg (Z0 f Z2))) :=
 peM (pe_un ZbV ha) fun σ H Q q=>Zt (fun x H1 q=>by
  obtain ⟨t,ok,rfl,d,hh,q⟩:=gNw1 q
  unfold hNeg at hh
  split at hh
  case h_1 i e1 =>
   simp only [Wf.injEq,and_true] at e1
   cases hh;cases Z1a e1 rfl
   exact ⟨i,rfl,q (.at (.int (-i))) H1 rfl (.atom _)⟩
  case h_2=>cases hh) (lA_1 (Z2z σ H Q q))
noncomputable def hInt:List D→Option D
 | [.at (.int i)]=>some (.at (.int i))
 | [.at (.bl b)]=>some (.at (.int (if b then 1 else 0)))
 | _=>none
noncomputable def hStrI:List D→Option D
 | [.at (.int i)]=>if i.natAbs.log2 < 1920 then some (.at (.str (toString i))) else none
 | _=>none
noncomputable def hMax:List D→Option D
 | [.at (.int i),.at (.int j)]=>some (.at (.int (if j > i then j else i)))
 | _=>none
noncomputable def hMin:List D→Option D
 | [.at (.int i),.at (.int j)]=>some (.at (.int (if j < i then j else i)))
 | _=>none
theorem ZaU(hc:X.calm=true):Z0f X (.builtin "max") (gNw hMax):=callM (Z85 hc) fun vs H Q q=>by
 obtain ⟨l,ok,hv,d,hh,q⟩:=q
 unfold hMax at hh
 split at hh
 case h_1 i j e1 =>
  obtain ⟨t,u,rfl,e2⟩:=ers2 e1
  cases hh;cases Z1a e2.1 rfl;cases Z1a e2.2 rfl
  exact ⟨i,j,hv.symm,q (.at (.int (if j > i then j else i))) H rfl (.atom _)⟩
 case h_2=>cases hh
theorem ZaV(hc:X.calm=true):Z0f X (.builtin "min") (gNw hMin):=callM (Z86 hc) fun vs H Q q=>by
 obtain ⟨l,ok,hv,d,hh,q⟩:=q
 unfold hMin at hh
 split at hh
 case h_1 i j e1 =>
  obtain ⟨t,u,rfl,e2⟩:=ers2 e1
  cases hh;cases Z1a e2.1 rfl;cases Z1a e2.2 rfl
  exact ⟨i,j,hv.symm,q (.at (.int (if j < i then j else i))) H rfl (.atom _)⟩
 case h_2=>cases hh
end
end RM

namespace RM
open PySem PySem.Spec PyProof.Rows L2
section
variable {X:Cx}{pins:List (Addr×Obj)}{σ:L2.St}{H:Hp}{s:Shared}{a:Addr}{kvs:List (Key×V)}{A:Around}{E:Value→Shared→Prop}{k:Key}{u r:Value}{d:V}
end
noncomputable def setG2(s1:Sd)(k:Nat)(p:List Nat)(x:D)(ky:D):D→ER DV
  | .nd (.dic true ks) l=>(match s1[k]?,keyD ky with
   | some (.own true _),some key=>(match idk key ks with
    | some j=>(match l[j]? with | some c=>.ok (mkV k (p++[j]) c) s1 | none=>.no)
    | none=>if l.length < sizeLine then .ok (mkV k (p++[l.length]) x) (wr s1 k p (.nd (.dic true (ks++[key])) (l++[x])) fun _=>true) else .no)
   | _,_=>.no)
  | _=>.no
noncomputable def setG1(s1:Sd)(k:Nat)(p:List Nat)(x:D):Option (List D)→ER DV
  | some [d0,ky,_]=>setG2 s1 k p x ky d0
  | _=>.no
noncomputable def setGo(s1:Sd):List DV→ER DV
  | [.plc k p,r1,.val x]=>setG1 s1 k p x (Z0i s1 [.plc k p,r1,.val x])
  | _=>.no
noncomputable def eSetD(f:AF):EF:=fun s=>match f s with
 | .ok rs s1=>setGo s1 rs
 | .ex C s1=>.ex C s1
 | .no=>.no
section
variable {R:RC}{ix:List Nat}{hd:List (Nat×Addr)}{X:Cx}{e:Expr}{H H':Hp}{σ:L2.St}{ts:Ts}{fr:List T}
theorem ZaS{H1:Hp}{ts1:Ts}{tvs:List TV}{k m:Nat}{p:List Nat}{a2:Addr}{kd kd':NK}{ch:List T}{u t:T}{o:HO}(C1:Cf R ix hd H1 σ ts1 (trs tvs++fr))(hk:ts1[k]?=some (.own true u))(hp:u.get p=some (.nd a2 kd ch))(hm:kd.mut=true)
  (t1:tvs[m]?=some (.val t)) (ho:HoOk o kd' (ch.map T.val++[t.val])) :
  Cf R ix hd (upd H1 a2 o) σ ((ts1.set k (.own true (T.put (.nd a2 kd' (ch++[t])) p u))).map (Zw k p fun _=>true)) fr:=by
 have hok:(T.nd a2 kd ch).ok H1:=T.get_ok hp (C1.ok true u (Qf hk))
 have ha2:a2∈Zd ts1:=by
  obtain ⟨c,r,K⟩:=T.ctx hp
  exact Z10.mpr ⟨u,Qf hk,K.own.mem_iff.mpr (Qg _ (by simp [T.own,hm]))⟩
 have stay:∀ (y:T),y∈trs tvs++fr→y.ok (upd H1 a2 o):=fun y hy=>T.keep (T.oks_iff.mp C1.fok y hy) fun b hb=>Zc (by
  rintro rfl
  rcases hb with hb | hb
  ·have:=(Qk.mp C1.nd).2.2 b ha2 b (T.mem_owns.mpr ⟨y,hy,hb⟩)
   exact this rfl
  ·exact (C1.sep b (.inr (T.mem_ros.mpr ⟨y,hy,hb⟩))).1 ha2)
 have kid:∀ (y:T),y∈ch→y.ok (upd H1 a2 o):=fun y hy=>T.keep (T.oks_iff.mp hok.2 y hy) fun b hb=>Zc (by
  rintro rfl
  obtain ⟨c,r,K⟩:=T.ctx hp
  rcases hb with hb | hb
  ·have n1:=(Qk.mp C1.nd).1
   obtain ⟨x1,z1,o1,_⟩:=Z0Z (f:=TL.own1) hk
   unfold Zd at n1
   rw [o1] at n1
   have n2:=(Qk.mp ((Qk.mp n1).2.1)).1
   have n3:=(Qk.mp (K.own.nodup_iff.mp n2)).2.1
   simp only [T.own,hm,if_true,Wl,Ji] at n3
   exact n3.1 (T.mem_owns.mpr ⟨y,hy,hb⟩)
  ·refine (C1.sep b (.inl (Z0W.mpr ⟨true,u,Qf hk,K.ro.mem_iff.mpr (Qg _ ?_)⟩))).1 ha2
   simp only [T.ro,hm,if_true,Je]
   exact T.mem_ros.mpr ⟨y,hy,hb⟩)
 obtain ⟨n1,n2⟩:=HoOk.node (H:=H1) (a:=a2) ho
 obtain ⟨x,p1,p2,p3⟩:=Z4v t1
 exact Cf.write (kd':=kd') (l':=ch++[t]) (fr':=fr) (x:=x) (o:=o) (keep:=fun _=>true) C1 hk hp hm n2
  ⟨by simpa using n1,T.oks_app.mpr ⟨T.oks_iff.mpr kid,stay t (Qh _ (p3 t (by simp [TV.tr]))),trivial⟩⟩ (T.oks_iff.mpr fun y hy=>stay y (Qg _ hy))
  (by
   rw [T.owns_app,T.owns_app]
   refine Qx.mpr fun b=>?_
   have:=Qx.mp p1 b
   simp only [TV.tr,T.owns,Jj,Gb] at this ⊢
   omega)
  (fun b hb=>by
   rw [T.ros_app] at hb ⊢
   rcases hb with hb | hb
   ·rcases Qe.mp hb with hb | hb
    ·exact .inl hb
    ·exact .inr (.inl (Qh _ (p2 b (by simpa [TV.tr] using hb))))
   ·exact .inr (.inl (Qg _ hb)))
  (fun i c _ hc=>by rw [Qo (Qc.mp hc).1];exact hc)
theorem map3{α β:Type}{f:α→β}{l:List α}{b c d:β}(h:l.map f=[b,c,d]):∃ x y z,l=[x,y,z]∧f x=b∧f y=c∧f z=d:=by
 cases l with
 | nil=>cases h
 | cons x r =>
  simp only [Ql,Wf.injEq] at h
  obtain ⟨y,z,rfl,h2,h3⟩:=map2 h.2
  exact ⟨x,y,z,rfl,h.1,h2,h3⟩
end

section
variable {X:Cx}{R:RC}{ix:List Nat}{e:Expr}{st:Stmt}
end

theorem Z5W{acc:Str}{s:Sd}:eJoin [] acc s=(if acc.length≤sizeLine then .ok (.val (.at (.str acc))) s else .no):=id rfl
theorem Z7m{f:EF}{r:List EF}{acc:Str}{s:Sd}:eJoin (f::r) acc s=(match f s with
  | .ok (.val (.at (.str y))) s1=>if (acc++y).length≤sizeLine then eJoin r (acc++y) s1 else .no
  | .ok _ _=>.no
  | .ex C s1=>.ex C s1
  | .no=>.no):=id rfl
theorem Z7q{a:AF}{s:Sd}:eSetD a s=(match a s with
 | .ok rs s1=>setGo s1 rs
 | .ex C s1=>.ex C s1
 | .no=>.no):=id rfl
theorem Z60{s1:Sd}{k:Nat}{p:List Nat}{r1:DV}{x:D}:setGo s1 [.plc k p,r1,.val x]=setG1 s1 k p x (Z0i s1 [.plc k p,r1,.val x]):=id rfl
theorem Z5Y{s1:Sd}{k:Nat}{p:List Nat}{x d0 ky dx:D}:setG1 s1 k p x (some [d0,ky,dx])=setG2 s1 k p x ky d0:=id rfl
theorem Z5Z{s1:Sd}{k:Nat}{p:List Nat}{x ky:D}{ks:List Key}{l:List D}:setG2 s1 k p x ky (.nd (.dic true ks) l)=(match s1[k]?,keyD ky with
   | some (.own true _),some key=>(match idk key ks with
    | some j=>(match l[j]? with | some c=>.ok (mkV k (p++[j]) c) s1 | none=>.no)
    | none=>if l.length < sizeLine then .ok (mkV k (p++[l.length]) x) (wr s1 k p (.nd (.dic true (ks++[key])) (l++[x])) fun _=>true) else .no)
   | _,_=>.no):=id rfl
theorem Z5V{C C':Addr}{m:Str}{b:Bool}{ns:List Str}{l:List D}:isObjD C m (.nd (.ins b C' ns) l)=(decide (C'=C) && !ns.contains m):=rfl
theorem Z5U{m:Bool}{l:List D}:Z1J (.nd (.lst m) l)=true:=rfl
theorem Z5S{m:Bool}{ks:List Key}{l:List D}:isDic (.nd (.dic m ks) l)=true:=rfl
theorem Z5T{m:Bool}{ks:List (List Key)}{l:List D}:isDic (.nd (.dit m ks) l)=true:=rfl
end RM

namespace RM
open PySem PySem.Spec PyProof.Rows L2
noncomputable def bYes:BF:=fun s=>.ok true s
noncomputable def Z0Q(it:Nat→Sd→Option (Option DV))(n:Nat)(c:BF)(e:EF):Nat→Nat→List D→Sd→ER (List D)
 | 0,_,_,_=>.no
 | m + 1,i,acc,s=>match it i s with
  | none=>.no
  | some none=>.ok acc s
  | some (some r)=>match Z5 n s r with
   | none=>.no
   | some s1=>match c s1 with
    | .ok true s2=>(match e s2 with
     | .ok (.val d) s3=>if acc.length < sizeLine then Z0Q it n c e m (i + 1) (acc++[d]) s3 else .no
     | _=>.no)
    | .ok false s2=>Z0Q it n c e m (i + 1) acc s2
    | _=>.no
noncomputable def Z2r(n:Nat):ER (List D)→ER DV
 | .ok l s=>(match Z1o n s with | some s1=>.ok (.val (.nd (.lst true) l)) s1 | none=>.no)
 | _=>.no
noncomputable def Z1v(n:Nat):ER (List D)→ER DV
 | .ok l s=>(match Z1o (n + 1) s with | some s1=>(match Z1o n s1 with | some s2=>.ok (.val (.nd (.lst true) l)) s2 | none=>.no) | none=>.no)
 | _=>.no
noncomputable def Z19(f:EF)(c:Nat→BF)(e:Nat→EF):EF:=fun s=>match f s with
 | .ok (.plc k p) s1=>(match Z1K (Zq s1 (.plc k p)) with
  | some (t,m)=>Z1v s1.length (Z0Q (itP t s1.length k p) (s1.length + 1) (c (s1.length + 1)) (e (s1.length + 1)) (m + 1) 0 [] (s1++[.bor k p,.non]))
  | none=>.no)
 | .ok (.val d) s1=>(match Z1K (some d) with
  | some (t,m)=>Z1v s1.length (Z0Q (itP t s1.length s1.length []) (s1.length + 1) (c (s1.length + 1)) (e (s1.length + 1)) (m + 1) 0 [] (s1++[.own true d,.non]))
  | none=>.no)
 | .ex C s1=>.ex C s1
 | .no=>.no
section
variable {R:RC}{ix:List Nat}{hd:List (Nat×Addr)}{X:Cx}{H H':Hp}{σ:L2.St}{ts:Ts}{fr:List T}
noncomputable def RC.q(R:RC):RC:={ R with EX:=fun _=>E0 }
theorem Cf.enter(C:Cf R ix hd H σ ts fr):Cf R.q (ts.length::ix) hd H (none::σ) (ts++[.non]) fr:=by
 have e1:Zd (ts++[.non])=Zd ts:=by rw [Z1x];simp [Zd,TL.own1]
 have e2:roS (ts++[.non])=roS ts:=by rw [Z3t];simp [roS,TL.ro1]
 have e3:rdS (ts++[.non])=rdS ts:=by rw [Z2x];simp [rdS,TL.rd1]
 have old:∀ {j:Nat} {s:TL},(ts++[TL.non])[j]?=some s→s≠.non→ts[j]?=some s:=by
  intro j s h hn
  rcases Qai j ts.length with hj | hj
  ·rwa [Qo hj] at h
  ·rw [Jf hj] at h
   have:j - ts.length=0:=by
    have:=(Qc.mp h).1
    simp at this;omega
   rw [this] at h
   cases h
   exact absurd rfl hn
 refine ⟨fun w t z=>?_,C.fok,by rw [e1];exact C.nd,by rw [e1,e2];exact C.sep,by rw [e1,e3];exact C.rd,by rw [e1];exact C.g,C.bg,fun j k p a z=>?_,fun j z=>?_,fun i j s v z1 z2 z3=>?_,fun j a z=>?_,fun j a z=>?_,?_,fun j a z s v z2 z3=>?_⟩
 ·rcases Qe.mp z with z | z
  ·exact C.ok w t z
  ·simp at z
 ·exact (C.bor j k p a (old z (by intro q;cases q))).app _
 ·rcases Qz.mp z with rfl | z
  ·simp
  ·simpa using Wj (C.ixs j z)
 ·have hs:s≠.non:=by rintro rfl;cases z3
  cases i with
  | zero =>
   simp only [Wy,Option.some.injEq] at z1
   have:=(Qc.mp (old z2 hs)).1
   omega
  | succ i=>exact C.sl i j s v (by simpa using z1) (old z2 hs) z3
 ·simpa using Wj (C.hdi j a z)
 ·intro q
  rcases Qz.mp q with rfl | q
  ·exact absurd (C.hdi _ a z) (Js _)
  ·exact C.hdx j a z q
 ·simpa using C.len
 ·exact C.hdn j a z s v (old z2 (by rintro rfl;cases z3)) z3
theorem Cf.leave{n:Nat}{y:Option V}(C:Cf R.q (n::ix) hd H (y::σ) ts fr):Cf R ix hd H σ ts fr :=
 ⟨C.ok,C.fok,C.nd,C.sep,C.rd,C.g,C.bg,C.bor,fun j z=>C.ixs j (Qv _ z),fun i j s v z1 z2 z3=>C.sl (i + 1) j s v (by simpa using z1) z2 z3,C.hdi,fun j a z q=>C.hdx j a z (Qv _ q),by simpa using C.len,C.hdn⟩
theorem Z9r{i j:Nat}{v:V}{tv:TV}{s':Sd}(hix:ix[i]?=some j)(hnd:ix.Nodup)(C:Cf R ix hd H σ ts (tv.tr++fr))(hv:Z0D ts v tv)(hs:Z5 j (ts.map TL.er) tv.er=some s'):∃ ts',ts'.map TL.er=s'∧Cf R ix hd H (σ.set i (some v)) ts' fr:=by
 have er1:∀ y:TL,((ts.map (Zh j)).set j y).map TL.er=((ts.map TL.er).map (Zz j)).set j y.er:=fun y=>by
  rw [Wb,Jp,Jp]
  exact congrArg (fun l=>List.set l j y.er) (Wk fun s _=>Z2E s)
 cases tv with
 | val t =>
  cases hv
  cases hs
  exact ⟨_,er1 (.own true t),Cf.slot (y:=.own true t) C hix hnd rfl (.inl ⟨t,rfl,rfl⟩)⟩
 | plc k p a =>
  obtain ⟨rfl,hp⟩:=hv
  simp only [TV.er,Z5] at hs
  by_cases hk:k=j
  ·subst hk
   rw [if_pos rfl] at hs
   by_cases hp0:p=[]
   ·subst hp0
    rw [if_pos rfl] at hs
    cases hs
    have:σ.set i (some (.ref a))=σ:=by
     obtain ⟨w,t,s,h1,h2,h3⟩:=hp
     cases h2
     have h4:=C.sl i k _ _ hix h1 rfl
     rw [h3] at h4
     refine Ju fun n=>?_
     rw [Qm]
     by_cases hn:i=n
     ·subst hn
      rw [if_pos rfl,if_pos (Qc.mp h4).1,h4]
     ·rw [if_neg hn]
    rw [this]
    exact ⟨ts,rfl,C⟩
   ·rw [if_neg hp0] at hs;cases hs
  ·rw [if_neg hk] at hs
   cases hs
   exact ⟨_,er1 (.bor k p a),Cf.slot (y:=.bor k p a) (m:=[]) C hix hnd rfl (.inr ⟨rfl,k,p,a,rfl,hk,hp⟩)⟩
theorem Cf.grow{D:Addr}{acc:List T}{t:T}(C:Cf R ix hd H σ ts (t::.nd D (.lst true) acc::fr)):H D=some (.lst (acc.map T.val))∧Cf R ix hd (upd H D (.lst ((acc++[t]).map T.val))) σ ts (.nd D (.lst true) (acc++[t])::fr):=by
 have hok:=C.fok
 refine ⟨hok.2.1.1,?_⟩
 have C2:Cf R ix hd H σ ts (.nd D (.lst true) acc::([t]++fr)):=C.less (x:=[]) ⟨hok.2.1,hok.1,hok.2.2⟩ (by
  simp only [T.owns_cons,Jm,Wl]
  rw [← Qq,← Qq]
  exact List.Perm.append_right _ Jx) fun a z=>.inl (by
  simp only [T.ros_cons,Wl,Qe] at z ⊢
  rcases z with z | z | z <;> simp [z])
 refine Cf.fill (kd:=.lst true) (kd':=.lst true) (l:=acc) (l':=acc++[t]) (m:=[t]) (x:=[]) C2 rfl rfl (by show upd H D _ D=_;exact Zx) (fun u hu=>?_) (by rw [T.owns_app,Jm]) (fun a z=>by rw [T.ros_app] at z;exact Qe.mp z)
 rcases Qe.mp hu with hu | hu
 ·exact T.oks_iff.mp hok.2.1.2 u hu
 ·rw [Qw.mp hu];exact hok.1
noncomputable def PostC(R:RC)(ix:List Nat)(hd:List (Nat×Addr))(fr:List T)(σ:L2.St)(D:Addr)(Q:Hp→Prop):ER (List RM.D)→Prop
 | .ok l s=>∀ H' y ts' acc,ts'.map TL.er=s→T.ers acc=l→Cf R ix hd H' (y::σ) ts' (.nd D (.lst true) acc::fr)→Q H'
 | _=>False
noncomputable def xE(R:RC)(ix:List Nat)(e:Nat→EF):TE:=fun σ H Q=>∃ n,(∀ j∈ix,j < n)∧lE R.q (n::ix) (e n) σ H Q
noncomputable def xT(R:RC)(ix:List Nat)(c:Nat→BF):TT:=fun σ H Q=>∃ n,(∀ j∈ix,j < n)∧lT R.q (n::ix) (c n) σ H Q
theorem px_e{e:Expr}{f:Nat→EF}(h:∀ n,(∀ j∈ix,j < n)→PE X e (lE R.q (n::ix) (f n))):PE X e (xE R ix f):=fun pins s σ H Q I ⟨n,hn,q⟩=>h n hn pins s σ H Q I q
theorem px_t{e:Expr}{f:Nat→BF}(h:∀ n,(∀ j∈ix,j < n)→PT X e (lT R.q (n::ix) (f n))):PF X [e] (xT R ix f):=ZbE fun pins s σ H Q I ⟨n,hn,q⟩=>h n hn pins s σ H Q I q
theorem Z4W:PF X [] (xT R ix fun _=>bYes):=fun pins s σ H Q I ⟨n,hn,hd,ts,fr,C,q⟩=>Z91 pins s σ H Q I (q H ts rfl C)
theorem Z2e{J:It}{it:Nat→Sd→Option (Option DV)}{n m:Nat}{c:Nat→BF}{e:Nat→EF}{Q:VK}{R:RC}{ix:List Nat}{hd:List (Nat×Addr)}{σ:L2.St}{ts:Ts}{fr:List T}{H:Hp}{y0:Option V}
  (hn:∀ j∈ix,j < n) (ok:∀ i H τ ts fr,Cf R.q (n::ix) hd H τ ts fr→(it i (ts.map TL.er)=some none→J.stop i H)∧∀ r,it i (ts.map TL.er)=some (some r)→J.go i H∧∀ x H',J.yld i H x H'→∃ tv,tv.er=r∧Z0D ts x tv∧Cf R.q (n::ix) hd H' τ ts (tv.tr++fr))
  (hnd:ix.Nodup) (C:Cf R.q (n::ix) hd H (y0::σ) ts fr) (P:∀ D,H D=none→PostC R.q (n::ix) hd fr σ D (fun H'=>Q (.ref D) H') (Z0Q it n (c n) (e n) m 0 [] (ts.map TL.er))) (hy:y0=none) :
  compW J 1 (Z1j 0) (xT R ix c) (xE R ix e) σ H Q:=by
 intro D hD
 subst hy
 have hnd:(n::ix).Nodup:=Ji.mpr ⟨fun z=>Js _ (hn n z),hnd⟩
 refine ⟨fun i m ys τ H=>∃ y ts acc,τ=y::σ∧Cf R.q (n::ix) hd H τ ts (.nd D (.lst true) acc::fr)∧acc.map T.val=ys∧PostC R.q (n::ix) hd fr σ D (fun H'=>Q (.ref D) H') (Z0Q it n (c n) (e n) m i (T.ers acc) (ts.map TL.er)),⟨m,none,ts,[],rfl,Cf.wrap (ch:=[]) C hD (by show upd H D _ D=_;exact Zx),rfl,P D hD⟩,?_⟩
 rintro i m ys τ H ⟨y,ts,acc,rfl,C,rfl,P⟩
 cases m with
 | zero=>exact P.elim
 | succ m =>
  unfold Z0Q at P
  obtain ⟨o1,o2⟩:=ok i H _ ts _ C
  cases ei:it i (ts.map TL.er) with
  | none=>rw [ei] at P;exact P.elim
  | some z =>
   rw [ei] at P
   cases z with
   | none=>exact .inl ⟨o1 ei,P H y ts acc rfl rfl C⟩
   | some r =>
    obtain ⟨g1,g2⟩:=o2 r ei
    refine .inr ⟨g1,fun zs τ' H'=>∃ y ts acc,τ'=y::σ∧Cf R.q (n::ix) hd H' τ' ts (.nd D (.lst true) acc::fr)∧acc.map T.val=zs∧PostC R.q (n::ix) hd fr σ D (fun H'=>Q (.ref D) H') (Z0Q it n (c n) (e n) m (i + 1) (T.ers acc) (ts.map TL.er)),fun zs τ' H' z=>⟨m,Nm m,z⟩,fun x H' hy=>?_⟩
    obtain ⟨tv,rfl,hv,C'⟩:=g2 x H' hy
    dsimp only at P
    cases eb:Z5 n (ts.map TL.er) tv.er with
    | none=>rw [eb] at P;exact P.elim
    | some s1 =>
     rw [eb] at P
     obtain ⟨ts1,rfl,C1⟩:=Z9r (i:=0) rfl hnd C' hv eb
     have C1:Cf R.q (n::ix) hd H' (some x::σ) ts1 (.nd D (.lst true) acc::fr):=C1
     show xT R ix c (some x::σ) H' _
     refine ⟨n,hn,hd,ts1,_,C1,?_⟩
     dsimp only at P
     cases ec:c n (ts1.map TL.er) with
     | no=>rw [ec] at P;exact P.elim
     | ex E s2=>rw [ec] at P;exact P.elim
     | ok b s2 =>
      rw [ec] at P
      intro H2 ts2 e2 C2
      subst e2
      cases b with
      | false =>
       dsimp only at P
       rw [if_neg Qp]
       exact ⟨some x,ts2,acc,rfl,C2,rfl,P⟩
      | true =>
       dsimp only at P
       rw [if_pos rfl]
       refine ⟨n,hn,hd,ts2,_,C2,?_⟩
       cases ee:e n (ts2.map TL.er) with
       | no=>rw [ee] at P;exact P.elim
       | ex E s3=>rw [ee] at P;exact P.elim
       | ok r s3 =>
        rw [ee] at P
        intro H3 ts3 tv v e3 e4 hv3 C3
        subst e3
        cases r with
        | plc k p=>exact P.elim
        | val d =>
         obtain ⟨t,rfl,rfl,rfl⟩:=hv3.er_val e4
         dsimp only at P
         by_cases hz:(T.ers acc).length < sizeLine
         case neg=>rw [if_neg hz] at P;exact P.elim
         rw [if_pos hz] at P
         obtain ⟨q1,q2⟩:=Cf.grow C3
         refine ⟨q1,by simpa [T.ers_eq] using hz,some x,ts3,acc++[t],rfl,?_,by simp,?_⟩
         ·simpa using q2
         ·simpa [T.ers_eq] using P
theorem Z35{l:List (Nat×Addr)}{n:Nat}{a:Addr}{r:ER (List RM.D)}{Q:VK}{σ:L2.St}{fr:List T}{n1:Nat}(hi:∀ j∈ix,j < n)(hj:∀ j a,(j,a)∈hd→j < n)
  (q:match Z1v n r with
   | .ok r s'=>∀ H' ts' tv v,ts'.map TL.er=s'→tv.er=r→Z0D ts' v tv→Cf R ix hd H' σ ts' (tv.tr++fr)→Q v H'
   | .ex C s'=>∀ H' ts',ts'.map TL.er=s'→Cf R ix hd H' σ ts' fr→R.EX σ (.ref (R.ad C)) none H'
   | .no=>False) (D:Addr):PostC R.q (n1::ix) (hd++[(n,a)]) fr σ D (fun H'=>Q (.ref D) H') r:=by
 cases r with
 | no=>exact q.elim
 | ex E s=>exact q.elim
 | ok l s =>
  simp only [Z1v] at q
  cases e1:Z1o (n + 1) s with
  | none=>rw [e1] at q;exact q.elim
  | some s1 =>
   rw [e1] at q
   dsimp only at q
   cases e2:Z1o n s1 with
   | none=>rw [e2] at q;exact q.elim
   | some s2 =>
    rw [e2] at q
    intro H' y ts' acc f1 f2 C
    have C1:=C.leave
    obtain ⟨ts0,x,rfl,hl,f3⟩:=Z1t e1 f1
    have C2:Cf R ix ((hd++[(n,a)])++[]) H' σ (ts0++[x]) (.nd D (.lst true) acc::fr):=by rw [Jm];exact C1
    have C3:=C2.popAny (fun j z=>by have:=hi j z;omega) (fun j b z=>by
     rcases Qe.mp z with z | z
     ·have:=hj j b z;omega
     ·simp only [Qw,Prod.mk.injEq] at z;omega)
    rw [hl] at C3
    obtain ⟨ts4,x4,e4,hl4,f4⟩:=Z1t e2 f3
    rw [e4] at C3
    have C5:=C3.popAny (fun j z=>by have:=hi j z;omega) (fun j b z=>by have:=hj j b z;omega)
    rw [hl4] at C5
    exact q H' _ (.val (.nd D (.lst true) acc)) (.ref D) f4 (by simp only [TV.er,T.er,f2]) rfl C5
theorem Z8u{n:Nat}{r:ER (List RM.D)}{Q:VK}{σ:L2.St}{fr:List T}{n1:Nat}(hi:∀ j∈ix,j < n)(hj:∀ j a,(j,a)∈hd→j < n)
  (q:match Z2r n r with
   | .ok r s'=>∀ H' ts' tv v,ts'.map TL.er=s'→tv.er=r→Z0D ts' v tv→Cf R ix hd H' σ ts' (tv.tr++fr)→Q v H'
   | .ex C s'=>∀ H' ts',ts'.map TL.er=s'→Cf R ix hd H' σ ts' fr→R.EX σ (.ref (R.ad C)) none H'
   | .no=>False) (D:Addr):PostC R.q (n1::ix) hd fr σ D (fun H'=>Q (.ref D) H') r:=by
 cases r with
 | no=>exact q.elim
 | ex E s=>exact q.elim
 | ok l s =>
  simp only [Z2r] at q
  cases e1:Z1o n s with
  | none=>rw [e1] at q;exact q.elim
  | some s1 =>
   rw [e1] at q
   intro H' y ts' acc f1 f2 C
   have C1:=C.leave
   obtain ⟨ts0,x,rfl,hl,f3⟩:=Z1t e1 f1
   have C2:Cf R ix (hd++[]) H' σ (ts0++[x]) (.nd D (.lst true) acc::fr):=by rw [Jm];exact C1
   have C3:=C2.popAny (fun j z=>by have:=hi j z;omega) (fun j b z=>by have:=hj j b z;omega)
   rw [hl] at C3
   exact q H' _ (.val (.nd D (.lst true) acc)) (.ref D) f3 (by simp only [TV.er,T.er,f2]) rfl C3
theorem Z9y{K:Qd}{f:EF}{c:Nat→BF}{e:Nat→EF}(hnd:ix.Nodup)(σ:L2.St)(H:Hp)(Q:VK)(h:lE R ix (Z19 f c e) σ H Q):tComp 1 (iSeq K (lE R ix f)) (Z1j 0) (xT R ix c) (xE R ix e) σ H Q:=by
 obtain ⟨hd,ts,fr,C,h⟩:=h
 refine ⟨hd,ts,fr,C,?_⟩
 unfold Z19 at h
 cases ef:f (ts.map TL.er) with
 | no=>rw [ef] at h;exact h
 | ex E s1=>rw [ef] at h;exact h
 | ok r s1 =>
  rw [ef] at h
  intro H1 ts1 tv v e1 e2 hv C1
  subst e1
  have hlen:(ts1.map TL.er).length=ts1.length:=by simp
  have hn:∀ j∈ix,j < ts1.length + 1:=fun j z=>Wj (C1.ixs j z)
  cases r with
  | plc k p =>
   obtain ⟨a,rfl,rfl,hp⟩:=hv.er_plc e2
   dsimp only at h
   refine ⟨a,rfl,?_⟩
   obtain ⟨w,t,s,h1,h2,h3⟩:=id hp
   have hd1:Zq (ts1.map TL.er) (.plc k p)=some s.er:=by simp only [Zq,Qa,h1,Option.map_some,TL.er,T.get_er,h2]
   have sok:=T.get_ok h2 (C1.ok w t (Qf h1))
   rw [hd1,hlen] at h
   have C2:Cf R ix (hd++[(ts1.length,a)]) H1 σ (ts1++[.bor k p a]) fr:=Cf.hide C1 hp
   have C3:=C2.enter
   rw [show (ts1++[TL.bor k p a]).length=ts1.length + 1 by simp] at C3
   cases s with
   | «at» v=>exact h.elim
   | nd b' kd ch =>
    cases h3
    cases kd with
    | lst m =>
     refine .inl ⟨⟨_,sok.1.sqL⟩,?_⟩
     refine Z2e (it:=itP false ts1.length k p) (m:=ch.length + 1) hn (fun i H τ ts fr C=>Z4q i H τ ts C) hnd C3 (fun D _=>?_) rfl
     have:=Z35 (l:=[]) (a:=a) (n1:=ts1.length + 1) C1.ixs C1.hdi h D
     simpa [TL.er,T.ers_eq,Qq] using this
    | tup =>
     refine .inr ⟨⟨_,sok.1.sqT⟩,?_⟩
     refine Z2e (it:=itP true ts1.length k p) (m:=ch.length + 1) hn (fun i H τ ts fr C=>Z4r i H τ ts C) hnd C3 (fun D _=>?_) rfl
     have:=Z35 (l:=[]) (a:=a) (n1:=ts1.length + 1) C1.ixs C1.hdi h D
     simpa [TL.er,T.ers_eq,Qq] using this
    | _=>exact h.elim
  | val d =>
   obtain ⟨t,rfl,rfl,rfl⟩:=hv.er_val e2
   dsimp only at h
   cases t with
   | «at» v=>exact h.elim
   | nd a kd ch =>
    refine ⟨a,rfl,?_⟩
    rw [hlen] at h
    have C2:Cf R ix (hd++[(ts1.length,a)]) H1 σ (ts1++[.own true (.nd a kd ch)]) fr:=Cf.push (a:=a) C1 rfl
    have C3:=C2.enter
    rw [show (ts1++[TL.own true (.nd a kd ch)]).length=ts1.length + 1 by simp] at C3
    have sok:=C1.fok.1
    cases kd with
    | lst m =>
     refine .inl ⟨⟨_,sok.1.sqL⟩,?_⟩
     refine Z2e (it:=itP false ts1.length ts1.length []) (m:=ch.length + 1) hn (fun i H τ ts fr C=>Z4q i H τ ts C) hnd C3 (fun D _=>?_) rfl
     have:=Z35 (l:=[]) (a:=a) (n1:=ts1.length + 1) C1.ixs C1.hdi h D
     simpa [TL.er,T.er,T.ers_eq,Qq] using this
    | tup =>
     refine .inr ⟨⟨_,sok.1.sqT⟩,?_⟩
     refine Z2e (it:=itP true ts1.length ts1.length []) (m:=ch.length + 1) hn (fun i H τ ts fr C=>Z4r i H τ ts C) hnd C3 (fun D _=>?_) rfl
     have:=Z35 (l:=[]) (a:=a) (n1:=ts1.length + 1) C1.ixs C1.hdi h D
     simpa [TL.er,T.er,T.ers_eq,Qq] using this
    | _=>exact h.elim
end

theorem len1{α:Type}{l:List α}(h:l.length=1):∃ a0,l=[a0]:=match l,h with | [a0],_=>⟨a0,rfl⟩
theorem len2{α:Type}{l:List α}(h:l.length=2):∃ a0 a1,l=[a0,a1]:=match l,h with | [a0,a1],_=>⟨a0,a1,rfl⟩
theorem len3{α:Type}{l:List α}(h:l.length=3):∃ a0 a1 a2,l=[a0,a1,a2]:=match l,h with | [a0,a1,a2],_=>⟨a0,a1,a2,rfl⟩
theorem len4{α:Type}{l:List α}(h:l.length=4):∃ a0 a1 a2 a3,l=[a0,a1,a2,a3]:=match l,h with | [a0,a1,a2,a3],_=>⟨a0,a1,a2,a3,rfl⟩
theorem len5{α:Type}{l:List α}(h:l.length=5):∃ a0 a1 a2 a3 a4,l=[a0,a1,a2,a3,a4]:=match l,h with | [a0,a1,a2,a3,a4],_=>⟨a0,a1,a2,a3,a4,rfl⟩

noncomputable abbrev Z0g:List D→Option D:=hI (fun _ _=>true) fun i j=>.int (i + j)
section
variable {X:Cx}
theorem Z0H:OpR X (binaryOp .Add) (oNw Z0g):=Z4Q Zbv fun _ _=>rfl
end
end RM

namespace RM
open PySem PySem.Spec PyProof.Rows L2
section
variable {s s1 s2 s3:Sd}{f g:SF}{e e':EF}{c c':BF}{a:AF}{v:V}{j k m n:Nat}{p:List Nat}{d d':D}{ds l:List D}{r r':DV}{rs:List DV}{w b:Bool}{R:SR}{C:Str}






end
end RM

namespace RM
open PySem PySem.Spec PyProof.Rows L2
noncomputable def Z23(f:EF)(c:Nat→BF)(e:Nat→EF):EF:=fun s=>match f s with
 | .ok (.val (.at (.int j))) s1=>if -(2 ^ 62)≤j∧j < 2 ^ 62 then Z2r s1.length (Z0Q (itR 0 j.toNat) s1.length (c s1.length) (e s1.length) (j.toNat + 1) 0 [] (s1++[.non])) else .no
 | .ok _ _=>.no
 | .ex C s1=>.ex C s1
 | .no=>.no
section
variable {R:RC}{ix:List Nat}{hd:List (Nat×Addr)}{X:Cx}{H H':Hp}{σ:L2.St}{ts:Ts}{fr:List T}
theorem Z5n{f:EF}{c:Nat→BF}{e:Nat→EF}(hnd:ix.Nodup)(σ:L2.St)(H:Hp)(Q:VK)(h:lE R ix (Z23 f c e) σ H Q) :
  lE R ix f σ H fun v H1=>∃ j,v=.int j∧-(2 ^ 62)≤j∧j < 2 ^ 62∧compW (Itr 0 j.toNat) 1 (Z1j 0) (xT R ix c) (xE R ix e) σ H1 Q:=by
 obtain ⟨hd,ts,fr,C,h⟩:=h
 refine ⟨hd,ts,fr,C,?_⟩
 unfold Z23 at h
 cases ef:f (ts.map TL.er) with
 | no=>rw [ef] at h;exact h
 | ex E s1=>rw [ef] at h;exact h
 | ok r s1 =>
  rw [ef] at h
  intro H1 ts1 tv v e1 e2 hv C1
  subst e1
  cases r with
  | plc k p=>exact h.elim
  | val d =>
   obtain ⟨t,rfl,rfl,rfl⟩:=hv.er_val e2
   cases t with
   | nd a k l=>exact h.elim
   | «at» u =>
    cases u with
    | int j =>
     have hlen:(ts1.map TL.er).length=ts1.length:=by simp
     simp only [T.er,cl] at h
     by_cases hj:-(2 ^ 62)≤j∧j < 2 ^ 62
     ·rw [if_pos hj,hlen] at h
      refine ⟨j,rfl,hj.1,hj.2,?_⟩
      have C2:=(C1.drop).enter
      refine Z2e (it:=itR 0 j.toNat) (m:=j.toNat + 1) C1.ixs (fun i H τ ts fr C=>Z6f i H τ ts C) hnd C2 (fun D _=>?_) rfl
      have:=Z8u (n1:=ts1.length) C1.ixs C1.hdi h D
      simpa [TL.er] using this
     ·rw [if_neg hj] at h;exact h.elim
    | _=>exact h.elim
theorem Z98{N:List Str}{scope:Scope}{tg a elt:Expr}{ifs:List Expr}{p pos rpos:Pos}{f:EF}{c:Nat→BF}{e:Nat→EF}(hc:X.calm=true)(hnd:ix.Nodup)(hgl:Gl X "range")(hm:X.mg "range"=none)(ha:PE X a (lE R ix f))(S:CompSc X 1 N scope)
  (hg:∀ cl C s H fp,PG (cxC X N scope cl C s H fp) tg (Z1j 0)) (hf:∀ cl C s H fp,PF (cxC X N scope cl C s H fp) ifs (xT R ix c)) (he:∀ cl C s H fp,PE (cxC X N scope cl C s H fp) elt (xE R ix e))
  (hst:starEach [a] X.env=[(false,eval a X.env)]:=by rfl) (hs:∀ x,foldedSetIterable (.Call (.Name "range" p) [a] [] rpos) X.env x=pure x:=by intro _;rfl) :
  PE X (.ListComp elt [⟨tg,.Call (.Name "range" p) [a] [] rpos,ifs,0⟩] scope pos) (lE R ix (Z23 f c e)):=by
 refine peM (Z7L hc (Z38 (ta:=Z1Z (lE R ix f) tNil) hgl hm (Zk ha ZX hst) hst) S hg hf he hs) fun σ H Q h=>?_
 refine Zt (fun v H1 q=>?_) (Z5n hnd σ H Q h)
 obtain ⟨j,rfl,b1,b2,q⟩:=q
 exact ⟨j,rfl,b1,b2,q⟩
end
end RM

namespace RM
open PySem PySem.Spec PyProof.Rows L2
section
variable {R:RC}{ix:List Nat}{X:Cx}{H:Hp}{σ:L2.St}
theorem Z5C{f:EF}{i j:Nat}(hix:ix[i]?=some j)(hnd:ix.Nodup)(D:Ends)(σ:L2.St)(H:Hp)(h:lS R ix (Zn f (Z5 j)) D σ H):lE R ix f σ H fun v H1=>Z1j i v σ H1 D.nx :=
 Zt (fun v H1 q=>Z7I hix hnd v σ H1 _ q) (Z8P D σ H h)
theorem Z3K{i j:Nat}{y:Str}{py spos:Pos}{N:List Str}{scope:Scope}{tg iter elt:Expr}{ifs:List Expr}{pos:Pos}{f:EF}{c:Nat→BF}{e:Nat→EF}(hc:X.calm=true)(hnd:ix.Nodup)(hi:PE X iter (lE R ix f))(S:CompSc X 1 N scope)
  (hg:∀ cl C s H fp,PG (cxC X N scope cl C s H fp) tg (Z1j 0)) (hf:∀ cl C s H fp,PF (cxC X N scope cl C s H fp) ifs (xT R ix c)) (he:∀ cl C s H fp,PE (cxC X N scope cl C s H fp) elt (xE R ix e))
  (hN:X.N.Nodup) (hiy:X.N[i]?=some y) (hx:X.env.scope.names.lookup y=some .local) (hix:ix[i]?=some j)
  (hsw:swapsWith (.ListComp elt [⟨tg,iter,ifs,0⟩] scope pos) (some (.Name y py)) spos.line X.env=pure true)
  (hs:∀ x,foldedSetIterable iter X.env x=pure x:=by intro _;rfl):PS X (.Assign [.Name y py] (.ListComp elt [⟨tg,iter,ifs,0⟩] scope pos) spos) (lS R ix (Zn (Z19 f c e) (Z5 j))) :=
 psM (Z7N hc (Z93 hi) S hg hf he hN hiy hx hsw hs) fun D σ H h=>Z9y hnd σ H _ (Z5C hix hnd D σ H h)
theorem Z9a{i j:Nat}{y:Str}{py spos:Pos}{N:List Str}{scope:Scope}{tg a elt:Expr}{ifs:List Expr}{p pos rpos:Pos}{f:EF}{c:Nat→BF}{e:Nat→EF}(hc:X.calm=true)(hnd:ix.Nodup)(hgl:Gl X "range")(hm:X.mg "range"=none)(ha:PE X a (lE R ix f))(S:CompSc X 1 N scope)
  (hg:∀ cl C s H fp,PG (cxC X N scope cl C s H fp) tg (Z1j 0)) (hf:∀ cl C s H fp,PF (cxC X N scope cl C s H fp) ifs (xT R ix c)) (he:∀ cl C s H fp,PE (cxC X N scope cl C s H fp) elt (xE R ix e))
  (hN:X.N.Nodup) (hiy:X.N[i]?=some y) (hx:X.env.scope.names.lookup y=some .local) (hix:ix[i]?=some j)
  (hsw:swapsWith (.ListComp elt [⟨tg,.Call (.Name "range" p) [a] [] rpos,ifs,0⟩] scope pos) (some (.Name y py)) spos.line X.env=pure true)
  (hst:starEach [a] X.env=[(false,eval a X.env)]:=by rfl) (hs:∀ x,foldedSetIterable (.Call (.Name "range" p) [a] [] rpos) X.env x=pure x:=by intro _;rfl) :
  PS X (.Assign [.Name y py] (.ListComp elt [⟨tg,.Call (.Name "range" p) [a] [] rpos,ifs,0⟩] scope pos) spos) (lS R ix (Zn (Z23 f c e) (Z5 j))) :=
 psM (Z7N hc (Z38 (ta:=Z1Z (lE R ix f) tNil) hgl hm (Zk ha ZX hst) hst) S hg hf he hN hiy hx hsw hs) fun D σ H h=>by
  refine Zt (fun v H1 q=>?_) (Z5n hnd σ H _ (Z5C hix hnd D σ H h))
  obtain ⟨j,rfl,b1,b2,q⟩:=q
  exact ⟨j,rfl,b1,b2,q⟩
end
end RM

namespace RM
open PySem PySem.Spec PyProof.Rows L2
section
variable {R:RC}{ix:List Nat}{hd:List (Nat×Addr)}{X:Cx}{H H1:Hp}{σ:L2.St}{ts1:Ts}{fr1:List T}
theorem set_list{k:Nat}{p:List Nat}{a2:Addr}{ch cs:List T}{u:T}(C1:Cf R ix hd H1 σ ts1 fr1)(hk:ts1[k]?=some (.own true u))(hp:u.get p=some (.nd a2 (.lst true) ch))
  (hcs:∀ c∈cs,c.own=[]∧c.ok H1∧∀ b∈c.ro,b∈roS ts1∨b∈T.ros fr1) :
  Cf R ix hd (upd H1 a2 (.lst (cs.map T.val))) σ ((ts1.set k (.own true (T.put (.nd a2 (.lst true) cs) p u))).map (Zw k p fun _=>false)) fr1:=by
 have ha2:a2∈Zd ts1:=by
  obtain ⟨c,r,K⟩:=T.ctx hp
  exact Z10.mpr ⟨u,Qf hk,K.own.mem_iff.mpr (Qg _ (by simp [T.own,NK.mut]))⟩
 have hn:T.owns cs=[]:=Wz.mpr fun a z=>by
  obtain ⟨t,ht,hz⟩:=T.mem_owns.mp z
  rw [(hcs t ht).1] at hz;cases hz
 refine Cf.write (kd:=.lst true) (kd':=.lst true) (l:=ch) (l':=cs) (fr':=fr1) (x:=T.owns ch) (o:=.lst (cs.map T.val)) (keep:=fun _=>false) C1 hk hp rfl rfl ⟨Zx,T.oks_iff.mpr fun c hc=>?_⟩ (T.oks_iff.mpr fun y hy=>?_) ?_ (fun b hb=>?_) (fun i c h _=>by cases h)
 ·refine T.keep (hcs c hc).2.1 fun b hb=>Zc ?_
  rintro rfl
  rcases hb with hb | hb
  ·rw [(hcs c hc).1] at hb;cases hb
  ·exact (C1.sep b ((hcs c hc).2.2 b hb)).1 ha2
 ·refine T.keep (T.oks_iff.mp C1.fok y hy) fun b hb=>Zc ?_
  rintro rfl
  rcases hb with hb | hb
  ·exact (Qk.mp C1.nd).2.2 b ha2 b (T.mem_owns.mpr ⟨y,hy,hb⟩) rfl
  ·exact (C1.sep b (.inr (T.mem_ros.mpr ⟨y,hy,hb⟩))).1 ha2
 ·rw [hn,Je]
  exact Jx
 ·rcases hb with hb | hb
  ·obtain ⟨c,hc,hz⟩:=T.mem_ros.mp hb
   rcases (hcs c hc).2.2 b hz with z | z
   ·exact .inr (.inr (.inl z))
   ·exact .inr (.inl z)
  ·exact .inr (.inl hb)
end
end RM

namespace RM
open PySem PySem.Spec PyProof.Rows L2
noncomputable def extGo(s1:Sd):List DV→List D→ER DV
 | .plc k p::_,[.nd (.lst true) l,.nd (.lst true) m]=>(match s1[k]? with
  | some (.own true _)=>if D.imms l=true∧D.imms m=true∧l.length + m.length≤sizeLine then .ok (.val (.at .non)) (wr s1 k p (.nd (.lst true) (l++m)) fun _=>false) else .no
  | _=>.no)
 | _,_=>.no
noncomputable def eExt(f:AF):EF:=fun s=>match f s with
 | .ok rs s1=>(match Z0i s1 rs with | some ds=>extGo s1 rs ds | none=>.no)
 | .ex C s1=>.ex C s1
 | .no=>.no
section
variable {R:RC}{ix:List Nat}{hd:List (Nat×Addr)}{X:Cx}{H H1:Hp}{σ:L2.St}{ts:Ts}{fr:List T}
theorem Z8Q{K:Qd}{H:Hp}{t:T}(h:Z1J t.er=true)(ok:t.ok H):∃ a m ch,t=.nd a (.lst m) ch∧SqL K H a (ch.map T.val):=by
 cases t with
 | «at» v=>simp [T.er,Z1J] at h
 | nd a k ch=>cases k with
  | lst m=>exact ⟨a,m,ch,rfl,ok.1.sqL⟩
  | _=>simp [T.er,Z1J] at h

noncomputable def eClr(f:EF):EF:=fun s=>match f s with
 | .ok (.plc k p) s1=>(match Zq s1 (.plc k p),s1[k]? with
  | some (.nd (.lst true) _),some (.own true _)=>.ok (.val (.at .non)) (wr s1 k p (.nd (.lst true) []) fun _=>false)
  | _,_=>.no)
 | .ok (.val (.nd (.lst true) _)) s1=>.ok (.val (.at .non)) s1
 | .ok _ _=>.no
 | .ex C s1=>.ex C s1
 | .no=>.no
end
end RM

namespace RM
open PySem PySem.Spec PyProof.Rows L2
section
variable {R:RC}{ix:List Nat}{hd:List (Nat×Addr)}{X:Cx}{H H1:Hp}{σ:L2.St}{ts:Ts}{fr:List T}
end
end RM

namespace RM
open PySem PySem.Spec PyProof.Rows L2
noncomputable def Z3i(j k:Nat)(p:List Nat)(n:D)(len:Nat)(s1:Sd):Sd:=((wr (wr s1 j [] hole fun _=>false) k p n fun _=>true).map (Zz j)).set j (.bor k (p++[len]))
section
variable {R:RC}{ix:List Nat}{hd:List (Nat×Addr)}{X:Cx}{H H1:Hp}{σ:L2.St}{ts:Ts}{fr:List T}
end
end RM

namespace RM
open PySem PySem.Spec PyProof.Rows L2
theorem two_sz{α:Type}{a b:α}:[a,b].length≤sizeLine:=by show 2≤sizeLine;decide
section
variable {X:Cx}{pins:List (Addr×Obj)}{σ:L2.St}{H:Hp}{s:Shared}{h':Heap}
theorem Z8E{t':Nat}{e it a:Addr}{o:HO}(I:Inv X pins σ H s)(k:∀ b u,b≠e→b≠it→s.heap.get? b=some u→h'.get? b=some u)(he:FpOk X pins H e)(hi:FpOk X pins H it)(hp:s.heap.objs.size≤a)(new:Z0h X.prog X.w (upd H a o) h' a o) :
  Inv X pins σ (upd H a o) { s with heap:=h',toks:=t' }:=by
 have hn:H a=none:=I.hok.fresh hp
 have nit:∀ b u,H b=some u→(b≠e)∧(b≠it):=fun b u q=>⟨fun z=>(by rw [z,he.1] at q;cases q),fun z=>(by rw [z,hi.1] at q;cases q)⟩
 have na:∀ b u,s.heap.get? b=some u→b≠a:=fun b u q=>Jl (Jc (Heap.lt_size q) hp)
 have nc:∀ {b:Addr},b∉[e,it]→b≠e∧b≠it:=fun {b} z=>by simpa using z
 refine I.step (g':=s.gens) (d':=s.drawn) (ch:=[e,it]) (fun b hb=>?_) (fun b o _ _ hc e _=>k b o (nc hc).1 (nc hc).2 e) (fun b o _ _ hc e _=>⟨o.slots,k b o (nc hc).1 (nc hc).2 e⟩) (fun b o _ q n=>by rw [Zc (na b o q)];exact n)
  (fun b o hc e=>⟨o,k b o (nc hc).1 (nc hc).2 e⟩) (fun b xs q=>by rw [Zc (Z0d q hn)];exact q) (fun b u xs q=>by rw [Zc (Z0d q hn)];exact q) (fun b ps q=>⟨#[],by rw [Zc (Z0d q hn),q];simp⟩) (fun m hm=>?_) (fun b u q=>?_) I.bare
 ·have z:b=e∨b=it:=by simpa using hb
  rcases z with rfl | rfl
  ·exact ⟨he.2.2.2.1,he.2.1,he.2.2.2.2.1,he.2.2.2.2.2⟩
  ·exact ⟨hi.2.2.2.1,hi.2.1,hi.2.2.2.2.1,hi.2.2.2.2.2⟩
 ·obtain ⟨o,es,ep,ho,r⟩:=hm
  exact ⟨o,es,ep,k _ o (Ne.symm he.2.1) (Ne.symm hi.2.1) ho,r⟩
 ·by_cases hb:b=a
  ·subst hb;rw [Zx] at q;cases q;exact new
  ·rw [Zc hb] at q
   refine (I.hok b u q).stay (fun c v hc r=>?_) (fun c r=>by rw [Zc (Z0d r hn)];exact r) fun c xs r=>by rw [Zc (Z0d r hn)];exact r
   rcases hc with z | z
   ·rw [z] at r ⊢;exact k b v (nit b u q).1 (nit b u q).2 r
   ·exact k c v (nit c _ z).1 (nit c _ z).2 r
end
noncomputable def itE(n k:Nat)(p:List Nat)(i:Nat)(s:Sd):Option (Option DV):=match itP false n k p i s with
 | some (some (.val d))=>some (some (.val (.nd .tup [.at (.int i),d])))
 | some none=>some none
 | _=>none
noncomputable def lenOf:Option D→Option Nat
 | some (.nd (.lst _) l)=>some l.length
 | _=>none
noncomputable def sForE(f:EF)(b:Sd→DV→Option Sd)(body:SF):SF:=fun s=>match f s with
 | .ok (.plc k p) s1=>(match lenOf (Zq s1 (.plc k p)) with
  | some m=>fin s1.length (Ze (itE s1.length k p) b body (m + 1) 0 (s1++[.bor k p]))
  | none=>.no)
 | .ok (.val d) s1=>(match lenOf (some d) with
  | some m=>fin s1.length (Ze (itE s1.length s1.length []) b body (m + 1) 0 (s1++[.own true d]))
  | none=>.no)
 | .ex C s1=>.ex C s1
 | .no=>.no
section
variable {K:Qd}{R:RC}{ix:List Nat}{hd hm:List (Nat×Addr)}{X:Cx}{e:Expr}{H H':Hp}{σ:L2.St}{ts:Ts}{fr:List T}{D:Ends}
theorem Z7i{e:EF}{f:SF}{s:Sd}{w:Sd→DV→Option Sd}:sForE e w f s=(match e s with
 | .ok (.plc k p) s1=>(match lenOf (Zq s1 (.plc k p)) with
  | some m=>fin s1.length (Ze (itE s1.length k p) w f (m + 1) 0 (s1++[.bor k p]))
  | none=>.no)
 | .ok (.val d) s1=>(match lenOf (some d) with
  | some m=>fin s1.length (Ze (itE s1.length s1.length []) w f (m + 1) 0 (s1++[.own true d]))
  | none=>.no)
 | .ex C s1=>.ex C s1
 | .no=>.no):=id rfl
end
end RM

namespace RM
open PySem PySem.Spec PyProof.Rows L2
theorem Z4L{t:T}{i:Int}(h:t.er=.at (.int i)):t=.at (.int i):=by
 cases t with
 | nd a k l=>cases h
 | «at» u=>cases u with
  | int j=>cases h;rfl
  | _=>cases h
section
variable {X:Cx}
noncomputable def rngD(i:Int)(n:Nat):List D:=(List.range n).map fun k:Nat=>D.at (.int (i + (k:Int)))
noncomputable def hRng:List D→Option D
 | [.at (.int i),.at (.int j)]=>if (-(2 ^ 62)≤i∧i < 2 ^ 62∧-(2 ^ 62)≤j∧j < 2 ^ 62)∧(j - i).toNat≤sizeLine then some (.nd (.lst true) (rngD i (j - i).toNat)) else none
 | _=>none
variable {R:RC}{ix:List Nat}
end
end RM

namespace RM
open PySem PySem.Spec PyProof.Rows L2
noncomputable def hPutL:List D→Option Mu
 | [_,.nd (.lst true) l,.at (.int k)]=>(ixN l.length k).map fun j=>.set j 0
 | _=>none
section
variable {R:RC}{ix:List Nat}{X:Cx}
theorem ZaC{o i value:Expr}{pos pos':Pos}{fo fi fv:EF}(ho:PE X o (lE R ix fo))(hi:PE X i (lE R ix fi))(hv:PE X value (lE R ix fv))
  (ha:∀ v,assign (.Subscript o i pos') X.env v=(do
   let ov ← holding [v] (eval o X.env)
   let iv ← holding [v,ov] (eval i X.env)
   standAt pos'
   holding [v,ov,iv] (setItem ov iv v)
   release [v,ov,iv] []):=by intro _;rfl)
  (hs:swapsWithSole [.Subscript o i pos'] value pos.line X.env=pure false:=by rfl) (hw:swappedStores [.Subscript o i pos'] value X.env=pure none:=by rfl) (h1:(assignEach [.Subscript o i pos'] X.env).map (·.2)=[assign (.Subscript o i pos') X.env]:=by rfl) :
  PS X (.Assign [.Subscript o i pos'] value pos) (lS R ix (sE (eMu 1 hPutL (Z0 fv (Z0 fo (Z0 fi Z2)))))):=psM (Z95 hv (ZbF ho hi L2.set_list ha) hs hw h1) fun D σ H h=>by
 have h1:=lA_3 (lA_mu σ H (fun _ H1=>D.nx σ H1) (lS_e D σ H h))
 refine Zt (fun v H1 q=>Zt (fun x H2 q=>Zt (fun y H3 q=>?_) q) q) h1
 obtain ⟨l,ok,hvl,a,kd,ch,op,hl,hm,hh,qq⟩:=q
 obtain ⟨tv,r,rfl,e1⟩:∃ t r,l=t::r∧r.map T.val=[x,y]:=by
  cases l with
  | nil=>cases hvl
  | cons t r=>exact ⟨t,r,rfl,(Wf.inj hvl).2⟩
 obtain ⟨td,tk,rfl,rfl,rfl⟩:=map2 e1
 cases (Wf.inj hvl).1
 cases hl
 simp only [T.ers] at hh
 unfold hPutL at hh
 split at hh
 case h_2=>cases hh
 case h_1 l k el =>
  simp only [Wf.injEq,and_true,T.er,RM.D.nd.injEq] at el
  obtain ⟨_,⟨rfl,rfl⟩,ek⟩:=el
  cases Z4L ek
  cases ej:ixN (T.ers ch).length k with
  | none=>rw [ej] at hh;cases hh
  | some j =>
   rw [ej] at hh
   cases hh
   obtain ⟨x,hx,hj,qq⟩:=qq
   cases hx
   refine ⟨a,ch.map T.val,k,j,rfl,rfl,ok.2.1.1,?_,qq _ rfl⟩
   rw [Z0V] at ej
   simpa using ej
end
section
variable {s:Sd}{e f:EF}{a:AF}{j:Nat}
theorem Z5O{c:Nat→BF}{g:Nat→EF}:Z19 f c g s=(match f s with
 | .ok (.plc k p) s1=>(match Z1K (Zq s1 (.plc k p)) with
  | some (t,m)=>Z1v s1.length (Z0Q (itP t s1.length k p) (s1.length + 1) (c (s1.length + 1)) (g (s1.length + 1)) (m + 1) 0 [] (s1++[.bor k p,.non]))
  | none=>.no)
 | .ok (.val d) s1=>(match Z1K (some d) with
  | some (t,m)=>Z1v s1.length (Z0Q (itP t s1.length s1.length []) (s1.length + 1) (c (s1.length + 1)) (g (s1.length + 1)) (m + 1) 0 [] (s1++[.own true d,.non]))
  | none=>.no)
 | .ex C s1=>.ex C s1
 | .no=>.no):=id rfl
theorem Z8k:eExt a s=(match a s with
 | .ok rs s1=>(match Z0i s1 rs with | some ds=>extGo s1 rs ds | none=>.no)
 | .ex C s1=>.ex C s1
 | .no=>.no):=id rfl
theorem Z5P{s1:Sd}{k:Nat}{p:List Nat}{rr:List DV}{l m:List D}:extGo s1 (.plc k p::rr) [.nd (.lst true) l,.nd (.lst true) m]=(match s1[k]? with
  | some (.own true _)=>if D.imms l=true∧D.imms m=true∧l.length + m.length≤sizeLine then .ok (.val (.at .non)) (wr s1 k p (.nd (.lst true) (l++m)) fun _=>false) else .no
  | _=>.no):=id rfl
end
section
variable {s:Sd}{f:EF}
theorem Z8i:eClr f s=(match f s with
 | .ok (.plc k p) s1=>(match Zq s1 (.plc k p),s1[k]? with
  | some (.nd (.lst true) _),some (.own true _)=>.ok (.val (.at .non)) (wr s1 k p (.nd (.lst true) []) fun _=>false)
  | _,_=>.no)
 | .ok (.val (.nd (.lst true) _)) s1=>.ok (.val (.at .non)) s1
 | .ok _ _=>.no
 | .ex C s1=>.ex C s1
 | .no=>.no):=id rfl
theorem Z5k{c:Nat→BF}{g:Nat→EF}:Z23 f c g s=(match f s with
 | .ok (.val (.at (.int j))) s1=>if -(2 ^ 62)≤j∧j < 2 ^ 62 then Z2r s1.length (Z0Q (itR 0 j.toNat) s1.length (c s1.length) (g s1.length) (j.toNat + 1) 0 [] (s1++[.non])) else .no
 | .ok _ _=>.no
 | .ex C s1=>.ex C s1
 | .no=>.no):=id rfl
theorem Z22{it:Nat→Sd→Option (Option DV)}{n:Nat}{c:BF}{e:EF}{P:Nat→List D→Sd→Prop}{N:Nat}
  (hs:∀ i acc s,i < N→P i acc s→∃ r s1,it i s=some (some r)∧Z5 n s r=some s1∧((∃ s2 d s3,c s1=.ok true s2∧e s2=.ok (.val d) s3∧acc.length < sizeLine∧P (i + 1) (acc++[d]) s3)∨(∃ s2,c s1=.ok false s2∧P (i + 1) acc s2)))
  (he:∀ acc s,P N acc s→it N s=some none):∀ m i acc s,i + m=N→P i acc s→∃ l s',Z0Q it n c e (m + 1) i acc s=.ok l s'∧P N l s'
 | 0,i,acc,s,hi,h=>by
  have:i=N:=by omega
  subst this
  exact ⟨acc,s,by simp only [Z0Q,he acc s h],h⟩
 | m + 1,i,acc,s,hi,h=>by
  obtain ⟨r,s1,h1,h2,h3⟩:=hs i acc s (by omega) h
  rcases h3 with ⟨s2,d,s3,h4,h5,h6,h7⟩ | ⟨s2,h4,h5⟩
  ·obtain ⟨l,s',h8,h9⟩:=Z22 hs he m (i + 1) (acc++[d]) s3 (by omega) h7
   refine ⟨l,s',?_,h9⟩
   rw [Z0Q]
   simp only [h1,h2,h4,h5,if_pos h6,h8]
  ·obtain ⟨l,s',h8,h9⟩:=Z22 hs he m (i + 1) acc s2 (by omega) h5
   refine ⟨l,s',?_,h9⟩
   rw [Z0Q]
   simp only [h1,h2,h4,h8]
end
end RM

namespace RM
open PySem PySem.Spec PyProof.Rows L2
noncomputable def eSel(n:Nat)(a:AF):EF:=fun s=>match a s with
 | .ok rs s1=>(match rs[n]? with
  | some (.val (.at (.int i)))=>(match ixN n i with | some j=>(match rs[j]? with | some r=>.ok r s1 | none=>.no) | none=>.no)
  | _=>.no)
 | .ex C s1=>.ex C s1
 | .no=>.no
theorem Z8r{n:Nat}{a:AF}{s:Sd}:eSel n a s=(match a s with
 | .ok rs s1=>(match rs[n]? with
  | some (.val (.at (.int i)))=>(match ixN n i with | some j=>(match rs[j]? with | some r=>.ok r s1 | none=>.no) | none=>.no)
  | _=>.no)
 | .ex C s1=>.ex C s1
 | .no=>.no):=id rfl
section
variable {R:RC}{ix:List Nat}{hd:List (Nat×Addr)}{X:Cx}{H H1:Hp}{σ:L2.St}{ts:Ts}{fr:List T}
end
end RM

namespace RM
open PySem PySem.Spec PyProof.Rows L2

section
variable {X:Cx}{R:RC}{ix:List Nat}{e:Expr}{pos:Pos}


noncomputable def hCut(lo:Bool):List D→Option D
 | [.nd (.lst _) l,.at (.int i)]=>if D.imms l=true∧0≤i then some (.nd (.lst true) (if lo then l.drop i.toNat else l.take i.toNat)) else none
 | _=>none
theorem ZaW{xs:List V}{i:Int}(h:0≤i):cutV xs none (some i)=xs.take i.toNat:=by
 have e:HT.sIx xs.length xs.length (some i)=min i.toNat xs.length:=if_neg (by omega)
 unfold cutV
 rw [e,show HT.sIx xs.length 0 none=0 from rfl]
 simp only [List.drop_zero,Nat.sub_zero]
 rcases Nat.le_total i.toNat xs.length with z | z
 ·rw [Nat.min_eq_left z]
 ·rw [Nat.min_eq_right z,Nf (Qu _),Nf z]
theorem Za1{lo:Bool}{x y:V}{H:Hp}{Q:VK}(h:gNw (hCut lo) [x,y] H Q):∃ (a:Addr) (ch:List T) (i:Int),x=.ref a∧y=.int i∧0≤i∧SqL X.K H a (ch.map T.val)∧∀ p,H p=none→Q (.ref p) (upd H p (.lst (if lo then (ch.map T.val).drop i.toNat else (ch.map T.val).take i.toNat))):=by
 obtain ⟨t,u,ht,hu,rfl,rfl,d,hh,q⟩:=gNw2 h
 unfold hCut at hh
 split at hh
 case h_2=>cases hh
 case h_1 m l i e =>
  simp only [Wf.injEq,and_true] at e
  obtain ⟨a,ch,rfl,rfl⟩:=Z4a e.1
  cases Z4L e.2
  split at hh
  case isFalse=>cases hh
  case isTrue hz =>
   cases hh
   refine ⟨a,ch,i,rfl,rfl,hz.2,ht.1.sqL,fun p hp=>?_⟩
   have hsub:∀ c:List T,(∀ t∈c,t∈ch)→NewOk H (upd H p (.lst (c.map T.val))) [T.nd a (.lst m) ch,.at (.int i)] (.nd p (.lst true) c):=fun c hc =>
    Z2X hp Zx (.inl rfl) (fun t z=>⟨T.oks_iff.mp ht.2 t (hc t z),Z3k hz.1 t (hc t z)⟩) fun b hb=>by
     obtain ⟨t,h1,h2⟩:=T.mem_ros.mp hb
     have:b∈T.ros ch:=T.mem_ros.mpr ⟨t,hc t h1,h2⟩
     simp [T.ros,T.ro,this]
   cases lo with
   | true =>
    have:=q (.nd p (.lst true) (ch.drop i.toNat)) _ (by simp [T.er,T.ers_eq]) (hsub _ fun t z=>Gi z)
    simpa [T.val] using this
   | false =>
    have:=q (.nd p (.lst true) (ch.take i.toNat)) _ (by simp [T.er,T.ers_eq]) (hsub _ fun t z=>Wg z)
    simpa [T.val] using this
theorem Z6y{a:Expr}{p2:Pos}{f g:EF}(he:PE X e (lE R ix f))(ha:PE X a (lE R ix g)):PE X (.Subscript e (.Slice none (some a) none p2) pos) (lE R ix (eNw (hCut false) (Z0 f (Z0 g Z2)))) :=
 peM (Z9H ZaF he Zaq (Zar ha)) fun σ H Q q=>Zt (fun x H1 z=>Zt (fun y H2 z=>by
  obtain ⟨a,ch,i,rfl,rfl,hi,hs,q⟩:=Za1 (X:=X) z
  refine ⟨i,rfl,a,_,rfl,hs,fun p hp=>?_⟩
  rw [ZaW hi]
  exact q p hp) z) (lA_2 (Z2z σ H Q q))
end
section
variable {X:Cx}
noncomputable def hCat:List D→Option D
 | [.nd (.lst true) l,.nd (.lst true) m]=>if D.imms l=true∧D.imms m=true∧l.length + m.length≤sizeLine then some (.nd (.lst true) (l++m)) else none
 | _=>none
end
end RM

namespace RM
open PySem PySem.Spec PyProof.Rows L2
noncomputable def eAnd(f g:EF):EF:=fun s=>match f s with
 | .ok (.val (.at (.bl b))) s1=>if b=true then g s1 else .ok (.val (.at (.bl false))) s1
 | .ok _ _=>.no
 | .ex C s1=>.ex C s1
 | .no=>.no
theorem Z7f{f g:EF}{s:Sd}:eAnd f g s=(match f s with
 | .ok (.val (.at (.bl b))) s1=>if b=true then g s1 else .ok (.val (.at (.bl false))) s1
 | .ok _ _=>.no
 | .ex C s1=>.ex C s1
 | .no=>.no):=id rfl
section
variable {X:Cx}{R:RC}{ix:List Nat}{a b:Expr}{rest:List Expr}{pos:Pos}
theorem Zbg{f g:EF}(σ:L2.St)(H:Hp)(Q:VK)(h:lE R ix (eAnd f g) σ H Q):tAndV (lE R ix f) (lE R ix g) σ H Q:=by
 obtain ⟨hd,ts,fr,C,h⟩:=h
 refine ⟨hd,ts,fr,C,?_⟩
 unfold eAnd at h
 cases ef:f (ts.map TL.er) with
 | no=>rw [ef] at h;exact h
 | ex E s1=>rw [ef] at h;exact h
 | ok r s1 =>
  rw [ef] at h
  intro H1 ts1 tv v e1 e2 hv C1
  subst e1
  cases r with
  | plc _ _=>exact h.elim
  | val d =>
   obtain ⟨t,rfl,rfl,rfl⟩:=hv.er_val e2
   cases t with
   | nd a k l=>exact h.elim
   | «at» u =>
    cases u with
    | bl c =>
     refine ⟨c,rfl,?_⟩
     simp only [T.er,cl] at h
     cases c with
     | true=>rw [if_pos rfl] at h ⊢;exact ⟨hd,ts1,fr,C1.drop,h⟩
     | false=>rw [if_neg Qp] at h ⊢;exact h H1 ts1 (.val (.at (.bl false))) (.bl false) rfl rfl rfl (C1.drop.at _)
    | _=>exact h.elim
theorem Zaw{f:EF}(h:PE X a (lE R ix f)):PE X (.BoolOp .And [a] pos) (lE R ix f):=Z4U h
theorem ZbL{f g:EF}(ha:PE X a (lE R ix f))(hb:PE X (.BoolOp .And (b::rest) pos) (lE R ix g)):PE X (.BoolOp .And (a::b::rest) pos) (lE R ix (eAnd f g)):=peM (Z4T ha hb) Zbg
end
end RM

namespace RM
open PySem PySem.Spec PyProof.Rows L2
theorem Z8c{t:T}{m:Bool}{ks:List Key}{l:List D}(h:t.er=.nd (.dic m ks) l):∃ a ch,t=.nd a (.dic m ks) ch∧l=T.ers ch:=by
 cases t with
 | «at» v=>cases h
 | nd a k ch=>cases h;exact ⟨a,ch,rfl,rfl⟩
section
variable {X:Cx}{R:RC}{ix:List Nat}{H:Hp}
noncomputable def hDict:List D→Option D
 | [.nd (.dic _ ks) l]=>if D.imms l=true then some (.nd (.dic true ks) l) else none
 | _=>none
theorem Z53:Z0f X (.type "dict") (gNw hDict):=fun pins s σ H vs us Q I r q=>by
 obtain ⟨l,ok,hv,d,hh,q⟩:=q
 unfold hDict at hh
 split at hh
 case h_2=>cases hh
 case h_1 m ks l' e =>
  obtain ⟨t,rfl,e1⟩:=ers1 e
  obtain ⟨a,ch,rfl,rfl⟩:=Z8c e1
  subst hv
  split at hh
  case isFalse=>cases hh
  case isTrue hz =>
   cases hh
   obtain ⟨u,rfl,ru⟩:=vals1 r
   cases ru
   obtain ⟨h1,h2,h3⟩:=ok.1.1
   refine Z9t I (.inl h3) fun p s' hp I'=>⟨.ref p,_,I',rfl,q (.nd p (.dic true ks) ch) _ rfl (Z2X hp ⟨h1,h2,Zx⟩ (.inl rfl) (fun t ht=>⟨T.oks_iff.mp ok.1.2 t ht,Z3k hz t ht⟩) fun b hb=>?_)⟩
   simp [T.ros,T.ro,hb]

noncomputable def Z0Y:List D→Option (List V)
 | []=>some []
 | .at v::r=>if Z0j v=true then (match Z0Y r with | some vs=>some (v::vs) | none=>none) else none
 | _=>none
theorem Z4C:∀ {l:List T} {vs:List V},Z0Y (T.ers l)=some vs→l.map T.val=vs∧vs.all Z0j=true
 | [],vs,h=>by cases h;exact ⟨rfl,rfl⟩
 | t::l,vs,h=>by
  simp only [T.ers] at h
  unfold Z0Y at h
  split at h
  case h_1 e=>cases e
  case h_3=>cases h
  case h_2 v r e =>
   simp only [Wf.injEq] at e
   split at h
   case isFalse=>cases h
   case isTrue hf =>
    rw [← e.2] at h
    cases en:Z0Y (T.ers l) with
    | none=>rw [en] at h;cases h
    | some ms =>
     rw [en] at h;cases h
     cases Z1a e.1 hf
     obtain ⟨h1,h2⟩:=Z4C en
     exact ⟨by rw [Ql,h1];rfl,by rw [Nu,hf,h2];rfl⟩
theorem Z3c:∀ ns:List Int,Z0Y (ns.map fun i=>D.at (.int i))=some (ns.map V.int)
 | []=>rfl
 | n::ns=>by simp only [Ql,Z0Y,Z3c ns];rfl
theorem Z56(x:Int):∀ ns:List Int,inV (.int x) (ns.map V.int)=decide (x∈ns)
 | []=>rfl
 | n::ns=>by
  have ih:=Z56 x ns
  unfold inV at *
  rw [Ql,Ni,ih]
  by_cases h:n=x
  ·subst h;simp [eqV]
  ·have h':¬ x=n:=fun e=>h e.symm
   simp [eqV,h,h']
noncomputable def hIn(neg:Bool):List D→Option D
 | [.at x,.nd (.lst _) l]=>if Z0j x=true then (match Z0Y l with | some vs=>some (.at (.bl (if neg then !inV x vs else inV x vs))) | none=>none) else none
 | [.at x,.nd .tup l]=>if Z0j x=true then (match Z0Y l with | some vs=>some (.at (.bl (if neg then !inV x vs else inV x vs))) | none=>none) else none
 | _=>none
theorem Z65{neg:Bool}{t u:T}{d:D}(ht:t.ok H)(hu:u.ok H)(h:hIn neg [t.er,u.er]=some d):∃ x p vs,t=.at x∧u.val=.ref p∧(SqL X.K H p vs∨SqT X.K H p vs)∧Z0j x=true∧vs.all Z0j=true∧d=.at (.bl (if neg then !inV x vs else inV x vs)):=by
 unfold hIn at h
 split at h
 case h_3=>cases h
 case h_1 x m l e =>
  simp only [Wf.injEq,and_true] at e
  obtain ⟨a,ch,rfl,rfl⟩:=Z4a e.2
  split at h
  case isFalse=>cases h
  case isTrue hf =>
   cases en:Z0Y (T.ers ch) with
   | none=>rw [en] at h;cases h
   | some vs =>
    rw [en] at h;cases h
    obtain ⟨h1,h2⟩:=Z4C en
    exact ⟨x,a,vs,Z1a e.1 hf,rfl,.inl (by rw [← h1];exact hu.1.sqL),hf,h2,rfl⟩
 case h_2 x l e =>
  simp only [Wf.injEq,and_true] at e
  obtain ⟨a,ch,rfl,rfl⟩:=ZbT e.2
  split at h
  case isFalse=>cases h
  case isTrue hf =>
   cases en:Z0Y (T.ers ch) with
   | none=>rw [en] at h;cases h
   | some vs =>
    rw [en] at h;cases h
    obtain ⟨h1,h2⟩:=Z4C en
    exact ⟨x,a,vs,Z1a e.1 hf,rfl,.inr (by rw [← h1];exact hu.1.sqT),hf,h2,rfl⟩
theorem on_in:OpR X (compareOp .In) (oNw (hIn false)):=opM Z8V fun x y H Q q=>by
 obtain ⟨t,u,ht,hu,rfl,rfl,d,hh,q⟩:=gNw2 q
 obtain ⟨x,p,vs,rfl,e1,h1,h2,h3,rfl⟩:=Z65 (X:=X) ht hu hh
 exact ⟨p,vs,e1,h1,h2,h3,q (.at (.bl _)) H rfl (.atom _)⟩
theorem Z3I:OpR X (compareOp .NotIn) (oNw (hIn true)):=opM Z6r fun x y H Q q=>by
 obtain ⟨t,u,ht,hu,rfl,rfl,d,hh,q⟩:=gNw2 q
 obtain ⟨x,p,vs,rfl,e1,h1,h2,h3,rfl⟩:=Z65 (X:=X) ht hu hh
 exact ⟨p,vs,e1,h1,h2,h3,q (.at (.bl _)) H rfl (.atom _)⟩
end
end RM

namespace RM
open PySem PySem.Spec PyProof.Rows L2
noncomputable def fzS(j:Nat)(d:D)(s:Sd):Sd:=((wr s j [] hole fun _=>false).map (Zz j)).set j (.own true d.fz)
noncomputable def sFz(j:Nat)(f:SF):SF:=fun s=>match s[j]? with
 | some (.own true d)=>if d.imm=true then f s else f (fzS j d s)
 | _=>.no
theorem ev_fz{j:Nat}{f:SF}{s:Sd}:sFz j f s=(match s[j]? with
 | some (.own true d)=>if d.imm=true then f s else f (fzS j d s)
 | _=>.no):=id rfl
section
variable {R:RC}{ix:List Nat}{hd:List (Nat×Addr)}{X:Cx}{H:Hp}{σ:L2.St}{ts:Ts}{fr:List T}
end
end RM

namespace RM
open PySem PySem.Spec PyProof.Rows L2
theorem Z7H:∀ {kvs:List (Key×V)} {vs:List (Key×Value)},KV kvs vs→Vals (kvs.map (·.2)) (vs.map (·.2))
 | _,_,.nil=>.nil
 | _,_,.cons h r=>.cons h.2 (Z7H r)
theorem Z7T{α β:Type}:∀ {l:List α} {m:List β},l.length=m.length→(l.zip m).map (·.2)=m
 | [],[],_=>rfl
 | _::_,_::_,h=>by simp only [List.zip_cons_cons,Ql];rw [Z7T (by simpa using h)]
theorem NewOk.pre{H H':Hp}{l:List T}{t:T}{p:Addr}{o:HO}(hp:H p=none)(N:NewOk (upd H p o) H' l t):NewOk H H' l t:=by
 have back:∀ a,upd H p o a=none→H a=none:=fun a z=>by
  by_cases e:a=p
  ·subst e;exact hp
  ·rwa [Zc e] at z
 refine ⟨N.ok,N.nd,fun a z=>back a (N.own a z),fun a z=>(N.ro a z).imp (back a) id,N.sep,fun a z=>?_⟩
 have e:a≠p:=by rintro rfl;exact z hp
 rw [N.keep a (by rw [Zc e];exact z),Zc e]
section
variable {X:Cx}
theorem Z8T:MtR X "dict.values" (fun x xs H Q=>∃ a kvs,x=.ref a∧xs=[]∧H a=some (.dK kvs)∧∀ p,H p=none→Q (.ref p) (upd H p (.ext fun h=>h.IsValuesView p a))):=by
 intro pins s σ H x xs v us Q I rx r h
 obtain ⟨a,kvs,rfl,rfl,ha,q⟩:=h
 cases r
 cases rx
 obtain ⟨z,hd,vs,rel,dd⟩:=Z2f I.hok (.inl ha)
 refine call_meetsIn PySem.F.slot_dict_values dd.typeIs PySem.F.entry_dict_values (PySem.F.args_dict_values_1 _) (meets_dict_values (Z0a X.prog X.w) a hd) ⟨⟨vs,dd⟩,?_⟩
 refine ⟨.ref s.heap.objs.size,_,I.laid (t':=s.toks) (fun b o e=>Heap.get?_push_of_some _ e) (Qu _) ?_,rfl,q _ (I.hok.fresh (Qu _))⟩
 refine ⟨⟨_,Heap.get?_push_size _ rfl,rfl,rfl⟩,⟨_,Heap.get?_push_size _ rfl⟩,fun h1 h2 ⟨o,e,x⟩ k=>⟨o,k o e,x⟩⟩
theorem Z52(hc:X.calm=true):Z0f X (.type "list") (fun xs H Q=>∃ (p a:Addr) (kvs:List (Key×V)),xs=[.ref p]∧H p=some (.ext fun h=>h.IsValuesView p a)∧H a=some (.dK kvs)∧∀ l,H l=none→Q (.ref l) (upd H l (.lst (kvs.map (·.2))))):=by
 intro pins s σ H xs us Q I r h
 obtain ⟨p,a,kvs,rfl,hp,ha,q⟩:=h
 obtain ⟨u,rfl,rx⟩:=vals1 r
 cases rx
 obtain ⟨z,hd,vs,rel,dd⟩:=Z2f I.hok (.inl ha)
 obtain ⟨ep,hat⟩:=dd.dictAt
 have hvw:s.heap.IsValuesView p a:=(I.hok p _ hp).1
 refine PySem.W.kdl_call (PySem.W.kdl_values (knd:=Z0a X.prog X.w) (kvs:=vs) (ep:=ep)) (I.ok.hd hc) ⟨hvw,hat⟩ (by rw [← rel.length];exact z) fun h' tk acc' c' kp e' hi=>?_
 refine ⟨.ref s.heap.objs.size,_,I.laid (t':=tk) kp (Qu _) (show Z0h X.prog X.w _ h' _ (.lst (kvs.map (·.2))) from ⟨by simpa using z,acc'.toList,c',?_,e'⟩),rfl,q _ (I.hok.fresh (Qu _))⟩
 have e2:=PySem.W.kdl_vals_eq (kvs:=vs) acc'.toList (by rw [Array.length_toList];exact hi.1) fun j v e=>hi.2 j v (by rw [← Array.getElem?_toList];exact e)
 rw [e2]
 exact Z7H rel
noncomputable def hVals:List D→Option D
 | [.nd (.dic _ ks) l]=>if D.imms l=true then some (.nd (.lst true) l) else none
 | _=>none
variable {R:RC}{ix:List Nat}
theorem ZaA{o:Expr}{fo:EF}{p apos cpos pos:Pos}(hc:X.calm=true)(hl:Gl X "list")(hml:X.mg "list"=none)(ho:PE X o (lE R ix fo))
  (hbase:attributeBase o "values" X.env (eval o X.env)=eval o X.env:=by rfl) (hline:(apos.endLine == cpos.line)=true:=by rfl)
  (hst3:starEach [Expr.Call (.Attribute o "values" apos) [] [] cpos] X.env=(false,eval (.Call (.Attribute o "values" apos) [] [] cpos) X.env)::starEach [] X.env:=by rfl) :
  PE X (.Call (.Name "list" p) [.Call (.Attribute o "values" apos) [] [] cpos] [] pos) (lE R ix (eNw hVals (Z0 fo Z2))) :=
 peM (Z5q (Z52 hc) hl hml boot_list (Zk (Z8Y PySem.F.plainAttrs_dict PySem.F.slot_dict_values PySem.F.type_dict_values Z8T ho hbase hline) ZX hst3) (he:=hst3)) fun σ H Q q=>by
 have h:=Z2z σ H Q q
 have h:=lA_1 h
 refine Zt (fun x H1 h=>?_) h
 obtain ⟨l,ok,hv,d,hh,q⟩:=h
 unfold hVals at hh
 split at hh
 case h_2=>cases hh
 case h_1 m ks l' el =>
  obtain ⟨t,rfl,e1⟩:=ers1 el
  obtain ⟨a,ch,rfl,rfl⟩:=Z8c e1
  split at hh
  case isFalse=>cases hh
  case isTrue hz =>
   cases hh
   simp only [Ql,Wo,T.val,Wf.injEq,and_true] at hv
   subst hv
   obtain ⟨h1,h2,h3⟩:=ok.1.1
   refine ⟨.inr (.inr (.inl ⟨rfl,.inl ⟨_,h3⟩⟩)),a,_,rfl,rfl,h3,fun p hp=>⟨p,a,ks.zip (ch.map T.val),rfl,Zx,?_,fun l' hl'=>?_⟩⟩
   ·rw [Zc (by rintro rfl;rw [h3] at hp;cases hp)];exact h3
   ·rw [Z7T h1]
    refine q (.nd l' (.lst true) ch) _ rfl (NewOk.pre hp (Z2X hl' Zx (.inl rfl) (fun t ht=>⟨T.keep (T.oks_iff.mp ok.1.2 t ht) fun b hb=>Zc ?_,Z3k hz t ht⟩) fun b hb=>?_))
    ·rintro rfl
     exact T.there (T.oks_iff.mp ok.1.2 t ht) hb hp
    ·simp [T.ros,T.ro,hb]
end
end RM

namespace RM
open PySem PySem.Spec PyProof.Rows L2
noncomputable def asL:D→Option (List D)
 | .nd (.lst true) l=>some l
 | _=>none
noncomputable def asI:D→Option Int
 | .at (.int i)=>some i
 | _=>none
theorem Z6Y{d:D}{l:List D}(h:asL d=some l):d=.nd (.lst true) l:=by
 unfold asL at h
 split at h
 ·cases h;rfl
 ·cases h
theorem Z9Y{d:D}{i:Int}(h:asI d=some i):d=.at (.int i):=by
 unfold asI at h
 split at h
 ·cases h;rfl
 ·cases h
noncomputable def insR(s1:Sd)(k:Nat)(p:List Nat)(x:D)(l:List D)(i:Int):ER DV :=
 if (0≤i∧i < 4611686018427387904)∧l.length < sizeLine then .ok (.val (.at .non)) (wr s1 k p (.nd (.lst true) (l.take i.toNat++x::l.drop i.toNat)) fun _=>false) else .no
noncomputable def insQ(s1:Sd)(k:Nat)(p:List Nat)(x:D):List D→ER DV
 | [d0,d1,_]=>(match asL d0,asI d1 with | some l,some i=>insR s1 k p x l i | _,_=>.no)
 | _=>.no
noncomputable def ownW:Option DL→Bool
 | some (.own true _)=>true
 | _=>false
theorem Z9F{o:Option DL}(h:ownW o=true):∃ u,o=some (.own true u):=by
 unfold ownW at h
 split at h
 ·exact ⟨_,rfl⟩
 ·cases h
noncomputable def insGo(s1:Sd)(ds:List D):List DV→ER DV
 | [.plc k p,_,.val x]=>if ownW s1[k]?=true then insQ s1 k p x ds else .no
 | _=>.no
noncomputable def eIns(f:AF):EF:=fun s=>match f s with
 | .ok rs s1=>(match Z0i s1 rs with | some ds=>insGo s1 ds rs | none=>.no)
 | .ex C s1=>.ex C s1
 | .no=>.no
theorem Za7{s1:Sd}{rs:List DV}{ds:List D}:insGo s1 ds rs=.no∨∃ k p r1 x l i dx u,rs=[.plc k p,r1,.val x]∧ds=[.nd (.lst true) l,.at (.int i),dx]∧s1[k]?=some (.own true u)∧(0≤i∧i < 4611686018427387904)∧l.length < sizeLine∧insGo s1 ds rs=.ok (.val (.at .non)) (wr s1 k p (.nd (.lst true) (l.take i.toNat++x::l.drop i.toNat)) fun _=>false):=by
 cases e:insGo s1 ds rs with
 | no=>exact .inl rfl
 | _ =>
  right
  have e0:=e
  unfold insGo at e
  split at e
  case h_2=>cases e
  case h_1 k p r1 x =>
   by_cases hw:ownW s1[k]?=true
   case neg=>rw [if_neg hw] at e;cases e
   rw [if_pos hw] at e
   obtain ⟨u,hu⟩:=Z9F hw
   unfold insQ at e
   split at e
   case h_2=>cases e
   case h_1 d0 d1 dx =>
    split at e
    case h_2=>cases e
    case h_1 l i h1 h2 =>
     unfold insR at e
     by_cases hz:(0≤i∧i < 4611686018427387904)∧l.length < sizeLine
     case neg=>rw [if_neg hz] at e;cases e
     rw [if_pos hz] at e
     exact ⟨k,p,r1,x,l,i,dx,u,rfl,by rw [Z6Y h1,Z9Y h2],hu,hz.1,hz.2,by rw [← e]⟩
section
variable {R:RC}{ix:List Nat}{hd:List (Nat×Addr)}{X:Cx}{H H1:Hp}{σ:L2.St}{ts1:Ts}{fr:List T}
theorem Zb8{k j:Nat}{p:List Nat}{a2:Addr}{ch:List T}{u t:T}{m:List T}(C1:Cf R ix hd H1 σ ts1 (t::fr))(hk:ts1[k]?=some (.own true u))(hp:u.get p=some (.nd a2 (.lst true) ch)) :
  Cf R ix hd (upd H1 a2 (.lst ((ch.take j++t::ch.drop j).map T.val))) σ ((ts1.set k (.own true (T.put (.nd a2 (.lst true) (ch.take j++t::ch.drop j)) p u))).map (Zw k p fun _=>false)) fr:=by
 have hok:(T.nd a2 (.lst true) ch).ok H1:=T.get_ok hp (C1.ok true u (Qf hk))
 have ha2:a2∈Zd ts1:=by
  obtain ⟨c,r,K⟩:=T.ctx hp
  exact Z10.mpr ⟨u,Qf hk,K.own.mem_iff.mpr (Qg _ (by simp [T.own,NK.mut]))⟩
 have stay:∀ (y:T),y∈t::fr→y.ok (upd H1 a2 (.lst ((ch.take j++t::ch.drop j).map T.val))):=fun y hy=>T.keep (T.oks_iff.mp C1.fok y hy) fun b hb=>Zc (by
  rintro rfl
  rcases hb with hb | hb
  ·have:=(Qk.mp C1.nd).2.2 b ha2 b (T.mem_owns.mpr ⟨y,hy,hb⟩)
   exact this rfl
  ·exact (C1.sep b (.inr (T.mem_ros.mpr ⟨y,hy,hb⟩))).1 ha2)
 have kid:∀ (y:T),y∈ch→y.ok (upd H1 a2 (.lst ((ch.take j++t::ch.drop j).map T.val))):=fun y hy=>T.keep (T.oks_iff.mp hok.2 y hy) fun b hb=>Zc (by
  rintro rfl
  obtain ⟨c,r,K⟩:=T.ctx hp
  rcases hb with hb | hb
  ·have n1:=(Qk.mp C1.nd).1
   obtain ⟨x1,z1,o1,_⟩:=Z0Z (f:=TL.own1) hk
   unfold Zd at n1
   rw [o1] at n1
   have n2:=(Qk.mp ((Qk.mp n1).2.1)).1
   have n3:=(Qk.mp (K.own.nodup_iff.mp n2)).2.1
   simp only [T.own,NK.mut,if_true,Wl,Ji] at n3
   exact n3.1 (T.mem_owns.mpr ⟨y,hy,hb⟩)
  ·refine (C1.sep b (.inl (Z0W.mpr ⟨true,u,Qf hk,K.ro.mem_iff.mpr (Qg _ ?_)⟩))).1 ha2
   simp only [T.ro,NK.mut,if_true,Je]
   exact T.mem_ros.mpr ⟨y,hy,hb⟩)
 have memc:∀ y,y∈ch.take j++t::ch.drop j→y∈ch∨y=t:=fun y hy=>by
  rcases Qe.mp hy with z | z
  ·exact .inl (Wg z)
  ·rcases Qz.mp z with z | z
   ·exact .inr z
   ·exact .inl (Gi z)
 refine Cf.write (kd:=.lst true) (kd':=.lst true) (l:=ch) (l':=ch.take j++t::ch.drop j) (fr':=fr) (x:=[]) (o:=.lst ((ch.take j++t::ch.drop j).map T.val)) (keep:=fun _=>false) C1 hk hp rfl rfl
  ⟨Zx,T.oks_iff.mpr fun c hc=>?_⟩ (T.oks_iff.mpr fun y hy=>stay y (Qv _ hy)) ?_ (fun b hb=>?_) (fun i c h _=>by cases h)
 ·rcases memc c hc with z | rfl
  ·exact kid c z
  ·exact stay c Qy
 ·have e:T.owns ch=T.owns (ch.take j)++T.owns (ch.drop j):=by rw [← T.owns_app,Gf]
  rw [T.owns_app,e]
  refine Qx.mpr fun b=>?_
  simp only [T.owns,Jj,Gb]
  omega
 ·rcases hb with hb | hb
  ·obtain ⟨c,hc,hz⟩:=T.mem_ros.mp hb
   rcases memc c hc with z | rfl
   ·exact .inl (T.mem_ros.mpr ⟨c,z,hz⟩)
   ·exact .inr (.inl (T.mem_ros.mpr ⟨c,Qy,hz⟩))
  ·exact .inr (.inl (by rw [T.ros_cons];exact Qg _ hb))
theorem Zbf{f:AF}(σ:L2.St)(H:Hp)(Q:VK)(q:lE R ix (eIns f) σ H Q):lA R ix f σ H fun vs H1=>∃ a i y xs,vs=[.ref a,.int i,y]∧H1 a=some (.lst xs)∧0≤i∧i < 2 ^ 62∧xs.length < sizeLine∧Q .non (upd H1 a (.lst (xs.take i.toNat++y::xs.drop i.toNat))):=by
 obtain ⟨hd,ts,fr,C,q⟩:=q
 refine ⟨hd,ts,fr,C,?_⟩
 unfold eIns at q
 cases ef:f (ts.map TL.er) with
 | no=>rw [ef] at q;exact q
 | ex E s1=>rw [ef] at q;exact q
 | ok rs s1 =>
  rw [ef] at q
  intro H1 ts1 tvs vs e1 e2 hv C1
  subst e1 e2
  dsimp only at q
  cases ed:Z0i (ts1.map TL.er) (tvs.map TV.er) with
  | none=>rw [ed] at q;exact q.elim
  | some ds =>
   rw [ed] at q
   dsimp only at q
   rcases Za7 (s1:=ts1.map TL.er) (rs:=tvs.map TV.er) (ds:=ds) with z | ⟨k,p,r1,x,l,i,dx,u,er,rfl,hk,hi,hz,ez⟩
   ·rw [z] at q;exact q.elim
   ·rw [ez] at q
    obtain ⟨lt,l1,l2,l3,l4,l5⟩:=Z45 C1 hv (T.oks_app.mp C1.fok).1 ed
    obtain ⟨tv0,tv1,tv2,rfl,f0,f1,f2⟩:=map3 er
    rw [T.ers_eq] at l1
    obtain ⟨t0,t1,t2,rfl,g0,g1,g2⟩:=map3 l1
    cases tv0 with
    | val t=>simp [TV.er] at f0
    | plc k0 p0 a0 =>
     simp only [TV.er,DV.plc.injEq] at f0
     obtain ⟨rfl,rfl⟩:=f0
     cases tv2 with
     | plc _ _ _=>simp [TV.er] at f2
     | val tx =>
      simp only [TV.er,DV.val.injEq] at f2
      subst f2
      rcases l5 0 _ t0 rfl rfl with z | ⟨k',p',a',w,u',z,hk',hp'⟩
      ·cases z
      ·cases z
       have hz2:t2=tx:=by
        rcases l5 2 _ t2 rfl rfl with z | ⟨_,_,_,_,_,z,_⟩
        ·cases z;rfl
        ·cases z
       subst hz2
       rw [Qa,hk'] at hk
       simp only [Option.map_some,TL.er,Option.some.injEq,DL.own.injEq] at hk
       obtain ⟨rfl,rfl⟩:=hk
       obtain ⟨a,ch,rfl,rfl⟩:=Z4a g0
       cases Z4L g1
       refine ⟨a,i,t2.val,ch.map T.val,by rw [← l2];rfl,l3.1.1,hi.1,hi.2,by simpa [Z0V] using hz,?_⟩
       have C2:Cf R ix hd H1 σ ts1 (t2::fr):=by
        cases tv1 with
        | plc _ _ _=>exact C1
        | val t9=>exact Cf.drop (t:=t9) C1
       have W:=Zb8 (j:=i.toNat) (m:=[]) C2 hk' hp'
       rw [Qt,Ql,Gh,List.map_drop] at W
       refine q _ _ (.val (.at .non)) .non ?_ rfl rfl (W.at .non)
       rw [Z2A hk']
       simp only [T.er,T.ers_eq,Qt,Ql,Gh,List.map_drop]
theorem Z8S:MtM X "list.insert" (fun x vs H Q=>∃ l xs i y,x=.ref l∧vs=[.int i,y]∧H l=some (.lst xs)∧0≤i∧i < 2 ^ 62∧xs.length < sizeLine∧Q .non (upd H l (.lst (xs.take i.toNat++y::xs.drop i.toNat)))):=by
 intro pins s σ H x vs v us Q I rx rv h
 obtain ⟨l,xs,i,y,rfl,rfl,hH,h1,h2,hz,q⟩:=h
 cases rx
 cases rv with
 | cons r1 rv =>
  obtain ⟨t,rfl⟩:=r1
  obtain ⟨u,rfl,ru⟩:=vals1 rv
  obtain ⟨z,its,n,r,hl,e⟩:=I.lstM hH
  refine call_meets F.slot_list_insert ⟨_,e,rfl⟩ F.entry_list_insert (F.args_list_insert_3 _ _ _)
   (AutoSeq1.list_insert_list_int_val_1 l its.toArray n i t u (by rw [fitsIndex_both (by omega) (by omega)];exact Qp) (by rw [Jg];omega)) ⟨e,?_⟩
  refine ⟨.non,_,I.lset (its':=its.take i.toNat++u::its.drop i.toNat) hH e ?_ ((r.take _).append (.cons ru (r.drop _))) ?_,rfl,q⟩
  ·have hi:¬ i < 0:=by omega
   simp only [if_neg hi,Jg]
   apply Array.ext'
   rcases Nat.le_total i.toNat its.length with z | z
   ·rw [Nat.min_eq_left z];simp;exact Nf (by simp)
   ·rw [Nat.min_eq_right z];simp [Nf z,List.drop_of_length_le z]
  ·simp only [Ja,Jk,Jv,Qaa];omega
theorem ZbM{o e e2:Expr}{apos cpos:Pos}{fo fe fe2:EF}(ho:PE X o (lE R ix fo))(he:PE X e (lE R ix fe))(he2:PE X e2 (lE R ix fe2))(hbase:attributeBase o "insert" X.env (eval o X.env)=eval o X.env:=by rfl)
  (hfew:((backTo cpos (starEach [e,e2] X.env)).all (fun x=>!x.1) && (backToKw cpos (keywordEach [] X.env)).all (fun x=>x.1.isSome) && decide ([e,e2].length + ([]:List Keyword).length + (if ([]:List Keyword).isEmpty then 0 else 1) < 30))=true:=by rfl)
  (hline:(apos.endLine == cpos.line)=true:=by rfl) (hs:starEach [e,e2] X.env=(false,eval e X.env)::starEach [e2] X.env:=by rfl) (hs2:starEach [e2] X.env=(false,eval e2 X.env)::starEach [] X.env:=by rfl) (hplain:(backTo cpos (starEach [e2] X.env)).any (·.1)=false:=by rfl) :
  PE X (.Call (.Attribute o "insert" apos) [e,e2] [] cpos) (lE R ix (eIns (Z0 (Z1N Z1J fo) (Z0 fe (Z0 fe2 Z2))))) :=
 peM (pe_bm PySem.F.plainAttrs_list PySem.F.slot_list_insert PySem.F.type_list_insert Z8S ho (Zk he (Zk he2 ZX hs2) hs) hbase hfew hline hs hplain) fun σ H Q q=>by
  have q1:=lA_3 (Zbf σ H Q q)
  refine Zt (fun x H1 q=>?_) (Z6h q1)
  obtain ⟨⟨t0,rfl,t2,t3⟩,q⟩:=q
  obtain ⟨a,m,ch,rfl,hD⟩:=Z8Q (K:=X.K) t3 t2
  refine ⟨.inl ⟨rfl,_,hD⟩,Zt (fun y H2 q=>Zt (fun z H3 q=>?_) q) q⟩
  obtain ⟨a',i,y',xs,ev,h1,h2,h3,hz,qq⟩:=q
  simp only [Wf.injEq,and_true] at ev
  exact ⟨a',xs,i,y',ev.1,by rw [ev.2.1,ev.2.2],h1,h2,h3,hz,qq⟩
theorem Z8m{f:AF}{s:Sd}:eIns f s=(match f s with
 | .ok rs s1=>(match Z0i s1 rs with | some ds=>insGo s1 ds rs | none=>.no)
 | .ex C s1=>.ex C s1
 | .no=>.no):=id rfl
theorem Z5R{s1:Sd}{k:Nat}{p:List Nat}{r x dx:_}{l:List D}{i:Int}:insGo s1 [.nd (.lst true) l,.at (.int i),dx] [.plc k p,r,.val x]=if ownW s1[k]?=true then insR s1 k p x l i else .no:=id rfl
end
end RM

namespace RM
open PySem PySem.Spec PyProof.Rows L2
theorem Z9L{α:Type}(xs:List α):∀ n,n≤xs.length→((List.range n).map fun k=>n - 1 - k).filterMap (fun j=>xs[j]?)=(xs.take n).reverse:=by
 intro n
 induction n with
 | zero=>intro _;simp
 | succ n ih =>
  intro h
  rw [Qah,Ql,Jp]
  have e:(fun k=>n + 1 - 1 - k) ∘ Nat.succ=fun k=>n - 1 - k:=by funext k;simp only [Function.comp];omega
  rw [e,Jw]
  have h1:xs[n + 1 - 1 - 0]?=some xs[n]:=by simp [Qj (show n < xs.length by omega)]
  rw [h1]
  simp only
  rw [ih (by omega),Wd,Qj (show n < xs.length by omega)]
  simp only [Option.toList_some,List.reverse_append,Gx,List.reverse_nil,Je,Wl]
theorem Z5B(its:List Value):slicePick its.toArray none none (some (-1))=its.reverse.toArray:=by
 unfold slicePick
 congr 1
 have hb:sliceBounds none none (some (-1)) its.toArray.size=((its.length:Int) - 1,-1,-1):=by simp [sliceBounds]
 rw [hb]
 have hr:sliceRange ((its.length:Int) - 1) (-1) (-1)=(List.range its.length).map fun k=>its.length - 1 - k:=by
  unfold sliceRange
  simp only [show ¬ ((-1:Int) > 0) by decide,if_false]
  by_cases h0:its.length=0
  ·simp [h0]
  ·have hgt:(its.length:Int) - 1 > -1:=by omega
   simp only [hgt,if_true]
   have hc:((its.length:Int) - 1 - -1 - -1 - 1) / (- -1)=(its.length:Int):=by
    have:- (-1:Int)=1:=by decide
    rw [this,Int.ediv_one];omega
   rw [hc,Nj]
   refine Wk fun k hk=>?_
   have:=Wi.mp hk
   omega
 rw [hr]
 have:=Z9L its its.length (Qu _)
 rw [Wh] at this
 simpa using this
section
variable {X:Cx}{e st:Expr}{te ts:TE}{p2 pos:Pos}
theorem ZbC(he:PE X e te)(hst:PE X st ts):PE X (.Subscript e (.Slice none none (some st) p2) pos) (fun σ H Q=>te σ H fun x H1=>ts σ H1 fun y H2=>y=.int (-1)∧∃ a xs,x=.ref a∧SqL X.K H2 a xs∧∀ p,H2 p=none→Q (.ref p) (upd H2 p (.lst xs.reverse))):=by
 intro pins s σ H Q I h
 refine Subscript_ (thn (he pins s σ H _ I h) fun v s1 ⟨x,H1,I1,r1,q1⟩=>?_)
 refine wpAny_Slice ?_
 rw [evalPart_none]
 refine wpAny_pure (wpAny_pure ?_)
 rw [evalPart_some]
 refine thn (hst pins s1 σ H1 _ I1 q1) fun vy s3 ⟨y,H3,I3,ry,ey,a,xs,ex,hx,q⟩=>?_
 subst ey ex
 obtain ⟨t,rfl⟩:=ry
 cases r1
 have I4:Inv X pins σ H3 { s3 with heap:=s3.heap.push { cls:=.type "slice",data:=.fields #[.none,.none,.int (-1) t] } }:=I3.kept (t':=s3.toks) fun b ob q=>Heap.get?_push_of_some _ q
 obtain ⟨its,r,ht,hz⟩:=I4.list hx
 have hlen:=r.length
 show wpAny (model X.prog X.w) X.A (subscriptTail e (.Slice none none (some st) p2) (.ref a) (.ref s3.heap.objs.size)) (EP X pins σ Q) X.xe { s3 with heap:=s3.heap.push { cls:=.type "slice",data:=.fields #[.none,.none,.int (-1) t] } }
 refine tail_any (ops:=[.ref a,.ref s3.heap.objs.size]) ht.isList.typeIs slot_list_getitem.lookup ?_ (by with_unfolding_all rfl)
 refine wpAny_getItem_list_slice ht.isList (Heap.IsSliceOf.new ..) .none .none (.int _ _) (by decide) ?_ (by rw [Jg] <;> omega)
 rw [Z5B]
 refine ⟨.ref _,_,I4.laid (t':=s3.toks) (o:=.lst xs.reverse) (fun b ob q=>Heap.get?_push_of_some _ q) (Qu _) ?_,rfl,q _ (I4.hok.fresh (Qu _))⟩
 exact ⟨by simpa using hz,_,0,r.reverse,Heap.get?_push_size _ rfl⟩
end
section
variable {X:Cx}{R:RC}{ix:List Nat}{e st:Expr}{p2 pos:Pos}
noncomputable def hRev:List D→Option D
 | [.nd (.lst _) l,.at (.int i)]=>if D.imms l=true∧i=-1 then some (.nd (.lst true) l.reverse) else none
 | _=>none
theorem ZaB{x y:V}{H:Hp}{Q:VK}(h:gNw hRev [x,y] H Q):∃ (a:Addr) (ch:List T),x=.ref a∧y=.int (-1)∧SqL X.K H a (ch.map T.val)∧∀ p,H p=none→Q (.ref p) (upd H p (.lst (ch.map T.val).reverse)):=by
 obtain ⟨t,u,ht,hu,rfl,rfl,d,hh,q⟩:=gNw2 h
 unfold hRev at hh
 split at hh
 case h_2=>cases hh
 case h_1 m l i e =>
  simp only [Wf.injEq,and_true] at e
  obtain ⟨a,ch,rfl,rfl⟩:=Z4a e.1
  cases Z4L e.2
  split at hh
  case isFalse=>cases hh
  case isTrue hz =>
   cases hh
   refine ⟨a,ch,rfl,by rw [hz.2];rfl,ht.1.sqL,fun p hp=>?_⟩
   have:=q (.nd p (.lst true) ch.reverse) _ (by simp [T.er,T.ers_eq]) (Z2X (o:=.lst (ch.reverse.map T.val)) hp Zx (.inl rfl) (fun t z=>⟨T.oks_iff.mp ht.2 t (Qac.mp z),Z3k hz.1 t (Qac.mp z)⟩) fun b hb=>by
     obtain ⟨t,h1,h2⟩:=T.mem_ros.mp hb
     have:b∈T.ros ch:=T.mem_ros.mpr ⟨t,Qac.mp h1,h2⟩
     simp [T.ros,T.ro,this])
   rw [List.map_reverse] at this
   exact this
theorem ZbO{f g:EF}(he:PE X e (lE R ix f))(hst:PE X st (lE R ix g)):PE X (.Subscript e (.Slice none none (some st) p2) pos) (lE R ix (eNw hRev (Z0 f (Z0 g Z2)))) :=
 peM (ZbC he hst) fun σ H Q q=>Zt (fun x H1 z=>Zt (fun y H2 z=>by
  obtain ⟨a,ch,rfl,rfl,hs,q⟩:=ZaB (X:=X) z
  exact ⟨rfl,a,_,rfl,hs,q⟩) z) (lA_2 (Z2z σ H Q q))
end
end RM

namespace RM
open PySem PySem.Spec PyProof.Rows L2
noncomputable def asg2(n:Nat):Sd→DV→Option Sd:=tgT (tgC (Z5 (n + 1)) (tgC (Z5 n) tgN))
noncomputable def Z2I(it:Nat→Sd→Option (Option DV))(n:Nat)(c:BF)(e:EF):Nat→Nat→List D→Sd→ER (List D)
 | 0,_,_,_=>.no
 | m + 1,i,acc,s=>match it i s with
  | none=>.no
  | some none=>.ok acc s
  | some (some r)=>match asg2 n s r with
   | none=>.no
   | some s1=>match c s1 with
    | .ok true s2=>(match e s2 with
     | .ok (.val d) s3=>if acc.length < sizeLine then Z2I it n c e m (i + 1) (acc++[d]) s3 else .no
     | _=>.no)
    | .ok false s2=>Z2I it n c e m (i + 1) acc s2
    | _=>.no
noncomputable def Z2s(n:Nat):ER (List D)→ER DV
 | .ok l s=>(match Z1o (n + 2) s with | some s1=>Z1v n (.ok l s1) | none=>.no)
 | _=>.no
noncomputable def eComp2(f:EF)(c:Nat→BF)(e:Nat→EF):EF:=fun s=>match f s with
 | .ok (.plc k p) s1=>(match Z1K (Zq s1 (.plc k p)) with
  | some (t,m)=>Z2s s1.length (Z2I (itP t s1.length k p) (s1.length + 1) (c (s1.length + 1)) (e (s1.length + 1)) (m + 1) 0 [] (s1++[.bor k p,.non,.non]))
  | none=>.no)
 | .ok (.val d) s1=>(match Z1K (some d) with
  | some (t,m)=>Z2s s1.length (Z2I (itP t s1.length s1.length []) (s1.length + 1) (c (s1.length + 1)) (e (s1.length + 1)) (m + 1) 0 [] (s1++[.own true d,.non,.non]))
  | none=>.no)
 | .ex C s1=>.ex C s1
 | .no=>.no
section
variable {R:RC}{ix:List Nat}{hd:List (Nat×Addr)}{X:Cx}{H H':Hp}{σ:L2.St}{ts:Ts}{fr:List T}
end
end RM

namespace RM
open PySem PySem.Spec PyProof.Rows L2
section
variable {X:Cx}{R:RC}{ix:List Nat}
theorem Z5N{f:EF}{c:Nat→BF}{e:Nat→EF}{s:Sd}:eComp2 f c e s=(match f s with
 | .ok (.plc k p) s1=>(match Z1K (Zq s1 (.plc k p)) with
  | some (t,m)=>Z2s s1.length (Z2I (itP t s1.length k p) (s1.length + 1) (c (s1.length + 1)) (e (s1.length + 1)) (m + 1) 0 [] (s1++[.bor k p,.non,.non]))
  | none=>.no)
 | .ok (.val d) s1=>(match Z1K (some d) with
  | some (t,m)=>Z2s s1.length (Z2I (itP t s1.length s1.length []) (s1.length + 1) (c (s1.length + 1)) (e (s1.length + 1)) (m + 1) 0 [] (s1++[.own true d,.non,.non]))
  | none=>.no)
 | .ex C s1=>.ex C s1
 | .no=>.no):=id rfl
end
end RM

namespace RM
open PySem PySem.Spec PyProof.Rows L2
theorem Z7J{it:Nat→Sd→Option (Option DV)}{b:Sd→DV→Option Sd}{body:SF}{P:Nat→Sd→Prop}{Q:SR→Prop}{n:Nat}
  (hs:∀ i s,i < n→P i s→∃ r s1,it i s=some (some r)∧b s r=some s1∧((∃ s2,(body s1=.nx s2∨body s1=.ct s2)∧P (i + 1) s2)∨∃ x s2,body s1=.rt x s2∧Q (.rt x s2))) (he:∀ s,P n s→it n s=some none) :
  ∀ m i s,i + m=n→P i s→(∃ s',Ze it b body (m + 1) i s=.nx s'∧P n s')∨∃ x s',Ze it b body (m + 1) i s=.rt x s'∧Q (.rt x s')
 | 0,i,s,hi,h=>by
  have:i=n:=by omega
  subst this
  exact .inl ⟨s,by simp only [Ze,he s h],h⟩
 | m + 1,i,s,hi,h=>by
  obtain ⟨r,s1,h1,h2,h3⟩:=hs i s (by omega) h
  rcases h3 with ⟨s2,h3,h4⟩ | ⟨x,s2,h3,h4⟩
  ·have e:Ze it b body (m + 1 + 1) i s=Ze it b body (m + 1) (i + 1) s2:=by
    conv=>lhs;unfold Ze
    rw [h1];dsimp only;rw [h2];dsimp only
    rcases h3 with h3 | h3 <;> rw [h3]
   rw [e]
   exact Z7J hs he m (i + 1) s2 (by omega) h4
  ·refine .inr ⟨x,s2,?_,h4⟩
   conv=>lhs;unfold Ze
   rw [h1];dsimp only;rw [h2];dsimp only;rw [h3]
theorem Z4F{t:Bool}{n k:Nat}{p:List Nat}{l:List D}{kd:NK}{b:Sd→DV→Option Sd}{body:SF}{s:Sd}(hk:t=false∧(∃ m,kd=.lst m)∨t=true∧kd=.tup)(P:Nat→Sd→Prop)(Q:SR→Prop)(h0:P 0 s)
  (hh:∀ i s,P i s→held n k p s=true∧Zq s (.plc k p)=some (.nd kd l))
  (hs:∀ (i:Nat) s c,l[i]?=some c→P i s→∃ s1,b s (mkV k (p++[i]) c)=some s1∧((∃ s2,(body s1=.nx s2∨body s1=.ct s2)∧P (i + 1) s2)∨∃ x s2,body s1=.rt x s2∧Q (.rt x s2))) :
  (∃ s',Ze (itP t n k p) b body (l.length + 1) 0 s=.nx s'∧P l.length s')∨∃ x s',Ze (itP t n k p) b body (l.length + 1) 0 s=.rt x s'∧Q (.rt x s'):=by
 have it:∀ i s,P i s→itP t n k p i s=some ((l[i]?).map (mkV k (p++[i]))):=by
  intro i s h
  obtain ⟨h1,h2⟩:=hh i s h
  unfold itP
  rw [h1,h2]
  rcases hk with ⟨rfl,m,rfl⟩ | ⟨rfl,rfl⟩ <;> rfl
 refine Z7J (P:=P) (fun i s hi h=>?_) (fun s h=>?_) l.length 0 s (by omega) h0
 ·obtain ⟨s1,h1,h2⟩:=hs i s l[i] (Qj hi) h
  exact ⟨_,s1,by rw [it i s h,Qj hi];rfl,h1,h2⟩
 ·rw [it _ s h,Jo (Qu _)];rfl
end RM

namespace RM
open PySem PySem.Spec PyProof.Rows L2
noncomputable def ownT:Option DL→Option D
 | some (.own true d)=>some d
 | _=>none
theorem Z6s{o:Option DL}{d:D}(h:ownT o=some d):o=some (.own true d):=by
 unfold ownT at h
 split at h
 ·cases h;rfl
 ·cases h
noncomputable def grA(j:Nat)(s1:Sd)(k:Nat)(p:List Nat):Option D→SR
 | some d=>(match asL d,ownT s1[j]?,ownT s1[k]? with
  | some l,some t,some _=>if k≠j∧t.imm=false∧l.length < sizeLine then .nx (Z3i j k p (.nd (.lst true) (l++[t])) l.length s1) else .no
  | _,_,_=>.no)
 | none=>.no
noncomputable def sGrA(j:Nat)(f:EF):SF:=fun s=>match f s with
 | .ok (.plc k p) s1=>grA j s1 k p (Zq s1 (.plc k p))
 | .ok _ _=>.no
 | .ex C s1=>.ex C s1
 | .no=>.no
theorem Z8l{j:Nat}{f:EF}{s:Sd}:sGrA j f s=(match f s with
 | .ok (.plc k p) s1=>grA j s1 k p (Zq s1 (.plc k p))
 | .ok _ _=>.no
 | .ex C s1=>.ex C s1
 | .no=>.no):=id rfl
theorem Z7l{j k:Nat}{p:List Nat}{s1:Sd}{l:List D}:grA j s1 k p (some (.nd (.lst true) l))=(match ownT s1[j]?,ownT s1[k]? with
  | some t,some _=>if k≠j∧t.imm=false∧l.length < sizeLine then .nx (Z3i j k p (.nd (.lst true) (l++[t])) l.length s1) else .no
  | _,_=>.no):=by
 unfold grA
 dsimp only
 rw [show asL (.nd (.lst true) l)=some l from rfl]
 cases ownT s1[j]? <;> cases ownT s1[k]? <;> rfl
theorem Za5{j k:Nat}{p:List Nat}{s1:Sd}{o:Option D}:grA j s1 k p o=.no∨∃ l t u,o=some (.nd (.lst true) l)∧s1[j]?=some (.own true t)∧s1[k]?=some (.own true u)∧k≠j∧t.imm=false∧l.length < sizeLine∧grA j s1 k p o=.nx (Z3i j k p (.nd (.lst true) (l++[t])) l.length s1):=by
 cases o with
 | none=>exact .inl rfl
 | some d =>
  cases h1:asL d with
  | none=>left;unfold grA;dsimp only;rw [h1]
  | some l =>
   cases h2:ownT s1[j]? with
   | none=>left;unfold grA;dsimp only;rw [h1,h2]
   | some t =>
    cases h3:ownT s1[k]? with
    | none=>left;unfold grA;dsimp only;rw [h1,h2,h3]
    | some u =>
     by_cases hz:k≠j∧t.imm=false∧l.length < sizeLine
     ·right
      exact ⟨l,t,u,by rw [Z6Y h1],Z6s h2,Z6s h3,hz.1,hz.2.1,hz.2.2,by unfold grA;dsimp only;rw [h1,h2,h3];dsimp only;rw [if_pos hz]⟩
     ·left;unfold grA;dsimp only;rw [h1,h2,h3];dsimp only;rw [if_neg hz]
section
variable {R:RC}{ix:List Nat}{hd:List (Nat×Addr)}{X:Cx}{H H1:Hp}{σ:L2.St}{ts:Ts}{fr:List T}
theorem Zbk{f:EF}{i j:Nat}(hix:ix[i]?=some j)(hnd:ix.Nodup)(D:Ends)(σ:L2.St)(H:Hp)(h:lS R ix (sGrA j f) D σ H) :
  lE R ix f σ H fun x H1=>∃ a xs v,x=.ref a∧σ[i]?=some (some v)∧H1 a=some (.lst xs)∧xs.length < sizeLine∧D.nx σ (upd H1 a (.lst (xs++[v]))):=by
 obtain ⟨hd,ts,fr,C,q⟩:=h
 refine ⟨hd,ts,fr,C,?_⟩
 unfold sGrA at q
 cases ef:f (ts.map TL.er) with
 | no=>rw [ef] at q;exact q
 | ex E s1=>rw [ef] at q;intro H1 ts1 e1 C1;exact q H1 σ ts1 e1 C1
 | ok r s1 =>
  rw [ef] at q
  intro H1 ts1 tv v e1 e2 hv C1
  subst e1
  cases r with
  | val d=>exact q.elim
  | plc k p =>
   obtain ⟨a,rfl,rfl,hp⟩:=hv.er_plc e2
   dsimp only at q
   rcases Za5 (j:=j) (k:=k) (p:=p) (s1:=ts1.map TL.er) (o:=Zq (ts1.map TL.er) (.plc k p)) with z | ⟨l,td,ud,h1,hj,hk,hkj,him,hz,ez⟩
   ·rw [z] at q;exact q.elim
   ·rw [ez] at q
    obtain ⟨w,t,s,q1,q2,q3⟩:=hp
    have hd1:Zq (ts1.map TL.er) (.plc k p)=some s.er:=by simp only [Zq,Qa,q1,Option.map_some,TL.er,T.get_er,q2]
    rw [hd1] at h1
    obtain ⟨a',ch,rfl,rfl⟩:=Z4a (Option.some.inj h1)
    cases q3
    rw [Qa,q1] at hk
    simp only [Option.map_some,TL.er,Option.some.injEq,DL.own.injEq] at hk
    obtain ⟨rfl,rfl⟩:=hk
    rw [Qa] at hj
    cases ej1:ts1[j]? with
    | none=>rw [ej1] at hj;cases hj
    | some y1 =>
     rw [ej1] at hj
     cases y1 with
     | non=>cases hj
     | bor _ _ _=>cases hj
     | own w1 tt =>
      simp only [Option.map_some,TL.er,Option.some.injEq,DL.own.injEq] at hj
      obtain ⟨rfl,rfl⟩:=hj
      have hσ:=C1.sl i j _ _ hix ej1 rfl
      obtain ⟨at',hat⟩:=Z5u tt him
      have C0:Cf R ix hd H1 σ ts1 fr:=C1
      have ok0:=C0.ok true tt (Qf ej1)
      have sok:=T.get_ok q2 (C0.ok true t (Qf q1))
      have C2:Cf R ix hd H1 σ ((ts1.set j (.own true (T.put (.at (.ref at')) [] tt))).map (Zw j [] fun _=>false)) (tt::fr):=Cf.exch (s:=tt) (x:=[]) C0 ej1 rfl (by rw [hat];rfl) trivial ⟨ok0,C0.fok⟩ (by simp [T.own,T.owns_cons]) (fun x hx=>by
       rcases hx with hx | hx
       ·simp [T.ro] at hx
       ·rw [T.ros_cons] at hx;exact Qe.mp hx)
      have hk2:((ts1.set j (.own true (T.put (.at (.ref at')) [] tt))).map (Zw j [] fun _=>false))[k]?=some (.own true t):=by
       rw [Qa,Qm,if_neg (Ne.symm hkj),q1];rfl
      have ho:HoOk (.lst (ch.map T.val++[tt.val])) (.lst true) (ch.map T.val++[tt.val]):=rfl
      have W:=ZaS (tvs:=[.val tt]) (m:=0) (fr:=fr) C2 hk2 q2 rfl rfl ho
      have hkk:((((ts1.set j (.own true (T.put (.at (.ref at')) [] tt))).map (Zw j [] fun _=>false)).set k (.own true (T.put (.nd a (.lst true) (ch++[tt])) p t))).map (Zw k p fun _=>true))[k]?=some (.own true (T.put (.nd a (.lst true) (ch++[tt])) p t)):=by
       rw [Qa,Qm,if_pos rfl,if_pos (Qc.mp hk2).1];rfl
      have hgt:(T.put (.nd a (.lst true) (ch++[tt])) p t).get (p++[ch.length])=some tt:=by
       rw [Z46 q2]
       simp [T.get]
      have W2:=Cf.slot (i:=i) (j:=j) (y:=.bor k (p++[ch.length]) at') (m:=[]) (v:=.ref at') (fr:=fr) W hix hnd rfl (.inr ⟨rfl,k,_,at',rfl,hkj,true,_,tt,hkk,hgt,hat⟩)
      have hσ2:σ.set i (some (.ref at'))=σ:=by
       refine Ju fun n=>?_
       rw [Qm]
       by_cases hn:i=n
       ·subst hn
        rw [if_pos rfl,if_pos (Qc.mp hσ).1,hσ,hat]
       ·rw [if_neg hn]
      rw [hσ2] at W2
      refine ⟨a,ch.map T.val,tt.val,rfl,hσ,sok.1,by simpa [Z0V] using hz,?_⟩
      refine q _ _ _ ?_ W2
      unfold Z3i
      have w1:=Z2A (p:=[]) (s':=T.at (.ref at')) (keep:=fun _=>false) ej1
      have w2:=Z2A (p:=p) (s':=.nd a (.lst true) (ch++[tt])) (keep:=fun _=>true) hk2
      rw [w1] at w2
      rw [Wb,Jp]
      have un:∀ l:Ts,l.map (TL.er ∘ Zh j)=(l.map TL.er).map (Zz j):=fun l=>by
       rw [Jp];exact Wk fun s _=>Z2E s
      rw [un,w2]
      simp only [T.er,Za4,T.ers,TL.er,Z0V,cl,hole]
theorem ZbP{o e:Expr}{apos cpos pos:Pos}{fo:EF}{i j:Nat}(ho:PE X o (lE R ix fo))(he:PE X e (tVar i))(hix:ix[i]?=some j)(hnd:ix.Nodup)(hbase:attributeBase o "append" X.env (eval o X.env)=eval o X.env:=by rfl)
  (hfew:((backTo cpos (starEach [e] X.env)).all (fun x=>!x.1) && (backToKw cpos (keywordEach [] X.env)).all (fun x=>x.1.isSome) && decide ([e].length + ([]:List Keyword).length + (if ([]:List Keyword).isEmpty then 0 else 1) < 30))=true:=by rfl)
  (hline:(apos.endLine == cpos.line)=true:=by rfl) (hs:starEach [e] X.env=(false,eval e X.env)::starEach [] X.env:=by rfl) (hplain:(backTo cpos (starEach [] X.env)).any (·.1)=false:=by rfl)
  (hsw:swapsWith (.Call (.Attribute o "append" apos) [e] [] cpos) none pos.line X.env=pure false:=by rfl) :
  PS X (.Expr (.Call (.Attribute o "append" apos) [e] [] cpos) pos) (lS R ix (sGrA j fo)) :=
 psM (Z7M (pe_bm PySem.F.plainAttrs_list PySem.F.slot_list_append PySem.F.type_list_append Z4c ho (Zk he ZX hs) hbase hfew hline hs hplain) hsw) fun D σ H h=>by
  refine Zt (fun x H1 q=>?_) (Zbk hix hnd D σ H h)
  obtain ⟨a,xs,v,rfl,hσ,h1,h2,q⟩:=q
  exact ⟨.inl ⟨rfl,xs,.of h1⟩,v,hσ,a,xs,v,rfl,rfl,h1,h2,q⟩
end
end RM

namespace RM
open PySem PySem.Spec PyProof.Rows L2
noncomputable def del(H:Hp)(a:Addr):Hp:=fun b=>if b=a then none else H b
theorem Z5K{H:Hp}{a:Addr}:del H a a=none:=if_pos rfl
theorem Z2S{H:Hp}{a b:Addr}(h:b≠a):del H a b=H b:=if_neg h
theorem Z3E{H:Hp}{a b:Addr}(h:H b=none):del H a b=none:=by
 unfold del;split
 ·rfl
 ·exact h
theorem Zbt{H:Hp}{a b:Addr}{u:HO}(h:del H a b=some u):b≠a∧H b=some u:=by
 by_cases e:b=a
 ·subst e;rw [Z5K] at h;cases h
 ·rw [Z2S e] at h;exact ⟨e,h⟩
theorem is_kV{P:Program}{w:World}{k:Key}{u:Value}(h:(Z0a P w).is k u=true):RelV (kV k) u:=by
 rcases Z0v h with ⟨i,t,rfl,rfl⟩ | ⟨x,t,rfl,rfl⟩
 ·exact ⟨t,rfl⟩
 ·exact ⟨t,rfl⟩
theorem Z8O{k:Key}{y:V}:∀ {kvs:List (Key×V)} {vs:List (Key×Value)} {i:Nat},KV kvs vs→kvs[i]?=some (k,y)→∃ u,vs[i]?=some (k,u)∧RelV y u
 | _,_,0,.cons (a:=p) (b:=q) h _,e=>by
  cases e
  obtain ⟨k',u⟩:=q
  cases h.1
  exact ⟨u,rfl,h.2⟩
 | _,_,i + 1,.cons _ r,e=>Z8O (i:=i) r (by simpa using e)
section
variable {X:Cx}{pins:List (Addr×Obj)}{σ σ0:L2.St}{H H0:Hp}{s s0:Shared}{a:Addr}{o:Obj}{kvs:List (Key×V)}
theorem Za8(I:Inv X pins σ H s){u:HO}(ha:H a=some u):a∉X.fs:=fun hb=>by
 obtain ⟨_,ob,ho,_⟩:=I.ok.funs.mem hb
 rw [I.base.free a ob ho (I.ok.frf a hb) fun z=>I.ok.exfs a z hb] at ha
 cases ha
theorem Z8D(I:Inv X pins σ H s)(ha:H a=some (.dK kvs))(ho:s.heap.get? a=some o)(hd:∀ v,o.data≠.cell v):Inv X (pins++[(a,o)]) σ (del H a) s:=by
 have neL:a≠X.env.locals:=fun z=>by rw [z,I.free] at ha;cases ha
 refine ⟨I.ok,I.os,I.bare,⟨I.base.keep,I.base.slot,fun b ob e n hx=>Z3E (I.base.free b ob e n hx),I.base.there,fun b xs e=>?_,fun b ob u e=>?_,fun b ps e=>?_⟩,I.loc,I.cell,Z3E I.free,fun x c e=>Z3E (I.freeC x c e),fun p hp=>?_,fun b u e=>?_,I.len⟩
 ·have z:=I.base.tups b xs e
  rw [Z2S (by rintro rfl;rw [ha] at z;cases z)];exact z
 ·have z:=I.base.frzs b ob u e
  rw [Z2S (by rintro rfl;rw [ha] at z;cases z)];exact z
 ·obtain ⟨m,z⟩:=I.base.tbls b ps e
  exact ⟨m,by rw [Z2S (by rintro rfl;rw [ha] at z;cases z)];exact z⟩
 ·rw [← Qq] at hp
  rcases Qe.mp hp with hp | hp
  ·obtain ⟨h1,h2,h3⟩:=I.pin p hp
   exact ⟨h1,Z3E h2,h3⟩
  ·have e:p=(a,o):=by simpa using hp
   subst e
   exact ⟨ho,Z5K,neL,Za8 I ha,hd⟩
 ·obtain ⟨ne,e⟩:=Zbt e
  refine (I.hok b u e).stay (fun c v _ q=>q) (fun c q=>?_) fun c xs q=>?_
  ·rw [Z2S (by rintro rfl;rw [ha] at q;cases q)];exact q
  ·rw [Z2S (by rintro rfl;rw [ha] at q;cases q)];exact q
theorem Z6e(I0:Inv X pins σ0 H0 s0)(ha:H0 a=some (.dK kvs))(ho:s0.heap.get? a=some o)(I:Inv X (pins++[(a,o)]) σ H s):Inv X pins σ (upd H a (.dK kvs)) s:=by
 have pa:=I.pin (a,o) (by simp)
 have hn:H a=none:=pa.2.1
 refine ⟨I.ok,I.os,I.bare,⟨I.base.keep,I.base.slot,fun b ob e n hx=>?_,I.base.there,fun b xs e=>?_,fun b ob u e=>?_,fun b ps e=>?_⟩,I.loc,I.cell,?_,fun x c e=>?_,fun p hp=>?_,fun b u e=>?_,I.len⟩
 ·have z:=I0.base.free b ob e n hx
  rw [Zc (by rintro rfl;rw [ha] at z;cases z)];exact I.base.free b ob e n hx
 ·have z:=I.base.tups b xs e
  rw [Zc (by rintro rfl;rw [hn] at z;cases z)];exact z
 ·have z:=I.base.frzs b ob u e
  rw [Zc (by rintro rfl;rw [hn] at z;cases z)];exact z
 ·obtain ⟨m,z⟩:=I.base.tbls b ps e
  exact ⟨m,by rw [Zc (by rintro rfl;rw [hn] at z;cases z)];exact z⟩
 ·rw [Zc (Ne.symm pa.2.2.1)];exact I.free
 ·have z:=I0.freeC x c e
  rw [Zc (by rintro rfl;rw [ha] at z;cases z)];exact I.freeC x c e
 ·have z:=(I0.pin p hp).2.1
  have q:=I.pin p (by rw [← Qq];exact Qh _ hp)
  exact ⟨q.1,by rw [Zc (by intro e;rw [e,ha] at z;cases z)];exact q.2.1,q.2.2⟩
 ·by_cases hb:b=a
  ·subst hb
   rw [Zx] at e
   cases e
   obtain ⟨z,hd,vs,rel,ob,es,ep,e1,r⟩:=Z2f I0.hok (.inl ha)
   rw [ho] at e1
   cases e1
   exact ⟨z,hd,vs,rel,_,es,ep,pa.1,r⟩
  ·rw [Zc hb] at e
   refine (I.hok b u e).stay (fun c v _ q=>q) (fun c q=>?_) fun c xs q=>?_
   ·rw [Zc (by rintro rfl;rw [hn] at q;cases q)];exact q
   ·rw [Zc (by rintro rfl;rw [hn] at q;cases q)];exact q
theorem Z9C:MtR X "dict.items" (fun x xs H Q=>∃ a kvs,x=.ref a∧xs=[]∧H a=some (.dK kvs)∧∀ p,H p=none→Q (.ref p) (upd H p (.ext fun h=>h.IsItemsView p a))):=by
 intro pins s σ H x xs v us Q I rx r h
 obtain ⟨a,kvs,rfl,rfl,ha,q⟩:=h
 cases r
 cases rx
 obtain ⟨z,hd,vs,rel,dd⟩:=Z2f I.hok (.inl ha)
 refine call_meetsIn PySem.F.slot_dict_items dd.typeIs PySem.F.entry_dict_items (PySem.F.args_dict_items_1 _) (meets_dict_items (Z0a X.prog X.w) a hd) ⟨⟨vs,dd⟩,?_⟩
 refine ⟨.ref s.heap.objs.size,_,I.laid (t':=s.toks) (fun b o e=>Heap.get?_push_of_some _ e) (Qu _) ?_,rfl,q _ (I.hok.fresh (Qu _))⟩
 refine ⟨⟨_,Heap.get?_push_size _ rfl,rfl,rfl⟩,⟨_,Heap.get?_push_size _ rfl⟩,fun h1 h2 ⟨o,e,x⟩ k=>⟨o,k o e,x⟩⟩
noncomputable def tForD(K:Qd)(to:TE)(g:TG)(tb:L2.TS):L2.TS:=fun D σ H=>to σ H fun x H1=>tyV K "dict" x H1∧∃ (a:Addr) (kvs:List (Key×V)),x=.ref a∧[]=([]:List V)∧H1 a=some (.dK kvs)∧∀ p,H1 p=none→∃ W:Nat→L2.St→Hp→Prop,W 0 σ (del (upd H1 p (.ext fun h=>h.IsItemsView p a)) a) ∧
 ∀ i σ H,H a=none→W i σ H→(kvs.length≤i→D.nx σ (upd H a (.dK kvs)))∧∀ k y,kvs[i]?=some (k,y)→∀ b,H b=none→g (.ref b) σ (upd H b (.tup [kV k,y])) fun σ2 H2=>tb { nx:=W (i + 1),ct:=W (i + 1),bk:=fun σ H=>H a=none→D.nx σ (upd H a (.dK kvs)),rt:=fun _ _=>False } σ2 H2
noncomputable def ItemsQ(D:Ends)(g:TG)(tb:L2.TS)(σ:L2.St):VK:=fun v H2=>∃ (p a:Addr) (kvs:List (Key×V)) (H1:Hp),v=.ref p∧H1 p=none∧H1 a=some (.dK kvs)∧H2=upd H1 p (.ext fun h=>h.IsItemsView p a)∧∃ W:Nat→L2.St→Hp→Prop,W 0 σ (del H2 a) ∧
 ∀ i σ H,H a=none→W i σ H→(kvs.length≤i→D.nx σ (upd H a (.dK kvs)))∧∀ k y,kvs[i]?=some (k,y)→∀ b,H b=none→g (.ref b) σ (upd H b (.tup [kV k,y])) fun σ2 H2=>tb { nx:=W (i + 1),ct:=W (i + 1),bk:=fun σ H=>H a=none→D.nx σ (upd H a (.dK kvs)),rt:=fun _ _=>False } σ2 H2
theorem Zau{oe:Expr}{to:TE}{elts:List Expr}{x1:Nat}{tpos apos cpos pos:Pos}{body:List Stmt}{g:TG}{tb:L2.TS}(hp:PassesOwn (model X.prog X.w) X.A X.env X.xe)(hc:X.calm=true)(ho:PE X oe to)(hg:PG X (.Tuple elts x1 tpos) g)(hb:PSs X body tb)
  (hmono:∀ σ H (Q Q':VK),(∀ x H1,Q x H1→Q' x H1)→to σ H Q→to σ H Q')
  (hbase:attributeBase oe "items" X.env (eval oe X.env)=eval oe X.env:=by rfl) (hline:(apos.endLine == cpos.line)=true:=by rfl)
  (hs:∀ x,foldedSetIterable (.Call (.Attribute oe "items" apos) [] [] cpos) X.env x=pure x:=by intro _;rfl) :
  PS X (.For (.Tuple elts x1 tpos) (.Call (.Attribute oe "items" apos) [] [] cpos) body [] pos) (tForD X.K to g tb):=by
 intro pins s σ H D I h
 have h':tBM0 X.K "dict" (fun x xs H Q=>∃ a kvs,x=.ref a∧xs=[]∧H a=some (.dK kvs)∧∀ p,H p=none→Q (.ref p) (upd H p (.ext fun h=>h.IsItemsView p a))) to σ H (ItemsQ D g tb σ):=by
  refine hmono _ _ _ _ (fun x H1 q=>?_) h
  obtain ⟨ty,a,kvs,e1,e2,e3,q⟩:=q
  exact ⟨ty,a,kvs,e1,e2,e3,fun p hp=>⟨p,a,kvs,H1,rfl,hp,e3,rfl,q p hp⟩⟩
 refine wpAny_For (thn (Z8Y PySem.F.plainAttrs_dict PySem.F.slot_dict_items PySem.F.type_dict_items Z9C ho hbase hline pins s σ H _ I h') fun v s1 ⟨x,H2,I1,r1,q1⟩=>?_) hs
 obtain ⟨p,a,kvs,H1,rfl,hpn,ha1,rfl,W,w0,turn⟩:=q1
 cases r1
 have hpa:a≠p:=by rintro rfl;rw [hpn] at ha1;cases ha1
 have ha2:upd H1 p (.ext fun h=>h.IsItemsView p a) a=some (.dK kvs):=by rw [Zc hpa];exact ha1
 have hvw:s1.heap.IsItemsView p a:=(I1.hok p _ Zx).1
 obtain ⟨z,hd,vs,rel,dd⟩:=Z2f I1.hok (.inl ha2)
 obtain ⟨oa,es,ep,e1,e2,e3,e4,e5,e6⟩:=id dd
 have hat:s1.heap.DictAt (Z0a X.prog X.w) a vs ep:=⟨oa,es,e1,e2,e3,e4,e5,e6⟩
 have It:Inv X (pins++[(a,oa)]) σ (del (upd H1 p (.ext fun h=>h.IsItemsView p a)) a) s1:=Z8D I1 ha2 e1 (fun v z=>by rw [e3] at z;cases z)
 have hlen:kvs.length=vs.length:=rel.length
 refine wpAny_pyIter_items hvw hat ?_
 have fp:∀ {H':Hp},H' s1.heap.objs.size=none→FpOk X (pins++[(a,oa)]) H' s1.heap.objs.size:=fun hn=>It.fpOk (Qu _) hn
 have hia:a≠s1.heap.objs.size:=Jl hat.lt_size
 refine codeAny_forLoop_any (fun n s'=>∃ i σ' H',n=kvs.length - i∧i≤kvs.length∧Inv X (pins++[(a,oa)]) σ' H' s'∧(∃ ok ov,IsItemIter s'.heap s1.heap.objs.size a i vs.length ep ok ov)∧H' s1.heap.objs.size=none∧W i σ' H') ?_ kvs.length ⟨0,σ,_,by simp,Nk _,It.kept (t':=s1.toks) (fun b o e=>Heap.get?_push_of_some _ e),⟨_,_,Heap.get?_push_size _ rfl⟩,It.hok.fresh (Qu _),w0⟩
 rintro n s3 ⟨i,σ3,H3,rfl,hi,I3,⟨ok,ov,it3⟩,hn3,w3⟩
 have pa:=I3.pin (a,oa) (by simp)
 have hat3:s3.heap.DictAt (Z0a X.prog X.w) a vs ep:=⟨oa,es,pa.1,e2,e3,e4,e5,e6⟩
 obtain ⟨t1,t2⟩:=turn i σ3 H3 pa.2.1 w3
 by_cases hlt:i < kvs.length
 ·obtain ⟨⟨k,y⟩,hk⟩:∃ q,kvs[i]?=some q:=⟨_,Qj hlt⟩
  obtain ⟨u,hu,ru⟩:∃ u,vs[i]?=some (k,u)∧RelV y u:=Z8O rel hk
  refine wpAny_passesOwn hp (wpAny_pyNext_items_item it3 hat3 hu fun key h4 hkey ho4 hT4 hz4 hk4=>?_)
  refine wpAny_passesOwn hp (wpAny_letOwnedTupleGo_items ho4 fun h5 he5 hs5=>?_)
  have hlt3:s1.heap.objs.size < s3.heap.objs.size:=Heap.lt_size it3
  have hT5:h5.get? s3.heap.objs.size=some { cls:=.type "tuple",data:=.seq #[key,u] }:=(hs5.2 _ (Nat.ne_of_gt hlt3)).trans hT4
  have I5:Inv X (pins++[(a,oa)]) σ3 (upd H3 s3.heap.objs.size (.tup [kV k,y])) { s3 with heap:=h5,toks:=s3.toks }:=Z8E I3 (e:=s1.heap.objs.size) (it:=s1.heap.objs.size) (fun b o h1' h2' q=>(hs5.2 b h1').trans (hk4 b o h1' q)) (fp hn3) (fp hn3) (Qu _) (show Z0h X.prog X.w _ h5 _ (.tup [kV k,y]) from ⟨two_sz,[key,u],.cons (is_kV hkey) (.cons ru .nil),⟨_,hT5,rfl,_,rfl⟩⟩)
  have hn5:upd H3 s3.heap.objs.size (.tup [kV k,y]) s1.heap.objs.size=none:=by rw [Zc (Jl hlt3)];exact hn3
  have I5':=I5.pinned (fp:=[s1.heap.objs.size]) (fun b hb=>by
   have z:b=s1.heap.objs.size:=by simpa using hb
   subst z
   exact fp hn5) (fun b hb=>by
   have z:b=s1.heap.objs.size:=by simpa using hb
   subst z
   exact ⟨_,he5,fun v z=>by
    have z':Data.fields _=Data.cell v:=z
    cases z'⟩)
  refine wpAny_passesOwn hp (thn (hg _ _ σ3 _ (.ref s3.heap.objs.size) (.ref s3.heap.objs.size) _ I5' rfl (t2 k y hk _ (I3.hok.fresh (Qu _)))) fun _ s6 ⟨σ6,H6,I6,q6⟩=>?_)
  refine wpAny_passesOwn hp (thn (hb _ s6 σ6 H6 _ I6 q6) fun f s7 q7=>?_)
  have again:∀ {σ7:L2.St} {H7:Hp},Inv X (pins++[(a,oa)]++Z3q [s1.heap.objs.size] h5) σ7 H7 s7→W (i + 1) σ7 H7→∃ m,m < kvs.length - i∧∃ i σ' H',m=kvs.length - i∧i≤kvs.length∧Inv X (pins++[(a,oa)]) σ' H' s7∧(∃ ok ov,IsItemIter s7.heap s1.heap.objs.size a i vs.length ep ok ov)∧H' s1.heap.objs.size=none∧W i σ' H':=fun {σ7 H7} I7 w7=>by
   have pi:=I7.pin (s1.heap.objs.size,_) (Qg _ (Qg _ (Z2j (by simp) he5)))
   exact ⟨kvs.length - (i + 1),by omega,i + 1,σ7,H7,rfl,hlt,I7.unpinned,⟨_,_,pi.1⟩,pi.2.1,w7⟩
  cases f with
  | next=>obtain ⟨σ7,H7,I7,n7⟩:=q7;exact again I7 n7
  | cont=>obtain ⟨σ7,H7,I7,n7⟩:=q7;exact again I7 n7
  | brk=>obtain ⟨σ7,H7,I7,q7⟩:=q7;exact ⟨σ7,_,Z6e I1 ha2 e1 I7.unpinned,q7 (I7.unpinned.pin (a,oa) (by simp)).2.1⟩
  | ret v=>obtain ⟨x7,σ7,H7,I7,r7,q7⟩:=q7;exact q7.elim
 ·have hge:kvs.length≤i:=Gg hlt
  obtain ⟨f0,f1,f2,f3,f4,f5⟩:=fp hn3
  refine wpAny_passesOwn hp (wpAny_pyNext_items_end (I3.ok.hd hc) it3 hat3 (Jo (by omega)) fun h' eb=>?_)
  have I4:Inv X (pins++[(a,oa)]) σ3 H3 { s3 with heap:=h',toks:=s3.toks }:=I3.turned (t':=s3.toks) (fun b o hb q=>eb b o hb q) f0 f1 f3 f4 f5
  exact wpAny_execs_nil ⟨σ3,_,Z6e I1 ha2 e1 I4,t1 hge⟩
end

theorem cl_kV(k:Key):cl (kV k)=kV k:=by cases k <;> rfl
noncomputable def itC(ks:List Key)(l:List D)(i:Nat)(_:Sd):Option (Option DV):=some (match ks[i]?,l[i]? with
 | some k,some d=>some (.val (.nd .tup [.at (kV k),d]))
 | _,_=>none)
noncomputable def isAt:D→Bool
 | .at _=>true | _=>false
noncomputable def backD(n k:Nat)(d:D)(s:Sd):Option Sd:=match s[n]?,s[k]? with
 | some (.bor k' []),some (.own true (.at _))=>if k'=k then Z1o n (wr s k [] d fun _=>false) else none
 | _,_=>none
noncomputable def sForD(f:EF)(b:Sd→DV→Option Sd)(body:SF):SF:=fun s=>match f s with
 | .ok (.plc k []) s1=>(match s1[k]? with
  | some (.own true (.nd (.dic true ks) l))=>if l.all isAt=true then (match Ze (itC ks l) b body (l.length + 1) 0 (wr s1 k [] hole (fun _=>false)++[.bor k []]) with
   | .nx s2=>(match backD s1.length k (.nd (.dic true ks) l) s2 with | some s3=>.nx s3 | none=>.no)
   | _=>.no) else .no
  | _=>.no)
 | .ex C s1=>.ex C s1
 | _=>.no
theorem Z7h{f:EF}{b:Sd→DV→Option Sd}{body:SF}{s:Sd}:sForD f b body s=(match f s with
 | .ok (.plc k []) s1=>(match s1[k]? with
  | some (.own true (.nd (.dic true ks) l))=>if l.all isAt=true then (match Ze (itC ks l) b body (l.length + 1) 0 (wr s1 k [] hole (fun _=>false)++[.bor k []]) with
   | .nx s2=>(match backD s1.length k (.nd (.dic true ks) l) s2 with | some s3=>.nx s3 | none=>.no)
   | _=>.no) else .no
  | _=>.no)
 | .ex C s1=>.ex C s1
 | _=>.no):=id rfl
section
variable {K:Qd}{R:RC}{ix:List Nat}{hd hm:List (Nat×Addr)}{X:Cx}{H H':Hp}{σ:L2.St}{ts:Ts}{fr:List T}{D:Ends}
theorem Cf.reH(C:Cf R ix hd H σ ts fr)(h:∀ b,(b∈Zd ts∨b∈roS ts∨b∈rdS ts∨b∈T.owns fr∨b∈T.ros fr∨R.G b)→H' b=H b):Cf R ix hd H' σ ts fr:=by
 refine ⟨fun w t ht=>T.keep (C.ok w t ht) fun b hb=>h b ?_,T.keeps C.fok fun b hb=>h b ?_,C.nd,C.sep,C.rd,fun b hb=>?_,C.bg,C.bor,C.ixs,C.sl,C.hdi,C.hdx,C.len,C.hdn⟩
 ·rcases hb with hb | hb
  ·cases w with
   | true=>exact .inl (Z10.mpr ⟨t,ht,hb⟩)
   | false=>exact .inr (.inr (.inl (Z2M.mpr ⟨t,ht,hb⟩)))
  ·exact .inr (.inl (Z0W.mpr ⟨w,t,ht,hb⟩))
 ·rcases hb with hb | hb
  ·exact .inr (.inr (.inr (.inl hb)))
  ·exact .inr (.inr (.inr (.inr (.inl hb))))
 ·rw [h b (.inr (.inr (.inr (.inr (.inr hb)))))]
  exact C.g b hb
theorem Cf.other(C:Cf R ix hd H σ ts fr){p:Addr}{o:HO}(hp:H p=none):Cf R ix hd (upd H p o) σ ts fr:=by
 obtain ⟨f1,f2,f3,f4,f5,f6⟩:=C.fresh hp
 refine C.reH fun b hb=>Zc ?_
 rintro rfl
 rcases hb with z | z | z | z | z | z
 ·exact f1 z
 ·exact f2 z
 ·exact f3 z
 ·exact f4 z
 ·exact f5 z
 ·exact f6 z
theorem Z5D:∀ {ch:List T} {l:List RM.D},l=T.ers ch→l.all isAt=true→∀ t∈ch,∃ v,t=.at v
 | [],_,_,_,t,ht=>nomatch ht
 | t::r,_,rfl,h,u,hu=>by
  simp only [T.ers,Nu,Jr] at h
  rcases Qz.mp hu with rfl | hu
  ·cases u with
   | «at» v=>exact ⟨v,rfl⟩
   | nd a k l=>exact absurd h.1 (by simp [T.er,isAt])
  ·exact Z5D rfl h.2 u hu
theorem Cf.atoms(C:Cf R ix hd H σ ts fr):∀ {ch:List T},(∀ t∈ch,∃ v,t=.at v)→Cf R ix hd H σ ts (ch++fr)
 | [],_=>C
 | t::r,h=>by
  obtain ⟨v,rfl⟩:=h t (by simp)
  exact Cf.at (Cf.atoms C fun u hu=>h u (by simp [hu])) v
noncomputable def PostD(R:RC)(ix:List Nat)(hd:List (Nat×Addr))(fr:List T)(a:Addr)(kvs:List (Key×V))(D:Ends):SR→Prop
 | .nx s'=>∀ H' σ' ts',H' a=none→ts'.map TL.er=s'→Cf R ix hd H' σ' ts' fr→D.nx σ' (upd H' a (.dK kvs))
 | _=>False
theorem zip_get{α β:Type}{x:α}{y:β}:∀ {l:List α} {m:List β} {i:Nat},(l.zip m)[i]?=some (x,y)→l[i]?=some x∧m[i]?=some y
 | [],_,_,h=>by simp at h
 | _::_,[],_,h=>by simp at h
 | a::l,b::m,0,h=>by simp at h;simp [h.1,h.2]
 | a::l,b::m,i + 1,h=>by
  have:=zip_get (l:=l) (m:=m) (i:=i) (by simpa using h)
  simpa using this
theorem Zaf{f:EF}{b:Sd→DV→Option Sd}{body:SF}(D:Ends)(σ:L2.St)(H:Hp)(h:lS R ix (sForD f b body) D σ H):tForD K (lE R ix f) (lG R ix b) (lS R ix body) D σ H:=by
 obtain ⟨hd,ts,fr,C,h⟩:=h
 refine ⟨hd,ts,fr,C,?_⟩
 unfold sForD at h
 cases ef:f (ts.map TL.er) with
 | no=>rw [ef] at h;exact h
 | ex E s1=>rw [ef] at h;intro H1 ts1 e1 C1;exact h H1 σ ts1 e1 C1
 | ok r s1 =>
  rw [ef] at h
  intro H1 ts1 tv v e1 e2 hv C1
  subst e1
  have hlen:(ts1.map TL.er).length=ts1.length:=by simp
  cases r with
  | val d=>exact h.elim
  | plc k p =>
   obtain ⟨a,rfl,rfl,hp⟩:=hv.er_plc e2
   cases p with
   | cons _ _=>exact h.elim
   | nil =>
    have hp':=hp
    obtain ⟨w,t,s,h1,h2,h3⟩:=hp
    cases h2
    dsimp only at h
    rw [Qa,h1] at h
    simp only [Option.map_some,TL.er,hlen] at h
    have sok:=C1.ok w t (Qf h1)
    cases w with
    | false=>exact h.elim
    | true =>
    cases t with
    | «at» v=>exact h.elim
    | nd a' kd ch =>
    cases kd with
    | tup=>exact h.elim
    | lst m=>exact h.elim
    | dit m ks=>exact h.elim
    | ins m C ns=>exact h.elim
    | kst K=>exact h.elim
    | dic m ks =>
    cases m with
    | false=>exact h.elim
    | true =>
     cases h3
     simp only [T.er] at h
     obtain ⟨l,el⟩:∃ l,l=T.ers ch:=⟨_,rfl⟩
     rw [← el] at h
     by_cases hl:l.all isAt=true
     case neg=>rw [if_neg hl] at h;exact h.elim
     case pos =>
      rw [if_pos hl] at h
      have hat:=Z5D el hl
      obtain ⟨n1,n2,n3⟩:=sok.1
      have hca:(ch.map T.val).length=ch.length:=by simp
      refine ⟨.inr (.inr (.inl ⟨rfl,.inl ⟨_,n3⟩⟩)),a,_,rfl,rfl,n3,fun p hp=>?_⟩
      have C2:Cf R ix hd (upd H1 p (.ext fun h=>h.IsItemsView p a)) σ ts1 fr:=Cf.other C1 hp
      have hpa:a≠p:=by rintro rfl;rw [hp] at n3;cases n3
      have ok2:=C2.ok true _ (Qf h1)
      have C3:Cf R ix hd (upd H1 p (.ext fun h=>h.IsItemsView p a)) σ ((ts1.set k (.own true (T.put (.at (.ref a)) [] (.nd a (.dic true ks) ch)))).map (Zw k [] fun _=>false)) (.nd a (.dic true ks) ch::fr):=Cf.exch (s:=.nd a (.dic true ks) ch) (x:=[]) C2 h1 rfl rfl trivial ⟨ok2,C2.fok⟩ (by simp [T.own,T.owns_cons]) (fun x hx=>by
       rcases hx with hx | hx
       ·simp [T.ro] at hx
       ·rw [T.ros_cons] at hx;exact Qe.mp hx)
      have ha0:a∈T.owns (.nd a (.dic true ks) ch::fr):=by simp [T.owns,T.own,NK.mut]
      have C4:Cf R ix hd (del (upd H1 p (.ext fun h=>h.IsItemsView p a)) a) σ ((ts1.set k (.own true (T.put (.at (.ref a)) [] (.nd a (.dic true ks) ch)))).map (Zw k [] fun _=>false)) fr:=by
       refine Cf.reH C3.drop fun b hb=>Z2S ?_
       rintro rfl
       have nd:=C3.nd
       have ndo:=Qk.mp nd
       rcases hb with z | z | z | z | z | z
       ·exact ndo.2.2 _ z _ ha0 rfl
       ·exact (C3.sep _ (.inl z)).2.1 ha0
       ·exact (C3.rd _ z).2 ha0
       ·have q:=ndo.2.1
        rw [T.owns_cons] at q
        exact (Qk.mp q).2.2 _ (by simp [T.own,NK.mut]) _ z rfl
       ·exact (C3.sep _ (.inr (by rw [T.ros_cons];exact Qg _ z))).2.1 ha0
       ·exact (C3.g _ z).2.2.2 ha0
      have hk3:((ts1.set k (.own true (T.put (.at (.ref a)) [] (.nd a (.dic true ks) ch)))).map (Zw k [] fun _=>false))[k]?=some (.own true (.at (.ref a))):=by
       rw [Qa,Qm,if_pos rfl,if_pos (Qc.mp h1).1];rfl
      have hl3:((ts1.set k (.own true (T.put (.at (.ref a)) [] (.nd a (.dic true ks) ch)))).map (Zw k [] fun _=>false)).length=ts1.length:=by simp
      have w1:((ts1.set k (.own true (T.put (.at (.ref a)) [] (.nd a (.dic true ks) ch)))).map (Zw k [] fun _=>false)).map TL.er=wr (ts1.map TL.er) k [] hole (fun _=>false):=Z2A (p:=[]) (s':=T.at (.ref a)) (keep:=fun _=>false) h1
      generalize (ts1.set k (.own true (T.put (.at (.ref a)) [] (.nd a (.dic true ks) ch)))).map (Zw k [] fun _=>false)=ts3 at C4 hk3 hl3 w1
      have C5:=Cf.hide (k:=k) (p:=[]) (a:=a) C4 ⟨true,_,_,hk3,rfl,rfl⟩
      rw [hl3] at C5
      rw [← w1] at h
      have w2:ts3.map TL.er++[.bor k []]=(ts3++[TL.bor k [] a]).map TL.er:=by simp [TL.er]
      rw [w2] at h
      have P0:PostD R ix (hd++[(ts1.length,a)]) fr a (ks.zip (ch.map T.val)) D (Ze (itC ks l) b body (l.length + 1) 0 ((ts3++[TL.bor k [] a]).map TL.er)):=by
       cases eL:Ze (itC ks l) b body (l.length + 1) 0 ((ts3++[TL.bor k [] a]).map TL.er) with
       | nx s2 =>
        rw [eL] at h
        dsimp only at h
        intro H' σ' ts' hn e C'
        cases eB:backD ts1.length k (.nd (.dic true ks) l) s2 with
        | none=>rw [eB] at h;exact h.elim
        | some s3 =>
         rw [eB] at h
         unfold backD at eB
         rw [← e,Qa,Qa] at eB
         split at eB
         case h_2=>cases eB
         case h_1 k' v' q1 q2 =>
          split at eB
          case isFalse=>cases eB
          case isTrue hkk =>
           subst hkk
           cases y1:ts'[ts1.length]? with
           | none=>rw [y1] at q1;cases q1
           | some x1 =>
            rw [y1] at q1
            cases x1 with
            | non=>cases q1
            | own _ _=>cases q1
            | bor k2 p2 a2 =>
             simp only [Option.map_some,TL.er,Option.some.injEq,DL.bor.injEq] at q1
             obtain ⟨rfl,rfl⟩:=q1
             have ea:=C'.hdn ts1.length a (by simp) _ _ y1 rfl
             cases ea
             obtain ⟨w4,t4,s4,z1,z2,z3⟩:=C'.bor ts1.length k2 [] a y1
             cases z2
             rw [z1] at q2
             simp only [Option.map_some,TL.er,Option.some.injEq,DL.own.injEq] at q2
             obtain ⟨rfl,q2⟩:=q2
             cases t4 with
             | nd _ _ _=>cases q2
             | «at» v4 =>
              cases z3
              have C6:Cf R ix (hd++[(ts1.length,a)]) (upd H' a (.dK (ks.zip (ch.map T.val)))) σ' ts' (.nd a (.dic true ks) ch::fr):=Cf.wrap (Cf.atoms C' hat) hn ⟨n1,n2,Zx⟩
              have C7:=Cf.exch (s':=.nd a (.dic true ks) ch) (fr':=fr) (x:=[]) C6 z1 (s:=.at (.ref a)) (p:=[]) rfl rfl C6.fok.1 C6.fok.2 (by simp [T.own,T.owns_cons]) (fun x hx=>by
               rcases hx with hx | hx
               ·exact .inr (by rw [T.ros_cons];exact Qh _ hx)
               ·exact .inr (by rw [T.ros_cons];exact Qg _ hx))
              have w5:=Z2A (p:=[]) (s':=.nd a (.dic true ks) ch) (keep:=fun _=>false) z1
              have e9:(T.nd a (.dic true ks) ch).er=.nd (.dic true ks) l:=by rw [T.er,el]
              rw [e9] at w5
              obtain ⟨ts0,x,rfl',hl',e2'⟩:=Z1t eB w5
              rw [rfl'] at C7
              refine h _ _ _ e2' ?_
              have:=C7.popAny (hd:=hd) (hm:=[(ts1.length,a)]) (fun j hj=>by rw [hl'];exact C1.ixs j hj) (fun j a hj=>by rw [hl'];exact C1.hdi j a hj)
              rw [hl'] at this
              exact this
       | rt _ _=>rw [eL] at h;exact h.elim
       | bk _=>rw [eL] at h;exact h.elim
       | ct _=>rw [eL] at h;exact h.elim
       | ex _ _=>rw [eL] at h;exact h.elim
       | no=>rw [eL] at h;exact h.elim
      refine ⟨fun i σ H=>∃ ts' m,Cf R ix (hd++[(ts1.length,a)]) H σ ts' fr∧PostD R ix (hd++[(ts1.length,a)]) fr a (ks.zip (ch.map T.val)) D (Ze (itC ks l) b body m i (ts'.map TL.er)),⟨_,_,C5,P0⟩,?_⟩
      rintro i σ4 H4 hn4 ⟨ts',m,C',P⟩
      cases m with
      | zero=>exact P.elim
      | succ m =>
       unfold Ze itC at P
       refine ⟨fun hi=>?_,fun k0 y hy b' hb'=>?_⟩
       ·have:ks[i]?=none:=Jo (by rw [Qam,n1,Nat.min_self] at hi;rw [n1];exact hi)
        rw [this] at P
        exact P H4 σ4 ts' hn4 rfl C'
       ·obtain ⟨y1,y2⟩:=zip_get hy
        rw [Qa] at y2
        cases y3:ch[i]? with
        | none=>rw [y3] at y2;cases y2
        | some t =>
         rw [y3] at y2
         cases y2
         have y4:l[i]?=some t.er:=by rw [el,T.ers_eq,Qa,y3];rfl
         rw [y1,y4] at P
         dsimp only at P
         obtain ⟨v,rfl⟩:=hat t (Qf y3)
         have Cw:Cf R ix (hd++[(ts1.length,a)]) (upd H4 b' (.tup [kV k0,v])) σ4 ts' (.nd b' .tup [.at (kV k0),.at v]::fr):=Cf.wrap (ch:=[.at (kV k0),.at v]) (Cf.at (Cf.at C' _) _) hb' (show upd H4 b' _ b'=_ from Zx)
         have er:(TV.val (.nd b' .tup [.at (kV k0),.at v])).er=.val (.nd .tup [.at (kV k0),(T.at v).er]):=by simp only [TV.er,T.er,T.ers,cl_kV]
         cases eb:b (ts'.map TL.er) (.val (.nd .tup [.at (kV k0),(T.at v).er])) with
         | none=>rw [eb] at P;exact P.elim
         | some s1' =>
          rw [eb] at P
          refine ⟨hd++[(ts1.length,a)],ts',fr,.val (.nd b' .tup [.at (kV k0),.at v]),Cw,rfl,s1',by rw [er];exact eb,fun σ2 ts2 e2 C2=>⟨_,ts2,fr,C2,?_⟩⟩
          rw [e2]
          dsimp only at P
          cases ed:body s1' with
          | nx s2=>rw [ed] at P;intro H3 σ3 ts3 e3 C3;subst e3;exact ⟨ts3,m,C3,P⟩
          | ct s2=>rw [ed] at P;intro H3 σ3 ts3 e3 C3;subst e3;exact ⟨ts3,m,C3,P⟩
          | bk s2=>rw [ed] at P;intro H3 σ3 ts3 e3 C3 hn3;exact P H3 σ3 ts3 hn3 e3 C3
          | rt r s2=>rw [ed] at P;exact P.elim
          | ex E s2=>rw [ed] at P;exact P.elim
          | no=>rw [ed] at P;exact P.elim
theorem Z7R{o:Expr}{elts:List Expr}{x1:Nat}{bs:List Stmt}{f:EF}{b:Sd→DV→Option Sd}{body:SF}{tpos apos cpos fpos:Pos}(hp:PassesOwn (model X.prog X.w) X.A X.env X.xe)(hc:X.calm=true)(ho:PE X o (lE R ix f))(hg:PG X (.Tuple elts x1 tpos) (lG R ix b))(hb:PSs X bs (lS R ix body))
  (hbase:attributeBase o "items" X.env (eval o X.env)=eval o X.env:=by rfl) (hline:(apos.endLine == cpos.line)=true:=by rfl)
  (hs:∀ x,foldedSetIterable (.Call (.Attribute o "items" apos) [] [] cpos) X.env x=pure x:=by intro _;rfl):PS X (.For (.Tuple elts x1 tpos) (.Call (.Attribute o "items" apos) [] [] cpos) bs [] fpos) (lS R ix (sForD f b body)) :=
 psM (Zau hp hc ho hg hb (fun σ H Q Q' m h=>Zt m h) hbase hline hs) Zaf
theorem Z6j{ks:List Key}{l:List RM.D}{b:Sd→DV→Option Sd}{body:SF}{s:Sd}(hl:ks.length=l.length)(P:Nat→Sd→Prop)(h0:P 0 s)
  (hs:∀ (i:Nat) s k d,ks[i]?=some k→l[i]?=some d→P i s→∃ s1 s2,b s (.val (.nd .tup [.at (kV k),d]))=some s1∧(body s1=.nx s2∨body s1=.ct s2)∧P (i + 1) s2) :
  ∃ s',Ze (itC ks l) b body (l.length + 1) 0 s=.nx s'∧P l.length s':=by
 refine Z4s (P:=P) (fun i s hi h=>?_) (fun s h=>?_) l.length 0 s (by omega) h0
 ·obtain ⟨s1,s2,h1,h2,h3⟩:=hs i s (ks[i]'(by omega)) l[i] (Qj _) (Qj hi) h
  refine ⟨_,s1,s2,?_,h1,h2,h3⟩
  unfold itC
  rw [Qj hi,Qj (show i < ks.length by omega)]
 ·unfold itC
  rw [Jo (show ks.length≤l.length by omega)]
end
end RM

namespace RM
open PySem PySem.Spec PyProof.Rows L2
noncomputable def Z1k(c:BF)(body:SF):Nat→Sd→SR
 | 0,_=>.no
 | m + 1,s=>match c s with
  | .ok true s1=>(match body s1 with
   | .nx s2=>Z1k c body m s2
   | .ct s2=>Z1k c body m s2
   | .bk s2=>.nx s2
   | .rt r s2=>.rt r s2
   | .ex C s2=>.ex C s2
   | .no=>.no)
  | .ok false s1=>.nx s1
  | .ex C s1=>.ex C s1
  | .no=>.no
noncomputable def Z3y(n:Nat)(c:BF)(body:SF):SF:=fun s=>Z1k c body n s
theorem Z61{n:Nat}{c:BF}{body:SF}{s:Sd}:Z3y n c body s=Z1k c body n s:=id rfl
theorem Z2H{c:BF}{body:SF}:∀ (m:Nat) (s s':Sd),Z1k c body m s≠.bk s'∧Z1k c body m s≠.ct s'
 | 0,s,s'=>⟨(by intro h;cases h),(by intro h;cases h)⟩
 | m + 1,s,s'=>by
  unfold Z1k
  cases c s with
  | no=>exact ⟨(by intro h;cases h),(by intro h;cases h)⟩
  | ex C s1=>exact ⟨(by intro h;cases h),(by intro h;cases h)⟩
  | ok b s1=>cases b with
   | false=>exact ⟨(by intro h;cases h),(by intro h;cases h)⟩
   | true =>
    dsimp only
    cases body s1 with
    | nx s2=>exact Z2H m s2 s'
    | ct s2=>exact Z2H m s2 s'
    | _=>exact ⟨(by intro h;cases h),(by intro h;cases h)⟩
section
variable {R:RC}{ix:List Nat}{hd hm:List (Nat×Addr)}{X:Cx}{H H':Hp}{σ:L2.St}{ts:Ts}{fr:List T}{D:Ends}
theorem Z9A{n:Nat}{c:BF}{body:SF}(D:Ends)(σ:L2.St)(H:Hp)(h:lS R ix (Z3y n c body) D σ H):tWhile (lT R ix c) (lS R ix body) D σ H:=by
 obtain ⟨hd,ts,fr,C,h⟩:=h
 have P0:Post R ix hd fr D (Z1k c body n (ts.map TL.er)):=Post.of (f:=Z3y n c body) h (fun s=>(Z2H n _ s).1) (fun s=>(Z2H n _ s).2)
 refine ⟨fun m σ H=>∃ ts,Cf R ix hd H σ ts fr∧Post R ix hd fr D (Z1k c body m (ts.map TL.er)),⟨n,ts,C,P0⟩,?_⟩
 rintro m σ H ⟨ts,C,P⟩
 cases m with
 | zero=>exact P.elim
 | succ m =>
  unfold Z1k at P
  refine ⟨hd,ts,fr,C,?_⟩
  cases ec:c (ts.map TL.er) with
  | no=>rw [ec] at P;exact P.elim
  | ex E s1=>rw [ec] at P;intro H1 ts1 e1 C1;exact P H1 σ ts1 e1 C1
  | ok b s1 =>
   rw [ec] at P
   intro H1 ts1 e1 C1
   subst e1
   cases b with
   | false=>rw [if_neg Qp];exact P H1 σ ts1 rfl C1
   | true =>
    rw [if_pos rfl]
    refine ⟨fun σ' H'=>∃ ts',Cf R ix hd H' σ' ts' fr∧Post R ix hd fr D (Z1k c body m (ts'.map TL.er)),fun σ' H' q=>⟨m,Nm m,q⟩,hd,ts1,fr,C1,?_⟩
    dsimp only at P
    cases ed:body (ts1.map TL.er) with
    | nx s2=>rw [ed] at P;intro H3 σ3 ts3 e3 C3;subst e3;exact ⟨ts3,C3,P⟩
    | ct s2=>rw [ed] at P;intro H3 σ3 ts3 e3 C3;subst e3;exact ⟨ts3,C3,P⟩
    | bk s2=>rw [ed] at P;exact P
    | rt r s2=>rw [ed] at P;exact P
    | ex E s2=>rw [ed] at P;exact P
    | no=>rw [ed] at P;exact P.elim
theorem Z9N{n:Nat}{ce:Expr}{bs:List Stmt}{c:BF}{body:SF}{pos:Pos}(hp:PassesOwn (model X.prog X.w) X.A X.env X.xe)(hc:PT X ce (lT R ix c))(hb:PSs X bs (lS R ix body)):PS X (.While ce bs [] pos) (lS R ix (Z3y n c body)) :=
 psM (Z9K hp hc hb) Z9A
end

section
variable {X:Cx}
end
end RM

namespace RM
open PySem PySem.Spec PyProof.Rows L2
noncomputable def tyD:D→Option String
 | .at .non=>some "NoneType"
 | .at (.bl _)=>some "bool"
 | .at (.int _)=>some "int"
 | .at (.str _)=>some "str"
 | .nd (.lst true) _=>some "list"
 | .nd .tup _=>some "tuple"
 | .nd (.dic _ _) _=>some "dict"
 | _=>none
noncomputable def hIs:List D→Option D
 | [d,.at (.ty T)]=>(match tyD d with | some N=>if (kit0 N T).isSome=true then some (.at (.bl (subT N T))) else none | none=>none)
 | _=>none
section
variable {X:Cx}
theorem tyD_t{H:Hp}{t:T}{N:String}(ok:t.ok H)(h:tyD t.er=some N):IsTy H t.val N:=by
 cases t with
 | «at» v=>cases v <;> first | (cases h;rfl) | cases h
 | nd a k l =>
  cases k with
  | tup=>cases h;exact .inr (.inl ⟨rfl,_,ok.1⟩)
  | lst m=>cases m with
   | true=>cases h;exact .inl ⟨rfl,_,ok.1⟩
   | false=>cases h
  | dic m ks=>cases h;exact .inr (.inr ⟨rfl,_,ok.1.2.2⟩)
  | _=>cases h
theorem er_ty{t:T}{n:String}(h:t.er=.at (.ty n)):t=.at (.ty n):=by
 cases t with
 | nd a k l=>cases h
 | «at» u=>cases u with
  | ty j=>cases h;rfl
  | _=>cases h
theorem cn_is:Z0f X (.builtin "isinstance") (gNw hIs):=callM Z1u fun vs H Q q=>by
 obtain ⟨l,ok,hv,d,hh,q⟩:=q
 unfold hIs at hh
 split at hh
 case h_2=>cases hh
 case h_1 d0 T el =>
  obtain ⟨x0,x1,rfl,g0,g1⟩:=ers2 el
  cases er_ty g1
  cases en:tyD d0 with
  | none=>rw [en] at hh;cases hh
  | some N =>
   rw [en] at hh
   dsimp only at hh
   split at hh
   case isFalse=>cases hh
   case isTrue hk =>
    cases hh
    subst hv
    exact ⟨x0.val,T,N,rfl,tyD_t ok.1 (by rw [g0];exact en),hk,q (.at (.bl (subT N T))) H rfl (.atom _)⟩
theorem is_ll{l:List D}:hIs [.nd (.lst true) l,.at (.ty "list")]=some (.at (.bl true)):=by
 have e:kit0 "list" "list"=some true:=by decide +kernel
 unfold hIs;simp only [tyD,e,subT];rfl
theorem is_ii{i:Int}:hIs [.at (.int i),.at (.ty "int")]=some (.at (.bl true)):=by
 have e:kit0 "int" "int"=some true:=by decide +kernel
 unfold hIs;simp only [tyD,e,subT];rfl
theorem is_ib{i:Int}:hIs [.at (.int i),.at (.ty "bool")]=some (.at (.bl false)):=by
 have e:kit0 "int" "bool"=some false:=by decide +kernel
 unfold hIs;simp only [tyD,e,subT];rfl
end

noncomputable def eNot(f:EF):EF:=fun s=>match f s with
 | .ok (.val (.at (.bl b))) s1=>.ok (.val (.at (.bl (!b)))) s1
 | .ok _ _=>.no
 | .ex C s1=>.ex C s1
 | .no=>.no
theorem Z7g{f:EF}{s:Sd}:eNot f s=(match f s with
 | .ok (.val (.at (.bl b))) s1=>.ok (.val (.at (.bl (!b)))) s1
 | .ok _ _=>.no
 | .ex C s1=>.ex C s1
 | .no=>.no):=id rfl
section
variable {X:Cx}{R:RC}{ix:List Nat}{a:Expr}{pos:Pos}
theorem Zbh{f:EF}(σ:L2.St)(H:Hp)(Q:VK)(h:lE R ix (eNot f) σ H Q):tNotV (lE R ix f) σ H Q:=by
 obtain ⟨hd,ts,fr,C,h⟩:=h
 refine ⟨hd,ts,fr,C,?_⟩
 unfold eNot at h
 cases ef:f (ts.map TL.er) with
 | no=>rw [ef] at h;exact h
 | ex E s1=>rw [ef] at h;exact h
 | ok r s1 =>
  rw [ef] at h
  intro H1 ts1 tv v e1 e2 hv C1
  subst e1
  cases r with
  | plc _ _=>exact h.elim
  | val d =>
   obtain ⟨t,rfl,rfl,rfl⟩:=hv.er_val e2
   cases t with
   | nd a k l=>exact h.elim
   | «at» u =>
    cases u with
    | bl c=>exact ⟨c,rfl,h H1 ts1 (.val (.at (.bl (!c)))) (.bl (!c)) rfl rfl rfl (C1.drop.at _)⟩
    | _=>exact h.elim
theorem Zay{f:EF}(h:PE X a (lE R ix f)):PE X (.UnaryOp .Not a pos) (lE R ix (eNot f)):=peM (ZbB h) Zbh
end
end RM

namespace RM
open PySem PySem.Spec PyProof.Rows L2
noncomputable def sAugN(j:Nat)(g:Int→Int→Int)(fe:EF):SF:=fun s=>match s[j]? with
 | some (.own _ (.at (.int i)))=>(match fe s with
  | .ok (.val (.at (.int k))) s1=>.nx ((s1.map (Zz j)).set j (.own true (.at (.int (g i k)))))
  | .ex C s1=>.ex C s1
  | _=>.no)
 | _=>.no
theorem Z7a{j:Nat}{g:Int→Int→Int}{fe:EF}{s:Sd}:sAugN j g fe s=(match s[j]? with
 | some (.own _ (.at (.int i)))=>(match fe s with
  | .ok (.val (.at (.int k))) s1=>.nx ((s1.map (Zz j)).set j (.own true (.at (.int (g i k)))))
  | .ex C s1=>.ex C s1
  | _=>.no)
 | _=>.no):=id rfl
section
variable {R:RC}{ix:List Nat}{hd:List (Nat×Addr)}{X:Cx}{H:Hp}{σ:L2.St}{ts:Ts}{fr:List T}
end
end RM

namespace RM
open PySem PySem.Spec PyProof.Rows L2
section
variable {R:RC}{ix:List Nat}{hd:List (Nat×Addr)}{X:Cx}{H:Hp}{σ:L2.St}{ts:Ts}{fr:List T}
end
end RM

namespace RM
open PySem PySem.Spec PyProof.Rows L2
noncomputable def popR(s1:Sd)(k:Nat)(p:List Nat):Option D→Option DL→ER DV
 | some (.nd (.lst true) (.at v::l)),some (.own true _)=>if l.all isAt=true then .ok (.val (.at v)) (wr s1 k p (.nd (.lst true) l) fun _=>false) else .no
 | _,_=>.no
noncomputable def ePop0(f:EF):EF:=fun s=>match f s with
 | .ok (.plc k p) s1=>popR s1 k p (Zq s1 (.plc k p)) s1[k]?
 | .ex C s1=>.ex C s1
 | _=>.no
theorem Z7o{f:EF}{s:Sd}:ePop0 f s=(match f s with
 | .ok (.plc k p) s1=>popR s1 k p (Zq s1 (.plc k p)) s1[k]?
 | .ex C s1=>.ex C s1
 | _=>.no):=id rfl
section
variable {R:RC}{ix:List Nat}{hd:List (Nat×Addr)}{X:Cx}{H H1:Hp}{σ:L2.St}{ts:Ts}{fr:List T}
theorem Zad{f:EF}(σ:L2.St)(H:Hp)(Q:VK)(q:lE R ix (ePop0 f) σ H Q):lE R ix f σ H fun x H1=>∃ a y xs,x=.ref a∧H1 a=some (.lst (y::xs))∧Q y (upd H1 a (.lst xs)):=by
 obtain ⟨hd,ts,fr,C,q⟩:=q
 refine ⟨hd,ts,fr,C,?_⟩
 unfold ePop0 at q
 cases ef:f (ts.map TL.er) with
 | no=>rw [ef] at q;exact q
 | ex E s1=>rw [ef] at q;exact q
 | ok r s1 =>
  rw [ef] at q
  intro H1 ts1 tv v e1 e2 hv C1
  subst e1
  cases r with
  | val d=>exact q.elim
  | plc k p =>
   obtain ⟨a,rfl,rfl,hp⟩:=hv.er_plc e2
   obtain ⟨w,t,s,h1,h2,h3⟩:=hp
   have hd1:Zq (ts1.map TL.er) (.plc k p)=some s.er:=by simp only [Zq,Qa,h1,Option.map_some,TL.er,T.get_er,h2]
   dsimp only at q
   rw [hd1,Qa,h1] at q
   cases s with
   | «at» v=>exact q.elim
   | nd b kd ch =>
    cases h3
    cases kd with
    | lst m=>cases m with
     | false=>exact q.elim
     | true=>cases w with
      | false=>cases ch with
       | nil=>exact q.elim
       | cons c r=>cases c <;> exact q.elim
      | true =>
       cases ch with
       | nil=>exact q.elim
       | cons c r =>
        cases c with
        | nd _ _ _=>exact q.elim
        | «at» u =>
         simp only [Option.map_some,TL.er,T.er,T.ers,popR] at q
         by_cases hl:(T.ers r).all isAt=true
         case neg=>rw [if_neg hl] at q;exact q.elim
         rw [if_pos hl] at q
         have hat:=Z5D (l:=T.ers r) rfl hl
         have sok:=T.get_ok h2 (C1.ok true t (Qf h1))
         refine ⟨a,u,r.map T.val,rfl,sok.1,?_⟩
         have W:=set_list (cs:=r) C1 h1 h2 (fun c hc=>by
          obtain ⟨v,rfl⟩:=hat c hc
          exact ⟨rfl,trivial,fun b hb=>by simp [T.ro] at hb⟩)
         refine q _ _ (.val (.at u)) u ?_ rfl rfl (W.at u)
         rw [Z2A h1]
         rfl
    | _=>exact q.elim
theorem Zaz{o e:Expr}{apos cpos:Pos}{fo:EF}(ho:PE X o (lE R ix fo))(he:PE X e (tC (.int 0)))(hbase:attributeBase o "pop" X.env (eval o X.env)=eval o X.env:=by rfl)
  (hfew:((backTo cpos (starEach [e] X.env)).all (fun x=>!x.1) && (backToKw cpos (keywordEach [] X.env)).all (fun x=>x.1.isSome) && decide ([e].length + ([]:List Keyword).length + (if ([]:List Keyword).isEmpty then 0 else 1) < 30))=true:=by rfl)
  (hline:(apos.endLine == cpos.line)=true:=by rfl) (hs:starEach [e] X.env=(false,eval e X.env)::starEach [] X.env:=by rfl) (hplain:(backTo cpos (starEach [] X.env)).any (·.1)=false:=by rfl) :
  PE X (.Call (.Attribute o "pop" apos) [e] [] cpos) (lE R ix (ePop0 fo)) :=
 peM (pe_bm PySem.F.plainAttrs_list PySem.F.slot_list_pop PySem.F.type_list_pop Z9D ho (Zk he ZX hs) hbase hfew hline hs hplain) fun σ H Q q=>by
  refine Zt (fun x H1 q=>?_) (Zad σ H Q q)
  obtain ⟨a,y,xs,rfl,h,q⟩:=q
  refine ⟨.inl ⟨rfl,_,.of h⟩,a,y::xs,0,0,y,rfl,rfl,h,by omega,by omega,?_,rfl,q⟩
  unfold seqIndex?
  simp
end
end RM
open PySem PySem.Spec PyProof.Rows L2
local macro_rules | `(tactic| walk_at "rd")=>`(tactic| simp only [ZaX,cxC_K,tSeq,tIfS,tOr,tAnd,tNot,tTest,tB,tOp,tCB,Z1Z,tNil,tVar,tC,tRet,tRetN,tNext,tAsg,Z1j,tDrop,tCall,tCallT,tMetT,tMkT,tFldC,sFldC,tRaise,tRaiseA,tLst,tTup,tBM,tBM0,tAndV,tOrV,tNotV,tIf,tUn,tBreak,tCont,rI0,rI,rU,rEq,rNe,L2.start,hCons,hNil,
 Ql,Wo,Jh,Je,Jm,List.replicate,Jk,Nh,Wy,Qad,List.set_cons_zero,Ny,Nat.reduceAdd,Nat.reduceSub,Nat.reduceLT,Nat.reduceLeDiff,
 Option.some.injEq,exists_eq_left,exists_eq_left',exists_eq_right,exists_eq_right',exists_and_left,exists_and_right,exists_eq,exists_const,V.int.injEq,V.str.injEq,V.bl.injEq,V.ref.injEq,V.ty.injEq,Wf.injEq,and_assoc,and_true,true_and,reduceCtorEq,false_and,and_false,or_false,false_or,exists_false,if_true,if_false,Jz,decide_eq_true_eq])
local macro_rules | `(tactic| walk_at "sd")=>`(tactic| repeat (refine And.intro ?sd1 ?_;(case sd1=>first | assumption | decide | omega | rfl | (unfold CMul;omega) | (unfold CDiv;omega))))
namespace Pf
open PySem PySem.Spec PyProof.Rows L2 RM
noncomputable def top(i:Nat):Stmt:=PySem.Challenge.pw_papercircle_k11_no_better_way.main.body.getD i (.Pass ⟨0,0,0,0⟩)
noncomputable abbrev Z18:Stmt:=top 1
noncomputable abbrev Z1z:Stmt:=top 3
noncomputable abbrev Z1q:Stmt:=top 2
noncomputable abbrev Z1H:Stmt:=top 4
noncomputable abbrev Z1r:Stmt:=top 5
noncomputable abbrev Z13:Stmt:=top 6
noncomputable abbrev Z29:Stmt:=top 8
noncomputable abbrev Z0X:Stmt:=top 9
noncomputable abbrev Z0K:Stmt:=top 10
noncomputable abbrev Z1G:Stmt:=top 11
noncomputable abbrev Z17:Stmt:=top 12
noncomputable abbrev Z0B:Stmt:=top 13
noncomputable abbrev Z1h:Stmt:=top 14
noncomputable abbrev Z1p:Stmt:=top 15
noncomputable abbrev Z1T:Stmt:=top 16
noncomputable abbrev Z0A:Stmt:=top 17
noncomputable abbrev s_law:Stmt:=top 18
structure Adr where
 none_:Unit:=()
noncomputable def adr(A:Adr):Str→Addr:=fun x=>0
structure Txt(K:Qd)(mg:Str→Option Value)(A:Adr):Prop where
 b_all:mg "all"=none
 b_bool:mg "bool"=none
 b_dict:mg "dict"=none
 b_int:mg "int"=none
 b_isinstance:mg "isinstance"=none
 b_len:mg "len"=none
 b_list:mg "list"=none
 b_max:mg "max"=none
 b_min:mg "min"=none
 b_range:mg "range"=none
 b_str:mg "str"=none
 b_tuple:mg "tuple"=none
 X16:At K mg "find_number" Z18 ["rows", "place", "holders", "seen"]
 X29:At K mg "unserved" Z1z ["rows", "holders"]
 X42:At K mg "serve_more" Z1q ["rows", "holders", "settled"]
 X55:At K mg "hand_over" Z1H ["rows", "place", "number", "holders", "settled"]
 X68:At K mg "settle_row" Z1r ["rows", "place", "holders", "settled"]
 X81:At K mg "serve_rows" Z13 ["rows"]
 X94:At K mg "_law_at" Z29 ["_law_script", "_law_k"]
 X107:At K mg "_law_figures" Z0X ["_law_script", "_law_k", "_law_base", "_law_many"]
 X120:At K mg "_law_chain" Z0K ["_law_many", "_law_spread", "_law_one"]
 X133:At K mg "_law_long" Z1G ["_law_one", "_law_cells", "_law_first"]
 X146:At K mg "_law_row_of" Z17 ["_law_figs", "_law_many", "_law_wide", "_law_spread"]
 X159:At K mg "_law_drawn_rows" Z0B ["_law_script", "_law_first", "_law_rows", "_law_cells"]
 X172:At K mg "_law_same" Z1h ["_law_found", "_law_due"]
 X185:At K mg "_law_whole" Z1p ["_law_found"]
 X198:At K mg "_law_way" Z1T ["_law_rows", "_law_given", "_law_place", "_law_wish"]
 X211:At K mg "_law_best_for" Z0A ["_law_rows", "_law_given", "_law_place"]
 X224:At K mg "law" s_law ["_law_script"]
noncomputable def exmT:Str→Str→Option Bool:=fun C x=>none
theorem Zcb{C x a b:Str}{v r:Option Bool}{w:Bool}{p:Prop}(h:(if C=a∧x=b then v else r)=some w)(h1:C=a→x=b→v=some w→p)(h2:r=some w→p):p:=by
 by_cases z:C=a∧x=b
 ·rw [if_pos z] at h;exact h1 z.1 z.2 h
 ·rw [if_neg z] at h;exact h2 h
theorem Zcc{K:Qd}{mg:Str→Option Value}{A:Adr}(T:Txt K mg A):∀ C x b,exmT C x=some b→PySem.W.exmOne K (.ref (adr A C)) (.ref (adr A x))=some b:=by
 intro C x b h
 cases h
section
variable {P:Program}{w:World}{K:Qd}{mg:Str→Option Value}{base:Heap}{A:Adr}
theorem Z2y:FnScope ["rows", "place", "holders", "seen", "number"] ["rows", "place", "holders", "seen"] (Z9 Z18):=⟨rfl,rfl,rfl,by decide +kernel,rfl,by decide +kernel,by decide +kernel⟩
theorem Z58:(["rows", "place", "holders", "seen", "number"]:List Str).Nodup:=Z2y.nd
noncomputable def ZC(K:Qd)(A:Adr)(g:Fn):SF :=
  (Z15 [4] (sIf (bV (eNw (hDIn true) (Z0 (Z1 4) (Z0 (Z1 3) Z2)))) (Zj (sE (eMu 1 Z0E (Z0 (eC (.bl true)) (Z0 (Z1 3) (Z0 (Z1 4) Z2)))))
  (sIf (bOr (bV (eNw (hDIn true) (Z0 (Z1 4) (Z0 (Z1 2) Z2)))) (bV (ZF [false,false,true,true] g (Z0 (Z1 0) (Z0 (eCh hDGet (Z0 (Z1 2) (Z0 (Z1 4) Z2))) (Z0 (Z1 2) (Z0 (Z1 3) Z2))))))) (Zj (sE (eMu 1 Z0E (Z0 (Z1 1) (Z0 (Z1 2) (Z0 (Z1 4) Z2)))))
  (Z00 (eC (.bl true)))) ZV)) ZV))
noncomputable def Z1V(K:Qd)(A:Adr)(g:Fn):SF :=
  (Zj (Z1y (eCh (hIx K) (Z0 (Z1 0) (Z0 (Z1 1) Z2))) (Z5 4)
  (ZC K A g))
  (Z00 (eC (.bl false))))
noncomputable def Zu(K:Qd):Nat→Adr→Fn
 | 0,_=>ZL 5 [false,false,true,true] sNo
 | n + 1,A=>ZL 5 [false,false,true,true] (Z1V K A (Zu K n A))
set_option maxHeartbeats 0 in
theorem Z3o(T:Txt K mg A):∀ n,DefX P w K mg base "find_number" (n + 1) ["rows", "place", "holders", "seen"] (spR (adr A) [false,false,true,true] (Zu K n A))
 | 0=>okD (k:=0) (N:=["rows", "place", "holders", "seen", "number"]) (ms:=[false,false,true,true]) (body:=sNo) T.X16 Z2y rfl (by decide) fun f cdv A' outer s H E R hr hx hE ha=>ZbQ
 | n + 1=>okD (k:=n + 1) (N:=["rows", "place", "holders", "seen", "number"]) (ms:=[false,false,true,true]) (body:=Z1V K A (Zu K n A)) T.X16 Z2y rfl (by decide) fun f cdv A' outer s H E R hr hx hE ha=>by
  have hu:=Z1b hr
  have ih:=Z3o T n
  refine Z7 ?_ ?_
  ·refine Z3v ZM rfl ?_ ?_ ?_
   ·refine Z06 ?_ ?_ (fun _ _=>rfl)
    ·exact (Z3 (pv 0) (j:=0) rfl)
    ·exact (Z3 (pv 1) (j:=1) rfl)
   ·exact (Zg (i:=4) Z58 rfl (Or.inl rfl) rfl (by decide))
   ·refine Z12 (js:=[4]) (by decide) ?_
    ·refine Zb ?_
     ·refine Z0z ?_ ?_ ?_
      ·refine Z3w ?_
       ·refine Z3u hu ?_ ?_
        ·exact (Z3 (pv 4) (j:=4) rfl)
        ·exact (Z3 (pv 3) (j:=3) rfl)
      ·refine Z7 ?_ ?_
       ·refine Z28 hu ?_ ?_ ?_
        ·exact (Z3 (pv 3) (j:=3) rfl)
        ·exact (Z3 (pv 4) (j:=4) rfl)
        ·exact (Za Z1l)
       ·refine Zb ?_
        ·refine Z0z ?_ ?_ ?_
         ·refine PW.pt ?_
          ·refine rw_or ?_ ?_
           ·refine Z3w ?_
            ·refine Z3u hu ?_ ?_
             ·exact (Z3 (pv 4) (j:=4) rfl)
             ·exact (Z3 (pv 2) (j:=2) rfl)
           ·refine Z4i ?_
            ·refine rt_v ?_
             ·refine Z0N (ms:=[false,false,true,true]) (by rw [ha];exact ih) (hr.mono (by omega)) hx ?_ (Z6 (Z6 (Z6 (Z6 Z01))))
              ·refine Z4 ?_ ?_
               ·exact (Z3 (pv 0) (j:=0) rfl)
               ·refine Z4 ?_ ?_
                ·refine Z7O hu ?_ ?_ (fun _ _=>rfl)
                 ·exact (Z3 (pv 2) (j:=2) rfl)
                 ·exact (Z3 (pv 4) (j:=4) rfl)
                ·refine Z4 ?_ ?_
                 ·exact (Z3 (pv 2) (j:=2) rfl)
                 ·refine Z4 ?_ ?_
                  ·exact (Z3 (pv 3) (j:=3) rfl)
                  ·exact Zi
         ·refine Z7 ?_ ?_
          ·refine Z28 hu ?_ ?_ ?_
           ·exact (Z3 (pv 2) (j:=2) rfl)
           ·exact (Z3 (pv 4) (j:=4) rfl)
           ·exact (Z3 (pv 1) (j:=1) rfl)
          ·refine Zb ?_
           ·refine ZZ ?_
            ·exact (Za Z1l)
         ·exact Z0b
      ·exact Z0b
  ·refine Zb ?_
   ·refine ZZ ?_
    ·exact (Za Z1l)
theorem Z4y:FnScope ["rows", "holders", "served"] ["rows", "holders"] (Z9 Z1z):=⟨rfl,rfl,rfl,by decide +kernel,rfl,by decide +kernel,by decide +kernel⟩
theorem Z6U:(["rows", "holders", "served"]:List Str).Nodup:=Z4y.nd
noncomputable def Z3D(K:Qd)(A:Adr):SF :=
  (Zj (Zn (eNw hVals (Z0 (Z1 1) Z2)) (Z5 2))
  (Z00 (Z23 (eNw (hLen K) (Z0 (Z1 0) Z2)) (fun n1=>(bV (eNw (hIn true) (Z0 (Z1 n1) (Z0 (Z1 2) Z2))))) (fun n1=>(Z1 n1)))))
noncomputable def Z0R(K:Qd)(A:Adr):Fn:=ZL 3 [false,false] (Z3D K A)
set_option maxHeartbeats 0 in
theorem Z6W(T:Txt K mg A):DefX P w K mg base "unserved" 1 ["rows", "holders"] (spR (adr A) [false,false] (Z0R K A)) :=
 okD (k:=0) (N:=["rows", "holders", "served"]) (ms:=[false,false]) (body:=Z3D K A) T.X29 Z4y rfl (by decide) fun f cdv A' outer s H E R hr hx hE ha=>by
  have hu:=Z1b hr
  refine Z7 ?_ ?_
  ·refine ZS ?_ ?_
   ·refine ZaA rfl rfl T.b_list ?_
    ·exact (Z3 (pv 1) (j:=1) rfl)
   ·exact (Zg (i:=2) Z6U rfl (Or.inr rfl) rfl (by decide))
  ·refine Zb ?_
   ·refine ZZ ?_
    ·refine Z98 (N:=["place", "rows", "holders", "served"]) rfl (by decide) rfl T.b_range ?_ (CompSc.of (sc:=Z9 Z1z) (N0:=["rows", "holders", "served"]) rfl rfl (by decide +kernel)) (fun cl C s H fp=>(Z27 (i:=0) (show (["place", "rows", "holders", "served"]:List Str).Nodup from by decide +kernel) rfl (Or.inl rfl))) (fun cl C s H fp=>px_t fun n1 hn1=>?_) (fun cl C s H fp=>px_e fun n1 hn1=>?_)
     ·refine rc_b Z1M (by rfl) T.b_len boot_len ?_
      ·refine Z4 ?_ ?_
       ·exact (Z3 (pv 0) (j:=0) rfl)
       ·exact Zi
     ·refine Z07 Z3I ?_ ?_ rfl
      ·exact (Z3 (pv 0) (j:=n1) rfl)
      ·exact (Z3 (pv 3) (j:=2) rfl)
     ·exact (Z3 (pv 0) (j:=n1) rfl)
theorem Z3Y:FnScope ["rows", "holders", "settled", "answer", "place"] ["rows", "holders", "settled"] (Z9 Z1q):=⟨rfl,rfl,rfl,by decide +kernel,rfl,by decide +kernel,by decide +kernel⟩
theorem Z3S:(["rows", "holders", "settled", "answer", "place"]:List Str).Nodup:=Z3Y.nd
noncomputable def Z0M(K:Qd)(A:Adr):SF :=
  (Z15 [4] (sE (ZF [false,false,true,true] (Zu K 24 A) (Z0 (Z1 0) (Z0 (Z1 4) (Z0 (Z1 3) (Z0 (eNw hDict (Z0 (Z1 2) Z2)) Z2)))))))
noncomputable def Z2Q(K:Qd)(A:Adr):SF :=
  (Zj (Zn (eNw hDict (Z0 (Z1 1) Z2)) (Z5 3))
  (Zj (Z1y (ZF [false,false] (Z0R K A) (Z0 (Z1 0) (Z0 (Z1 1) Z2))) (Z5 4)
  (Z0M K A))
  (Z00 (Z1 3))))
noncomputable def ZK(K:Qd)(A:Adr):Fn:=ZL 5 [false,false,false] (Z2Q K A)
set_option maxHeartbeats 0 in
theorem Z3V(T:Txt K mg A):DefX P w K mg base "serve_more" 26 ["rows", "holders", "settled"] (spR (adr A) [false,false,false] (ZK K A)) :=
 okD (k:=25) (N:=["rows", "holders", "settled", "answer", "place"]) (ms:=[false,false,false]) (body:=Z2Q K A) T.X42 Z3Y rfl (by decide) fun f cdv A' outer s H E R hr hx hE ha=>by
  have hu:=Z1b hr
  refine Z7 ?_ ?_
  ·refine ZS ?_ ?_
   ·refine rc_ty Z53 (by rfl) T.b_dict boot_dict ?_
    ·refine Z4 ?_ ?_
     ·exact (Z3 (pv 1) (j:=1) rfl)
     ·exact Zi
   ·exact (Zg (i:=3) Z3S rfl (Or.inl rfl) rfl (by decide))
  ·refine Z7 ?_ ?_
   ·refine Z3v ZM rfl ?_ ?_ ?_
    ·refine Z0N (ms:=[false,false]) (by rw [ha];exact (Z6W T)) (hr.mono (by omega)) hx ?_ (Z6 (Z6 Z01))
     ·refine Z4 ?_ ?_
      ·exact (Z3 (pv 0) (j:=0) rfl)
      ·refine Z4 ?_ ?_
       ·exact (Z3 (pv 1) (j:=1) rfl)
       ·exact Zi
    ·exact (Zg (i:=4) Z3S rfl (Or.inl rfl) rfl (by decide))
    ·refine Z12 (js:=[4]) (by decide) ?_
     ·refine Zb ?_
      ·refine rs_e ?_
       ·refine Z0N (ms:=[false,false,true,true]) (by rw [ha];exact (Z3o T 24)) (hr.mono (by omega)) hx ?_ (Z6 (Z6 (Z6 (Z6 Z01))))
        ·refine Z4 ?_ ?_
         ·exact (Z3 (pv 0) (j:=0) rfl)
         ·refine Z4 ?_ ?_
          ·exact (Z3 (pv 4) (j:=4) rfl)
          ·refine Z4 ?_ ?_
           ·exact (Z3 (pv 3) (j:=3) rfl)
           ·refine Z4 ?_ ?_
            ·refine rc_ty Z53 (by rfl) T.b_dict boot_dict ?_
             ·refine Z4 ?_ ?_
              ·exact (Z3 (pv 2) (j:=2) rfl)
              ·exact Zi
            ·exact Zi
   ·refine Zb ?_
    ·refine ZZ ?_
     ·exact (Z3 (pv 3) (j:=3) rfl)
theorem Z4k:FnScope ["rows", "place", "number", "holders", "settled", "start", "other", "holder", "kept"] ["rows", "place", "number", "holders", "settled"] (Z9 Z1H):=⟨rfl,rfl,rfl,by decide +kernel,rfl,by decide +kernel,by decide +kernel⟩
theorem Z2l:(["rows", "place", "number", "holders", "settled", "start", "other", "holder", "kept"]:List Str).Nodup:=Z4k.nd
noncomputable def Z0G(K:Qd)(A:Adr):SF :=
  (Z15 [6,7] (sIf (bAnd (bV (eNw (hEq true) (Z0 (Z1 6) (Z0 (Z1 2) Z2)))) (bV (eNw (hEq true) (Z0 (Z1 7) (Z0 (Z1 1) Z2))))) (sE (eMu 1 Z0E (Z0 (Z1 7) (Z0 (Z1 5) (Z0 (Z1 6) Z2))))) ZV))
noncomputable def Z3d(K:Qd)(A:Adr):SF :=
  (Zj (Zn (eDict [((Z1 2),(Z1 1))]) (Z5 5))
  (Zj (sForD (Z1 3) (tgT (tgC (Z5 6) (tgC (Z5 7) tgN)))
  (Z0G K A))
  (Zj (Zn (eNw hDict (Z0 (Z1 4) Z2)) (Z5 8))
  (Zj (sE (eMu 1 Z0E (Z0 (Z1 1) (Z0 (Z1 8) (Z0 (Z1 2) Z2)))))
  (Z00 (ZF [false,false,false] (ZK K A) (Z0 (Z1 0) (Z0 (Z1 5) (Z0 (Z1 8) Z2)))))))))
noncomputable def Z05(K:Qd)(A:Adr):Fn:=ZL 9 [false,false,false,true,false] (Z3d K A)
set_option maxHeartbeats 0 in
theorem Z6p(T:Txt K mg A):DefX P w K mg base "hand_over" 27 ["rows", "place", "number", "holders", "settled"] (spR (adr A) [false,false,false,true,false] (Z05 K A)) :=
 okD (k:=26) (N:=["rows", "place", "number", "holders", "settled", "start", "other", "holder", "kept"]) (ms:=[false,false,false,true,false]) (body:=Z3d K A) T.X55 Z4k rfl (by decide) fun f cdv A' outer s H E R hr hx hE ha=>by
  have hu:=Z1b hr
  refine Z7 ?_ ?_
  ·refine ZS ?_ ?_
   ·refine Z6z ?_
    ·refine Z6B ?_ ?_ ?_
     ·exact (Z3 (pv 2) (j:=2) rfl)
     ·exact (Z3 (pv 1) (j:=1) rfl)
     ·exact Z7Q
   ·exact (Zg (i:=5) Z2l rfl (Or.inl rfl) rfl (by decide))
  ·refine Z7 ?_ ?_
   ·refine Z7R ZM rfl ?_ ?_ ?_
    ·exact (Z3 (pv 3) (j:=3) rfl)
    ·refine Z99 rfl ?_ (Z3L (Z3L Z7S))
     ·refine Z3J ?_ ?_
      ·exact (Zg (i:=6) Z2l rfl (Or.inl rfl) rfl (by decide))
      ·refine Z3J ?_ ?_
       ·exact (Zg (i:=7) Z2l rfl (Or.inl rfl) rfl (by decide))
       ·exact Z7P
    ·refine Z12 (js:=[6,7]) (by decide) ?_
     ·refine Zb ?_
      ·refine Z0z ?_ ?_ ?_
       ·refine PW.pt ?_
        ·refine Z4h ?_ ?_
         ·refine Z07 on_ne ?_ ?_ (ZD _)
          ·exact (Z3 (pv 6) (j:=6) rfl)
          ·exact (Z3 (pv 2) (j:=2) rfl)
         ·refine Z3x ?_
          ·refine Z07 on_ne ?_ ?_ (ZD _)
           ·exact (Z3 (pv 7) (j:=7) rfl)
           ·exact (Z3 (pv 1) (j:=1) rfl)
       ·refine Zb ?_
        ·refine Z28 hu ?_ ?_ ?_
         ·exact (Z3 (pv 5) (j:=5) rfl)
         ·exact (Z3 (pv 6) (j:=6) rfl)
         ·exact (Z3 (pv 7) (j:=7) rfl)
       ·exact Z0b
   ·refine Z7 ?_ ?_
    ·refine ZS ?_ ?_
     ·refine rc_ty Z53 (by rfl) T.b_dict boot_dict ?_
      ·refine Z4 ?_ ?_
       ·exact (Z3 (pv 4) (j:=4) rfl)
       ·exact Zi
     ·exact (Zg (i:=8) Z2l rfl (Or.inl rfl) rfl (by decide))
    ·refine Z7 ?_ ?_
     ·refine Z28 hu ?_ ?_ ?_
      ·exact (Z3 (pv 8) (j:=8) rfl)
      ·exact (Z3 (pv 2) (j:=2) rfl)
      ·exact (Z3 (pv 1) (j:=1) rfl)
     ·refine Zb ?_
      ·refine ZZ ?_
       ·refine Z0N (ms:=[false,false,false]) (by rw [ha];exact (Z3V T)) (hr.mono (by omega)) hx ?_ (Z6 (Z6 (Z6 Z01)))
        ·refine Z4 ?_ ?_
         ·exact (Z3 (pv 0) (j:=0) rfl)
         ·refine Z4 ?_ ?_
          ·exact (Z3 (pv 5) (j:=5) rfl)
          ·refine Z4 ?_ ?_
           ·exact (Z3 (pv 8) (j:=8) rfl)
           ·exact Zi
theorem Z40:FnScope ["rows", "place", "holders", "settled", "number", "tried"] ["rows", "place", "holders", "settled"] (Z9 Z1r):=⟨rfl,rfl,rfl,by decide +kernel,rfl,by decide +kernel,by decide +kernel⟩
theorem Z3T:(["rows", "place", "holders", "settled", "number", "tried"]:List Str).Nodup:=Z40.nd
noncomputable def Z0n(K:Qd)(A:Adr):SF :=
  (Z15 [4,5] (sIf (bV (eNw (hDIn true) (Z0 (Z1 4) (Z0 (Z1 3) Z2)))) (Zj (Zn (ZF [false,false,false,true,false] (Z05 K A) (Z0 (Z1 0) (Z0 (Z1 1) (Z0 (Z1 4) (Z0 (Z1 2) (Z0 (Z1 3) Z2)))))) (Z5 5))
  (sIf (bV (eNw (hEq false) (Z0 (eNw (hLen K) (Z0 (Z1 5) Z2)) (Z0 (eNw (hLen K) (Z0 (Z1 2) Z2)) Z2)))) (Zj (sE (eMu 1 Z0E (Z0 (Z1 1) (Z0 (Z1 3) (Z0 (Z1 4) Z2)))))
  (Z00 (Z1 5))) ZV)) ZV))
noncomputable def Z43(K:Qd)(A:Adr):SF :=
  (Zj (Z1y (eCh (hIx K) (Z0 (Z1 0) (Z0 (Z1 1) Z2))) (Z5 4)
  (Z0n K A))
  (Z00 (Z1 2)))
noncomputable def Z0x(K:Qd)(A:Adr):Fn:=ZL 6 [false,false,true,true] (Z43 K A)
set_option maxHeartbeats 0 in
theorem Z5z(T:Txt K mg A):DefX P w K mg base "settle_row" 28 ["rows", "place", "holders", "settled"] (spR (adr A) [false,false,true,true] (Z0x K A)) :=
 okD (k:=27) (N:=["rows", "place", "holders", "settled", "number", "tried"]) (ms:=[false,false,true,true]) (body:=Z43 K A) T.X68 Z40 rfl (by decide) fun f cdv A' outer s H E R hr hx hE ha=>by
  have hu:=Z1b hr
  refine Z7 ?_ ?_
  ·refine Z3v ZM rfl ?_ ?_ ?_
   ·refine Z06 ?_ ?_ (fun _ _=>rfl)
    ·exact (Z3 (pv 0) (j:=0) rfl)
    ·exact (Z3 (pv 1) (j:=1) rfl)
   ·exact (Zg (i:=4) Z3T rfl (Or.inl rfl) rfl (by decide))
   ·refine Z12 (js:=[4,5]) (by decide) ?_
    ·refine Zb ?_
     ·refine Z0z ?_ ?_ ?_
      ·refine Z3w ?_
       ·refine Z3u hu ?_ ?_
        ·exact (Z3 (pv 4) (j:=4) rfl)
        ·exact (Z3 (pv 3) (j:=3) rfl)
      ·refine Z7 ?_ ?_
       ·refine ZS ?_ ?_
        ·refine Z0N (ms:=[false,false,false,true,false]) (by rw [ha];exact (Z6p T)) (hr.mono (by omega)) hx ?_ (Z6 (Z6 (Z6 (Z6 (Z6 Z01)))))
         ·refine Z4 ?_ ?_
          ·exact (Z3 (pv 0) (j:=0) rfl)
          ·refine Z4 ?_ ?_
           ·exact (Z3 (pv 1) (j:=1) rfl)
           ·refine Z4 ?_ ?_
            ·exact (Z3 (pv 4) (j:=4) rfl)
            ·refine Z4 ?_ ?_
             ·exact (Z3 (pv 2) (j:=2) rfl)
             ·refine Z4 ?_ ?_
              ·exact (Z3 (pv 3) (j:=3) rfl)
              ·exact Zi
        ·exact (Zg (i:=5) Z3T rfl (Or.inl rfl) rfl (by decide))
       ·refine Zb ?_
        ·refine Z0z ?_ ?_ ?_
         ·refine Z07 on_eq ?_ ?_ (ZD _)
          ·refine rc_b Z1M (by rfl) T.b_len boot_len ?_
           ·refine Z4 ?_ ?_
            ·exact (Z3 (pv 5) (j:=5) rfl)
            ·exact Zi
          ·refine rc_b Z1M (by rfl) T.b_len boot_len ?_
           ·refine Z4 ?_ ?_
            ·exact (Z3 (pv 2) (j:=2) rfl)
            ·exact Zi
         ·refine Z7 ?_ ?_
          ·refine Z28 hu ?_ ?_ ?_
           ·exact (Z3 (pv 3) (j:=3) rfl)
           ·exact (Z3 (pv 4) (j:=4) rfl)
           ·exact (Z3 (pv 1) (j:=1) rfl)
          ·refine Zb ?_
           ·refine ZZ ?_
            ·exact (Z3 (pv 5) (j:=5) rfl)
         ·exact Z0b
      ·exact Z0b
  ·refine Zb ?_
   ·refine ZZ ?_
    ·exact (Z3 (pv 2) (j:=2) rfl)
theorem Z3Z:FnScope ["rows", "holders", "settled", "place", "answer", "number"] ["rows"] (Z9 Z13):=⟨rfl,rfl,rfl,by decide +kernel,rfl,by decide +kernel,by decide +kernel⟩
theorem Z0P:(["rows", "holders", "settled", "place", "answer", "number"]:List Str).Nodup:=Z3Z.nd
noncomputable def Z2i(K:Qd)(A:Adr):SF :=
  (Zn (ZF [false,false,true,true] (Z0x K A) (Z0 (Z1 0) (Z0 (Z1 3) (Z0 (Z1 1) (Z0 (Z1 2) Z2))))) (Z5 1))
noncomputable def Z1c(K:Qd)(A:Adr):SF :=
  (Z15 [5] (sE (eMu 1 hPutL (Z0 (Z1 5) (Z0 (Z1 4) (Z0 (Z1 3) Z2))))))
noncomputable def Z2R(K:Qd)(A:Adr):SF :=
  (Zj (Zn (ZF [false,false,false] (ZK K A) (Z0 (Z1 0) (Z0 (Z04 (.dic true []) Z2) (Z0 (Z04 (.dic true []) Z2) Z2)))) (Z5 1))
  (Zj (Zn (Z04 (.dic true []) Z2) (Z5 2))
  (Zj (Z1e (Z0 (eNw (hLen K) (Z0 (Z1 0) Z2)) Z2) (Z5 3)
  (Z2i K A))
  (Zj (Zn (Z19 (Z1 0) (fun _=>bYes) (fun n1=>(eC .non))) (Z5 4))
  (Zj (sForD (Z1 2) (tgT (tgC (Z5 5) (tgC (Z5 3) tgN)))
  (Z1c K A))
  (Z00 (Z1 4)))))))
noncomputable def Z0w(K:Qd)(A:Adr):Fn:=ZL 6 [false] (Z2R K A)
set_option maxHeartbeats 0 in
theorem Z5y(T:Txt K mg A):DefX P w K mg base "serve_rows" 29 ["rows"] (spR (adr A) [false] (Z0w K A)) :=
 okD (k:=28) (N:=["rows", "holders", "settled", "place", "answer", "number"]) (ms:=[false]) (body:=Z2R K A) T.X81 Z3Z rfl (by decide) fun f cdv A' outer s H E R hr hx hE ha=>by
  have hu:=Z1b hr
  refine Z7 ?_ ?_
  ·refine ZS ?_ ?_
   ·refine Z0N (ms:=[false,false,false]) (by rw [ha];exact (Z3V T)) (hr.mono (by omega)) hx ?_ (Z6 (Z6 (Z6 Z01)))
    ·refine Z4 ?_ ?_
     ·exact (Z3 (pv 0) (j:=0) rfl)
     ·refine Z4 ?_ ?_
      ·exact Z4t
      ·refine Z4 ?_ ?_
       ·exact Z4t
       ·exact Zi
   ·exact (Zg (i:=1) Z0P rfl (Or.inl rfl) rfl (by decide))
  ·refine Z7 ?_ ?_
   ·refine ZS ?_ ?_
    ·exact Z4t
    ·exact (Zg (i:=2) Z0P rfl (Or.inl rfl) rfl (by decide))
   ·refine Z7 ?_ ?_
    ·refine Z21 ZM rfl rfl T.b_range ?_ ?_ ?_
     ·refine rc_b Z1M (by rfl) T.b_len boot_len ?_
      ·refine Z4 ?_ ?_
       ·exact (Z3 (pv 0) (j:=0) rfl)
       ·exact Zi
     ·exact (Zg (i:=3) Z0P rfl (Or.inl rfl) rfl (by decide))
     ·refine Zb ?_
      ·refine ZS ?_ ?_
       ·refine Z0N (ms:=[false,false,true,true]) (by rw [ha];exact (Z5z T)) (hr.mono (by omega)) hx ?_ (Z6 (Z6 (Z6 (Z6 Z01))))
        ·refine Z4 ?_ ?_
         ·exact (Z3 (pv 0) (j:=0) rfl)
         ·refine Z4 ?_ ?_
          ·exact (Z3 (pv 3) (j:=3) rfl)
          ·refine Z4 ?_ ?_
           ·exact (Z3 (pv 1) (j:=1) rfl)
           ·refine Z4 ?_ ?_
            ·exact (Z3 (pv 2) (j:=2) rfl)
            ·exact Zi
       ·exact (Zg (i:=1) Z0P rfl (Or.inl rfl) rfl (by decide))
    ·refine Z7 ?_ ?_
     ·refine Z3K (N:=["row", "rows", "holders", "settled", "place", "answer", "number"]) rfl (by decide) ?_ (CompSc.of (sc:=Z9 Z13) (N0:=["rows", "holders", "settled", "place", "answer", "number"]) rfl rfl (by decide +kernel)) (fun cl C s H fp=>(Z27 (i:=0) (show (["row", "rows", "holders", "settled", "place", "answer", "number"]:List Str).Nodup from by decide +kernel) rfl (Or.inl rfl))) (fun cl C s H fp=>Z4W) (fun cl C s H fp=>px_e fun n1 hn1=>?_) Z0P rfl (i:=4) rfl (j:=4) rfl (by rfl)
      ·exact (Z3 (pv 0) (j:=0) rfl)
      ·exact (Za Z1Q)
     ·refine Z7 ?_ ?_
      ·refine Z7R ZM rfl ?_ ?_ ?_
       ·exact (Z3 (pv 2) (j:=2) rfl)
       ·refine Z99 rfl ?_ (Z3L (Z3L Z7S))
        ·refine Z3J ?_ ?_
         ·exact (Zg (i:=5) Z0P rfl (Or.inl rfl) rfl (by decide))
         ·refine Z3J ?_ ?_
          ·exact (Zg (i:=3) Z0P rfl (Or.inl rfl) rfl (by decide))
          ·exact Z7P
       ·refine Z12 (js:=[5]) (by decide) ?_
        ·refine Zb ?_
         ·refine ZaC ?_ ?_ ?_
          ·exact (Z3 (pv 4) (j:=4) rfl)
          ·exact (Z3 (pv 3) (j:=3) rfl)
          ·exact (Z3 (pv 5) (j:=5) rfl)
      ·refine Zb ?_
       ·refine ZZ ?_
        ·exact (Z3 (pv 4) (j:=4) rfl)
theorem Z4Z:FnScope ["_law_script", "_law_k"] ["_law_script", "_law_k"] (Z9 Z29):=⟨rfl,rfl,rfl,by decide +kernel,rfl,by decide +kernel,by decide +kernel⟩
theorem Zca:(["_law_script", "_law_k"]:List Str).Nodup:=Z4Z.nd
noncomputable def Z42(K:Qd)(A:Adr):SF :=
  (Zj (sIf (bV (eNw hLt (Z0 (Z1 1) (Z0 (eNw (hLen K) (Z0 (Z1 0) Z2)) Z2)))) (Z00 (eCh (hIx K) (Z0 (Z1 0) (Z0 (Z1 1) Z2)))) ZV)
  (Z00 (eC (.int (0)))))
noncomputable def Z0T(K:Qd)(A:Adr):Fn:=ZL 2 [false,false] (Z42 K A)
set_option maxHeartbeats 0 in
theorem Z4P(T:Txt K mg A):DefX P w K mg base "_law_at" 1 ["_law_script", "_law_k"] (spR (adr A) [false,false] (Z0T K A)) :=
 okD (k:=0) (N:=["_law_script", "_law_k"]) (ms:=[false,false]) (body:=Z42 K A) T.X94 Z4Z rfl (by decide) fun f cdv A' outer s H E R hr hx hE ha=>by
  have hu:=Z1b hr
  refine Z7 ?_ ?_
  ·refine Z0z ?_ ?_ ?_
   ·refine Z07 on_lt ?_ ?_ (ZD _)
    ·exact (Z3 (pv 1) (j:=1) rfl)
    ·refine rc_b Z1M (by rfl) T.b_len boot_len ?_
     ·refine Z4 ?_ ?_
      ·exact (Z3 (pv 0) (j:=0) rfl)
      ·exact Zi
   ·refine Zb ?_
    ·refine ZZ ?_
     ·refine Z06 ?_ ?_ (fun _ _=>rfl)
      ·exact (Z3 (pv 0) (j:=0) rfl)
      ·exact (Z3 (pv 1) (j:=1) rfl)
   ·exact Z0b
  ·refine Zb ?_
   ·refine ZZ ?_
    ·exact (Za Z8)
theorem Z39:FnScope ["_law_script", "_law_k", "_law_base", "_law_many", "_law_cell", "_law_found", "_law_j", "_law_once"] ["_law_script", "_law_k", "_law_base", "_law_many"] (Z9 Z0X):=⟨rfl,rfl,rfl,by decide +kernel,rfl,by decide +kernel,by decide +kernel⟩
theorem Z1d:(["_law_script", "_law_k", "_law_base", "_law_many", "_law_cell", "_law_found", "_law_j", "_law_once"]:List Str).Nodup:=Z39.nd
noncomputable def Z0m(K:Qd)(A:Adr):SF :=
  (Z15 [6,7] (sIf (bV (eNw (hEq false) (Z0 (eNw hMod (Z0 (ZF [false,false] (Z0T K A) (Z0 (Z1 0) (Z0 (eC (.int (0))) Z2))) (Z0 (eC (.int (2))) Z2))) (Z0 (eC (.int (0))) Z2)))) (Zj (sE (eMu 0 hApp (Z0 (Z1N Z1J (Z1 5)) (Z0 (eNw hMod (Z0 (Z1 4) (Z0 (Z1 2) Z2))) Z2))))
  (Zn (eNw hDiv (Z0 (Z1 4) (Z0 (Z1 2) Z2))) (Z5 4))) (Zj (Zn (eNw hMod (Z0 (eNw hMul (Z0 (eNw Z0g (Z0 (eNw Z0g (Z0 (Z1 4) (Z0 (eNw hMul (Z0 (eC (.int (31))) (Z0 (Z1 6) Z2))) Z2))) (Z0 (eC (.int (1))) Z2))) (Z0 (eC (.int (48271))) Z2))) (Z0 (eC (.int (2147483647))) Z2))) (Z5 7))
  (sE (eMu 0 hApp (Z0 (Z1N Z1J (Z1 5)) (Z0 (eNw hMod (Z0 (eNw hMod (Z0 (eNw hMul (Z0 (eNw Z0g (Z0 (eNw Z0g (Z0 (eNw Z0g (Z0 (Z1 7) (Z0 (eNw hMul (Z0 (eC (.int (7919))) (Z0 (Z1 1) Z2))) Z2))) (Z0 (Z1 6) Z2))) (Z0 (eC (.int (1))) Z2))) (Z0 (eC (.int (69621))) Z2))) (Z0 (eC (.int (2147483647))) Z2))) (Z0 (Z1 2) Z2))) Z2)))))))
noncomputable def Z2q(K:Qd)(A:Adr):SF :=
  (Zj (Zn (ZF [false,false] (Z0T K A) (Z0 (Z1 0) (Z0 (Z1 1) Z2))) (Z5 4))
  (Zj (Zn (Z04 (.lst true) Z2) (Z5 5))
  (Zj (Z1e (Z0 (Z1 3) Z2) (Z5 6)
  (Z0m K A))
  (Z00 (Z1 5)))))
noncomputable def Zv(K:Qd)(A:Adr):Fn:=ZL 8 [false,false,false,false] (Z2q K A)
set_option maxHeartbeats 0 in
theorem Z37(T:Txt K mg A):DefX P w K mg base "_law_figures" 2 ["_law_script", "_law_k", "_law_base", "_law_many"] (spR (adr A) [false,false,false,false] (Zv K A)) :=
 okD (k:=1) (N:=["_law_script", "_law_k", "_law_base", "_law_many", "_law_cell", "_law_found", "_law_j", "_law_once"]) (ms:=[false,false,false,false]) (body:=Z2q K A) T.X107 Z39 rfl (by decide) fun f cdv A' outer s H E R hr hx hE ha=>by
  have hu:=Z1b hr
  refine Z7 ?_ ?_
  ·refine ZS ?_ ?_
   ·refine Z0N (ms:=[false,false]) (by rw [ha];exact (Z4P T)) (hr.mono (by omega)) hx ?_ (Z6 (Z6 Z01))
    ·refine Z4 ?_ ?_
     ·exact (Z3 (pv 0) (j:=0) rfl)
     ·refine Z4 ?_ ?_
      ·exact (Z3 (pv 1) (j:=1) rfl)
      ·exact Zi
   ·exact (Zg (i:=4) Z1d rfl (Or.inl rfl) rfl (by decide))
  ·refine Z7 ?_ ?_
   ·refine ZS ?_ ?_
    ·refine Z1U ?_
     ·exact Zi
    ·exact (Zg (i:=5) Z1d rfl (Or.inl rfl) rfl (by decide))
   ·refine Z7 ?_ ?_
    ·refine Z21 ZM rfl rfl T.b_range ?_ ?_ ?_
     ·exact (Z3 (pv 3) (j:=3) rfl)
     ·exact (Zg (i:=6) Z1d rfl (Or.inl rfl) rfl (by decide))
     ·refine Z12 (js:=[6,7]) (by decide) ?_
      ·refine Zb ?_
       ·refine Z0z ?_ ?_ ?_
        ·refine Z07 on_eq ?_ ?_ (ZD _)
         ·refine Zm Z0u ?_ ?_
          ·refine Z0N (ms:=[false,false]) (by rw [ha];exact (Z4P T)) (hr.mono (by omega)) hx ?_ (Z6 (Z6 Z01))
           ·refine Z4 ?_ ?_
            ·exact (Z3 (pv 0) (j:=0) rfl)
            ·refine Z4 ?_ ?_
             ·exact (Za Z8)
             ·exact Zi
          ·exact (Za Z8)
         ·exact (Za Z8)
        ·refine Z7 ?_ ?_
         ·refine rs_e ?_
          ·refine Z4g ?_ ?_
           ·exact (Z3 (pv 5) (j:=5) rfl)
           ·refine Zm Z0u ?_ ?_
            ·exact (Z3 (pv 4) (j:=4) rfl)
            ·exact (Z3 (pv 2) (j:=2) rfl)
         ·refine Zb ?_
          ·refine ZS ?_ ?_
           ·refine Zm Z1P ?_ ?_
            ·exact (Z3 (pv 4) (j:=4) rfl)
            ·exact (Z3 (pv 2) (j:=2) rfl)
           ·exact (Zg (i:=4) Z1d rfl (Or.inl rfl) rfl (by decide))
        ·refine Z7 ?_ ?_
         ·refine ZS ?_ ?_
          ·refine Zm Z0u ?_ ?_
           ·refine Zm Z2Y ?_ ?_
            ·refine Zm Z0H ?_ ?_
             ·refine Zm Z0H ?_ ?_
              ·exact (Z3 (pv 4) (j:=4) rfl)
              ·refine Zm Z2Y ?_ ?_
               ·exact (Za Z8)
               ·exact (Z3 (pv 6) (j:=6) rfl)
             ·exact (Za Z8)
            ·exact (Za Z8)
           ·exact (Za Z8)
          ·exact (Zg (i:=7) Z1d rfl (Or.inl rfl) rfl (by decide))
         ·refine Zb ?_
          ·refine rs_e ?_
           ·refine Z4g ?_ ?_
            ·exact (Z3 (pv 5) (j:=5) rfl)
            ·refine Zm Z0u ?_ ?_
             ·refine Zm Z0u ?_ ?_
              ·refine Zm Z2Y ?_ ?_
               ·refine Zm Z0H ?_ ?_
                ·refine Zm Z0H ?_ ?_
                 ·refine Zm Z0H ?_ ?_
                  ·exact (Z3 (pv 7) (j:=7) rfl)
                  ·refine Zm Z2Y ?_ ?_
                   ·exact (Za Z8)
                   ·exact (Z3 (pv 1) (j:=1) rfl)
                 ·exact (Z3 (pv 6) (j:=6) rfl)
                ·exact (Za Z8)
               ·exact (Za Z8)
              ·exact (Za Z8)
             ·exact (Z3 (pv 2) (j:=2) rfl)
    ·refine Zb ?_
     ·refine ZZ ?_
      ·exact (Z3 (pv 5) (j:=5) rfl)
theorem Z3W:FnScope ["_law_many", "_law_spread", "_law_one", "_law_made"] ["_law_many", "_law_spread", "_law_one"] (Z9 Z0K):=⟨rfl,rfl,rfl,by decide +kernel,rfl,by decide +kernel,by decide +kernel⟩
theorem Z3R:(["_law_many", "_law_spread", "_law_one", "_law_made"]:List Str).Nodup:=Z3W.nd
noncomputable def Z2o(K:Qd)(A:Adr):SF :=
  (Zj (sE (eIns (Z0 (Z1N Z1J (Z1 3)) (Z0 (eNw hMod (Z0 (eNw hDiv (Z0 (Z1 2) (Z0 (eC (.int (2))) Z2))) (Z0 (Z1 0) Z2))) (Z0 (Z04 (.lst true) (Z0 (eC (.int (0))) Z2)) Z2)))))
  (Z00 (Z1 3)))
noncomputable def Z3b(K:Qd)(A:Adr):SF :=
  (Zj (sIf (bV (eNw (hEq false) (Z0 (eNw hMod (Z0 (Z1 2) (Z0 (eC (.int (2))) Z2))) (Z0 (eC (.int (1))) Z2)))) (Zn (Z19 (Z1 3) (fun _=>bYes) (fun n1=>(eNw hRev (Z0 (Z1 n1) (Z0 (eNw hNeg (Z0 (eC (.int (1))) Z2)) Z2))))) (Z5 3)) ZV)
  (Z2o K A))
noncomputable def Z2O(K:Qd)(A:Adr):SF :=
  (Zj (Zn (Z23 (eNw hSub (Z0 (Z1 0) (Z0 (eC (.int (1))) Z2))) (fun _=>bYes) (fun n1=>(Z04 (.lst true) (Z0 (eNw hMul (Z0 (Z1 n1) (Z0 (Z1 1) Z2))) (Z0 (eNw hMul (Z0 (eNw Z0g (Z0 (Z1 n1) (Z0 (eC (.int (1))) Z2))) (Z0 (Z1 1) Z2))) Z2))))) (Z5 3))
  (Z3b K A))
noncomputable def Z03(K:Qd)(A:Adr):Fn:=ZL 4 [false,false,false] (Z2O K A)
set_option maxHeartbeats 0 in
theorem Z5w(T:Txt K mg A):DefX P w K mg base "_law_chain" 1 ["_law_many", "_law_spread", "_law_one"] (spR (adr A) [false,false,false] (Z03 K A)) :=
 okD (k:=0) (N:=["_law_many", "_law_spread", "_law_one", "_law_made"]) (ms:=[false,false,false]) (body:=Z2O K A) T.X120 Z3W rfl (by decide) fun f cdv A' outer s H E R hr hx hE ha=>by
  have hu:=Z1b hr
  refine Z7 ?_ ?_
  ·refine Z9a (N:=["_law_k", "_law_many", "_law_spread", "_law_one", "_law_made"]) rfl (by decide) rfl T.b_range ?_ (CompSc.of (sc:=Z9 Z0K) (N0:=["_law_many", "_law_spread", "_law_one", "_law_made"]) rfl rfl (by decide +kernel)) (fun cl C s H fp=>(Z27 (i:=0) (show (["_law_k", "_law_many", "_law_spread", "_law_one", "_law_made"]:List Str).Nodup from by decide +kernel) rfl (Or.inl rfl))) (fun cl C s H fp=>Z4W) (fun cl C s H fp=>px_e fun n1 hn1=>?_) Z3R rfl (i:=3) rfl (j:=3) rfl (by rfl)
   ·refine Zm Z4R ?_ ?_
    ·exact (Z3 (pv 0) (j:=0) rfl)
    ·exact (Za Z8)
   ·refine Z1U ?_
    ·refine Z4 ?_ ?_
     ·refine Zm Z2Y ?_ ?_
      ·exact (Z3 (pv 0) (j:=n1) rfl)
      ·exact (Z3 (pv 2) (j:=1) rfl)
     ·refine Z4 ?_ ?_
      ·refine Zm Z2Y ?_ ?_
       ·refine Zm Z0H ?_ ?_
        ·exact (Z3 (pv 0) (j:=n1) rfl)
        ·exact (Za Z8)
       ·exact (Z3 (pv 2) (j:=1) rfl)
      ·exact Zi
  ·refine Z7 ?_ ?_
   ·refine Z0z ?_ ?_ ?_
    ·refine Z07 on_eq ?_ ?_ (ZD _)
     ·refine Zm Z0u ?_ ?_
      ·exact (Z3 (pv 2) (j:=2) rfl)
      ·exact (Za Z8)
     ·exact (Za Z8)
    ·refine Zb ?_
     ·refine Z3K (N:=["_law_row", "_law_many", "_law_spread", "_law_one", "_law_made"]) rfl (by decide) ?_ (CompSc.of (sc:=Z9 Z0K) (N0:=["_law_many", "_law_spread", "_law_one", "_law_made"]) rfl rfl (by decide +kernel)) (fun cl C s H fp=>(Z27 (i:=0) (show (["_law_row", "_law_many", "_law_spread", "_law_one", "_law_made"]:List Str).Nodup from by decide +kernel) rfl (Or.inl rfl))) (fun cl C s H fp=>Z4W) (fun cl C s H fp=>px_e fun n1 hn1=>?_) Z3R rfl (i:=3) rfl (j:=3) rfl (by rfl)
      ·exact (Z3 (pv 3) (j:=3) rfl)
      ·refine ZbO ?_ ?_
       ·exact (Z3 (pv 0) (j:=n1) rfl)
       ·refine ZbN ?_
        ·exact (Za Z8)
    ·exact Z0b
   ·refine Z7 ?_ ?_
    ·refine rs_e ?_
     ·refine ZbM ?_ ?_ ?_
      ·exact (Z3 (pv 3) (j:=3) rfl)
      ·refine Zm Z0u ?_ ?_
       ·refine Zm Z1P ?_ ?_
        ·exact (Z3 (pv 2) (j:=2) rfl)
        ·exact (Za Z8)
       ·exact (Z3 (pv 0) (j:=0) rfl)
      ·refine Z1U ?_
       ·refine Z4 ?_ ?_
        ·exact (Za Z8)
        ·exact Zi
    ·refine Zb ?_
     ·refine ZZ ?_
      ·exact (Z3 (pv 3) (j:=3) rfl)
theorem Z4j:FnScope ["_law_one", "_law_cells", "_law_first"] ["_law_one", "_law_cells", "_law_first"] (Z9 Z1G):=⟨rfl,rfl,rfl,by decide +kernel,rfl,by decide +kernel,by decide +kernel⟩
theorem Zbq:(["_law_one", "_law_cells", "_law_first"]:List Str).Nodup:=Z4j.nd
noncomputable def Z1F(K:Qd)(A:Adr):SF :=
  (Zj (sIf (bV (eNw (hEq false) (Z0 (eNw hMod (Z0 (Z1 0) (Z0 (eC (.int (4))) Z2))) (Z0 (eC (.int (0))) Z2)))) (Z00 (eNw hMod (Z0 (eNw hDiv (Z0 (Z1 0) (Z0 (eC (.int (4))) Z2))) (Z0 (eNw Z0g (Z0 (Z1 1) (Z0 (eC (.int (1))) Z2))) Z2)))) ZV)
  (Zj (sIf (bAnd (bV (eNw (hEq false) (Z0 (eNw hMod (Z0 (Z1 0) (Z0 (eC (.int (4))) Z2))) (Z0 (eC (.int (1))) Z2)))) (bV (Z1 2))) (Z00 (Z1 1)) ZV)
  (Z00 (eNw hMod (Z0 (eNw hDiv (Z0 (Z1 0) (Z0 (eC (.int (4))) Z2))) (Z0 (eNw hMin (Z0 (eC (.int (4))) (Z0 (eNw Z0g (Z0 (Z1 1) (Z0 (eC (.int (1))) Z2))) Z2))) Z2))))))
noncomputable def ZW(K:Qd)(A:Adr):Fn:=ZL 3 [false,false,false] (Z1F K A)
set_option maxHeartbeats 0 in
theorem Z6n(T:Txt K mg A):DefX P w K mg base "_law_long" 1 ["_law_one", "_law_cells", "_law_first"] (spR (adr A) [false,false,false] (ZW K A)) :=
 okD (k:=0) (N:=["_law_one", "_law_cells", "_law_first"]) (ms:=[false,false,false]) (body:=Z1F K A) T.X133 Z4j rfl (by decide) fun f cdv A' outer s H E R hr hx hE ha=>by
  have hu:=Z1b hr
  refine Z7 ?_ ?_
  ·refine Z0z ?_ ?_ ?_
   ·refine Z07 on_eq ?_ ?_ (ZD _)
    ·refine Zm Z0u ?_ ?_
     ·exact (Z3 (pv 0) (j:=0) rfl)
     ·exact (Za Z8)
    ·exact (Za Z8)
   ·refine Zb ?_
    ·refine ZZ ?_
     ·refine Zm Z0u ?_ ?_
      ·refine Zm Z1P ?_ ?_
       ·exact (Z3 (pv 0) (j:=0) rfl)
       ·exact (Za Z8)
      ·refine Zm Z0H ?_ ?_
       ·exact (Z3 (pv 1) (j:=1) rfl)
       ·exact (Za Z8)
   ·exact Z0b
  ·refine Z7 ?_ ?_
   ·refine Z0z ?_ ?_ ?_
    ·refine PW.pt ?_
     ·refine Z4h ?_ ?_
      ·refine Z07 on_eq ?_ ?_ (ZD _)
       ·refine Zm Z0u ?_ ?_
        ·exact (Z3 (pv 0) (j:=0) rfl)
        ·exact (Za Z8)
       ·exact (Za Z8)
      ·refine Z3x ?_
       ·refine rt_v ?_
        ·exact (Z3 (pv 2) (j:=2) rfl)
    ·refine Zb ?_
     ·refine ZZ ?_
      ·exact (Z3 (pv 1) (j:=1) rfl)
    ·exact Z0b
   ·refine Zb ?_
    ·refine ZZ ?_
     ·refine Zm Z0u ?_ ?_
      ·refine Zm Z1P ?_ ?_
       ·exact (Z3 (pv 0) (j:=0) rfl)
       ·exact (Za Z8)
      ·refine rc_b (ZaV rfl) (by rfl) T.b_min boot_min ?_
       ·refine Z4 ?_ ?_
        ·exact (Za Z8)
        ·refine Z4 ?_ ?_
         ·refine Zm Z0H ?_ ?_
          ·exact (Z3 (pv 1) (j:=1) rfl)
          ·exact (Za Z8)
         ·exact Zi
theorem Z3z:FnScope ["_law_figs", "_law_many", "_law_wide", "_law_spread", "_law_row", "_law_k", "_law_spot"] ["_law_figs", "_law_many", "_law_wide", "_law_spread"] (Z9 Z17):=⟨rfl,rfl,rfl,by decide +kernel,rfl,by decide +kernel,by decide +kernel⟩
theorem Z2v:(["_law_figs", "_law_many", "_law_wide", "_law_spread", "_law_row", "_law_k", "_law_spot"]:List Str).Nodup:=Z3z.nd
noncomputable def Z0s(K:Qd)(A:Adr):SF :=
  (Z15 [5,6] (Zj (Zn (eNw hMul (Z0 (eNw hMod (Z0 (eCh (hIx K) (Z0 (Z1 0) (Z0 (Z1 5) Z2))) (Z0 (Z1 2) Z2))) (Z0 (Z1 3) Z2))) (Z5 6))
  (sIf (bV (eNw (hIn true) (Z0 (Z1 6) (Z0 (Z1 4) Z2)))) (sE (eMu 0 hApp (Z0 (Z1N Z1J (Z1 4)) (Z0 (Z1 6) Z2)))) ZV)))
noncomputable def Z2F(K:Qd)(A:Adr):SF :=
  (Zj (Zn (Z04 (.lst true) Z2) (Z5 4))
  (Zj (Z1e (Z0 (Z1 1) Z2) (Z5 5)
  (Z0s K A))
  (Z00 (Z1 4))))
noncomputable def ZP(K:Qd)(A:Adr):Fn:=ZL 7 [false,false,false,false] (Z2F K A)
set_option maxHeartbeats 0 in
theorem Z5a(T:Txt K mg A):DefX P w K mg base "_law_row_of" 1 ["_law_figs", "_law_many", "_law_wide", "_law_spread"] (spR (adr A) [false,false,false,false] (ZP K A)) :=
 okD (k:=0) (N:=["_law_figs", "_law_many", "_law_wide", "_law_spread", "_law_row", "_law_k", "_law_spot"]) (ms:=[false,false,false,false]) (body:=Z2F K A) T.X146 Z3z rfl (by decide) fun f cdv A' outer s H E R hr hx hE ha=>by
  have hu:=Z1b hr
  refine Z7 ?_ ?_
  ·refine ZS ?_ ?_
   ·refine Z1U ?_
    ·exact Zi
   ·exact (Zg (i:=4) Z2v rfl (Or.inl rfl) rfl (by decide))
  ·refine Z7 ?_ ?_
   ·refine Z21 ZM rfl rfl T.b_range ?_ ?_ ?_
    ·exact (Z3 (pv 1) (j:=1) rfl)
    ·exact (Zg (i:=5) Z2v rfl (Or.inl rfl) rfl (by decide))
    ·refine Z12 (js:=[5,6]) (by decide) ?_
     ·refine Z7 ?_ ?_
      ·refine ZS ?_ ?_
       ·refine Zm Z2Y ?_ ?_
        ·refine Zm Z0u ?_ ?_
         ·refine Z06 ?_ ?_ (fun _ _=>rfl)
          ·exact (Z3 (pv 0) (j:=0) rfl)
          ·exact (Z3 (pv 5) (j:=5) rfl)
         ·exact (Z3 (pv 2) (j:=2) rfl)
        ·exact (Z3 (pv 3) (j:=3) rfl)
       ·exact (Zg (i:=6) Z2v rfl (Or.inl rfl) rfl (by decide))
      ·refine Zb ?_
       ·refine Z0z ?_ ?_ ?_
        ·refine Z07 Z3I ?_ ?_ rfl
         ·exact (Z3 (pv 6) (j:=6) rfl)
         ·exact (Z3 (pv 4) (j:=4) rfl)
        ·refine Zb ?_
         ·refine rs_e ?_
          ·refine Z4g ?_ ?_
           ·exact (Z3 (pv 4) (j:=4) rfl)
           ·exact (Z3 (pv 6) (j:=6) rfl)
        ·exact Z0b
   ·refine Zb ?_
    ·refine ZZ ?_
     ·exact (Z3 (pv 4) (j:=4) rfl)
theorem Z2D:FnScope ["_law_script", "_law_first", "_law_rows", "_law_cells", "_law_figs", "_law_many", "_law_wide", "_law_spread", "_law_made", "_law_k", "_law_long_here", "_law_row"] ["_law_script", "_law_first", "_law_rows", "_law_cells"] (Z9 Z0B):=⟨rfl,rfl,rfl,by decide +kernel,rfl,by decide +kernel,by decide +kernel⟩
theorem ZJ:(["_law_script", "_law_first", "_law_rows", "_law_cells", "_law_figs", "_law_many", "_law_wide", "_law_spread", "_law_made", "_law_k", "_law_long_here", "_law_row"]:List Str).Nodup:=Z2D.nd
noncomputable def Z1s(K:Qd)(A:Adr):SF :=
  (sGrA 11 (Z1 8))
noncomputable def Z2c(K:Qd)(A:Adr):SF :=
  (Zj (sIf (bAnd (bV (eNw hGt (Z0 (Z1 9) (Z0 (eC (.int (0))) Z2)))) (bV (eNw (hEq false) (Z0 (eNw hMod (Z0 (eNw hDiv (Z0 (eCh (hIx K) (Z0 (Z1 4) (Z0 (Z1 3) Z2))) (Z0 (eC (.int (28))) Z2))) (Z0 (eC (.int (6))) Z2))) (Z0 (eC (.int (1))) Z2))))) (Zn (eNw Z1W (Z0 (eCh (hIx K) (Z0 (Z1 8) (Z0 (eNw hSub (Z0 (Z1 9) (Z0 (eC (.int (1))) Z2))) Z2))) Z2)) (Z5 11)) ZV)
  (Z1s K A))
noncomputable def Z2b(K:Qd)(A:Adr):SF :=
  (Zj (Zn (ZF [false,false,false,false] (ZP K A) (Z0 (Z1 4) (Z0 (Z1 10) (Z0 (Z1 6) (Z0 (Z1 7) Z2))))) (Z5 11))
  (Z2c K A))
noncomputable def Z2a(K:Qd)(A:Adr):SF :=
  (Zj (Zn (ZF [false,false,false] (ZW K A) (Z0 (eCh (hIx K) (Z0 (Z1 4) (Z0 (Z1 3) Z2))) (Z0 (Z1 3) (Z0 (eNw hLt (Z0 (Z1 9) (Z0 (eNw hDiv (Z0 (Z1 5) (Z0 (eC (.int (2))) Z2))) Z2))) Z2)))) (Z5 10))
  (Z2b K A))
noncomputable def Z08(K:Qd)(A:Adr):SF :=
  (Z15 [9,10,11] (Zj (Zn (ZF [false,false,false,false] (Zv K A) (Z0 (Z1 0) (Z0 (eNw Z0g (Z0 (eNw Z0g (Z0 (Z1 1) (Z0 (eC (.int (1))) Z2))) (Z0 (Z1 9) Z2))) (Z0 (eC (.int (840))) (Z0 (eNw Z0g (Z0 (Z1 3) (Z0 (eC (.int (1))) Z2))) Z2))))) (Z5 4))
  (Z2a K A)))
noncomputable def Z1E(K:Qd)(A:Adr):SF :=
  (Zj (Zn (Z04 (.lst true) Z2) (Z5 8))
  (Zj (Z1e (Z0 (Z1 5) Z2) (Z5 9)
  (Z08 K A))
  (Z00 (Z1 8))))
noncomputable def Z1D(K:Qd)(A:Adr):SF :=
  (Zj (sIf (bAnd (bV (eNw (hEq false) (Z0 (eNw hMod (Z0 (eCh (hIx K) (Z0 (Z1 4) (Z0 (eC (.int (3))) Z2))) (Z0 (eC (.int (6))) Z2))) (Z0 (eC (.int (1))) Z2)))) (bV (eNw hGt (Z0 (Z1 5) (Z0 (eC (.int (0))) Z2))))) (Z00 (ZF [false,false,false] (Z03 K A) (Z0 (Z1 5) (Z0 (Z1 7) (Z0 (eNw hDiv (Z0 (eCh (hIx K) (Z0 (Z1 4) (Z0 (eC (.int (3))) Z2))) (Z0 (eC (.int (6))) Z2))) Z2))))) ZV)
  (Z1E K A))
noncomputable def Z1C(K:Qd)(A:Adr):SF :=
  (Zj (Zn (eCh (hIx K) (Z0 (Z04 (.lst true) (Z0 (eC (.int (1))) (Z0 (eC (.int (1))) (Z0 (eC (.int (7))) (Z0 (eC (.int (1000003))) Z2))))) (Z0 (eNw hMod (Z0 (eCh (hIx K) (Z0 (Z1 4) (Z0 (eC (.int (2))) Z2))) (Z0 (eC (.int (4))) Z2))) Z2))) (Z5 7))
  (Z1D K A))
noncomputable def Z1B(K:Qd)(A:Adr):SF :=
  (Zj (Zn (eCh (hIx K) (Z0 (Z04 (.lst true) (Z0 (eNw hMax (Z0 (eC (.int (1))) (Z0 (eNw hSub (Z0 (eNw Z0g (Z0 (Z1 5) (Z0 (eNw hMod (Z0 (eNw hDiv (Z0 (eCh (hIx K) (Z0 (Z1 4) (Z0 (eC (.int (1))) Z2))) (Z0 (eC (.int (3))) Z2))) (Z0 (eC (.int (5))) Z2))) Z2))) (Z0 (eC (.int (3))) Z2))) Z2))) (Z0 (eNw Z0g (Z0 (eC (.int (1))) (Z0 (eNw hDiv (Z0 (Z1 5) (Z0 (eC (.int (2))) Z2))) Z2))) (Z0 (eC (.int (30))) Z2)))) (Z0 (eCh (hIx K) (Z0 (Z04 (.lst true) (Z0 (eC (.int (0))) (Z0 (eC (.int (0))) (Z0 (eC (.int (0))) (Z0 (eC (.int (1))) (Z0 (eC (.int (1))) (Z0 (eC (.int (2))) Z2))))))) (Z0 (eNw hMod (Z0 (eCh (hIx K) (Z0 (Z1 4) (Z0 (eC (.int (1))) Z2))) (Z0 (eC (.int (6))) Z2))) Z2))) Z2))) (Z5 6))
  (Z1C K A))
noncomputable def Z1A(K:Qd)(A:Adr):SF :=
  (Zj (Zn (eCh (hIx K) (Z0 (Z04 (.lst true) (Z0 (eNw hMod (Z0 (eNw hDiv (Z0 (eCh (hIx K) (Z0 (Z1 4) (Z0 (eC (.int (0))) Z2))) (Z0 (eC (.int (3))) Z2))) (Z0 (eNw Z0g (Z0 (Z1 2) (Z0 (eC (.int (1))) Z2))) Z2))) (Z0 (Z1 2) (Z0 (eNw hSub (Z0 (Z1 2) (Z0 (eNw hMod (Z0 (eNw hDiv (Z0 (eCh (hIx K) (Z0 (Z1 4) (Z0 (eC (.int (0))) Z2))) (Z0 (eC (.int (3))) Z2))) (Z0 (eC (.int (3))) Z2))) Z2))) Z2)))) (Z0 (eNw hMod (Z0 (eCh (hIx K) (Z0 (Z1 4) (Z0 (eC (.int (0))) Z2))) (Z0 (eC (.int (3))) Z2))) Z2))) (Z5 5))
  (Z1B K A))
noncomputable def Z1i(K:Qd)(A:Adr):SF :=
  (Zj (Zn (ZF [false,false,false,false] (Zv K A) (Z0 (Z1 0) (Z0 (Z1 1) (Z0 (eC (.int (840))) (Z0 (eC (.int (4))) Z2))))) (Z5 4))
  (Z1A K A))
noncomputable def Zy(K:Qd)(A:Adr):Fn:=ZL 12 [false,false,false,false] (Z1i K A)
set_option maxHeartbeats 0 in
theorem Z4e(T:Txt K mg A):DefX P w K mg base "_law_drawn_rows" 3 ["_law_script", "_law_first", "_law_rows", "_law_cells"] (spR (adr A) [false,false,false,false] (Zy K A)) :=
 okD (k:=2) (N:=["_law_script", "_law_first", "_law_rows", "_law_cells", "_law_figs", "_law_many", "_law_wide", "_law_spread", "_law_made", "_law_k", "_law_long_here", "_law_row"]) (ms:=[false,false,false,false]) (body:=Z1i K A) T.X159 Z2D rfl (by decide) fun f cdv A' outer s H E R hr hx hE ha=>by
  have hu:=Z1b hr
  refine Z7 ?_ ?_
  ·refine ZS ?_ ?_
   ·refine Z0N (ms:=[false,false,false,false]) (by rw [ha];exact (Z37 T)) (hr.mono (by omega)) hx ?_ (Z6 (Z6 (Z6 (Z6 Z01))))
    ·refine Z4 ?_ ?_
     ·exact (Z3 (pv 0) (j:=0) rfl)
     ·refine Z4 ?_ ?_
      ·exact (Z3 (pv 1) (j:=1) rfl)
      ·refine Z4 ?_ ?_
       ·exact (Za Z8)
       ·refine Z4 ?_ ?_
        ·exact (Za Z8)
        ·exact Zi
   ·exact (Zg (i:=4) ZJ rfl (Or.inl rfl) rfl (by decide))
  ·refine Z7 ?_ ?_
   ·refine ZS ?_ ?_
    ·refine Z06 ?_ ?_ (fun _ _=>rfl)
     ·refine Z1U ?_
      ·refine Z4 ?_ ?_
       ·refine Zm Z0u ?_ ?_
        ·refine Zm Z1P ?_ ?_
         ·refine Z06 ?_ ?_ (fun _ _=>rfl)
          ·exact (Z3 (pv 4) (j:=4) rfl)
          ·exact (Za Z8)
         ·exact (Za Z8)
        ·refine Zm Z0H ?_ ?_
         ·exact (Z3 (pv 2) (j:=2) rfl)
         ·exact (Za Z8)
       ·refine Z4 ?_ ?_
        ·exact (Z3 (pv 2) (j:=2) rfl)
        ·refine Z4 ?_ ?_
         ·refine Zm Z4R ?_ ?_
          ·exact (Z3 (pv 2) (j:=2) rfl)
          ·refine Zm Z0u ?_ ?_
           ·refine Zm Z1P ?_ ?_
            ·refine Z06 ?_ ?_ (fun _ _=>rfl)
             ·exact (Z3 (pv 4) (j:=4) rfl)
             ·exact (Za Z8)
            ·exact (Za Z8)
           ·exact (Za Z8)
         ·exact Zi
     ·refine Zm Z0u ?_ ?_
      ·refine Z06 ?_ ?_ (fun _ _=>rfl)
       ·exact (Z3 (pv 4) (j:=4) rfl)
       ·exact (Za Z8)
      ·exact (Za Z8)
    ·exact (Zg (i:=5) ZJ rfl (Or.inl rfl) rfl (by decide))
   ·refine Z7 ?_ ?_
    ·refine ZS ?_ ?_
     ·refine Z06 ?_ ?_ (fun _ _=>rfl)
      ·refine Z1U ?_
       ·refine Z4 ?_ ?_
        ·refine rc_b (ZaU rfl) (by rfl) T.b_max boot_max ?_
         ·refine Z4 ?_ ?_
          ·exact (Za Z8)
          ·refine Z4 ?_ ?_
           ·refine Zm Z4R ?_ ?_
            ·refine Zm Z0H ?_ ?_
             ·exact (Z3 (pv 5) (j:=5) rfl)
             ·refine Zm Z0u ?_ ?_
              ·refine Zm Z1P ?_ ?_
               ·refine Z06 ?_ ?_ (fun _ _=>rfl)
                ·exact (Z3 (pv 4) (j:=4) rfl)
                ·exact (Za Z8)
               ·exact (Za Z8)
              ·exact (Za Z8)
            ·exact (Za Z8)
           ·exact Zi
        ·refine Z4 ?_ ?_
         ·refine Zm Z0H ?_ ?_
          ·exact (Za Z8)
          ·refine Zm Z1P ?_ ?_
           ·exact (Z3 (pv 5) (j:=5) rfl)
           ·exact (Za Z8)
         ·refine Z4 ?_ ?_
          ·exact (Za Z8)
          ·exact Zi
      ·refine Z06 ?_ ?_ (fun _ _=>rfl)
       ·refine Z1U ?_
        ·refine Z4 ?_ ?_
         ·exact (Za Z8)
         ·refine Z4 ?_ ?_
          ·exact (Za Z8)
          ·refine Z4 ?_ ?_
           ·exact (Za Z8)
           ·refine Z4 ?_ ?_
            ·exact (Za Z8)
            ·refine Z4 ?_ ?_
             ·exact (Za Z8)
             ·refine Z4 ?_ ?_
              ·exact (Za Z8)
              ·exact Zi
       ·refine Zm Z0u ?_ ?_
        ·refine Z06 ?_ ?_ (fun _ _=>rfl)
         ·exact (Z3 (pv 4) (j:=4) rfl)
         ·exact (Za Z8)
        ·exact (Za Z8)
     ·exact (Zg (i:=6) ZJ rfl (Or.inl rfl) rfl (by decide))
    ·refine Z7 ?_ ?_
     ·refine ZS ?_ ?_
      ·refine Z06 ?_ ?_ (fun _ _=>rfl)
       ·refine Z1U ?_
        ·refine Z4 ?_ ?_
         ·exact (Za Z8)
         ·refine Z4 ?_ ?_
          ·exact (Za Z8)
          ·refine Z4 ?_ ?_
           ·exact (Za Z8)
           ·refine Z4 ?_ ?_
            ·exact (Za Z8)
            ·exact Zi
       ·refine Zm Z0u ?_ ?_
        ·refine Z06 ?_ ?_ (fun _ _=>rfl)
         ·exact (Z3 (pv 4) (j:=4) rfl)
         ·exact (Za Z8)
        ·exact (Za Z8)
      ·exact (Zg (i:=7) ZJ rfl (Or.inl rfl) rfl (by decide))
     ·refine Z7 ?_ ?_
      ·refine Z0z ?_ ?_ ?_
       ·refine PW.pt ?_
        ·refine Z4h ?_ ?_
         ·refine Z07 on_eq ?_ ?_ (ZD _)
          ·refine Zm Z0u ?_ ?_
           ·refine Z06 ?_ ?_ (fun _ _=>rfl)
            ·exact (Z3 (pv 4) (j:=4) rfl)
            ·exact (Za Z8)
           ·exact (Za Z8)
          ·exact (Za Z8)
         ·refine Z3x ?_
          ·refine Z07 on_gt ?_ ?_ (ZD _)
           ·exact (Z3 (pv 5) (j:=5) rfl)
           ·exact (Za Z8)
       ·refine Zb ?_
        ·refine ZZ ?_
         ·refine Z0N (ms:=[false,false,false]) (by rw [ha];exact (Z5w T)) (hr.mono (by omega)) hx ?_ (Z6 (Z6 (Z6 Z01)))
          ·refine Z4 ?_ ?_
           ·exact (Z3 (pv 5) (j:=5) rfl)
           ·refine Z4 ?_ ?_
            ·exact (Z3 (pv 7) (j:=7) rfl)
            ·refine Z4 ?_ ?_
             ·refine Zm Z1P ?_ ?_
              ·refine Z06 ?_ ?_ (fun _ _=>rfl)
               ·exact (Z3 (pv 4) (j:=4) rfl)
               ·exact (Za Z8)
              ·exact (Za Z8)
             ·exact Zi
       ·exact Z0b
      ·refine Z7 ?_ ?_
       ·refine ZS ?_ ?_
        ·refine Z1U ?_
         ·exact Zi
        ·exact (Zg (i:=8) ZJ rfl (Or.inl rfl) rfl (by decide))
       ·refine Z7 ?_ ?_
        ·refine Z21 ZM rfl rfl T.b_range ?_ ?_ ?_
         ·exact (Z3 (pv 5) (j:=5) rfl)
         ·exact (Zg (i:=9) ZJ rfl (Or.inl rfl) rfl (by decide))
         ·refine Z12 (js:=[9,10,11]) (by decide) ?_
          ·refine Z7 ?_ ?_
           ·refine ZS ?_ ?_
            ·refine Z0N (ms:=[false,false,false,false]) (by rw [ha];exact (Z37 T)) (hr.mono (by omega)) hx ?_ (Z6 (Z6 (Z6 (Z6 Z01))))
             ·refine Z4 ?_ ?_
              ·exact (Z3 (pv 0) (j:=0) rfl)
              ·refine Z4 ?_ ?_
               ·refine Zm Z0H ?_ ?_
                ·refine Zm Z0H ?_ ?_
                 ·exact (Z3 (pv 1) (j:=1) rfl)
                 ·exact (Za Z8)
                ·exact (Z3 (pv 9) (j:=9) rfl)
               ·refine Z4 ?_ ?_
                ·exact (Za Z8)
                ·refine Z4 ?_ ?_
                 ·refine Zm Z0H ?_ ?_
                  ·exact (Z3 (pv 3) (j:=3) rfl)
                  ·exact (Za Z8)
                 ·exact Zi
            ·exact (Zg (i:=4) ZJ rfl (Or.inl rfl) rfl (by decide))
           ·refine Z7 ?_ ?_
            ·refine ZS ?_ ?_
             ·refine Z0N (ms:=[false,false,false]) (by rw [ha];exact (Z6n T)) (hr.mono (by omega)) hx ?_ (Z6 (Z6 (Z6 Z01)))
              ·refine Z4 ?_ ?_
               ·refine Z06 ?_ ?_ (fun _ _=>rfl)
                ·exact (Z3 (pv 4) (j:=4) rfl)
                ·exact (Z3 (pv 3) (j:=3) rfl)
               ·refine Z4 ?_ ?_
                ·exact (Z3 (pv 3) (j:=3) rfl)
                ·refine Z4 ?_ ?_
                 ·refine Z97 on_lt ?_ ?_ (ZD _)
                  ·exact (Z3 (pv 9) (j:=9) rfl)
                  ·refine Zm Z1P ?_ ?_
                   ·exact (Z3 (pv 5) (j:=5) rfl)
                   ·exact (Za Z8)
                 ·exact Zi
             ·exact (Zg (i:=10) ZJ rfl (Or.inl rfl) rfl (by decide))
            ·refine Z7 ?_ ?_
             ·refine ZS ?_ ?_
              ·refine Z0N (ms:=[false,false,false,false]) (by rw [ha];exact (Z5a T)) (hr.mono (by omega)) hx ?_ (Z6 (Z6 (Z6 (Z6 Z01))))
               ·refine Z4 ?_ ?_
                ·exact (Z3 (pv 4) (j:=4) rfl)
                ·refine Z4 ?_ ?_
                 ·exact (Z3 (pv 10) (j:=10) rfl)
                 ·refine Z4 ?_ ?_
                  ·exact (Z3 (pv 6) (j:=6) rfl)
                  ·refine Z4 ?_ ?_
                   ·exact (Z3 (pv 7) (j:=7) rfl)
                   ·exact Zi
              ·exact (Zg (i:=11) ZJ rfl (Or.inl rfl) rfl (by decide))
             ·refine Z7 ?_ ?_
              ·refine Z0z ?_ ?_ ?_
               ·refine PW.pt ?_
                ·refine Z4h ?_ ?_
                 ·refine Z07 on_gt ?_ ?_ (ZD _)
                  ·exact (Z3 (pv 9) (j:=9) rfl)
                  ·exact (Za Z8)
                 ·refine Z3x ?_
                  ·refine Z07 on_eq ?_ ?_ (ZD _)
                   ·refine Zm Z0u ?_ ?_
                    ·refine Zm Z1P ?_ ?_
                     ·refine Z06 ?_ ?_ (fun _ _=>rfl)
                      ·exact (Z3 (pv 4) (j:=4) rfl)
                      ·exact (Z3 (pv 3) (j:=3) rfl)
                     ·exact (Za Z8)
                    ·exact (Za Z8)
                   ·exact (Za Z8)
               ·refine Zb ?_
                ·refine ZS ?_ ?_
                 ·refine rc_ty Z71 (by rfl) T.b_list boot_list ?_
                  ·refine Z4 ?_ ?_
                   ·refine Z06 ?_ ?_ (fun _ _=>rfl)
                    ·exact (Z3 (pv 8) (j:=8) rfl)
                    ·refine Zm Z4R ?_ ?_
                     ·exact (Z3 (pv 9) (j:=9) rfl)
                     ·exact (Za Z8)
                   ·exact Zi
                 ·exact (Zg (i:=11) ZJ rfl (Or.inl rfl) rfl (by decide))
               ·exact Z0b
              ·refine Zb ?_
               ·refine ZbP ?_ (pv 11) (j:=11) rfl (by decide)
                ·exact (Z3 (pv 8) (j:=8) rfl)
        ·refine Zb ?_
         ·refine ZZ ?_
          ·exact (Z3 (pv 8) (j:=8) rfl)
theorem Z31:FnScope ["_law_found", "_law_due"] ["_law_found", "_law_due"] (Z9 Z1h):=⟨rfl,rfl,rfl,by decide +kernel,rfl,by decide +kernel,by decide +kernel⟩
theorem Zbr:(["_law_found", "_law_due"]:List Str).Nodup:=Z31.nd
noncomputable def Z1R(n:Nat)(K:Qd)(A:Adr):Sp:=fun vs H Q _=>∃ (x y:V) (d d':Dt),vs=[x,y]∧RelD H d x∧RelD H d' y∧d'.dep≤n∧∀ H',Z16 H H'→Q (.bl (Dt.eq d d')) H'
theorem Z3P{n:Nat}{vs:List V}{H:Hp}{Q:VK}{E:XK}(h:Z1R n K A vs H Q E):vs.length=2:=by obtain ⟨_,_,_,_,rfl,_⟩:=h;rfl
theorem Z5d{vs:List V}{H:Hp}{Q:VK}{E:XK}(h:Z1R 0 K A vs H Q E):False:=by
 obtain ⟨_,_,_,d',_,_,_,h,_⟩:=h
 have:=d'.dep_pos
 omega
set_option maxHeartbeats 0 in
theorem Z3U(T:Txt K mg A):∀ n,DefX P w K mg base "_law_same" (n + 1) ["_law_found", "_law_due"] (Z1R n K A)
 | 0=>T.X172.okX (k:=0) Z31 (fun vs H Q E h=>Z3P h) (fun f cdv A outer s H vs Q E hr h=>(Z5d h).elim)
 | n + 1=>by
  have ih:DefX P w K mg base "_law_same" (n + 1) ["_law_found", "_law_due"] (Z1R n K A):=Z3U T n
  refine T.X172.okX (k:=n + 1) Z31 (fun vs H Q E h=>Z3P h) (fun f cdv A' outer s H vs Q E hr h=>?_)
  have hu:=Z1b hr
  refine ⟨_,(Z2Z (ps_if (Z96 (Z0t Z5E (by rfl) T.b_isinstance boot_isinstance (Zk (pv 1) (Zk (Z90 (Zk (Z0I (v:=.ty "list") rfl T.b_list boot_list rfl) (Zk (Z0I (v:=.ty "tuple") rfl T.b_tuple boot_tuple rfl) ZX))) ZX)))) (Z2Z (ps_if (PW.pt (pw_or (Z2w op_ne (Z0t Z1u (by rfl) T.b_isinstance boot_isinstance (Zk (pv 0) (Zk (Z0I (v:=.ty "list") rfl T.b_list boot_list rfl) ZX))) (Z0t Z1u (by rfl) T.b_isinstance boot_isinstance (Zk (pv 1) (Zk (Z0I (v:=.ty "list") rfl T.b_list boot_list rfl) ZX))) (ZD _)) (Z4V (Z2w op_ne (Z0t Z1u (by rfl) T.b_isinstance boot_isinstance (Zk (pv 0) (Zk (Z0I (v:=.ty "tuple") rfl T.b_tuple boot_tuple rfl) ZX))) (Z0t Z1u (by rfl) T.b_isinstance boot_isinstance (Zk (pv 1) (Zk (Z0I (v:=.ty "tuple") rfl T.b_tuple boot_tuple rfl) ZX))) (ZD _))))) (Z2N (Z3r Z1l)) Z3s)
   (Z2N (Z3r (Z4T (Z3p op_eq (Z0t (KQ.call_len K) (by rfl) T.b_len boot_len (Zk (pv 0) ZX)) (Z0t (KQ.call_len K) (by rfl) T.b_len boot_len (Zk (pv 1) ZX)) (ZD _)) (Z4U (Z0t (KQ.call_all K rfl) (by rfl) T.b_all boot_all (Zk (Z7L (t:=1) (N:=["_law_k", "_law_found", "_law_due"]) rfl (Z38 rfl T.b_range (Zk (Z0t (KQ.call_len K) (by rfl) T.b_len boot_len (Zk (pv 1) ZX)) ZX)) (CompSc.of (sc:=Z9 Z1h) (N0:=["_law_found", "_law_due"]) rfl rfl (by decide +kernel)) (fun cl C s H fp=>(Z27 (i:=0) (show (["_law_k", "_law_found", "_law_due"]:List Str).Nodup from by decide +kernel) rfl (Or.inl rfl))) (fun cl C s H fp=>Z91) (fun cl C s H fp=>(Z8Z ih (hr.mono (by omega)) passT0 (Zk (pe_ix (KQ.ix_seq K) (pv 1) (pv 0) (fun _ _=>rfl)) (Zk (pe_ix (KQ.ix_seq K) (pv 2) (pv 0) (fun _ _=>rfl)) ZX))))) ZX))))))) Z3s)
   (Z2Z (ps_if (PW.pt (pw_or (Z2w Z4f (pv 1) Z1Q (ZD _)) (Z4V (Z2w Z4f (pv 0) Z1Q (ZD _))))) (Z2N (Z3r (Z4T (Z3p Z4f (pv 1) Z1Q (ZD _)) (Z4U (Z3p Z4f (pv 0) Z1Q (ZD _)))))) Z3s)
   (Z2Z (ps_if (PW.pt (pw_or (Z2w op_ne (Z0t Z1u (by rfl) T.b_isinstance boot_isinstance (Zk (pv 0) (Zk (Z0I (v:=.ty "bool") rfl T.b_bool boot_bool rfl) ZX))) (Z0t Z1u (by rfl) T.b_isinstance boot_isinstance (Zk (pv 1) (Zk (Z0I (v:=.ty "bool") rfl T.b_bool boot_bool rfl) ZX))) (ZD _)) (Z4V (Z2w op_ne (Z0t Z1u (by rfl) T.b_isinstance boot_isinstance (Zk (pv 0) (Zk (Z0I (v:=.ty "str") rfl T.b_str boot_str rfl) ZX))) (Z0t Z1u (by rfl) T.b_isinstance boot_isinstance (Zk (pv 1) (Zk (Z0I (v:=.ty "str") rfl T.b_str boot_str rfl) ZX))) (ZD _))))) (Z2N (Z3r Z1l)) Z3s)
   (Z2N (Z3r (Z4T (Z0t Z5E (by rfl) T.b_isinstance boot_isinstance (Zk (pv 0) (Zk (Z90 (Zk (Z0I (v:=.ty "int") rfl T.b_int boot_int rfl) (Zk (Z0I (v:=.ty "str") rfl T.b_str boot_str rfl) ZX))) ZX))) (Z4U (Z3p op_eq (pv 0) (pv 1) (ZD _))))))))),?_⟩
  obtain ⟨x,y,d,d',rfl,hx,hy,hd,k⟩:=h
  walk_at "rd"
  refine ⟨by decide,fun p hp=>?_⟩
  have sm:Z16 H (upd H p (.tup [V.ty "list",V.ty "tuple"])):=fun c o e=>by rw [Zc (Z0d e hp)];exact e
  generalize hH1:upd H p (.tup [V.ty "list",V.ty "tuple"])=H1 at sm ⊢
  have hp1:H1 p=some (.tup (["list", "tuple"].map V.ty)):=by rw [← hH1];exact Zx
  have hx1:=hx.same sm
  have hy1:=hy.same sm
  have kd:∀ e:Dt,Z2U e.ty ["list", "tuple"]=true:=fun e=>by simp [Z2U,e.kit (T := "list") (by simp),e.kit (T := "tuple") (by simp)]
  have kd2:∀ e:Dt,Z2U e.ty ["int", "str"]=true:=fun e=>by simp [Z2U,e.kit (T := "int") (by simp),e.kit (T := "str") (by simp)]
  refine ⟨y,p,_,d'.ty,rfl,hp1,hy1.ty,kd d',_,rfl,?_⟩
  have e0:["list", "tuple"].any (subT d'.ty)=(d'.isL || d'.isT):=by simp [d'.sub_list,d'.sub_tuple]
  rw [e0]
  have core:∀ (px py:Addr) (xs ys:List V) (l l':List Dt),(SqL K H1 px xs∨SqT K H1 px xs)→(SqL K H1 py ys∨SqT K H1 py ys)→Z14 H1 l xs→Z14 H1 l' ys→ys.length≤sizeLine→Dt.deps l'≤n→(∀ H',Z16 H H'→Q (V.bl (Dt.eqs l l')) H') →
    ∃ x_4,LenV K (V.ref px) H1 x_4∧∃ x_5,LenV K (V.ref py) H1 x_5∧scal (V.int x_4) (V.int x_5)=true ∧
     if (x_4:Int)=(x_5:Int) then
      tComp 1 (iRng1 (Z1Z (tCB (fun xs H Q=>∃ x,xs=[x]∧∃ x_6,LenV K x H x_6∧Q (V.int x_6) H) (Z1Z (tVar 1) tNil)) tNil)) (Z1j 0) tYes
       (tCallT (Z1R n K A) (fun x=>E0) (Z1Z (tOp (rIx K) (tVar 1) (tVar 0)) (Z1Z (tOp (rIx K) (tVar 2) (tVar 0)) tNil)))
       [some (V.ref px),some (V.ref py)] H1 fun x H1=>∃ p,x=V.ref p∧∃ x,SqL K H1 p (List.map V.bl x)∧Q (V.bl (x.all id)) H1
     else Q (V.bl false) H1:=by
   intro px py xs ys l l' hpx hpy rl rl' sz hdl k2
   have len1:=rl.length
   have len2:=rl'.length
   have lv:∀ {q:Addr} {zs:List V},(SqL K H1 q zs∨SqT K H1 q zs)→LenV K (V.ref q) H1 zs.length:=fun h=>by
    rcases h with h | h
    ·exact .inl ⟨_,h,rfl⟩
    ·exact .inr ⟨_,h,rfl⟩
   refine ⟨xs.length,lv hpx,ys.length,lv hpy,rfl,?_⟩
   by_cases hl:(xs.length:Int)=(ys.length:Int)
   ·rw [if_pos hl]
    refine ⟨_,rfl,_,rfl,_,lv hpy,_,rfl,by have:=sizeLine_eq;omega,by have:=sizeLine_eq;omega,?_⟩
    rw [Nj]
    refine Z6M sz (fun i=>V.bl (Dt.eq (l[i]?.getD .non) (l'[i]?.getD .non))) ?_ ?_
    ·intro i H4 Q4 hi sm4 k4
     obtain ⟨e,he⟩:∃ e,l[i]?=some e:=⟨l[i]'(by omega),by simp⟩
     obtain ⟨e',he'⟩:∃ e,l'[i]?=some e:=⟨l'[i]'(by omega),by simp⟩
     obtain ⟨v,hv,rv⟩:=rl.get he
     obtain ⟨v',hv',rv'⟩:=rl'.get he'
     have ix:∀ {q:Addr} {zs:List V} {u:V} {QQ:VK},(SqL K H1 q zs∨SqT K H1 q zs)→zs[i]?=some u→QQ u H4→rIx K (V.ref q) (V.int (0 + (i:Int))) H4 QQ:=fun h hu q=>by
      rw [Int.zero_add]
      rcases h with h | h
      ·exact .inl ⟨_,_,_,_,rfl,rfl,sm4.seq h,Z6Z hu,q⟩
      ·exact .inr (.inl ⟨_,_,_,_,rfl,rfl,sm4.seqT h,Z6Z hu,q⟩)
     refine ⟨_,rfl,_,rfl,ix hpx hv ⟨_,rfl,_,rfl,ix hpy hv' ?_⟩⟩
     refine ⟨v,v',e,e',rfl,rv.same sm4,rv'.same sm4,Wm (Dt.deps_le he') hdl,fun H5 s5=>?_⟩
     have k5:=k4 H5 s5
     rw [he,he'] at k5
     exact k5
    ·intro D H4 hD sm4 hD4
     refine ⟨D,rfl,_,.of (by rw [hD4,Jp];rfl),?_⟩
     rw [show ys.length=l'.length by omega,← Dt.eqs_all (by omega)]
     exact k2 H4 (sm.trans sm4)
   ·rw [if_neg hl]
    have:Dt.eqs l l'=false:=by
     cases q:Dt.eqs l l' with
     | false=>rfl
     | true =>
      have:=(Dt.eqs_iff l l').mp q
      subst this
      omega
    rw [this] at k2
    exact k2 H1 sm
  have no:d≠d'→∀ H',Z16 H H'→Q (V.bl false) H':=fun ne H' s'=>by
   have:=k H' s'
   rwa [Dt.eq_false ne] at this
  cases hLT:(d'.isL || d'.isT) with
  | true =>
   refine iteT ?_
   refine ⟨x, "list",d.ty,rfl,hx1.ty,d.kit (by simp),y, "list",d'.ty,rfl,hy1.ty,d'.kit (by simp),rfl,?_⟩
   rw [Z44,d.sub_list,d'.sub_list]
   by_cases hL:d.isL=d'.isL
   ·rw [show (!(d.isL == d'.isL))=false by simp [hL]]
    refine iteF ?_
    refine ⟨x, "tuple",d.ty,rfl,hx1.ty,d.kit (by simp),y, "tuple",d'.ty,rfl,hy1.ty,d'.kit (by simp),rfl,?_⟩
    rw [Z44,d.sub_tuple,d'.sub_tuple]
    by_cases hT:d.isT=d'.isT
    ·rw [show (!(d.isT == d'.isT))=false by simp [hT]]
     refine iteF ?_
     cases d' with
     | lst l' =>
      cases d with
      | lst l =>
       obtain ⟨px,xs,rfl,h1,z1,r1⟩:=hx1
       obtain ⟨py,ys,rfl,h2,z2,r2⟩:=hy1
       exact core px py xs ys l l' (.inl (.of h1)) (.inl (.of h2)) r1 r2 (Gq z2) (by unfold Dt.dep at hd;omega) fun H' s'=>by have:=k H' s';simpa [Dt.eq] using this
      | _=>cases hL
     | tup l' =>
      cases d with
      | tup l =>
       obtain ⟨px,xs,rfl,h1,z1,r1⟩:=hx1
       obtain ⟨py,ys,rfl,h2,z2,r2⟩:=hy1
       exact core px py xs ys l l' (.inr (.inl (.inl h1))) (.inr (.inl (.inl h2))) r1 r2 (Gq z2) (by unfold Dt.dep at hd;omega) fun H' s'=>by have:=k H' s';simpa [Dt.eq] using this
      | _=>first | cases hT | cases hL
     | _=>cases hLT
    ·rw [show (!(d.isT == d'.isT))=true by simp [hT]]
     refine iteT ?_
     exact no (fun z=>hT (by rw [z])) H1 sm
   ·rw [show (!(d.isL == d'.isL))=true by simp [hL]]
    refine iteT ?_
    exact no (fun z=>hL (by rw [z])) H1 sm
  | false =>
   refine iteF ?_
   have scalar:∀ (hyn:y≠V.non),(d.isB=d'.isB→d.isS=d'.isS→(d.isI || d.isB || d.isS)=true→scal x y=true∧decide (x=y)=Dt.eq d d')→(d'.isI || d'.isB || d'.isS)=true →
     (if y=V.non then if y=V.non then Q (V.bl (decide (x=V.non))) H1 else Q (V.bl false) H1
     else if x=V.non then if y=V.non then Q (V.bl (decide (x=V.non))) H1 else Q (V.bl false) H1
     else rIs1 [x,V.ty "bool"] H1 fun x_2 H1=>rIs1 [y,V.ty "bool"] H1 fun y_1 H2=>scal x_2 y_1=true ∧
      if (!decide (x_2=y_1))=true then Q (V.bl false) H2
      else rIs1 [x,V.ty "str"] H2 fun x_3 H1=>rIs1 [y,V.ty "str"] H1 fun y_2 H2=>scal x_3 y_2=true ∧
       if (!decide (x_3=y_2))=true then Q (V.bl false) H2
       else 2≤sizeLine∧∀ (p:Addr),H2 p=none→rIsT [x,V.ref p] (upd H2 p (HO.tup [V.ty "int",V.ty "str"])) fun x_4 H1=>∃ c,x_4=V.bl c ∧
        if c=true then scal x y=true∧Q (V.bl (decide (x=y))) H1 else Q (V.bl false) H1):=by
    intro hyn hsc hk'
    rw [if_neg hyn]
    by_cases hxn:x=V.non
    ·rw [if_pos hxn,if_neg hyn]
     refine no (fun z=>?_) H1 sm
     have h1:=hx1.Z2g
     rw [decide_eq_true hxn,z] at h1
     have h2:=hy1.Z2g
     rw [decide_eq_false hyn] at h2
     rw [← h1] at h2
     cases h2
    ·rw [if_neg hxn]
     refine ⟨x, "bool",d.ty,rfl,hx1.ty,d.kit (by simp),y, "bool",d'.ty,rfl,hy1.ty,d'.kit (by simp),rfl,?_⟩
     rw [Z44,d.sub_bool,d'.sub_bool]
     by_cases hB:d.isB=d'.isB
     ·rw [show (!(d.isB == d'.isB))=false by simp [hB]]
      refine iteF ?_
      refine ⟨x, "str",d.ty,rfl,hx1.ty,d.kit (by simp),y, "str",d'.ty,rfl,hy1.ty,d'.kit (by simp),rfl,?_⟩
      rw [Z44,d.sub_str,d'.sub_str]
      by_cases hS:d.isS=d'.isS
      ·rw [show (!(d.isS == d'.isS))=false by simp [hS]]
       refine iteF ⟨by decide,fun q hq=>?_⟩
       have sm2:Z16 H1 (upd H1 q (.tup [V.ty "int",V.ty "str"])):=fun c o e=>by rw [Zc (Z0d e hq)];exact e
       refine ⟨x,q,["int", "str"],d.ty,rfl,Zx,(hx1.same sm2).ty,kd2 d,_,rfl,?_⟩
       have e2:["int", "str"].any (subT d.ty)=(d.isI || d.isB || d.isS):=by simp [d.sub_int,d.sub_str,Bool.or_assoc]
       rw [e2]
       cases hI:(d.isI || d.isB || d.isS) with
       | true =>
        obtain ⟨h1,h2⟩:=hsc hB hS hI
        refine iteT ⟨h1,?_⟩
        rw [h2]
        exact k _ (sm.trans sm2)
       | false =>
        refine iteF ?_
        exact no (fun z=>by rw [z,hk'] at hI;cases hI) _ (sm.trans sm2)
      ·rw [show (!(d.isS == d'.isS))=true by simp [hS]]
       exact iteT (no (fun z=>hS (by rw [z])) H1 sm)
     ·rw [show (!(d.isB == d'.isB))=true by simp [hB]]
      exact iteT (no (fun z=>hB (by rw [z])) H1 sm)
   cases d' with
   | non =>
    cases (show y=V.non from hy1)
    rw [if_pos rfl,if_pos rfl,hx1.Z2g,← Dt.eq_non]
    exact k H1 sm
   | bl b =>
    cases (show y=V.bl b from hy1)
    refine scalar (by intro z;cases z) (fun hB hS hI=>?_) rfl
    cases d with
    | bl c=>cases (show x=V.bl c from hx1);exact ⟨rfl,by rw [Z44];rfl⟩
    | _=>cases hB
   | int i =>
    cases (show y=V.int i from hy1)
    refine scalar (by intro z;cases z) (fun hB hS hI=>?_) rfl
    cases d with
    | int j=>cases (show x=V.int j from hx1);exact ⟨rfl,by simp [Dt.eq,Qan]⟩
    | bl c=>cases hB
    | str c=>cases hS
    | _=>cases hI
   | str u =>
    cases (show y=V.str u from hy1)
    refine scalar (by intro z;cases z) (fun hB hS hI=>?_) rfl
    cases d with
    | str v=>cases (show x=V.str v from hx1);exact ⟨rfl,by simp [Dt.eq,Qan]⟩
    | _=>cases hS
   | lst l=>cases hLT
   | tup l=>cases hLT
noncomputable def Z0U(A:Adr):Fn:=sameF 3
theorem Z6o(T:Txt K mg A):DefX P w K mg base "_law_same" 4 ["_law_found", "_law_due"] (spR (adr A) [false,false] (Z0U A)):=DefX.imp (Z3U T 3) fun vs H Q E h=>Z9O h
theorem Z3X:FnScope ["_law_found"] ["_law_found"] (Z9 Z1p):=⟨rfl,rfl,rfl,by decide +kernel,rfl,by decide +kernel,by decide +kernel⟩
theorem ZaR:(["_law_found"]:List Str).Nodup:=Z3X.nd
noncomputable def Z2P(K:Qd)(A:Adr):SF :=
  (Z00 (eAnd (eNw hIs (Z0 (Z1 0) (Z0 (eC (.ty "int")) Z2))) (eNot (eNw hIs (Z0 (Z1 0) (Z0 (eC (.ty "bool")) Z2))))))
noncomputable def Z0o(K:Qd)(A:Adr):Fn:=ZL 1 [false] (Z2P K A)
set_option maxHeartbeats 0 in
theorem Z5x(T:Txt K mg A):DefX P w K mg base "_law_whole" 1 ["_law_found"] (spR (adr A) [false] (Z0o K A)) :=
 okD (k:=0) (N:=["_law_found"]) (ms:=[false]) (body:=Z2P K A) T.X185 Z3X rfl (by decide) fun f cdv A' outer s H E R hr hx hE ha=>by
  have hu:=Z1b hr
  refine Zb ?_
  ·refine ZZ ?_
   ·refine ZbL ?_ ?_
    ·refine rc_b cn_is (by rfl) T.b_isinstance boot_isinstance ?_
     ·refine Z4 ?_ ?_
      ·exact (Z3 (pv 0) (j:=0) rfl)
      ·refine Z4 ?_ ?_
       ·exact (Za (Z0I (v:=.ty "int") rfl T.b_int boot_int rfl))
       ·exact Zi
    ·refine Zaw ?_
     ·refine Zay ?_
      ·refine rc_b cn_is (by rfl) T.b_isinstance boot_isinstance ?_
       ·refine Z4 ?_ ?_
        ·exact (Z3 (pv 0) (j:=0) rfl)
        ·refine Z4 ?_ ?_
         ·exact (Za (Z0I (v:=.ty "bool") rfl T.b_bool boot_bool rfl))
         ·exact Zi
theorem Z4x:FnScope ["_law_rows", "_law_given", "_law_place", "_law_wish", "_law_closed", "_law_k", "_law_holder", "_law_queue", "_law_at_here", "_law_spot"] ["_law_rows", "_law_given", "_law_place", "_law_wish"] (Z9 Z1T):=⟨rfl,rfl,rfl,by decide +kernel,rfl,by decide +kernel,by decide +kernel⟩
theorem Z1g:(["_law_rows", "_law_given", "_law_place", "_law_wish", "_law_closed", "_law_k", "_law_holder", "_law_queue", "_law_at_here", "_law_spot"]:List Str).Nodup:=Z4x.nd
noncomputable def Z2G(K:Qd)(A:Adr):SF :=
  (sE (eMu 1 Z0E (Z0 (eC (.bl true)) (Z0 (Z1 4) (Z0 (eCh (hIx K) (Z0 (Z1 1) (Z0 (Z1 5) Z2))) Z2)))))
noncomputable def Z0C(K:Qd)(A:Adr):SF :=
  (sIf (bV (eNw (hIsN true) (Z0 (eCh (hIx K) (Z0 (Z1 1) (Z0 (Z1 5) Z2))) (Z0 (eC .non) Z2)))) (Z2G K A) ZV)
noncomputable def Z3B(K:Qd)(A:Adr):SF :=
  (sE (eMu 1 Z0E (Z0 (Z1 5) (Z0 (Z1 6) (Z0 (eCh (hIx K) (Z0 (Z1 1) (Z0 (Z1 5) Z2))) Z2)))))
noncomputable def Z0r(K:Qd)(A:Adr):SF :=
  (sIf (bOr (bV (eNw (hIsN false) (Z0 (eCh (hIx K) (Z0 (Z1 1) (Z0 (Z1 5) Z2))) (Z0 (eC .non) Z2)))) (bV (eNw (hEq false) (Z0 (eCh (hIx K) (Z0 (Z1 1) (Z0 (Z1 5) Z2))) (Z0 (Z1 3) Z2))))) (sE (eMu 0 hApp (Z0 (Z1N Z1J (Z1 7)) (Z0 (Z1 5) Z2)))) (Z3B K A))
noncomputable def Z0O(K:Qd)(A:Adr):SF :=
  (Z15 [9] (sIf (bV (eNw (hDIn true) (Z0 (Z1 9) (Z0 (Z1 4) Z2)))) (Zj (sE (eMu 1 Z0E (Z0 (eC (.bl true)) (Z0 (Z1 4) (Z0 (Z1 9) Z2)))))
  (Zj (sIf (bV (eNw (hDIn true) (Z0 (Z1 9) (Z0 (Z1 6) Z2)))) (Z00 (eC (.bl true))) ZV)
  (sE (eMu 0 hApp (Z0 (Z1N Z1J (Z1 7)) (Z0 (eCh hDGet (Z0 (Z1 6) (Z0 (Z1 9) Z2))) Z2)))))) ZV))
noncomputable def Z1Y(K:Qd)(A:Adr):SF :=
  (Z15 [8,9] (Zj (Zn (ePop0 (Z1 7)) (Z5 8))
  (Z1y (eCh (hIx K) (Z0 (Z1 0) (Z0 (Z1 8) Z2))) (Z5 9)
  (Z0O K A))))
noncomputable def Z41(K:Qd)(A:Adr):SF :=
  (Zj (Zn (Z04 (.lst true) Z2) (Z5 7))
  (Zj (Z1e (Z0 (eNw Z0g (Z0 (Z1 2) (Z0 (eC (.int (1))) Z2))) (Z0 (eNw (hLen K) (Z0 (Z1 0) Z2)) Z2)) (Z5 5)
  (Z0r K A))
  (Zj (Z3y 1000 (bV (eNw hGt (Z0 (eNw (hLen K) (Z0 (Z1 7) Z2)) (Z0 (eC (.int (0))) Z2))))
  (Z1Y K A))
  (Z00 (eC (.bl false))))))
noncomputable def Z3C(K:Qd)(A:Adr):SF :=
  (Zj (Zn (eDict [((Z1 3),(eC (.bl true)))]) (Z5 4))
  (Zj (Z1e (Z0 (Z1 2) Z2) (Z5 5)
  (Z0C K A))
  (Zj (Zn (Z04 (.dic true []) Z2) (Z5 6))
  (Z41 K A))))
noncomputable def Z0q(K:Qd)(A:Adr):Fn:=ZL 10 [false,false,false,false] (Z3C K A)
set_option maxHeartbeats 0 in
theorem Z6V(T:Txt K mg A):DefX P w K mg base "_law_way" 1 ["_law_rows", "_law_given", "_law_place", "_law_wish"] (spR (adr A) [false,false,false,false] (Z0q K A)) :=
 okD (k:=0) (N:=["_law_rows", "_law_given", "_law_place", "_law_wish", "_law_closed", "_law_k", "_law_holder", "_law_queue", "_law_at_here", "_law_spot"]) (ms:=[false,false,false,false]) (body:=Z3C K A) T.X198 Z4x rfl (by decide) fun f cdv A' outer s H E R hr hx hE ha=>by
  have hu:=Z1b hr
  refine Z7 ?_ ?_
  ·refine ZS ?_ ?_
   ·refine Z6z ?_
    ·refine Z6B ?_ ?_ ?_
     ·exact (Z3 (pv 3) (j:=3) rfl)
     ·exact (Za Z1l)
     ·exact Z7Q
   ·exact (Zg (i:=4) Z1g rfl (Or.inl rfl) rfl (by decide))
  ·refine Z7 ?_ ?_
   ·refine Z21 ZM rfl rfl T.b_range ?_ ?_ ?_
    ·exact (Z3 (pv 2) (j:=2) rfl)
    ·exact (Zg (i:=5) Z1g rfl (Or.inl rfl) rfl (by decide))
    ·refine Zb ?_
     ·refine Z0z ?_ ?_ ?_
      ·refine Z07 Z5b ?_ ?_ (ZD _)
       ·refine Z06 ?_ ?_ (fun _ _=>rfl)
        ·exact (Z3 (pv 1) (j:=1) rfl)
        ·exact (Z3 (pv 5) (j:=5) rfl)
       ·exact (Za Z1Q)
      ·refine Zb ?_
       ·refine Z28 hu ?_ ?_ ?_
        ·exact (Z3 (pv 4) (j:=4) rfl)
        ·refine Z06 ?_ ?_ (fun _ _=>rfl)
         ·exact (Z3 (pv 1) (j:=1) rfl)
         ·exact (Z3 (pv 5) (j:=5) rfl)
        ·exact (Za Z1l)
      ·exact Z0b
   ·refine Z7 ?_ ?_
    ·refine ZS ?_ ?_
     ·exact Z4t
     ·exact (Zg (i:=6) Z1g rfl (Or.inl rfl) rfl (by decide))
    ·refine Z7 ?_ ?_
     ·refine ZS ?_ ?_
      ·refine Z1U ?_
       ·exact Zi
      ·exact (Zg (i:=7) Z1g rfl (Or.inl rfl) rfl (by decide))
     ·refine Z7 ?_ ?_
      ·refine Z9M ZM rfl rfl T.b_range ?_ ?_ ?_ ?_
       ·refine Zm Z0H ?_ ?_
        ·exact (Z3 (pv 2) (j:=2) rfl)
        ·exact (Za Z8)
       ·refine rc_b Z1M (by rfl) T.b_len boot_len ?_
        ·refine Z4 ?_ ?_
         ·exact (Z3 (pv 0) (j:=0) rfl)
         ·exact Zi
       ·exact (Zg (i:=5) Z1g rfl (Or.inl rfl) rfl (by decide))
       ·refine Zb ?_
        ·refine Z0z ?_ ?_ ?_
         ·refine PW.pt ?_
          ·refine rw_or ?_ ?_
           ·refine Z07 Z6q ?_ ?_ (ZD _)
            ·refine Z06 ?_ ?_ (fun _ _=>rfl)
             ·exact (Z3 (pv 1) (j:=1) rfl)
             ·exact (Z3 (pv 5) (j:=5) rfl)
            ·exact (Za Z1Q)
           ·refine Z4i ?_
            ·refine Z07 on_eq ?_ ?_ (ZD _)
             ·refine Z06 ?_ ?_ (fun _ _=>rfl)
              ·exact (Z3 (pv 1) (j:=1) rfl)
              ·exact (Z3 (pv 5) (j:=5) rfl)
             ·exact (Z3 (pv 3) (j:=3) rfl)
         ·refine Zb ?_
          ·refine rs_e ?_
           ·refine Z4g ?_ ?_
            ·exact (Z3 (pv 7) (j:=7) rfl)
            ·exact (Z3 (pv 5) (j:=5) rfl)
         ·refine Zb ?_
          ·refine Z28 hu ?_ ?_ ?_
           ·exact (Z3 (pv 6) (j:=6) rfl)
           ·refine Z06 ?_ ?_ (fun _ _=>rfl)
            ·exact (Z3 (pv 1) (j:=1) rfl)
            ·exact (Z3 (pv 5) (j:=5) rfl)
           ·exact (Z3 (pv 5) (j:=5) rfl)
      ·refine Z7 ?_ ?_
       ·refine Z9N (n:=1000) ZM ?_ ?_
        ·refine Z07 on_gt ?_ ?_ (ZD _)
         ·refine rc_b Z1M (by rfl) T.b_len boot_len ?_
          ·refine Z4 ?_ ?_
           ·exact (Z3 (pv 7) (j:=7) rfl)
           ·exact Zi
         ·exact (Za Z8)
        ·refine Z12 (js:=[8,9]) (by decide) ?_
         ·refine Z7 ?_ ?_
          ·refine ZS ?_ ?_
           ·refine Zaz ?_ Z8
            ·exact (Z3 (pv 7) (j:=7) rfl)
           ·exact (Zg (i:=8) Z1g rfl (Or.inl rfl) rfl (by decide))
          ·refine Zb ?_
           ·refine Z3v ZM rfl ?_ ?_ ?_
            ·refine Z06 ?_ ?_ (fun _ _=>rfl)
             ·exact (Z3 (pv 0) (j:=0) rfl)
             ·exact (Z3 (pv 8) (j:=8) rfl)
            ·exact (Zg (i:=9) Z1g rfl (Or.inl rfl) rfl (by decide))
            ·refine Z12 (js:=[9]) (by decide) ?_
             ·refine Zb ?_
              ·refine Z0z ?_ ?_ ?_
               ·refine Z3w ?_
                ·refine Z3u hu ?_ ?_
                 ·exact (Z3 (pv 9) (j:=9) rfl)
                 ·exact (Z3 (pv 4) (j:=4) rfl)
               ·refine Z7 ?_ ?_
                ·refine Z28 hu ?_ ?_ ?_
                 ·exact (Z3 (pv 4) (j:=4) rfl)
                 ·exact (Z3 (pv 9) (j:=9) rfl)
                 ·exact (Za Z1l)
                ·refine Z7 ?_ ?_
                 ·refine Z0z ?_ ?_ ?_
                  ·refine Z3w ?_
                   ·refine Z3u hu ?_ ?_
                    ·exact (Z3 (pv 9) (j:=9) rfl)
                    ·exact (Z3 (pv 6) (j:=6) rfl)
                  ·refine Zb ?_
                   ·refine ZZ ?_
                    ·exact (Za Z1l)
                  ·exact Z0b
                 ·refine Zb ?_
                  ·refine rs_e ?_
                   ·refine Z4g ?_ ?_
                    ·exact (Z3 (pv 7) (j:=7) rfl)
                    ·refine Z7O hu ?_ ?_ (fun _ _=>rfl)
                     ·exact (Z3 (pv 6) (j:=6) rfl)
                     ·exact (Z3 (pv 9) (j:=9) rfl)
               ·exact Z0b
       ·refine Zb ?_
        ·refine ZZ ?_
         ·exact (Za Z1l)
theorem Z30:FnScope ["_law_rows", "_law_given", "_law_place", "_law_ahead", "_law_spot"] ["_law_rows", "_law_given", "_law_place"] (Z9 Z0A):=⟨rfl,rfl,rfl,by decide +kernel,rfl,by decide +kernel,by decide +kernel⟩
theorem Z2W:(["_law_rows", "_law_given", "_law_place", "_law_ahead", "_law_spot"]:List Str).Nodup:=Z30.nd
noncomputable def ZR(K:Qd)(A:Adr):SF :=
  (Z15 [4] (Zj (sIf (bV (eNw (hEq false) (Z0 (eCh (hIx K) (Z0 (Z1 1) (Z0 (Z1 2) Z2))) (Z0 (Z1 4) Z2)))) (Z00 (eC (.bl true))) ZV)
  (sIf (bV (eNw (hIn true) (Z0 (Z1 4) (Z0 (Z1 3) Z2)))) (sIf (bOr (bV (eNw (hIsN false) (Z0 (eCh (hIx K) (Z0 (Z1 1) (Z0 (Z1 2) Z2))) (Z0 (eC .non) Z2)))) (bOr (bV (eNw (hIn true) (Z0 (Z1 4) (Z0 (Z1 1) Z2)))) (bV (ZF [false,false,false,false] (Z0q K A) (Z0 (Z1 0) (Z0 (Z1 1) (Z0 (Z1 2) (Z0 (Z1 4) Z2)))))))) (Z00 (eC (.bl false))) ZV) ZV)))
noncomputable def Z1I(K:Qd)(A:Adr):SF :=
  (Zj (Zn (Z19 (eNw (hCut false) (Z0 (Z1 1) (Z0 (Z1 2) Z2))) (fun n1=>(bV (eNw (hIsN true) (Z0 (Z1 n1) (Z0 (eC .non) Z2))))) (fun n1=>(Z1 n1))) (Z5 3))
  (Zj (Z1y (eCh (hIx K) (Z0 (Z1 0) (Z0 (Z1 2) Z2))) (Z5 4)
  (ZR K A))
  (Z00 (eNw (hIsN false) (Z0 (eCh (hIx K) (Z0 (Z1 1) (Z0 (Z1 2) Z2))) (Z0 (eC .non) Z2))))))
noncomputable def Z0c(K:Qd)(A:Adr):Fn:=ZL 5 [false,false,false] (Z1I K A)
set_option maxHeartbeats 0 in
theorem Z4G(T:Txt K mg A):DefX P w K mg base "_law_best_for" 2 ["_law_rows", "_law_given", "_law_place"] (spR (adr A) [false,false,false] (Z0c K A)) :=
 okD (k:=1) (N:=["_law_rows", "_law_given", "_law_place", "_law_ahead", "_law_spot"]) (ms:=[false,false,false]) (body:=Z1I K A) T.X211 Z30 rfl (by decide) fun f cdv A' outer s H E R hr hx hE ha=>by
  have hu:=Z1b hr
  refine Z7 ?_ ?_
  ·refine Z3K (N:=["_law_one", "_law_rows", "_law_given", "_law_place", "_law_ahead", "_law_spot"]) rfl (by decide) ?_ (CompSc.of (sc:=Z9 Z0A) (N0:=["_law_rows", "_law_given", "_law_place", "_law_ahead", "_law_spot"]) rfl rfl (by decide +kernel)) (fun cl C s H fp=>(Z27 (i:=0) (show (["_law_one", "_law_rows", "_law_given", "_law_place", "_law_ahead", "_law_spot"]:List Str).Nodup from by decide +kernel) rfl (Or.inl rfl))) (fun cl C s H fp=>px_t fun n1 hn1=>?_) (fun cl C s H fp=>px_e fun n1 hn1=>?_) Z2W rfl (i:=3) rfl (j:=3) rfl (by rfl)
   ·refine Z6y ?_ ?_
    ·exact (Z3 (pv 1) (j:=1) rfl)
    ·exact (Z3 (pv 2) (j:=2) rfl)
   ·refine Z07 Z5b ?_ ?_ (ZD _)
    ·exact (Z3 (pv 0) (j:=n1) rfl)
    ·exact (Za Z1Q)
   ·exact (Z3 (pv 0) (j:=n1) rfl)
  ·refine Z7 ?_ ?_
   ·refine Z3v ZM rfl ?_ ?_ ?_
    ·refine Z06 ?_ ?_ (fun _ _=>rfl)
     ·exact (Z3 (pv 0) (j:=0) rfl)
     ·exact (Z3 (pv 2) (j:=2) rfl)
    ·exact (Zg (i:=4) Z2W rfl (Or.inl rfl) rfl (by decide))
    ·refine Z12 (js:=[4]) (by decide) ?_
     ·refine Z7 ?_ ?_
      ·refine Z0z ?_ ?_ ?_
       ·refine Z07 on_eq ?_ ?_ (ZD _)
        ·refine Z06 ?_ ?_ (fun _ _=>rfl)
         ·exact (Z3 (pv 1) (j:=1) rfl)
         ·exact (Z3 (pv 2) (j:=2) rfl)
        ·exact (Z3 (pv 4) (j:=4) rfl)
       ·refine Zb ?_
        ·refine ZZ ?_
         ·exact (Za Z1l)
       ·exact Z0b
      ·refine Zb ?_
       ·refine Z0z ?_ ?_ ?_
        ·refine Z07 Z3I ?_ ?_ rfl
         ·exact (Z3 (pv 4) (j:=4) rfl)
         ·exact (Z3 (pv 3) (j:=3) rfl)
        ·refine Zb ?_
         ·refine Z0z ?_ ?_ ?_
          ·refine PW.pt ?_
           ·refine rw_or ?_ ?_
            ·refine Z07 Z6q ?_ ?_ (ZD _)
             ·refine Z06 ?_ ?_ (fun _ _=>rfl)
              ·exact (Z3 (pv 1) (j:=1) rfl)
              ·exact (Z3 (pv 2) (j:=2) rfl)
             ·exact (Za Z1Q)
            ·refine rw_or ?_ ?_
             ·refine Z07 Z3I ?_ ?_ rfl
              ·exact (Z3 (pv 4) (j:=4) rfl)
              ·exact (Z3 (pv 1) (j:=1) rfl)
             ·refine Z4i ?_
              ·refine rt_v ?_
               ·refine Z0N (ms:=[false,false,false,false]) (by rw [ha];exact (Z6V T)) (hr.mono (by omega)) hx ?_ (Z6 (Z6 (Z6 (Z6 Z01))))
                ·refine Z4 ?_ ?_
                 ·exact (Z3 (pv 0) (j:=0) rfl)
                 ·refine Z4 ?_ ?_
                  ·exact (Z3 (pv 1) (j:=1) rfl)
                  ·refine Z4 ?_ ?_
                   ·exact (Z3 (pv 2) (j:=2) rfl)
                   ·refine Z4 ?_ ?_
                    ·exact (Z3 (pv 4) (j:=4) rfl)
                    ·exact Zi
          ·refine Zb ?_
           ·refine ZZ ?_
            ·exact (Za Z1l)
          ·exact Z0b
        ·exact Z0b
   ·refine Zb ?_
    ·refine ZZ ?_
     ·refine Z97 Z6q ?_ ?_ (ZD _)
      ·refine Z06 ?_ ?_ (fun _ _=>rfl)
       ·exact (Z3 (pv 1) (j:=1) rfl)
       ·exact (Z3 (pv 2) (j:=2) rfl)
      ·exact (Za Z1Q)
theorem Z9b:FnScope ["_law_script", "_law_rows", "_law_handed", "_law_found", "_law_k"] ["_law_script"] (Z9 s_law):=⟨rfl,rfl,rfl,by decide +kernel,rfl,by decide +kernel,by decide +kernel⟩
theorem Z4d:(["_law_script", "_law_rows", "_law_handed", "_law_found", "_law_k"]:List Str).Nodup:=Z9b.nd
noncomputable def Z2t(K:Qd)(A:Adr):SF :=
  (sIf (bAnd (bV (eNw (hIsN true) (Z0 (eCh (hIx K) (Z0 (Z1 3) (Z0 (Z1 4) Z2))) (Z0 (eC .non) Z2)))) (bOr (bNot (bV (ZF [false] (Z0o K A) (Z0 (eCh (hIx K) (Z0 (Z1 3) (Z0 (Z1 4) Z2))) Z2)))) (bV (eNw (hIn false) (Z0 (eCh (hIx K) (Z0 (Z1 3) (Z0 (Z1 4) Z2))) (Z0 (eNw (hCut false) (Z0 (Z1 3) (Z0 (Z1 4) Z2))) Z2)))))) (Z00 (eC (.bl false))) ZV)
noncomputable def Z5s(K:Qd)(A:Adr):SF :=
  (sIf (bNot (bV (ZF [false,false,false] (Z0c K A) (Z0 (Z1 1) (Z0 (Z1 3) (Z0 (Z1 4) Z2)))))) (Z00 (eC (.bl false))) ZV)
noncomputable def Z4D(K:Qd)(A:Adr):SF :=
  (Z5s K A)
noncomputable def Z6I(K:Qd)(A:Adr):SF :=
  (Zj (Z1e (Z0 (eNw (hLen K) (Z0 (Z1 1) Z2)) Z2) (Z5 4)
  (Z2t K A))
  (Zj (Z1e (Z0 (eNw (hLen K) (Z0 (Z1 1) Z2)) Z2) (Z5 4)
  (Z4D K A))
  (Z00 (eC (.bl true)))))
noncomputable def Z6H(K:Qd)(A:Adr):SF :=
  (Zj (sIf (bOr (bNot (bV (ZF [false,false] (Z0U A) (Z0 (Z1 2) (Z0 (Z1 1) Z2))))) (bOr (bNot (bV (eNw hIs (Z0 (Z1 3) (Z0 (eC (.ty "list")) Z2))))) (bV (eNw (hEq true) (Z0 (eNw (hLen K) (Z0 (Z1 3) Z2)) (Z0 (eNw (hLen K) (Z0 (Z1 1) Z2)) Z2)))))) (Z00 (eC (.bl false))) ZV)
  (Z6I K A))
noncomputable def Z6G(K:Qd)(A:Adr):SF :=
  (Zj (Zn (ZF [false] (Z0w K A) (Z0 (Z1 2) Z2)) (Z5 3))
  (Z6H K A))
noncomputable def Z6F(K:Qd)(A:Adr):SF :=
  (Zj (Zn (Z19 (Z1 1) (fun _=>bYes) (fun n1=>(eNw Z1W (Z0 (Z1 n1) Z2)))) (Z5 2))
  (Z6G K A))
noncomputable def b_law(K:Qd)(A:Adr):SF :=
  (Zj (Zn (ZF [false,false,false,false] (Zy K A) (Z0 (Z1 0) (Z0 (eC (.int (1))) (Z0 (eC (.int (20))) (Z0 (eC (.int (24))) Z2))))) (Z5 1))
  (Z6F K A))
noncomputable def f_law(K:Qd)(A:Adr):Fn:=ZL 5 [false] (b_law K A)
set_option maxHeartbeats 0 in
theorem Zbu(T:Txt K mg A):DefX P w K mg base "law" 30 ["_law_script"] (spR (adr A) [false] (f_law K A)) :=
 okD (k:=29) (N:=["_law_script", "_law_rows", "_law_handed", "_law_found", "_law_k"]) (ms:=[false]) (body:=b_law K A) T.X224 Z9b rfl (by decide) fun f cdv A' outer s H E R hr hx hE ha=>by
  have hu:=Z1b hr
  refine Z7 ?_ ?_
  ·refine ZS ?_ ?_
   ·refine Z0N (ms:=[false,false,false,false]) (by rw [ha];exact (Z4e T)) (hr.mono (by omega)) hx ?_ (Z6 (Z6 (Z6 (Z6 Z01))))
    ·refine Z4 ?_ ?_
     ·exact (Z3 (pv 0) (j:=0) rfl)
     ·refine Z4 ?_ ?_
      ·exact (Za Z8)
      ·refine Z4 ?_ ?_
       ·exact (Za Z8)
       ·refine Z4 ?_ ?_
        ·exact (Za Z8)
        ·exact Zi
   ·exact (Zg (i:=1) Z4d rfl (Or.inl rfl) rfl (by decide))
  ·refine Z7 ?_ ?_
   ·refine Z3K (N:=["_law_row", "_law_script", "_law_rows", "_law_handed", "_law_found", "_law_k"]) rfl (by decide) ?_ (CompSc.of (sc:=Z9 s_law) (N0:=["_law_script", "_law_rows", "_law_handed", "_law_found", "_law_k"]) rfl rfl (by decide +kernel)) (fun cl C s H fp=>(Z27 (i:=0) (show (["_law_row", "_law_script", "_law_rows", "_law_handed", "_law_found", "_law_k"]:List Str).Nodup from by decide +kernel) rfl (Or.inl rfl))) (fun cl C s H fp=>Z4W) (fun cl C s H fp=>px_e fun n1 hn1=>?_) Z4d rfl (i:=2) rfl (j:=2) rfl (by rfl)
    ·exact (Z3 (pv 1) (j:=1) rfl)
    ·refine rc_ty Z71 (by rfl) T.b_list boot_list ?_
     ·refine Z4 ?_ ?_
      ·exact (Z3 (pv 0) (j:=n1) rfl)
      ·exact Zi
   ·refine Z7 ?_ ?_
    ·refine ZS ?_ ?_
     ·refine Z0N (ms:=[false]) (by rw [ha];exact (Z5y T)) (hr.mono (by omega)) hx ?_ (Z6 Z01)
      ·refine Z4 ?_ ?_
       ·exact (Z3 (pv 2) (j:=2) rfl)
       ·exact Zi
     ·exact (Zg (i:=3) Z4d rfl (Or.inl rfl) rfl (by decide))
    ·refine Z7 ?_ ?_
     ·refine Z0z ?_ ?_ ?_
      ·refine PW.pt ?_
       ·refine rw_or ?_ ?_
        ·refine Z4X ?_
         ·refine rt_v ?_
          ·refine Z0N (ms:=[false,false]) (by rw [ha];exact (Z6o T)) (hr.mono (by omega)) hx ?_ (Z6 (Z6 Z01))
           ·refine Z4 ?_ ?_
            ·exact (Z3 (pv 2) (j:=2) rfl)
            ·refine Z4 ?_ ?_
             ·exact (Z3 (pv 1) (j:=1) rfl)
             ·exact Zi
        ·refine rw_or ?_ ?_
         ·refine Z4X ?_
          ·refine rt_v ?_
           ·refine rc_b cn_is (by rfl) T.b_isinstance boot_isinstance ?_
            ·refine Z4 ?_ ?_
             ·exact (Z3 (pv 3) (j:=3) rfl)
             ·refine Z4 ?_ ?_
              ·exact (Za (Z0I (v:=.ty "list") rfl T.b_list boot_list rfl))
              ·exact Zi
         ·refine Z4i ?_
          ·refine Z07 on_ne ?_ ?_ (ZD _)
           ·refine rc_b Z1M (by rfl) T.b_len boot_len ?_
            ·refine Z4 ?_ ?_
             ·exact (Z3 (pv 3) (j:=3) rfl)
             ·exact Zi
           ·refine rc_b Z1M (by rfl) T.b_len boot_len ?_
            ·refine Z4 ?_ ?_
             ·exact (Z3 (pv 1) (j:=1) rfl)
             ·exact Zi
      ·refine Zb ?_
       ·refine ZZ ?_
        ·exact (Za Z1l)
      ·exact Z0b
     ·refine Z7 ?_ ?_
      ·refine Z21 ZM rfl rfl T.b_range ?_ ?_ ?_
       ·refine rc_b Z1M (by rfl) T.b_len boot_len ?_
        ·refine Z4 ?_ ?_
         ·exact (Z3 (pv 1) (j:=1) rfl)
         ·exact Zi
       ·exact (Zg (i:=4) Z4d rfl (Or.inl rfl) rfl (by decide))
       ·refine Zb ?_
        ·refine Z0z ?_ ?_ ?_
         ·refine PW.pt ?_
          ·refine Z4h ?_ ?_
           ·refine Z07 Z5b ?_ ?_ (ZD _)
            ·refine Z06 ?_ ?_ (fun _ _=>rfl)
             ·exact (Z3 (pv 3) (j:=3) rfl)
             ·exact (Z3 (pv 4) (j:=4) rfl)
            ·exact (Za Z1Q)
           ·refine Z3x ?_
            ·refine PW.pt ?_
             ·refine rw_or ?_ ?_
              ·refine Z4X ?_
               ·refine rt_v ?_
                ·refine Z0N (ms:=[false]) (by rw [ha];exact (Z5x T)) (hr.mono (by omega)) hx ?_ (Z6 Z01)
                 ·refine Z4 ?_ ?_
                  ·refine Z06 ?_ ?_ (fun _ _=>rfl)
                   ·exact (Z3 (pv 3) (j:=3) rfl)
                   ·exact (Z3 (pv 4) (j:=4) rfl)
                  ·exact Zi
              ·refine Z4i ?_
               ·refine Z07 on_in ?_ ?_ rfl
                ·refine Z06 ?_ ?_ (fun _ _=>rfl)
                 ·exact (Z3 (pv 3) (j:=3) rfl)
                 ·exact (Z3 (pv 4) (j:=4) rfl)
                ·refine Z6y ?_ ?_
                 ·exact (Z3 (pv 3) (j:=3) rfl)
                 ·exact (Z3 (pv 4) (j:=4) rfl)
         ·refine Zb ?_
          ·refine ZZ ?_
           ·exact (Za Z1l)
         ·exact Z0b
      ·refine Z7 ?_ ?_
       ·refine Z21 ZM rfl rfl T.b_range ?_ ?_ ?_
        ·refine rc_b Z1M (by rfl) T.b_len boot_len ?_
         ·refine Z4 ?_ ?_
          ·exact (Z3 (pv 1) (j:=1) rfl)
          ·exact Zi
        ·exact (Zg (i:=4) Z4d rfl (Or.inl rfl) rfl (by decide))
        ·refine Zb ?_
         ·refine Z0z ?_ ?_ ?_
          ·refine Z4X ?_
           ·refine rt_v ?_
            ·refine Z0N (ms:=[false,false,false]) (by rw [ha];exact (Z4G T)) (hr.mono (by omega)) hx ?_ (Z6 (Z6 (Z6 Z01)))
             ·refine Z4 ?_ ?_
              ·exact (Z3 (pv 1) (j:=1) rfl)
              ·refine Z4 ?_ ?_
               ·exact (Z3 (pv 3) (j:=3) rfl)
               ·refine Z4 ?_ ?_
                ·exact (Z3 (pv 4) (j:=4) rfl)
                ·exact Zi
          ·refine Zb ?_
           ·refine ZZ ?_
            ·exact (Za Z1l)
          ·exact Z0b
       ·refine Zb ?_
        ·refine ZZ ?_
         ·exact (Za Z1l)
end
end Pf
open PySem PySem.Spec PyProof.Rows L2 RM
local macro_rules | `(tactic| walk_at "evs")=>`(tactic| simp only [Zr,ev_if,ev_e,Z8p,Z7p,Z7n,Z8h,ev_ct,Z8g,Z8j,ev_v,Z8o,Z8f,ev_or,ev_C,Z8t,Z8n,Z7c,ev_nw,ev_ch,Z7e,Z7d,ev_mu,Z77,Z5Q,Z7b,ev_mk,Z78,Z79,Z4o,Z7k,Z7j,Z1K,fin,Z1o,Z8s,tryH,Z5W,Z7m,Z7q,Z60,Z5Y,Z5Z,Z5X,Z8q,ini,outs,ends,augGo,selF,selI,hFld,hPutF,Z0E,hApp,Z5U,Z5S,Z5T,Z5V,hI,hEq,hIsN,hAdd,Z69,Z68,Z6a,Z66,Z67,Z7v,Z7x,Z7u,Z7w,hDGet,hDIn,hGet2,Z0S,Z1W,hFmt,hNeg,hInt,hStrI,hMax,hMin,pick,Z0i,Zq,vals,Z2C,kvD,keyD,mkV,D.imm,D.imms,NK.mut,D.get,D.put,wr,Z8K,Z8J,Z8I,Z9n,Z9m,Z9l,Z9g,Z9f,sub_cn,Z9e,unh,unx,Z5,tgT,tgC,tgN,takes,fills,gives,apart,disj,retV,Z1w,killN,hole,
 Nv,List.foldl_nil,List.mapIdx_cons,List.mapIdx_nil,Qak,List.zipWith_nil_left,List.zipWith_nil_right,List.replicate,Ql,Wo,Jh,Je,Jm,Jk,Nh,Wy,Qad,List.getElem?_nil,List.set_cons_zero,Ny,List.getLast?_cons_cons,List.getLast?_singleton,List.dropLast_cons_cons,List.dropLast_singleton,Nat.reduceAdd,Nat.reduceSub,Nat.reduceLT,Nat.reduceLeDiff,Nat.reduceEqDiff,Nat.zero_add,Nat.add_zero,Gr,Nat.sub_zero,
 Option.map_some,Option.map_none,Option.some.injEq,if_true,if_false,ite_true,ite_false,Bool.not_true,Bool.not_false,Bool.and_true,Bool.true_and,Bool.and_false,Bool.false_and,Bool.true_or,Bool.false_or,Bool.or_true,Bool.or_false,decide_true,decide_false,decide_not,ne_eq,not_true,not_false_eq_true,Jz,reduceIte,reduceCtorEq,and_self,and_true,true_and,false_and,and_false,bne_self_eq_false,Bool.bne_false,Bool.bne_true,Qs,Ja,Int.reduceLT,Int.reduceLE,Int.reduceNeg,Int.reduceToNat,Int.cast_ofNat_Int,Int.natCast_zero,Int.natCast_one,Nj,Int.reduceEq,Int.reducePow,Int.reduceAdd,Int.reduceMul,Int.reduceSub,Int.reduceMod,Int.reduceDiv,Nat.reduceBNe,Nat.reduceBEq,ixN_0,ixN_1,ixN_2,ixN_3,ixN_4,ixN_5,ixN_6,ixN_7,ixN_8,ixN_9,Z8F,Z8G,Z8H,sz,Z0j,scal,decide_eq_true_eq,V.int.injEq,V.str.injEq,V.bl.injEq,Option.isSome_some,Option.isSome_none,Z7i,lenOf,Z5O,Z5k,Z8k,Z5P,Z8i,hRng,hPutL,Z2r,Z1v,Z2h,Z0g,Z8r,Z7f,hCut,hCat,hDict,hVals,hIn,hRev,Z8m,Z5R,insR,Z5N,Z2s,ev_fz,fzS,ownW,Z0j,D.fz,D.fzs,NK.fz,Z8l,Z7l,ownT,Z3i,Z7h,Z61,Z7a,Z7g,Z7o,popR,isAt,backD,is_ll,is_ii,is_ib, *])
namespace Pf
open PySem PySem.Spec PyProof.Rows L2 RM
variable {K:Qd}{A:Adr}

noncomputable abbrev Hd:=List (Int×Nat)
noncomputable abbrev hK(h:Hd):List Int:=h.map (·.1)
noncomputable abbrev hV(h:Hd):List Nat:=h.map (·.2)
noncomputable abbrev rowAt(rows:List (List Int))(p:Nat):List Int:=rows.getD p []
noncomputable def Z1n(rows:List (List Int))(S:List Int)(k:Nat):List Nat:=(List.range k).filter fun i=>!(rowAt rows i).all fun x=>S.contains x
theorem Z0p{α:Type}[DecidableEq α]:∀ {l m:List α},l.Nodup→(∀ x∈l,x∈m)→l.length≤m.length
 | [],m,_,_=>Nk _
 | x::l,m,hn,hs=>by
  have hx:x∈m:=hs x Qy
  have h1:=Z0p (l:=l) (m:=m.erase x) (Ji.mp hn).2 fun y hy=>by
   refine (List.mem_erase_of_ne ?_).mpr (hs y (Qv _ hy))
   rintro rfl
   exact (Ji.mp hn).1 hy
  have h2:0 < m.length:=List.length_pos_of_mem hx
  rw [List.length_erase_of_mem hx] at h1
  rw [Jk];omega
theorem Z3m{rows:List (List Int)}{S:List Int}{k i:Nat}:i∈Z1n rows S k↔i < k∧∃ x∈rowAt rows i,x∉S:=by
 unfold Z1n
 rw [Qn,Wi]
 simp
theorem Zbs{rows:List (List Int)}{S:List Int}{k:Nat}:(Z1n rows S k).Nodup:=List.Nodup.sublist Jb Qae
theorem Zbz{rows:List (List Int)}{S:List Int}{k:Nat}(h:∀ x∈rowAt rows k,x∈S):Z1n rows S (k + 1)=Z1n rows S k:=by
 unfold Z1n
 rw [Nx,Wa]
 have:(rowAt rows k).all (fun x=>S.contains x)=true:=by
  rw [Np];intro x hx;simpa using h x hx
 simp only [Ws,this,Bool.not_true,Jz,if_false,List.filter_nil,Jm]
theorem Z9E{rows:List (List Int)}{S:List Int}{k:Nat}:(Z1n rows S (k + 1)).length≤(Z1n rows S k).length + 1:=by
 unfold Z1n
 rw [Nx,Wa,Ja]
 have:=Jy (fun i=>!(rowAt rows i).all fun x=>S.contains x) [k]
 simp only [Jk,Nh] at this
 omega
structure Mat(rows:List (List Int))(k:Nat)(h:Hd):Prop where
 kn:(hK h).Nodup
 vn:(hV h).Nodup
 ed:∀ e∈h,e.2 < k∧e.1∈rowAt rows e.2
theorem weak{rows:List (List Int)}{k:Nat}{h:Hd}(M:Mat rows k h)(S:List Int):h.length≤(Z1n rows S k).length + S.length:=by
 have e:h.length=(h.filter fun e=>S.contains e.1).length + (h.filter fun e=>!S.contains e.1).length:=by
  have:=List.length_eq_countP_add_countP (fun e:Int×Nat=>S.contains e.1) (l:=h)
  rw [← Gn,← Gn]
  simpa using this
 have h1:(h.filter fun e=>S.contains e.1).length≤S.length:=by
  have:=Z0p (l:=(h.filter fun e=>S.contains e.1).map (·.1)) (m:=S) (M.kn.sublist (Jb.map _)) fun x hx=>by
   obtain ⟨e,he,rfl⟩:=Qi.mp hx
   simpa using (Qn.mp he).2
  simpa using this
 have h2:(h.filter fun e=>!S.contains e.1).length≤(Z1n rows S k).length:=by
  have:=Z0p (l:=(h.filter fun e=>!S.contains e.1).map (·.2)) (m:=Z1n rows S k) (M.vn.sublist (Jb.map _)) fun x hx=>by
   obtain ⟨e,he,rfl⟩:=Qi.mp hx
   obtain ⟨h3,h4⟩:=Qn.mp he
   exact Z3m.mpr ⟨(M.ed e h3).1,e.1,(M.ed e h3).2,by simpa using h4⟩
  simpa using this
 omega
theorem Z7W{rows:List (List Int)}{k:Nat}{h:Hd}{S s2:List Int}(M:Mat rows k h)(hS:(Z1n rows S k).length + S.length≤h.length)(h1:∀ y∈rowAt rows k,y∈s2)
  (h2:∀ x∈s2,x∈hK h∧∀ e∈h,e.1=x→∀ y∈rowAt rows e.2,y∈s2):∃ S':List Int,(Z1n rows S' (k + 1)).length + S'.length≤h.length:=by
 let hT:=h.filter fun e=>s2.contains e.1 && !S.contains e.1
 have mT:∀ e,e∈hT↔e∈h∧e.1∈s2∧e.1∉S:=fun e=>by
  show e∈h.filter _↔_
  rw [Qn];simp
 let S':=S++hT.map (·.1)
 have sub:∀ x∈s2,x∈S':=fun x hx=>by
  by_cases hs:x∈S
  ·exact Qh _ hs
  ·obtain ⟨e,he,rfl⟩:=Qi.mp (h2 x hx).1
   exact Qg _ (Qi.mpr ⟨e,(mT e).mpr ⟨he,hx,hs⟩,rfl⟩)
 refine ⟨S',?_⟩
 rw [Zbz fun x hx=>sub x (h1 x hx)]
 have key:(hT.map (·.2)++Z1n rows S' k).length≤(Z1n rows S k).length:=by
  refine Z0p ?_ fun i hi=>?_
  ·rw [Qk]
   refine ⟨M.vn.sublist (Jb.map _),Zbs,fun i hi j hj=>?_⟩
   rintro rfl
   obtain ⟨e,he,rfl⟩:=Qi.mp hi
   obtain ⟨g1,g2,g3⟩:=(mT e).mp he
   obtain ⟨_,x,q1,q2⟩:=Z3m.mp hj
   exact q2 (sub x ((h2 e.1 g2).2 e g1 rfl x q1))
  ·rcases Qe.mp hi with hi | hi
   ·obtain ⟨e,he,rfl⟩:=Qi.mp hi
    obtain ⟨g1,g2,g3⟩:=(mT e).mp he
    exact Z3m.mpr ⟨(M.ed e g1).1,e.1,(M.ed e g1).2,g3⟩
   ·obtain ⟨q0,x,q1,q2⟩:=Z3m.mp hi
    exact Z3m.mpr ⟨q0,x,q1,fun z=>q2 (Qh _ z)⟩
 have e1:S'.length=S.length + hT.length:=by show (S++hT.map (·.1)).length=_;simp
 rw [Ja,Qs] at key
 omega
noncomputable abbrev aI(i:Int):D:=.at (.int i)
theorem imI(ns:List Int):D.imms (ns.map aI)=true:=Z2T (fun _=>rfl) ns
noncomputable def atL(ns:List Int)(i:Int):Int:=if 0≤i then (if i < ns.length then ns.getD i.toNat 0 else 0) else 0
theorem v_at(k:NK)(hk:Scr K k)(ns:List Int)(i:Int)(h0:0≤i):Z0T K A [scD k ns,aI i]=.ok (.val (aI (atL ns i))) [scD k ns,aI i]:=by
 unfold Z0T Z42 atL scD
 have him:=imI ns
 by_cases h:i < (ns.length:Int)
 ·have hj:i.toNat < ns.length:=by omega
  have e1:ns.getD i.toNat 0=ns[i.toNat]:=by rw [Gu,Qj hj];rfl
  have e2:(ns.map aI)[i.toNat]?=some (aI ns[i.toNat]):=by rw [Qa,Qj hj];rfl
  have e3:ixN ns.length i=some i.toNat:=by unfold ixN;rw [if_pos h0,if_pos h]
  rw [e1];clear e1
  rcases hk with rfl | rfl <;> walk_at "evs"
 ·rcases hk with rfl | rfl <;> walk_at "evs"
theorem Z0l{k:NK}(hk:Scr K k)(ns:List Int):(scD k ns).imm=true:=by
 unfold scD
 rcases hk with rfl | rfl <;> simp only [D.imm,NK.mut,imI,Bool.not_false,Bool.true_and]
noncomputable abbrev figS(k:NK)(ns:List Int)(i base:Int)(m:Nat)(cell:Int)(xs:List Int)(x6:DL):Sd:=[.own true (scD k ns),.own true (aI i),.own true (aI base),.own true (aI m),.own true (aI cell),.own true (.nd (.lst true) (xs.map aI)),x6,.non,.non,.non,.non,.non]
theorem ZaK(k:NK)(hk:Scr K k)(ns:List Int)(i base:Int)(m j:Nat)(cell:Int)(xs:List Int)(hb:0 < base)(hb':base < 1073741824)(hx:xs.length < 16777216)(hz:atL ns 0 % 2=0) :
  Z0m K A (figS k ns i base m cell xs (.own true (aI (0 + j))))=.nx (figS k ns i base m (cell / base) (xs++[cell % base]) .non):=by
 have hki:=Z0l hk ns
 have hat0:=v_at (A:=A) k hk ns 0 (by omega)
 unfold Z0m
 walk_at "evs"
 simp only [figS,Qt,Ql,Wo]
theorem ZaL(k:NK)(hk:Scr K k)(ns:List Int)(i base:Int)(m j:Nat)(cell:Int)(xs:List Int)(hb:0 < base)(hx:xs.length < 16777216)(hz:¬ atL ns 0 % 2=0) :
  ∃ y,Z0m K A (figS k ns i base m cell xs (.own true (aI (0 + j))))=.nx (figS k ns i base m cell (xs++[y % base]) .non):=by
 have hki:=Z0l hk ns
 have hat0:=v_at (A:=A) k hk ns 0 (by omega)
 unfold Z0m
 refine ⟨((cell + 31 * (0 + j) + 1) * 48271 % 2147483647 + 7919 * i + (0 + j) + 1) * 69621 % 2147483647,?_⟩
 walk_at "evs"
 simp only [figS,Qt,Ql,Wo]
theorem Z9o(k:NK)(hk:Scr K k)(ns:List Int)(i base:Int)(m:Nat)(h0:0≤i)(hm:m < 1000)(cell:Int)(xs:List Int)
  (h1:Ze (itR 0 m) (Z5 6) (Z0m K A) (m + 1) 0 (figS k ns i base m (atL ns i) [] .non)=.nx (figS k ns i base m cell xs .non)) :
  Zv K A [scD k ns,aI i,aI base,aI m]=.ok (.val (.nd (.lst true) (xs.map aI))) [scD k ns,aI i,aI base,aI m]:=by
 have hki:=Z0l hk ns
 have hat:=v_at (A:=A) k hk ns i h0
 have hm1:(m:Int) < 4611686018427387904:=by omega
 have hm2:-4611686018427387904≤(m:Int):=by omega
 simp only [figS,Wo] at h1
 unfold Zv Z2q
 walk_at "evs"
theorem Z5t(k:NK)(hk:Scr K k)(ns:List Int)(i base:Int)(m:Nat)(h0:0≤i)(hb:0 < base)(hb':base < 1073741824)(hm:m < 1000):∃ xs:List Int,xs.length=m∧(∀ x∈xs,0≤x∧x < base) ∧
  Zv K A [scD k ns,aI i,aI base,aI m]=.ok (.val (.nd (.lst true) (xs.map aI))) [scD k ns,aI i,aI base,aI m]:=by
 have hmod:∀ y:Int,0≤y % base∧y % base < base:=fun y=>⟨Int.emod_nonneg _ (by omega),Int.emod_lt_of_pos _ hb⟩
 obtain ⟨s',h1,cell,xs,h2,h3,rfl⟩:=Z20 (lo:=0) (n:=m) (b:=Z5 6) (body:=Z0m K A) (s:=figS k ns i base m (atL ns i) [] .non)
  (fun j s=>∃ (cell:Int) (xs:List Int),xs.length=j∧(∀ x∈xs,0≤x∧x < base)∧s=figS k ns i base m cell xs .non) ⟨atL ns i,[],rfl,by simp,rfl⟩ (by
  rintro j s hj ⟨cell,xs,h1,h2,rfl⟩
  by_cases hz:atL ns 0 % 2=0
  ·refine ⟨_,_,rfl,.inl (ZaK k hk ns i base m j cell xs hb hb' (by omega) hz),_,_,?_,fun x hx=>?_,rfl⟩
   ·rw [Ja,h1];rfl
   rcases Qe.mp hx with hx | hx
   ·exact h2 x hx
   ·rw [Qw.mp hx];exact hmod _
  ·obtain ⟨y,e⟩:=ZaL (A:=A) k hk ns i base m j cell xs hb (by omega) hz
   refine ⟨_,_,rfl,.inl e,_,_,?_,fun x hx=>?_,rfl⟩
   ·rw [Ja,h1];rfl
   rcases Qe.mp hx with hx | hx
   ·exact h2 x hx
   ·rw [Qw.mp hx];exact hmod _)
 exact ⟨xs,h2,h3,Z9o k hk ns i base m h0 hm cell xs h1⟩
theorem Zc2{a:D}(h:DtN 3 a):Z0U A [a,a]=.ok (.val (.at (.bl true))) [a,a]:=Z9P h
noncomputable abbrev nD(l:List Int):D:=.nd (.lst true) (l.map aI)
noncomputable abbrev rwD(rows:List (List Int)):D:=.nd (.lst true) (rows.map nD)
theorem Z2n{rows:List (List Int)}{p:Nat}(hp:p < rows.length):(rows.map nD)[p]?=some (nD (rowAt rows p)):=by
 rw [Qa,Qj hp];simp [rowAt,Gu,Qj hp]
theorem Z0L{n p:Nat}(h:p < n):ixN n (p:Int)=some p:=by unfold ixN;rw [if_pos (by omega),if_pos (by omega)];simp
noncomputable abbrev kG(x:Int):Key:=.inl x
noncomputable abbrev bT:D:=.at (.bl true)
noncomputable abbrev hD(h:Hd):D:=.nd (.dic true (h.map fun e=>kG e.1)) (h.map fun e=>aI e.2)
noncomputable abbrev sD(s:List (Int×V)):D:=.nd (.dic true (s.map fun e=>kG e.1)) (s.map fun e=>D.at e.2)
noncomputable abbrev kH(h:Hd):List Key:=h.map fun e=>kG e.1
noncomputable abbrev kS(s:List (Int×V)):List Key:=s.map fun e=>kG e.1
noncomputable abbrev fnS(rows:List (List Int))(p:Nat)(h:Hd)(s:List (Int×V))(y:DL):Sd:=[.bor 5 [],.own true (aI p),.bor 7 [],.bor 8 [],y,.own false (rwD rows),.non,.own true (hD h),.own true (sD s),.bor 5 [p]]
theorem Z47(h:Hd)(x:Int)(p:Nat):hD (h++[(x,p)])=.nd (.dic true (List.map (fun e=>kG e.fst) h++[Sum.inl x])) (List.map (fun e=>aI e.snd) h++[aI p]):=by
 show D.nd (.dic true ((h++[(x,p)]).map fun e=>kG e.1)) ((h++[(x,p)]).map fun e=>aI e.2)=_
 rw [Qt,Qt];rfl
theorem Z6C(s:List (Int×V))(x:Int)(v:V):sD (s++[(x,v)])=.nd (.dic true (List.map (fun e=>kG e.fst) s++[Sum.inl x])) (List.map (fun e=>D.at e.snd) s++[D.at v]):=by
 show D.nd (.dic true ((s++[(x,v)]).map fun e=>kG e.1)) ((s++[(x,v)]).map fun e=>D.at e.2)=_
 rw [Qt,Qt];rfl
theorem Zb2(h:Hd)(x:Int)(p q j:Nat)(hj:h[j]?=some (x,q)):hD (h.set j (x,p))=.nd (.dic true (List.map (fun e=>kG e.fst) h)) ((List.map (fun e=>aI e.snd) h).set j (aI p)):=by
 show D.nd (.dic true ((h.set j (x,p)).map fun e=>kG e.1)) ((h.set j (x,p)).map fun e=>aI e.2)=_
 rw [Wb,Wb]
 have:(h.map fun e=>kG e.1).set j (kG x)=h.map fun e=>kG e.1:=by
  refine Ju fun i=>?_
  rw [Qm]
  by_cases e:j=i
  ·subst e
   rw [if_pos rfl,Qa,hj,if_pos (by simpa using (Qc.mp hj).1)];rfl
  ·rw [if_neg e]
 rw [this]
theorem v_fn1(g:Fn)(rows:List (List Int))(p:Nat)(h:Hd)(s:List (Int×V))(x:Int)(j:Nat)(hs:idk (kG x) (kS s)=some j) :
  ZC K A g (fnS rows p h s (.own true (aI x)))=.nx (fnS rows p h s .non):=by
 unfold ZC
 walk_at "evs"
theorem v_fn2(g:Fn)(rows:List (List Int))(p:Nat)(h:Hd)(s:List (Int×V))(x:Int)(hs:idk (kG x) (kS s)=none)(hh:idk (kG x) (kH h)=none)(z1:s.length < 16777216)(z2:h.length < 16777216) :
  ZC K A g (fnS rows p h s (.own true (aI x)))=.rt (.val bT) (fnS rows p (h++[(x,p)]) (s++[(x,.bl true)]) (.own true (aI x))):=by
 unfold ZC
 walk_at "evs"
 show _=SR.rt (DV.val bT) [.bor 5 [],.own true (aI p),.bor 7 [],.bor 8 [],.own true (aI x),.own false (rwD rows),.non,.own true (hD (h++[(x,p)])),.own true (sD (s++[(x,.bl true)])),.bor 5 [p]]
 rw [Z47,Z6C]
theorem v_fn3(g:Fn)(rows:List (List Int))(p q j:Nat)(h h2:Hd)(s s2:List (Int×V))(x:Int)(hs:idk (kG x) (kS s)=none)(hh:idk (kG x) (kH h)=some j)(hj:h[j]?=some (x,q))(z1:s.length < 16777216)
  (hg:g [rwD rows,aI q,hD h,sD (s++[(x,.bl true)])]=.ok (.val (.at (.bl false))) [rwD rows,aI q,hD h2,sD s2]) :
  ZC K A g (fnS rows p h s (.own true (aI x)))=.nx (fnS rows p h2 s2 .non):=by
 have hj2:(h.map fun e=>aI e.2)[j]?=some (aI q):=by rw [Qa,hj];rfl
 rw [Z6C] at hg
 unfold ZC
 walk_at "evs"
theorem v_fn4(g:Fn)(rows:List (List Int))(p q j:Nat)(h h2:Hd)(s s2:List (Int×V))(x:Int)(hs:idk (kG x) (kS s)=none)(hh:idk (kG x) (kH h)=some j)(hj:h[j]?=some (x,q))(z1:s.length < 16777216)
  (hg:g [rwD rows,aI q,hD h,sD (s++[(x,.bl true)])]=.ok (.val (.at (.bl true))) [rwD rows,aI q,hD h2,sD s2]) (hh2:idk (kG x) (kH h2)=some j) (hj2:h2[j]?=some (x,q)) (z2:h2.length < 16777216) :
  ZC K A g (fnS rows p h s (.own true (aI x)))=.rt (.val bT) (fnS rows p (h2.set j (x,p)) s2 (.own true (aI x))):=by
 have hj3:(h.map fun e=>aI e.2)[j]?=some (aI q):=by rw [Qa,hj];rfl
 have hj4:j < h2.length:=(Qc.mp hj2).1
 rw [Z6C] at hg
 unfold ZC
 walk_at "evs"
 show _=SR.rt (DV.val bT) [.bor 5 [],.own true (aI p),.bor 7 [],.bor 8 [],.own true (aI x),.own false (rwD rows),.non,.own true (hD (h2.set j (x,p))),.own true (sD s2),.bor 5 [p]]
 rw [Zb2 h2 x p q j hj2]
noncomputable abbrev sK(s:List (Int×V)):List Int:=s.map (·.1)
theorem Z3j{α:Type}{l:List (Int×α)}{x:Int}(h:x∉l.map (·.1)):idk (kG x) (l.map fun e=>kG e.1)=none:=by
 unfold idk
 rw [Nt]
 intro k hk
 obtain ⟨e,he,rfl⟩:=Qi.mp hk
 have:¬ e.1=x:=fun z=>h (z ▸ Qi.mpr ⟨e,he,rfl⟩)
 simpa using this
theorem Z2J{α:Type}:∀ {l:List (Int×α)} {x:Int},x∈l.map (·.1)→∃ j v,idk (kG x) (l.map fun e=>kG e.1)=some j∧l[j]?=some (x,v)
 | [],x,h=>by cases h
 | e::l,x,h=>by
  unfold idk
  rw [Ql,Gs]
  by_cases hx:e.1=x
  ·subst hx
   exact ⟨0,e.2,by simp,rfl⟩
  ·have hm:x∈l.map (·.1):=by
    rcases Qz.mp h with z | z
    ·exact (hx z.symm).elim
    ·exact z
   obtain ⟨j,v,h1,h2⟩:=Z2J hm
   refine ⟨j + 1,v,?_,h2⟩
   have:decide (kG e.1=kG x)=false:=by simpa using hx
   rw [this]
   unfold idk at h1
   rw [h1];rfl
theorem Zb6{α:Type}{l:List (Int×α)}{x:Int}{j:Nat}{v:α}(hn:(l.map (·.1)).Nodup)(h:l[j]?=some (x,v)):idk (kG x) (l.map fun e=>kG e.1)=some j:=by
 obtain ⟨i,w,h1,h2⟩:=Z2J (x:=x) (l:=l) (Qi.mpr ⟨_,Qf h,rfl⟩)
 rw [h1]
 have e1:(l.map (·.1))[i]?=some x:=by rw [Qa,h2];rfl
 have e2:(l.map (·.1))[j]?=some x:=by rw [Qa,h];rfl
 obtain ⟨q1,r1⟩:=Qc.mp e1
 obtain ⟨q2,r2⟩:=Qc.mp e2
 rw [(Wr hn).mp (r1.trans r2.symm)]
noncomputable def free(h:Hd)(s:List Int):Nat:=((hK h).filter fun y=>!s.contains y).length
theorem Z2u{h:Hd}{s:List Int}{y:Int}:y∈(hK h).filter (fun y=>!s.contains y)↔y∈hK h∧y∉s:=by
 rw [Qn];simp
theorem Z8v{h:Hd}{s s':List Int}(hn:(hK h).Nodup)(hs:∀ x∈s,x∈s'):free h s'≤free h s :=
 Z0p (hn.sublist Jb) fun y hy=>by
  obtain ⟨h1,h2⟩:=Z2u.mp hy
  exact Z2u.mpr ⟨h1,fun z=>h2 (hs y z)⟩
theorem Z7s{h:Hd}{s:List Int}{x:Int}(hn:(hK h).Nodup)(h1:x∈hK h)(h2:x∉s):free h (s++[x]) + 1≤free h s:=by
 have:=Z0p (l:=x::(hK h).filter fun y=>!(s++[x]).contains y) (m:=(hK h).filter fun y=>!s.contains y) (Ji.mpr ⟨fun z=>(Z2u.mp z).2 (by simp),hn.sublist Jb⟩) fun y hy=>by
  rcases Qz.mp hy with rfl | hy
  ·exact Z2u.mpr ⟨h1,h2⟩
  ·obtain ⟨g1,g2⟩:=Z2u.mp hy
   exact Z2u.mpr ⟨g1,fun z=>g2 (Qh _ z)⟩
 simpa [free] using this
structure Won(rows:List (List Int))(p:Nat)(h:Hd)(s:List Int)(h':Hd):Prop where
 ks:∃ z,z∉hK h∧hK h'=hK h++[z]
 vs:(hV h').Perm (p::hV h)
 ed:∀ e∈h',e.1∈rowAt rows e.2
 st:∀ (i:Nat) e,h[i]?=some e→e.1∈s→h'[i]?=some e
structure Lost(rows:List (List Int))(l:List Int)(h:Hd)(s s':List Int):Prop where
 gr:∀ x∈s,x∈s'
 row:∀ y∈l,y∈s'
 cl:∀ x∈s',x∈s∨(x∈hK h∧∀ e∈h,e.1=x→∀ y∈rowAt rows e.2,y∈s')
theorem Z9Q{l:List Nat}{j p q:Nat}(hj:l[j]?=some q):l.Perm (q::l.eraseIdx j)∧(l.set j p).Perm (p::l.eraseIdx j):=by
 obtain ⟨hl,rfl⟩:=Qc.mp hj
 rw [List.eraseIdx_eq_take_drop_succ]
 constructor
 ·have:l=l.take j++l[j]::l.drop (j + 1):=by rw [← Nr hl,Gf]
  conv=>lhs;rw [this]
  exact List.perm_middle
 ·rw [List.set_eq_take_append_cons_drop,if_pos hl]
  exact List.perm_middle
theorem Z9W{rows:List (List Int)}{p:Nat}{h:Hd}{s:List Int}{x:Int}(hx:x∈rowAt rows p)(hh:x∉hK h)(he:∀ e∈h,e.1∈rowAt rows e.2):Won rows p h s (h++[(x,p)]):=by
 refine ⟨⟨x,hh,by simp [hK]⟩,?_,fun e z=>?_,fun i e z _=>?_⟩
 ·show ((h++[(x,p)]).map (·.2)).Perm _
  rw [Qt]
  exact Jx
 ·rcases Qe.mp z with z | z
  ·exact he e z
  ·rw [Qw.mp z];exact hx
 ·rw [Qo (Qc.mp z).1];exact z
theorem ZaQ{rows:List (List Int)}{p q j:Nat}{h h2:Hd}{s:List Int}{x:Int}(hx:x∈rowAt rows p)(hs:x∉s)(hj:h[j]?=some (x,q))(w:Won rows q h (s++[x]) h2):h2[j]?=some (x,q)∧Won rows p h s (h2.set j (x,p)):=by
 have hj2:h2[j]?=some (x,q):=w.st j _ hj (by simp)
 refine ⟨hj2,?_,?_,fun e z=>?_,fun i e z hz=>?_⟩
 ·obtain ⟨z,z1,z2⟩:=w.ks
  refine ⟨z,z1,?_⟩
  rw [← z2]
  show (h2.set j (x,p)).map (·.1)=_
  rw [Wb]
  refine Ju fun i=>?_
  rw [Qm]
  by_cases e:j=i
  ·subst e
   rw [if_pos rfl,Qa,hj2,if_pos (by simpa using (Qc.mp hj2).1)];rfl
  ·rw [if_neg e]
 ·show ((h2.set j (x,p)).map (·.2)).Perm _
  rw [Wb]
  have e:(hV h2)[j]?=some q:=by rw [Qa,hj2];rfl
  obtain ⟨p1,p2⟩:=Z9Q (p:=p) e
  have p3:=(p1.symm.trans w.vs).cons_inv
  exact p2.trans (p3.cons p)
 ·rcases Nq z with z | rfl
  ·exact w.ed e z
  ·exact hx
 ·have hij:j≠i:=by
   rintro rfl
   rw [hj] at z
   cases z
   exact hs hz
  rw [Wv hij]
  exact w.st i e z (Qh _ hz)
theorem v_fnA(n:Nat)(rows:List (List Int))(p:Nat)(h h':Hd)(s s':List (Int×V))(hp:p < rows.length)
  (lp:Ze (itP false 9 5 [p]) (Z5 4) (ZC K A (Zu K n A)) ((rowAt rows p).length + 1) 0 (fnS rows p h s .non)=.nx (fnS rows p h' s' .non)) :
  Zu K (n + 1) A [rwD rows,aI p,hD h,sD s]=.ok (.val (.at (.bl false))) [rwD rows,aI p,hD h',sD s']:=by
 have e1:=Z2n hp
 have e2:ixN rows.length (p:Int)=some p:=Z0L (by omega)
 unfold Zu Z1V
 walk_at "evs"
theorem v_fnB(n:Nat)(rows:List (List Int))(p:Nat)(h h':Hd)(s s':List (Int×V))(y:Int)(hp:p < rows.length)
  (lp:Ze (itP false 9 5 [p]) (Z5 4) (ZC K A (Zu K n A)) ((rowAt rows p).length + 1) 0 (fnS rows p h s .non)=.rt (.val bT) (fnS rows p h' s' (.own true (aI y)))) :
  Zu K (n + 1) A [rwD rows,aI p,hD h,sD s]=.ok (.val bT) [rwD rows,aI p,hD h',sD s']:=by
 have e1:=Z2n hp
 have e2:ixN rows.length (p:Int)=some p:=Z0L (by omega)
 unfold Zu Z1V
 walk_at "evs"
theorem Z4Y(s:List (Int×V))(x:Int)(v:V):sK (s++[(x,v)])=sK s++[x]:=by simp [sK]
theorem asg4(rows:List (List Int))(p:Nat)(h:Hd)(s:List (Int×V))(x:Int)(i:Nat):Z5 4 (fnS rows p h s .non) (mkV 5 ([p]++[i]) (aI x))=some (fnS rows p h s (.own true (aI x))):=by
 unfold fnS
 walk_at "evs"
theorem Z9p(rows:List (List Int)):∀ (n p:Nat) (h:Hd) (s:List (Int×V)),p < rows.length→(hK h).Nodup→(∀ e∈h,e.2 < rows.length∧e.1∈rowAt rows e.2)→free h (sK s) < n→s.length + free h (sK s) + 1 < 16777216→h.length + 1 < 16777216 →
  (∃ h' s',Zu K n A [rwD rows,aI p,hD h,sD s]=.ok (.val bT) [rwD rows,aI p,hD h',sD s']∧Won rows p h (sK s) h') ∨
  ∃ s',Zu K n A [rwD rows,aI p,hD h,sD s]=.ok (.val (.at (.bl false))) [rwD rows,aI p,hD h,sD s']∧Lost rows (rowAt rows p) h (sK s) (sK s')∧s'.length + free h (sK s')≤s.length + free h (sK s)
 | 0,p,h,s,_,_,_,hf,_,_=>(Gp _ hf).elim
 | n + 1,p,h,s,hp,hn,he,hf,hz,hl=>by
  have lp:=Z4F (t:=false) (n:=9) (k:=5) (p:=[p]) (l:=(rowAt rows p).map aI) (kd:=.lst true) (b:=Z5 4) (body:=ZC K A (Zu K n A)) (s:=fnS rows p h s .non) (.inl ⟨rfl,true,rfl⟩)
   (fun i st=>∃ s',st=fnS rows p h s' .non∧Lost rows ((rowAt rows p).take i) h (sK s) (sK s')∧s'.length + free h (sK s')≤s.length + free h (sK s))
   (fun r=>∃ h' s' y,r=.rt (.val bT) (fnS rows p h' s' (.own true (aI y)))∧Won rows p h (sK s) h')
   ⟨s,rfl,⟨fun x z=>z,by simp,fun x z=>.inl z⟩,Qu _⟩
   (by
    rintro i st ⟨s',rfl,_⟩
    refine ⟨by simp [held,fnS],?_⟩
    have e1:=Z2n hp
    walk_at "evs")
   (by
    rintro i st c hc ⟨s',rfl,lo,me⟩
    rw [Qa] at hc
    cases ex:(rowAt rows p)[i]? with
    | none=>rw [ex] at hc;cases hc
    | some x =>
     rw [ex] at hc
     simp only [Option.map_some,Option.some.injEq] at hc
     subst hc
     have hxr:x∈rowAt rows p:=Qf ex
     have tk:(rowAt rows p).take (i + 1)=(rowAt rows p).take i++[x]:=by rw [Wd,ex];rfl
     refine ⟨_,asg4 rows p h s' x i,?_⟩
     have fm:free h (sK s')≤free h (sK s):=Z8v hn lo.gr
     by_cases hs:x∈sK s'
     ·obtain ⟨j,v,h1,h2⟩:=Z2J hs
      refine .inl ⟨_,.inl (v_fn1 _ rows p h s' x j h1),s',rfl,⟨lo.gr,fun y hy=>?_,lo.cl⟩,me⟩
      rw [tk] at hy
      rcases Qe.mp hy with hy | hy
      ·exact lo.row y hy
      ·rw [Qw.mp hy];exact hs
     ·have i1:=Z3j hs
      by_cases hh:x∈hK h
      ·obtain ⟨j,q,h1,h2⟩:=Z2J hh
       have hq:=he _ (Qf h2)
       have fl:=Z7s hn hh hs
       rcases Z9p rows n q h (s'++[(x,.bl true)]) hq.1 hn he (by rw [Z4Y];omega) (by rw [Z4Y,Ja,Jq];omega) hl with ⟨h2',s2,e,w⟩ | ⟨s2,e,w,me2⟩
       ·rw [Z4Y] at w
        obtain ⟨w1,w2⟩:=ZaQ hxr hs h2 w
        obtain ⟨zz,z1,z2⟩:=w.ks
        have hn2:(hK h2').Nodup:=by
         rw [z2,Qk]
         refine ⟨hn,by simp,fun a ha b hb=>?_⟩
         rw [Qw.mp hb]
         rintro rfl
         exact z1 ha
        have hl2:h2'.length=h.length + 1:=by
         have:=congrArg List.length z2
         simpa [hK] using this
        refine .inr ⟨_,_,v_fn4 _ rows p q j h h2' s' s2 x i1 h1 h2 (by omega) e (Zb6 hn2 w1) w1 (by omega),_,_,_,rfl,w2.ks,w2.vs,w2.ed,fun i e z hz=>w2.st i e z (lo.gr _ hz)⟩
       ·rw [Z4Y] at w me2
        rw [Ja,Jq] at me2
        refine .inl ⟨_,.inl (v_fn3 _ rows p q j h h s' s2 x i1 h1 h2 (by omega) e),s2,rfl,⟨fun y hy=>w.gr y (Qh _ (lo.gr y hy)),fun y hy=>?_,fun y hy=>?_⟩,by omega⟩
        ·rw [tk] at hy
         rcases Qe.mp hy with hy | hy
         ·exact w.gr y (Qh _ (lo.row y hy))
         ·exact w.gr y (Qg _ hy)
        ·rcases w.cl y hy with z | z
         ·rcases Qe.mp z with z | z
          ·rcases lo.cl y z with z | ⟨z1,z2⟩
           ·exact .inl z
           ·exact .inr ⟨z1,fun e he' hey u hu=>w.gr u (Qh _ (z2 e he' hey u hu))⟩
          ·rw [Qw.mp z]
           refine .inr ⟨hh,fun e he' hey u hu=>?_⟩
           have:e=(x,q):=by
            obtain ⟨k,hk⟩:=Jd.mp he'
            have q1:(hK h)[k]?=some x:=by rw [Qa,hk,Option.map_some,hey]
            have q2:(hK h)[j]?=some x:=by rw [Qa,h2];rfl
            obtain ⟨b1,r1⟩:=Qc.mp q1
            obtain ⟨b2,r2⟩:=Qc.mp q2
            have:=(Wr hn).mp (r1.trans r2.symm)
            subst this
            rw [hk] at h2
            exact Option.some.inj h2
           subst this
           exact w.row u hu
         ·exact .inr z
      ·have i2:=Z3j hh
       have w:=Z9W (s:=sK s) (p:=p) hxr hh fun e z=>(he e z).2
       exact .inr ⟨_,_,v_fn2 _ rows p h s' x i1 i2 (by omega) (by omega),_,_,_,rfl,w⟩)
  rw [Qs] at lp
  rcases lp with ⟨st,e,s',rfl,lo,me⟩ | ⟨r,st,e,h',s',y,e2,w⟩
  ·rw [Wh] at lo
   exact .inr ⟨s',v_fnA n rows p h h s s' hp e,lo,me⟩
  ·cases e2
   exact .inl ⟨h',s',v_fnB n rows p h h' s s' y hp e,w⟩
noncomputable def hI(h:Hd):List Int:=h.map fun e=>(e.2:Int)
theorem Zb3(h:Hd):(h.map fun e=>aI e.2)=(hI h).map aI:=by unfold hI;rw [Jp];rfl
theorem Z8x{h:Hd}{p:Nat}:(p:Int)∈hI h↔p∈hV h:=by
 unfold hI hV
 simp only [Qi]
 constructor
 ·rintro ⟨e,h1,h2⟩;exact ⟨e,h1,by omega⟩
 ·rintro ⟨e,h1,h2⟩;exact ⟨e,h1,by omega⟩
noncomputable abbrev unS(rows:List (List Int))(h:Hd)(y:DL):Sd:=[.bor 3 [],.bor 4 [],.own true (.nd (.lst true) (h.map fun e=>aI e.2)),.own false (rwD rows),.own false (hD h),y]
theorem imH(h:Hd):D.imms (h.map fun e=>aI e.2)=true:=Z2T (fun _=>rfl) h
noncomputable abbrev unT:BF:=bV (eNw (hIn true) (Z0 (Z1 5) (Z0 (Z1 2) Z2)))
theorem Zc4(rows:List (List Int))(h:Hd)(p:Int):unT (unS rows h (.own true (aI p)))=.ok (!decide (p∈hI h)) (unS rows h (.own true (aI p))):=by
 have ha:Z0Y (h.map fun e=>aI e.2)=some ((hI h).map V.int):=by rw [Zb3];exact Z3c _
 have hv:=Z56 p (hI h)
 unfold unT
 walk_at "evs"
noncomputable abbrev left(rows:List (List Int))(h:Hd):List Nat:=(List.range rows.length).filter fun p=>!decide (p∈hV h)
noncomputable abbrev lfD(l:List Nat):D:=.nd (.lst true) (l.map fun p:Nat=>aI p)
theorem Z81(rows:List (List Int))(h:Hd)(hz:rows.length < 10000):Z0R K A [rwD rows,hD h]=.ok (.val (lfD (left rows h))) [rwD rows,hD h]:=by
 have im:=imH h
 obtain ⟨acc,s',h1,y,hy,rfl,rfl⟩:=Z22 (it:=itR 0 rows.length) (n:=5) (c:=unT) (e:=Z1 5) (N:=rows.length)
  (P:=fun i acc s=>∃ y,(y=.non∨∃ x,y=.own true (aI x))∧acc=(((List.range i).filter fun p=>!decide (p∈hV h)).map fun p:Nat=>aI p)∧s=unS rows h y)
  (by
   rintro i acc s hi ⟨y,hy,rfl,rfl⟩
   refine ⟨.val (aI (0 + i)),unS rows h (.own true (aI (0 + i))),?_,?_,?_⟩
   ·unfold itR;rw [if_pos hi]
   ·rcases hy with rfl | ⟨n,rfl⟩ <;> rfl
   ·have ht:=Zc4 rows h (0 + i)
    have e0:(0 + (i:Int))=(i:Int):=by omega
    by_cases hm:i∈hV h
    ·have ht':unT (unS rows h (.own true (aI (0 + i))))=.ok false (unS rows h (.own true (aI (0 + i)))):=by rw [ht,e0,decide_eq_true (Z8x.mpr hm)];rfl
     refine .inr ⟨_,ht',_,.inr ⟨_,rfl⟩,?_,rfl⟩
     ·rw [Nx,Wa]
      simp [hm]
    ·have ht':unT (unS rows h (.own true (aI (0 + i))))=.ok true (unS rows h (.own true (aI (0 + i)))):=by rw [ht,e0,decide_eq_false (fun z=>hm (Z8x.mp z))];rfl
     refine .inl ⟨_,aI (0 + i),_,ht',rfl,?_,_,.inr ⟨_,rfl⟩,?_,rfl⟩
     ·have:=Jy (fun p=>!decide (p∈hV h)) (List.range i)
      rw [Qs,sz]
      simp only [Gd] at this
      omega
     ·rw [Nx,Wa,Qt,e0]
      simp [hm])
  (by
   rintro acc s ⟨y,hy,rfl,rfl⟩
   unfold itR;rw [if_neg (Js _)])
  rows.length 0 [] (unS rows h .non) (by omega) ⟨.non,.inl rfl,rfl,rfl⟩
 have b1:(rows.length:Int) < 4611686018427387904:=by omega
 have b2:-4611686018427387904≤(rows.length:Int):=by omega
 have uy:Zz 5 y=y:=by rcases hy with rfl | ⟨n,rfl⟩ <;> rfl
 clear hy
 unfold Z0R Z3D
 walk_at "evs"
noncomputable abbrev smS(rows:List (List Int))(h0:Hd)(st:List (Int×V))(h:Hd)(y:DL):Sd:=[.bor 5 [],.bor 6 [],.bor 7 [],.own true (hD h),y,.own false (rwD rows),.own false (hD h0),.own false (sD st)]
theorem imS(s:List (Int×V)):D.imms (s.map fun e=>D.at e.2)=true:=Z2T (fun _=>rfl) s
theorem v_smb(rows:List (List Int))(h0 h h':Hd)(st s':List (Int×V))(p:Int)(b:Bool)(l:List Nat)
  (e:Zu K 24 A [rwD rows,aI p,hD h,sD st]=.ok (.val (.at (.bl b))) [rwD rows,aI p,hD h',sD s']) :
  Z0M K A (smS rows h0 st h (.own true (aI p))++[.own true (lfD l)])=.nx (smS rows h0 st h' .non++[.own true (lfD l)]):=by
 have im:=imS st
 unfold Z0M
 walk_at "evs"
theorem v_sme(rows:List (List Int))(h0 h':Hd)(st:List (Int×V))(hz:rows.length < 10000)
  (lp:Ze (itP false 8 8 []) (Z5 4) (Z0M K A) ((left rows h0).length + 1) 0 (smS rows h0 st h0 .non++[.own true (lfD (left rows h0))])=.nx (smS rows h0 st h' .non++[.own true (lfD (left rows h0))])) :
  ZK K A [rwD rows,hD h0,sD st]=.ok (.val (hD h')) [rwD rows,hD h0,sD st]:=by
 have im:=imH h0
 have un:=Z81 (K:=K) (A:=A) rows h0 hz
 generalize left rows h0=l at *
 have lp':Ze (itP false 8 8 []) (Z5 4) (Z0M K A) (l.length + 1) 0 [.bor 5 [],.bor 6 [],.bor 7 [],.own true (.nd (.dic true (List.map (fun e=>kG e.fst) h0)) (List.map (fun e=>aI e.snd) h0)),.non,.own false (rwD rows),.own false (hD h0),.own false (sD st),.own true (lfD l)] =
   .nx [.bor 5 [],.bor 6 [],.bor 7 [],.own true (hD h'),.non,.own false (rwD rows),.own false (hD h0),.own false (sD st),.own true (lfD l)]:=lp
 clear lp hz
 unfold ZK Z2Q
 walk_at "evs"
theorem Z4l(rows:List (List Int))(h0:Hd)(st:List (Int×V))(hz:rows.length < 10000)(hst:st.length < 10000)(P:Nat→Hd→Prop)(p0:P 0 h0)
  (hP:∀ i h,P i h→(hK h).Nodup∧(∀ e∈h,e.2 < rows.length∧e.1∈rowAt rows e.2)∧h.length < 24)
  (hs:∀ i p h,(left rows h0)[i]?=some p→P i h→(∀ h',Won rows p h (sK st) h'→P (i + 1) h')∧(∀ s',Lost rows (rowAt rows p) h (sK st) s'→P (i + 1) h)) :
  ∃ h',ZK K A [rwD rows,hD h0,sD st]=.ok (.val (hD h')) [rwD rows,hD h0,sD st]∧P (left rows h0).length h':=by
 obtain ⟨s',lp,h',rfl,hp⟩:=Z4E (t:=false) (n:=8) (k:=8) (p:=[]) (l:=(left rows h0).map fun p:Nat=>aI p) (kd:=.lst true) (b:=Z5 4) (body:=Z0M K A) (s:=smS rows h0 st h0 .non++[.own true (lfD (left rows h0))]) (.inl ⟨rfl,true,rfl⟩)
  (fun i s=>∃ h,s=smS rows h0 st h .non++[.own true (lfD (left rows h0))]∧P i h) ⟨h0,rfl,p0⟩ (by rintro i s ⟨h,rfl,_⟩;exact ⟨rfl,rfl⟩) (by
  rintro i s c hc ⟨h,rfl,ph⟩
  rw [Qa] at hc
  cases ep:(left rows h0)[i]? with
  | none=>rw [ep] at hc;cases hc
  | some p =>
   rw [ep] at hc
   simp only [Option.map_some,Option.some.injEq] at hc
   subst hc
   have hpl:p < rows.length:=Wi.mp (Qn.mp (Qf ep)).1
   obtain ⟨g1,g2,g3⟩:=hP i h ph
   obtain ⟨q1,q2⟩:=hs i p h ep ph
   have hf:free h (sK st)≤h.length:=by
    have:=Jy (fun y=>!(sK st).contains y) (hK h)
    simpa [free,hK] using this
   rcases Z9p (K:=K) (A:=A) rows 24 p h st hpl g1 g2 (by omega) (by omega) (by omega) with ⟨h',s',e,w⟩ | ⟨s',e,w,_⟩
   ·exact ⟨_,_,rfl,.inl (v_smb rows h0 h h' st s' p true _ e),h',rfl,q1 h' w⟩
   ·exact ⟨_,_,rfl,.inl (v_smb rows h0 h h st s' p false _ e),h,rfl,q2 _ w⟩)
 rw [Qs] at lp hp
 exact ⟨h',v_sme rows h0 h' st hz lp,hp⟩
theorem v_sm0(rows:List (List Int))(hz:rows.length≤20):∃ (h:Hd) (S:List Int),Mat rows rows.length h∧(Z1n rows S rows.length).length + S.length≤h.length ∧
  ZK K A [rwD rows,.nd (.dic true []) [],.nd (.dic true []) []]=.ok (.val (hD h)) [rwD rows,.nd (.dic true []) [],.nd (.dic true []) []]:=by
 have hl:left rows []=List.range rows.length:=by
  unfold left
  rw [List.filter_eq_self]
  intro p _
  simp [hV]
 obtain ⟨h,e,M,hlen,_,S,hS⟩:=Z4l (K:=K) (A:=A) rows [] [] (by omega) (by simp) (fun i h=>Mat rows i h∧h.length≤i∧i≤rows.length∧∃ S,(Z1n rows S i).length + S.length≤h.length)
  ⟨⟨Wq,Wq,by simp⟩,by simp,Nk _,[],by simp [Z1n]⟩
  (fun i h ⟨M,h1,h2,_⟩=>⟨M.kn,fun e he=>⟨by have:=(M.ed e he).1;omega,(M.ed e he).2⟩,by omega⟩)
  (fun i p h hp ⟨M,h1,h2,S,hS⟩=>by
   rw [hl] at hp
   obtain ⟨hi,rfl⟩:=Qc.mp hp
   rw [Gd] at hi
   rw [List.getElem_range]
   refine ⟨fun h' w=>?_,fun s' w=>?_⟩
   ·obtain ⟨z,z1,z2⟩:=w.ks
    have l2:h'.length=h.length + 1:=by
     have:=congrArg List.length z2
     simpa [hK] using this
    refine ⟨⟨?_,?_,fun e he=>⟨?_,w.ed e he⟩⟩,by omega,by omega,S,?_⟩
    ·rw [z2,Qk]
     refine ⟨M.kn,by simp,fun a ha b hb=>?_⟩
     rw [Qw.mp hb]
     rintro rfl
     exact z1 ha
    ·refine w.vs.nodup_iff.mpr (Ji.mpr ⟨fun z=>?_,M.vn⟩)
     obtain ⟨e,he,h3⟩:=Qi.mp z
     have:=(M.ed e he).1
     omega
    ·have:=w.vs.mem_iff.mp (Qi.mpr ⟨e,he,rfl⟩)
     rcases Qz.mp this with z | z
     ·omega
     ·obtain ⟨e2,he2,h3⟩:=Qi.mp z
      have:=(M.ed e2 he2).1
      omega
    ·have:=Z9E (rows:=rows) (S:=S) (k:=i)
     omega
   ·obtain ⟨S',hS'⟩:=Z7W M hS w.row fun x hx=>(w.cl x hx).resolve_left (by simp [sK])
    exact ⟨⟨M.kn,M.vn,fun e he=>⟨by have:=(M.ed e he).1;omega,(M.ed e he).2⟩⟩,by omega,by omega,S',hS'⟩)
 rw [hl,Gd] at M hS
 refine ⟨h,S,M,hS,?_⟩
 have e0:hD []=D.nd (.dic true []) []:=rfl
 have e1:sD []=D.nd (.dic true []) []:=rfl
 rw [e0,e1] at e
 exact e
noncomputable abbrev jD(a:List Int):D:=.nd (.dic true (a.map kG)) (a.map fun _=>bT)
theorem Z8z{a:List Int}{x:Int}(h:x∉a):idk (kG x) (a.map kG)=none:=by
 unfold idk
 rw [Nt]
 intro k hk
 obtain ⟨e,he,rfl⟩:=Qi.mp hk
 have:¬ e=x:=fun z=>h (z ▸ he)
 simpa using this
theorem Z6b:∀ {a:List Int} {x:Int},x∈a→∃ j,idk (kG x) (a.map kG)=some j∧j < a.length
 | [],x,h=>by cases h
 | e::l,x,h=>by
  unfold idk
  rw [Ql,Gs]
  by_cases hx:e=x
  ·subst hx
   exact ⟨0,by simp,by simp⟩
  ·obtain ⟨j,h1,h2⟩:=Z6b (a:=l) (x:=x) (by
    rcases Qz.mp h with z | z
    ·exact (hx z.symm).elim
    ·exact z)
   refine ⟨j + 1,?_,by simpa using h2⟩
   have:decide (kG e=kG x)=false:=by simpa using hx
   rw [this]
   unfold idk at h1
   rw [h1];rfl
theorem ZbS(a:List Int)(j:Nat):(a.map fun _=>bT).set j bT=a.map fun _=>bT:=by
 refine Ju fun i=>?_
 rw [Qm]
 by_cases e:j=i
 ·subst e
  by_cases hj:j < a.length
  ·simp [hj]
  ·simp [hj]
 ·rw [if_neg e]
noncomputable def Ow(y:DL):Prop:=y=.non∨∃ d,y=.own true d
theorem Ow.u{y:DL}(h:Ow y)(j:Nat):Zz j y=y:=by rcases h with rfl | ⟨d,rfl⟩ <;> rfl
theorem Ow.k{y:DL}(h:Ow y)(j:Nat)(p:List Nat)(f:Nat→Bool):Z1X j p f y=y:=by rcases h with rfl | ⟨d,rfl⟩ <;> rfl
theorem Zc0(one:Int)(first:Bool):∃ r:Int,0≤r∧r≤24∧ZW K A [aI one,aI 24,.at (.bl first)]=.ok (.val (aI r)) [aI one,aI 24,.at (.bl first)]:=by
 by_cases h1:one % 4=0
 ·refine ⟨one / 4 % 25,by omega,by omega,?_⟩
  unfold ZW Z1F
  walk_at "evs"
 ·have hm:min (4:Int) (24 + 1)=4:=by decide
  by_cases h2:one % 4=1
  ·cases first with
   | true =>
    refine ⟨24,by omega,by omega,?_⟩
    unfold ZW Z1F
    walk_at "evs"
   | false =>
    refine ⟨one / 4 % 4,by omega,by omega,?_⟩
    unfold ZW Z1F
    walk_at "evs"
  ·refine ⟨one / 4 % 4,by omega,by omega,?_⟩
   unfold ZW Z1F
   walk_at "evs"
noncomputable abbrev roS(figs:List Int)(many:Nat)(wide spread:Int)(row:List Int)(y5:DL):Sd:=[.bor 7 [],.own true (aI many),.own true (aI wide),.own true (aI spread),.own true (nD row),y5,.non,.own false (nD figs),.non,.non,.non]
theorem v_ro1(figs:List Int)(many:Nat)(wide spread:Int)(row:List Int)(k:Nat)(x:Int)(hk:figs[k]?=some x)(hw:0 < wide)(hb1:-18446744073709551616 < spread)(hb2:spread < 18446744073709551616)(hz:row.length < 16777216) :
  Z0s K A (roS figs many wide spread row (.own true (aI (0 + k))))=.nx (roS figs many wide spread (if x % wide * spread∈row then row else row++[x % wide * spread]) .non):=by
 have e1:(figs.map aI)[k]?=some (aI x):=by rw [Qa,hk];rfl
 have hl:=(Qc.mp hk).1
 have e2:ixN figs.length (0 + (k:Int))=some k:=by unfold ixN;rw [if_pos (by omega),if_pos (by omega)];congr 1;omega
 have ha:Z0Y (row.map aI)=some (row.map V.int):=Z3c _
 have hv:=Z56 (x % wide * spread) row
 have hw0:¬ wide=0:=by omega
 by_cases hm:x % wide * spread∈row
 ·rw [if_pos hm]
  rw [decide_eq_true hm] at hv
  unfold Z0s
  walk_at "evs"
 ·rw [if_neg hm]
  rw [decide_eq_false hm] at hv
  have e:nD (row++[x % wide * spread])=.nd (.lst true) (row.map aI++[aI (x % wide * spread)]):=by
   show D.nd (.lst true) ((row++[x % wide * spread]).map aI)=_
   rw [Qt];rfl
  unfold Z0s
  walk_at "evs"
  show _=SR.nx [.bor 7 [],.own true (aI many),.own true (aI wide),.own true (aI spread),.own true (nD (row++[x % wide * spread])),.non,.non,.own false (nD figs),.non,.non,.non]
  rw [e]
theorem v_ro2(figs:List Int)(many:Nat)(wide spread:Int)(row:List Int)(hm:many < 1000)
  (lp:Ze (itR 0 many) (Z5 5) (Z0s K A) (many + 1) 0 (roS figs many wide spread [] .non)=.nx (roS figs many wide spread row .non)) :
  ZP K A [nD figs,aI many,aI wide,aI spread]=.ok (.val (nD row)) [nD figs,aI many,aI wide,aI spread]:=by
 have b1:(many:Int) < 4611686018427387904:=by omega
 have b2:-4611686018427387904≤(many:Int):=by omega
 have lp':Ze (itR 0 many) (Z5 5) (Z0s K A) (many + 1) 0 [.bor 7 [],.own true (aI many),.own true (aI wide),.own true (aI spread),.own true (.nd (.lst true) []),.non,.non,.own false (nD figs),.non,.non,.non]=.nx [.bor 7 [],.own true (aI many),.own true (aI wide),.own true (aI spread),.own true (nD row),.non,.non,.own false (nD figs),.non,.non,.non]:=lp
 clear lp hm
 unfold ZP Z2F
 walk_at "evs"
theorem Z9U(figs:List Int)(many:Nat)(wide spread:Int)(hm:many≤figs.length)(h9:many < 1000)(hw:0 < wide)(hb1:-18446744073709551616 < spread)(hb2:spread < 18446744073709551616) :
  ∃ row:List Int,row.length≤many∧ZP K A [nD figs,aI many,aI wide,aI spread]=.ok (.val (nD row)) [nD figs,aI many,aI wide,aI spread]:=by
 obtain ⟨s',lp,row,hr,rfl⟩:=Z20 (lo:=0) (n:=many) (b:=Z5 5) (body:=Z0s K A) (s:=roS figs many wide spread [] .non)
  (fun j s=>∃ row:List Int,row.length≤j∧s=roS figs many wide spread row .non) ⟨[],Qu _,rfl⟩ (by
  rintro j s hj ⟨row,hr,rfl⟩
  have hx:figs[j]?=some figs[j]:=Qj (by omega)
  refine ⟨_,_,rfl,.inl (v_ro1 figs many wide spread row j _ hx hw hb1 hb2 (by omega)),_,?_,rfl⟩
  split
  ·omega
  ·rw [Ja,Jq];omega)
 exact ⟨row,hr,v_ro2 figs many wide spread row h9 lp⟩
noncomputable abbrev chS(many:Nat)(spread one:Int)(y3:DL):Sd:=[.own true (aI many),.own true (aI spread),.own true (aI one),y3,.non,.non,.non]
noncomputable abbrev chE(n1:Nat):EF:=(Z04 (.lst true) (Z0 (eNw hMul (Z0 (Z1 n1) (Z0 (Z1 1) Z2))) (Z0 (eNw hMul (Z0 (eNw Z0g (Z0 (Z1 n1) (Z0 (eC (.int (1))) Z2))) (Z0 (Z1 1) Z2))) Z2)))
theorem v_ch1(many:Nat)(spread one:Int)(hb1:-18446744073709551616 < spread)(hb2:spread < 18446744073709551616)(k:Int) :
  chE 7 (chS many spread one .non++[.own true (aI k)])=.ok (.val (nD [k * spread,(k + 1) * spread])) (chS many spread one .non++[.own true (aI k)]):=by
 walk_at "evs"
 rfl
theorem v_ch2(many m:Nat)(spread one:Int)(hm:(m:Int)=(many:Int) - 1)(h9:many < 1000)(hb1:-18446744073709551616 < spread)(hb2:spread < 18446744073709551616) :
  Zn (Z23 (eNw hSub (Z0 (Z1 0) (Z0 (eC (.int (1))) Z2))) (fun _=>bYes) (fun n1=>chE n1)) (Z5 3) (chS many spread one .non) =
   .nx (chS many spread one (.own true (rwD ((List.range m).map fun k:Nat=>[(0 + (k:Int)) * spread,((0 + (k:Int)) + 1) * spread])))):=by
 obtain ⟨acc,s',h1,y,hy,rfl,rfl⟩:=Z22 (it:=itR 0 m) (n:=7) (c:=bYes) (e:=chE 7) (N:=m)
  (P:=fun j acc s=>∃ y,(y=.non∨∃ x,y=.own true (aI x))∧acc=((List.range j).map fun k:Nat=>[(0 + (k:Int)) * spread,((0 + (k:Int)) + 1) * spread]).map nD∧s=chS many spread one .non++[y])
  (by
   rintro j acc s hj ⟨y,hy,rfl,rfl⟩
   have e1:=v_ch1 many spread one hb1 hb2 (0 + (j:Int))
   have e0:bYes (chS many spread one .non++[.own true (aI (0 + j))])=.ok true (chS many spread one .non++[.own true (aI (0 + j))]):=rfl
   have e2:itR 0 m j (chS many spread one .non++[y])=some (some (.val (aI (0 + (j:Int))))):=by unfold itR;rw [if_pos hj]
   have e3:Z5 7 (chS many spread one .non++[y]) (.val (aI (0 + (j:Int))))=some (chS many spread one .non++[.own true (aI (0 + (j:Int)))]):=by rcases hy with rfl | ⟨x,rfl⟩ <;> rfl
   refine ⟨_,_,e2,e3,.inl ⟨_,_,_,e0,e1,?_,_,.inr ⟨_,rfl⟩,?_,rfl⟩⟩
   ·rw [Qs,Qs,Gd,sz];omega
   ·rw [Nx,Qt,Qt];rfl)
  (by
   rintro acc s ⟨y,hy,rfl,rfl⟩
   unfold itR;rw [if_neg (Js _)])
  m 0 [] (chS many spread one .non++[.non]) (by omega) ⟨.non,.inl rfl,rfl,rfl⟩
 have b1:(m:Int) < 4611686018427387904:=by omega
 have b2:-4611686018427387904≤(m:Int):=by omega
 have uy:Zz 7 y=y:=by rcases hy with rfl | ⟨n,rfl⟩ <;> rfl
 have tn:((m:Int)).toNat=m:=by omega
 have hm':(many:Int) - 1=(m:Int):=hm.symm
 clear hy h9 hm
 generalize ((List.range m).map fun k:Nat=>[(0 + (k:Int)) * spread,((0 + (k:Int)) + 1) * spread])=L at *
 generalize chE=G at *
 simp only [chS,Jh,Je] at h1
 walk_at "evs"
noncomputable abbrev rvE(n1:Nat):EF:=(eNw hRev (Z0 (Z1 n1) (Z0 (eNw hNeg (Z0 (eC (.int (1))) Z2)) Z2)))
theorem v_rv1(many:Nat)(spread one:Int)(rows:List (List Int))(j:Nat)(row:List Int)(hj:rows[j]?=some row) :
  rvE 8 (chS many spread one (.own true (rwD rows))++[.bor 3 [],.bor 3 [j]])=.ok (.val (nD row.reverse)) (chS many spread one (.own true (rwD rows))++[.bor 3 [],.bor 3 [j]]):=by
 have e1:(rows.map nD)[j]?=some (nD row):=by rw [Qa,hj];rfl
 have im:=imI row
 have e2:nD row.reverse=.nd (.lst true) (row.map aI).reverse:=by
  show D.nd (.lst true) (row.reverse.map aI)=_
  rw [List.map_reverse]
 walk_at "evs"
theorem v_rv2(many:Nat)(spread one:Int)(rows:List (List Int))(hz:rows.length < 1000) :
  Zn (Z19 (Z1 3) (fun _=>bYes) (fun n1=>rvE n1)) (Z5 3) (chS many spread one (.own true (rwD rows)))=.nx (chS many spread one (.own true (rwD (rows.map Ge)))):=by
 have it:∀ i y,itP false 7 3 [] i (chS many spread one (.own true (rwD rows))++[.bor 3 [],y])=some (((rows.map nD)[i]?).map (mkV 3 ([]++[i]))):=fun i y=>rfl
 obtain ⟨acc,s',h1,y,hy,rfl,rfl⟩:=Z22 (it:=itP false 7 3 []) (n:=8) (c:=bYes) (e:=rvE 8) (N:=rows.length)
  (P:=fun j acc s=>∃ y,(y=.non∨∃ i,y=.bor 3 [i])∧acc=((rows.take j).map Ge).map nD∧s=chS many spread one (.own true (rwD rows))++[.bor 3 [],y])
  (by
   rintro j acc s hj ⟨y,hy,rfl,rfl⟩
   have hr:rows[j]?=some rows[j]:=Qj hj
   have e1:=v_rv1 many spread one rows j _ hr
   have e0:bYes (chS many spread one (.own true (rwD rows))++[.bor 3 [],.bor 3 [j]])=.ok true (chS many spread one (.own true (rwD rows))++[.bor 3 [],.bor 3 [j]]):=rfl
   have e2:itP false 7 3 [] j (chS many spread one (.own true (rwD rows))++[.bor 3 [],y])=some (some (.plc 3 [j])):=by rw [it,Qa,hr];rfl
   have e3:Z5 8 (chS many spread one (.own true (rwD rows))++[.bor 3 [],y]) (.plc 3 [j])=some (chS many spread one (.own true (rwD rows))++[.bor 3 [],.bor 3 [j]]):=by rcases hy with rfl | ⟨x,rfl⟩ <;> rfl
   refine ⟨_,_,e2,e3,.inl ⟨_,_,_,e0,e1,?_,_,.inr ⟨_,rfl⟩,?_,rfl⟩⟩
   ·rw [Qs,Qs,Jv,sz];omega
   ·rw [Wd,hr,Option.toList_some,Qt,Qt];rfl)
  (by
   rintro acc s ⟨y,hy,rfl,rfl⟩
   rw [it,Qa,Jo (Qu _)];rfl)
  rows.length 0 [] (chS many spread one (.own true (rwD rows))++[.bor 3 [],.non]) (by omega) ⟨.non,.inl rfl,rfl,rfl⟩
 rw [Wh] at h1
 have u1:Zz 8 y=y:=by rcases hy with rfl | ⟨n,rfl⟩ <;> rfl
 have u2:Zz 7 y=y:=by rcases hy with rfl | ⟨n,rfl⟩ <;> rfl
 clear hy hz
 generalize rows.map Ge=L at *
 generalize rvE=G at *
 simp only [chS,Jh,Je] at h1
 walk_at "evs"
theorem v_in1(many:Nat)(spread one:Int)(rows:List (List Int))(i:Int)(hi:one / 2 % many=i)(hm:0 < many)(h0:0≤i)(h9:i < 4611686018427387904)(hz:rows.length < 16777216) :
  Z2o K A (chS many spread one (.own true (rwD rows)))=.rt (.plc 3 []) (chS many spread one (.own true (rwD (rows.take i.toNat++[0]::rows.drop i.toNat)))):=by
 have e:rwD (rows.take i.toNat++[0]::rows.drop i.toNat)=.nd (.lst true) ((rows.map nD).take i.toNat++.nd (.lst true) [aI 0]::(rows.map nD).drop i.toNat):=by
  show D.nd (.lst true) ((rows.take i.toNat++[0]::rows.drop i.toNat).map nD)=_
  rw [Qt,Ql,Gh,List.map_drop];rfl
 have hm1:(0:Int) < (many:Int):=by omega
 clear hm
 unfold Z2o
 walk_at "evs"
theorem v_ch9(many:Nat)(spread one:Int)(rows:List (List Int))(B:SF)(eb:B (chS many spread one .non)=.rt (.plc 3 []) (chS many spread one (.own true (rwD rows)))) :
  ZL 4 [false,false,false] B [aI many,aI spread,aI one]=.ok (.val (rwD rows)) [aI many,aI spread,aI one]:=by
 walk_at "evs"
theorem v_chT(many:Nat)(spread one:Int)(rows:List (List Int))(hz:rows.length < 1000) :
  sIf (bV (eNw (hEq false) (Z0 (eNw hMod (Z0 (Z1 2) (Z0 (eC (.int (2))) Z2))) (Z0 (eC (.int (1))) Z2)))) (Zn (Z19 (Z1 3) (fun _=>bYes) (fun n1=>rvE n1)) (Z5 3)) ZV (chS many spread one (.own true (rwD rows))) =
   .nx (chS many spread one (.own true (rwD (if one % 2=1 then rows.map Ge else rows)))):=by
 have e:=v_rv2 many spread one rows hz
 clear hz
 generalize Zn (Z19 (Z1 3) (fun _=>bYes) (fun n1=>rvE n1)) (Z5 3)=G at *
 by_cases h:one % 2=1
 ·rw [if_pos h]
  generalize rows.map Ge=L at *
  simp only [chS] at e
  walk_at "evs"
 ·rw [if_neg h]
  walk_at "evs"
theorem ZaI(many:Nat)(spread one:Int)(hm:0 < many)(h9:many≤20)(hb1:-18446744073709551616 < spread)(hb2:spread < 18446744073709551616) :
  ∃ rows:List (List Int),rows.length=many∧(∀ r∈rows,r.length≤2)∧Z03 K A [aI many,aI spread,aI one]=.ok (.val (rwD rows)) [aI many,aI spread,aI one]:=by
 have h2:=v_ch2 many (many - 1) spread one (by omega) (by omega) hb1 hb2
 generalize hL:((List.range (many - 1)).map fun k:Nat=>[(0 + (k:Int)) * spread,((0 + (k:Int)) + 1) * spread])=L at h2
 have lL:L.length=many - 1:=by rw [← hL];simp
 have mL:∀ r∈L,r.length≤2:=by
  intro r hr
  rw [← hL] at hr
  obtain ⟨k,_,rfl⟩:=Qi.mp hr
  simp
 have h3:=v_chT many spread one L (by omega)
 generalize hM:(if one % 2=1 then L.map Ge else L)=M at h3
 have lM:M.length=many - 1:=by rw [← hM];split <;> simp [lL]
 have mM:∀ r∈M,r.length≤2:=by
  intro r hr
  rw [← hM] at hr
  split at hr
  ·obtain ⟨r',h',rfl⟩:=Qi.mp hr
   simpa using mL r' h'
  ·exact mL r hr
 have b0:0≤one / 2 % (many:Int):=Int.emod_nonneg _ (by omega)
 have b1:one / 2 % (many:Int) < many:=Int.emod_lt_of_pos _ (by omega)
 have h4:=v_in1 (K:=K) (A:=A) many spread one M (one / 2 % (many:Int)) rfl hm b0 (by omega) (by omega)
 refine ⟨M.take (one / 2 % (many:Int)).toNat++[0]::M.drop (one / 2 % (many:Int)).toNat,?_,fun r hr=>?_,?_⟩
 ·simp only [Ja,Jk,Jv,Qaa];omega
 ·rcases Qe.mp hr with z | z
  ·exact mM r (Wg z)
  ·rcases Qz.mp z with rfl | z
   ·simp
   ·exact mM r (Gi z)
 ·unfold Z03
  refine v_ch9 many spread one _ _ ?_
  unfold Z2O
  rw [Zr,h2]
  dsimp only
  unfold Z3b
  rw [Zr,h3]
  dsimp only
  exact h4
noncomputable abbrev drS(k:NK)(ns:List Int)(f:Int)(y4 y5 y6 y7 y8 y9 y10 y11:DL):Sd:=[.own true (scD k ns),.own true (aI f),.own true (aI 20),.own true (aI 24),y4,y5,y6,y7,y8,y9,y10,y11,.non,.non,.non,.non]
theorem ix40:ixN 4 0=some 0:=rfl
theorem ix41:ixN 4 1=some 1:=rfl
theorem ix42:ixN 4 2=some 2:=rfl
theorem ix43:ixN 4 3=some 3:=rfl
theorem ix30:ixN 3 0=some 0:=rfl
theorem ix31:ixN 3 1=some 1:=rfl
theorem ix32:ixN 3 2=some 2:=rfl
noncomputable abbrev mnE(K:Qd):EF:=(eCh (hIx K) (Z0 (Z04 (.lst true) (Z0 (eNw hMod (Z0 (eNw hDiv (Z0 (eCh (hIx K) (Z0 (Z1 4) (Z0 (eC (.int (0))) Z2))) (Z0 (eC (.int (3))) Z2))) (Z0 (eNw Z0g (Z0 (Z1 2) (Z0 (eC (.int (1))) Z2))) Z2))) (Z0 (Z1 2) (Z0 (eNw hSub (Z0 (Z1 2) (Z0 (eNw hMod (Z0 (eNw hDiv (Z0 (eCh (hIx K) (Z0 (Z1 4) (Z0 (eC (.int (0))) Z2))) (Z0 (eC (.int (3))) Z2))) (Z0 (eC (.int (3))) Z2))) Z2))) Z2)))) (Z0 (eNw hMod (Z0 (eCh (hIx K) (Z0 (Z1 4) (Z0 (eC (.int (0))) Z2))) (Z0 (eC (.int (3))) Z2))) Z2)))
theorem v_dr2(k:NK)(hk:Scr K k)(ns:List Int)(f f0 f1 f2 f3:Int):∃ m:Nat,m≤20∧Zn (mnE K) (Z5 5) (drS k ns f (.own true (nD [f0,f1,f2,f3])) .non .non .non .non .non .non .non) =
  .nx (drS k ns f (.own true (nD [f0,f1,f2,f3])) (.own true (aI m)) .non .non .non .non .non .non):=by
 have hki:=Z0l hk ns
 have x0:=ix40;have x1:=ix30;have x2:=ix31;have x3:=ix32
 have q:∃ m:Int,0≤m∧m≤20∧Zn (mnE K) (Z5 5) (drS k ns f (.own true (.nd (.lst true) [aI f0,aI f1,aI f2,aI f3])) .non .non .non .non .non .non .non) =
   .nx (drS k ns f (.own true (.nd (.lst true) [aI f0,aI f1,aI f2,aI f3])) (.own true (aI m)) .non .non .non .non .non .non):=by
  have h3:f0 % 3=0∨f0 % 3=1∨f0 % 3=2:=by omega
  rcases h3 with h3 | h3 | h3
  ·refine ⟨f0 / 3 % (20 + 1),by omega,by omega,?_⟩
   walk_at "evs"
  ·refine ⟨20,by omega,by omega,?_⟩
   walk_at "evs"
  ·refine ⟨20 - f0 / 3 % 3,by omega,by omega,?_⟩
   walk_at "evs"
 obtain ⟨m,h0,h8,e⟩:=q
 obtain ⟨n,rfl⟩:=Qaf h0
 exact ⟨n,by omega,e⟩
theorem ix60:ixN 6 0=some 0:=rfl
theorem ix61:ixN 6 1=some 1:=rfl
theorem ix62:ixN 6 2=some 2:=rfl
theorem ix63:ixN 6 3=some 3:=rfl
theorem ix64:ixN 6 4=some 4:=rfl
theorem ix65:ixN 6 5=some 5:=rfl
noncomputable abbrev wdE(K:Qd):EF:=(eCh (hIx K) (Z0 (Z04 (.lst true) (Z0 (eNw hMax (Z0 (eC (.int (1))) (Z0 (eNw hSub (Z0 (eNw Z0g (Z0 (Z1 5) (Z0 (eNw hMod (Z0 (eNw hDiv (Z0 (eCh (hIx K) (Z0 (Z1 4) (Z0 (eC (.int (1))) Z2))) (Z0 (eC (.int (3))) Z2))) (Z0 (eC (.int (5))) Z2))) Z2))) (Z0 (eC (.int (3))) Z2))) Z2))) (Z0 (eNw Z0g (Z0 (eC (.int (1))) (Z0 (eNw hDiv (Z0 (Z1 5) (Z0 (eC (.int (2))) Z2))) Z2))) (Z0 (eC (.int (30))) Z2)))) (Z0 (eCh (hIx K) (Z0 (Z04 (.lst true) (Z0 (eC (.int (0))) (Z0 (eC (.int (0))) (Z0 (eC (.int (0))) (Z0 (eC (.int (1))) (Z0 (eC (.int (1))) (Z0 (eC (.int (2))) Z2))))))) (Z0 (eNw hMod (Z0 (eCh (hIx K) (Z0 (Z1 4) (Z0 (eC (.int (1))) Z2))) (Z0 (eC (.int (6))) Z2))) Z2))) Z2)))
noncomputable abbrev spE(K:Qd):EF:=(eCh (hIx K) (Z0 (Z04 (.lst true) (Z0 (eC (.int (1))) (Z0 (eC (.int (1))) (Z0 (eC (.int (7))) (Z0 (eC (.int (1000003))) Z2))))) (Z0 (eNw hMod (Z0 (eCh (hIx K) (Z0 (Z1 4) (Z0 (eC (.int (2))) Z2))) (Z0 (eC (.int (4))) Z2))) Z2)))
theorem v_w3(k:NK)(ns:List Int)(f f0 f1 f2 f3 m:Int):(Z04 (.lst true) (Z0 (eNw hMax (Z0 (eC (.int (1))) (Z0 (eNw hSub (Z0 (eNw Z0g (Z0 (Z1 5) (Z0 (eNw hMod (Z0 (eNw hDiv (Z0 (eCh (hIx K) (Z0 (Z1 4) (Z0 (eC (.int (1))) Z2))) (Z0 (eC (.int (3))) Z2))) (Z0 (eC (.int (5))) Z2))) Z2))) (Z0 (eC (.int (3))) Z2))) Z2))) (Z0 (eNw Z0g (Z0 (eC (.int (1))) (Z0 (eNw hDiv (Z0 (Z1 5) (Z0 (eC (.int (2))) Z2))) Z2))) (Z0 (eC (.int (30))) Z2)))) (drS k ns f (.own true (.nd (.lst true) [aI f0,aI f1,aI f2,aI f3])) (.own true (aI m)) .non .non .non .non .non .non)=.ok (.val (.nd (.lst true) [aI (if m + f1 / 3 % 5 - 3 > 1 then m + f1 / 3 % 5 - 3 else 1),aI (1 + m / 2),aI 30])) (drS k ns f (.own true (.nd (.lst true) [aI f0,aI f1,aI f2,aI f3])) (.own true (aI m)) .non .non .non .non .non .non):=by
 have x0:=ix41
 walk_at "evs"
theorem v_w7(k:NK)(ns:List Int)(f f0 f1 f2 f3 m:Int):eNw hMod (Z0 (eCh (hIx K) (Z0 (Z1 4) (Z0 (eC (.int (1))) Z2))) (Z0 (eC (.int (6))) Z2)) (drS k ns f (.own true (.nd (.lst true) [aI f0,aI f1,aI f2,aI f3])) (.own true (aI m)) .non .non .non .non .non .non)=.ok (.val (aI (f1 % 6))) (drS k ns f (.own true (.nd (.lst true) [aI f0,aI f1,aI f2,aI f3])) (.own true (aI m)) .non .non .non .non .non .non):=by
 have x0:=ix41
 walk_at "evs"
theorem v_w8(G:EF)(S:Sd)(i c:Int)(j:Nat)(e:G S=.ok (.val (aI i)) S)(hi:ixN 6 i=some j)(hj:([aI 0,aI 0,aI 0,aI 1,aI 1,aI 2]:List D)[j]?=some (aI c)):eCh (hIx K) (Z0 (Z04 (.lst true) (Z0 (eC (.int (0))) (Z0 (eC (.int (0))) (Z0 (eC (.int (0))) (Z0 (eC (.int (1))) (Z0 (eC (.int (1))) (Z0 (eC (.int (2))) Z2))))))) (Z0 G Z2)) S=.ok (.val (aI c)) S:=by
 walk_at "evs"
theorem v_w6(k:NK)(ns:List Int)(f f0 f1 f2 f3 m:Int):∃ (c:Int) (j:Nat),ixN 3 c=some j∧j < 3∧(eCh (hIx K) (Z0 (Z04 (.lst true) (Z0 (eC (.int (0))) (Z0 (eC (.int (0))) (Z0 (eC (.int (0))) (Z0 (eC (.int (1))) (Z0 (eC (.int (1))) (Z0 (eC (.int (2))) Z2))))))) (Z0 (eNw hMod (Z0 (eCh (hIx K) (Z0 (Z1 4) (Z0 (eC (.int (1))) Z2))) (Z0 (eC (.int (6))) Z2))) Z2))) (drS k ns f (.own true (.nd (.lst true) [aI f0,aI f1,aI f2,aI f3])) (.own true (aI m)) .non .non .non .non .non .non)=.ok (.val (aI c)) (drS k ns f (.own true (.nd (.lst true) [aI f0,aI f1,aI f2,aI f3])) (.own true (aI m)) .non .non .non .non .non .non):=by
 have g:=v_w7 (K:=K) k ns f f0 f1 f2 f3 m
 have h3:f1 % 6=0∨f1 % 6=1∨f1 % 6=2∨f1 % 6=3∨f1 % 6=4∨f1 % 6=5:=by omega
 rcases h3 with h3 | h3 | h3 | h3 | h3 | h3 <;> rw [h3] at g
 ·exact ⟨0,0,ix30,by omega,v_w8 _ _ 0 0 0 g ix60 rfl⟩
 ·exact ⟨0,0,ix30,by omega,v_w8 _ _ 1 0 1 g ix61 rfl⟩
 ·exact ⟨0,0,ix30,by omega,v_w8 _ _ 2 0 2 g ix62 rfl⟩
 ·exact ⟨1,1,ix31,by omega,v_w8 _ _ 3 1 3 g ix63 rfl⟩
 ·exact ⟨1,1,ix31,by omega,v_w8 _ _ 4 1 4 g ix64 rfl⟩
 ·exact ⟨2,2,ix32,by omega,v_w8 _ _ 5 2 5 g ix65 rfl⟩
theorem v_w9(k:NK)(ns:List Int)(f f0 f1 f2 f3 m:Int)(G I:EF)(w0 w1 w2 w c:Int)(j:Nat)(hj:ixN 3 c=some j)(hw:([aI w0,aI w1,aI w2]:List D)[j]?=some (aI w))(e1:G (drS k ns f (.own true (.nd (.lst true) [aI f0,aI f1,aI f2,aI f3])) (.own true (aI m)) .non .non .non .non .non .non)=.ok (.val (.nd (.lst true) [aI w0,aI w1,aI w2])) (drS k ns f (.own true (.nd (.lst true) [aI f0,aI f1,aI f2,aI f3])) (.own true (aI m)) .non .non .non .non .non .non))(e2:I (drS k ns f (.own true (.nd (.lst true) [aI f0,aI f1,aI f2,aI f3])) (.own true (aI m)) .non .non .non .non .non .non)=.ok (.val (aI c)) (drS k ns f (.own true (.nd (.lst true) [aI f0,aI f1,aI f2,aI f3])) (.own true (aI m)) .non .non .non .non .non .non)) :
  Zn (eCh (hIx K) (Z0 G (Z0 I Z2))) (Z5 6) (drS k ns f (.own true (.nd (.lst true) [aI f0,aI f1,aI f2,aI f3])) (.own true (aI m)) .non .non .non .non .non .non)=.nx (drS k ns f (.own true (.nd (.lst true) [aI f0,aI f1,aI f2,aI f3])) (.own true (aI m)) (.own true (aI w)) .non .non .non .non .non):=by
 walk_at "evs"
theorem v_dr3(k:NK)(hk:Scr K k)(ns:List Int)(f f0 f1 f2 f3 m:Int)(hm:0≤m):∃ w:Int,0 < w∧Zn (wdE K) (Z5 6) (drS k ns f (.own true (.nd (.lst true) [aI f0,aI f1,aI f2,aI f3])) (.own true (aI m)) .non .non .non .non .non .non) =
  .nx (drS k ns f (.own true (.nd (.lst true) [aI f0,aI f1,aI f2,aI f3])) (.own true (aI m)) (.own true (aI w)) .non .non .non .non .non):=by
 have e1:=v_w3 (K:=K) k ns f f0 f1 f2 f3 m
 obtain ⟨c,j,hj,h3,e2⟩:=v_w6 (K:=K) k ns f f0 f1 f2 f3 m
 have p1:0 < (if m + f1 / 3 % 5 - 3 > 1 then m + f1 / 3 % 5 - 3 else 1):=by split <;> omega
 have p2:0 < 1 + m / 2:=by omega
 have hw:∃ w:Int,0 < w∧([aI (if m + f1 / 3 % 5 - 3 > 1 then m + f1 / 3 % 5 - 3 else 1),aI (1 + m / 2),aI 30]:List D)[j]?=some (aI w):=by
  have:j=0∨j=1∨j=2:=by omega
  rcases this with rfl | rfl | rfl
  ·exact ⟨_,p1,rfl⟩
  ·exact ⟨_,p2,rfl⟩
  ·exact ⟨30,by omega,rfl⟩
 obtain ⟨w,w1,w2⟩:=hw
 exact ⟨w,w1,v_w9 k ns f f0 f1 f2 f3 m _ _ _ _ _ w c j hj w2 e1 e2⟩
theorem v_dr4(k:NK)(hk:Scr K k)(ns:List Int)(f f0 f1 f2 f3 m w:Int):∃ sp:Int,0 < sp∧sp≤1000003∧Zn (spE K) (Z5 7) (drS k ns f (.own true (.nd (.lst true) [aI f0,aI f1,aI f2,aI f3])) (.own true (aI m)) (.own true (aI w)) .non .non .non .non .non) =
  .nx (drS k ns f (.own true (.nd (.lst true) [aI f0,aI f1,aI f2,aI f3])) (.own true (aI m)) (.own true (aI w)) (.own true (aI sp)) .non .non .non .non):=by
 have hki:=Z0l hk ns
 have x0:=ix40;have x1:=ix41;have x2:=ix42;have x3:=ix43
 have h3:f2 % 4=0∨f2 % 4=1∨f2 % 4=2∨f2 % 4=3:=by omega
 rcases h3 with h3 | h3 | h3 | h3
 ·refine ⟨1,by omega,by omega,?_⟩;walk_at "evs"
 ·refine ⟨1,by omega,by omega,?_⟩;walk_at "evs"
 ·refine ⟨7,by omega,by omega,?_⟩;walk_at "evs"
 ·refine ⟨1000003,by omega,by omega,?_⟩;walk_at "evs"
theorem v_tn1(k:NK)(hk:Scr K k)(ns:List Int)(f m w sp:Int)(g gs:List Int)(made:List (List Int))(j:Int)
  (e:Zv K A [scD k ns,aI (f + 1 + j),aI 840,aI 25]=.ok (.val (.nd (.lst true) (gs.map aI))) [scD k ns,aI (f + 1 + j),aI 840,aI 25]) :
  Zn (ZF [false,false,false,false] (Zv K A) (Z0 (Z1 0) (Z0 (eNw Z0g (Z0 (eNw Z0g (Z0 (Z1 1) (Z0 (eC (.int (1))) Z2))) (Z0 (Z1 9) Z2))) (Z0 (eC (.int (840))) (Z0 (eNw Z0g (Z0 (Z1 3) (Z0 (eC (.int (1))) Z2))) Z2))))) (Z5 4)
   (drS k ns f (.own true (nD g)) (.own true (aI m)) (.own true (aI w)) (.own true (aI sp)) (.own true (rwD made)) (.own true (aI j)) .non .non) =
   .nx (drS k ns f (.own true (nD gs)) (.own true (aI m)) (.own true (aI w)) (.own true (aI sp)) (.own true (rwD made)) (.own true (aI j)) .non .non):=by
 have hki:=Z0l hk ns
 generalize Zv K A=F at *
 walk_at "evs"
theorem v_tn2(k:NK)(hk:Scr K k)(ns:List Int)(f m w sp:Int)(gs:List Int)(made:List (List Int))(j x r:Int)(hx:gs[24]?=some x)(b:Bool)(hb:decide (j < m / 2)=b)
  (e:ZW K A [aI x,aI 24,.at (.bl b)]=.ok (.val (aI r)) [aI x,aI 24,.at (.bl b)]) :
  Zn (ZF [false,false,false] (ZW K A) (Z0 (eCh (hIx K) (Z0 (Z1 4) (Z0 (Z1 3) Z2))) (Z0 (Z1 3) (Z0 (eNw hLt (Z0 (Z1 9) (Z0 (eNw hDiv (Z0 (Z1 5) (Z0 (eC (.int (2))) Z2))) Z2))) Z2)))) (Z5 10)
   (drS k ns f (.own true (nD gs)) (.own true (aI m)) (.own true (aI w)) (.own true (aI sp)) (.own true (rwD made)) (.own true (aI j)) .non .non) =
   .nx (drS k ns f (.own true (nD gs)) (.own true (aI m)) (.own true (aI w)) (.own true (aI sp)) (.own true (rwD made)) (.own true (aI j)) (.own true (aI r)) .non):=by
 have hki:=Z0l hk ns
 have hl:=(Qc.mp hx).1
 have e1:(gs.map aI)[24]?=some (aI x):=by rw [Qa,hx];rfl
 have e2:ixN gs.length 24=some 24:=by unfold ixN;rw [if_pos (by omega),if_pos (by omega)];rfl
 generalize ZW K A=F at *
 clear hl hx
 walk_at "evs"
theorem v_tn3(k:NK)(hk:Scr K k)(ns:List Int)(f m w sp:Int)(gs row:List Int)(made:List (List Int))(j r:Int)
  (e:ZP K A [nD gs,aI r,aI w,aI sp]=.ok (.val (nD row)) [nD gs,aI r,aI w,aI sp]) :
  Zn (ZF [false,false,false,false] (ZP K A) (Z0 (Z1 4) (Z0 (Z1 10) (Z0 (Z1 6) (Z0 (Z1 7) Z2))))) (Z5 11)
   (drS k ns f (.own true (nD gs)) (.own true (aI m)) (.own true (aI w)) (.own true (aI sp)) (.own true (rwD made)) (.own true (aI j)) (.own true (aI r)) .non) =
   .nx (drS k ns f (.own true (nD gs)) (.own true (aI m)) (.own true (aI w)) (.own true (aI sp)) (.own true (rwD made)) (.own true (aI j)) (.own true (aI r)) (.own true (nD row))):=by
 have hki:=Z0l hk ns
 generalize ZP K A=F at *
 walk_at "evs"
theorem v_tn5(k:NK)(hk:Scr K k)(ns:List Int)(f m w sp:Int)(gs row:List Int)(made:List (List Int))(j r:Int)(hz:made.length < 16777216) :
  Z1s K A (drS k ns f (.own true (nD gs)) (.own true (aI m)) (.own true (aI w)) (.own true (aI sp)) (.own true (rwD made)) (.own true (aI j)) (.own true (aI r)) (.own true (nD row))) =
   .nx (drS k ns f (.own true (nD gs)) (.own true (aI m)) (.own true (aI w)) (.own true (aI sp)) (.own true (rwD (made++[row]))) (.own true (aI j)) (.own true (aI r)) (.bor 8 [made.length])):=by
 have e:rwD (made++[row])=.nd (.lst true) (made.map nD++[nD row]):=by
  show D.nd (.lst true) ((made++[row]).map nD)=_
  rw [Qt];rfl
 unfold Z1s
 walk_at "evs"
noncomputable abbrev lkS(K:Qd):SF:=(sIf (bAnd (bV (eNw hGt (Z0 (Z1 9) (Z0 (eC (.int (0))) Z2)))) (bV (eNw (hEq false) (Z0 (eNw hMod (Z0 (eNw hDiv (Z0 (eCh (hIx K) (Z0 (Z1 4) (Z0 (Z1 3) Z2))) (Z0 (eC (.int (28))) Z2))) (Z0 (eC (.int (6))) Z2))) (Z0 (eC (.int (1))) Z2))))) (Zn (eNw Z1W (Z0 (eCh (hIx K) (Z0 (Z1 8) (Z0 (eNw hSub (Z0 (Z1 9) (Z0 (eC (.int (1))) Z2))) Z2))) Z2)) (Z5 11)) ZV)
theorem v_tn4(k:NK)(hk:Scr K k)(ns:List Int)(f m w sp:Int)(gs row:List Int)(made:List (List Int))(r x:Int)(hx:gs[24]?=some x)(hr:row.length≤24)(hm:∀ q∈made,q.length≤24) :
  ∃ row':List Int,row'.length≤24∧lkS K (drS k ns f (.own true (nD gs)) (.own true (aI m)) (.own true (aI w)) (.own true (aI sp)) (.own true (rwD made)) (.own true (aI made.length)) (.own true (aI r)) (.own true (nD row))) =
   .nx (drS k ns f (.own true (nD gs)) (.own true (aI m)) (.own true (aI w)) (.own true (aI sp)) (.own true (rwD made)) (.own true (aI made.length)) (.own true (aI r)) (.own true (nD row'))):=by
 have hki:=Z0l hk ns
 have hl:=(Qc.mp hx).1
 have e1:(gs.map aI)[24]?=some (aI x):=by rw [Qa,hx];rfl
 have e2:ixN gs.length 24=some 24:=by unfold ixN;rw [if_pos (by omega),if_pos (by omega)];rfl
 by_cases h1:(made.length:Int) > 0
 ·by_cases h2:x / 28 % 6=1
  ·have hj:made.length - 1 < made.length:=by omega
   have e3:(made.map nD)[made.length - 1]?=some (nD made[made.length - 1]):=by rw [Qa,Qj hj];rfl
   have e4:ixN made.length ((made.length:Int) - 1)=some (made.length - 1):=by unfold ixN;rw [if_pos (by omega),if_pos (by omega)];congr 1;omega
   refine ⟨made[made.length - 1],hm _ (List.getElem_mem hj),?_⟩
   have im:=imI made[made.length - 1]
   generalize made[made.length - 1]=rw' at *
   clear hl hx hj hr hm
   walk_at "evs"
  ·refine ⟨row,hr,?_⟩
   clear hl hx hr hm
   walk_at "evs"
 ·refine ⟨row,hr,?_⟩
  clear hl hx hr hm
  walk_at "evs"
noncomputable abbrev dqS(k:NK)(ns:List Int)(f:Int)(g:List Int)(m w sp:Int)(made:List (List Int))(y9 y10 y11:DL):Sd:=drS k ns f (.own true (nD g)) (.own true (aI m)) (.own true (aI w)) (.own true (aI sp)) (.own true (rwD made)) y9 y10 y11
theorem v_tnK(k:NK)(ns:List Int)(f m w sp:Int)(gs:List Int)(made:List (List Int))(j r:Int)(n:Nat)(B:SF)(s:Sd)(e:B s=.nx (dqS k ns f gs m w sp made (.own true (aI j)) (.own true (aI r)) (.bor 8 [n]))) :
  Z15 [9,10,11] B s=.nx (dqS k ns f gs m w sp made .non .non .non):=by
 rw [Z4o,e]
 rfl
theorem v_tn(k:NK)(hk:Scr K k)(ns:List Int)(f m w sp:Int)(g:List Int)(made:List (List Int))(h0:0≤f)(hw:0 < w)(hb1:-18446744073709551616 < sp)(hb2:sp < 18446744073709551616)(hl:made.length < 22)(hm:∀ q∈made,q.length≤24) :
  ∃ gs row,row.length≤24∧Z08 K A (dqS k ns f g m w sp made (.own true (aI made.length)) .non .non)=.nx (dqS k ns f gs m w sp (made++[row]) .non .non .non):=by
 obtain ⟨gs,g1,g2,ge⟩:=Z5t (A:=A) k hk ns (f + 1 + made.length) 840 25 (by omega) (by omega) (by omega) (by omega)
 have hx:gs[24]?=some (gs[24]'(by omega)):=Qj (by omega)
 obtain ⟨r,r0,r6,re⟩:=Zc0 (K:=K) (A:=A) (gs[24]'(by omega)) (decide ((made.length:Int) < m / 2))
 obtain ⟨rn,rfl⟩:=Qaf r0
 obtain ⟨row,hr,he⟩:=Z9U (K:=K) (A:=A) gs rn w sp (by omega) (by omega) hw hb1 hb2
 obtain ⟨row',hr',he'⟩:=v_tn4 (K:=K) k hk ns f m w sp gs row made rn _ hx (by omega) hm
 have t1:=v_tn1 (A:=A) k hk ns f m w sp g gs made made.length ge
 have t2:=v_tn2 (A:=A) k hk ns f m w sp gs made made.length _ rn hx _ rfl re
 have t3:=v_tn3 (A:=A) k hk ns f m w sp gs row made made.length rn he
 have t5:=v_tn5 (K:=K) (A:=A) k hk ns f m w sp gs row' made made.length rn (by omega)
 refine ⟨gs,row',hr',?_⟩
 unfold Z08
 refine v_tnK k ns f m w sp gs (made++[row']) made.length rn made.length _ _ ?_
 rw [Zr,t1]
 dsimp only
 unfold Z2a
 rw [Zr,t2]
 dsimp only
 unfold Z2b
 rw [Zr,t3]
 dsimp only
 unfold Z2c
 unfold lkS at he'
 rw [Zr,he']
 dsimp only
 exact t5
theorem Zc1(k:NK)(hk:Scr K k)(ns:List Int)(f w sp:Int)(g:List Int)(m:Nat)(h8:m≤20)(h0:0≤f)(hw:0 < w)(hb1:-18446744073709551616 < sp)(hb2:sp < 18446744073709551616) :
  ∃ gs made,made.length=m∧(∀ q∈made,q.length≤24)∧Ze (itR 0 m) (Z5 9) (Z08 K A) (m + 1) 0 (dqS k ns f g m w sp [] .non .non .non)=.nx (dqS k ns f gs m w sp made .non .non .non):=by
 obtain ⟨s',lp,gs,made,h1,h2,rfl⟩:=Z20 (lo:=0) (n:=m) (b:=Z5 9) (body:=Z08 K A) (s:=dqS k ns f g m w sp [] .non .non .non)
  (fun j s=>∃ gs made,made.length=j∧(∀ q∈made,q.length≤24)∧s=dqS k ns f gs m w sp made .non .non .non) ⟨g,[],rfl,by simp,rfl⟩ (by
  rintro j s hj ⟨gs,made,h1,h2,rfl⟩
  have ej:(0 + (j:Int))=(made.length:Int):=by omega
  obtain ⟨gs',row,hr,e⟩:=v_tn (A:=A) k hk ns f m w sp gs made h0 hw hb1 hb2 (by omega) h2
  rw [ej]
  refine ⟨dqS k ns f gs m w sp made (.own true (aI made.length)) .non .non,_,rfl,.inl e,gs',made++[row],by simp [h1],fun q hq=>?_,rfl⟩
  rcases Qe.mp hq with z | z
  ·exact h2 q z
  ·rw [Qw.mp z];exact hr)
 exact ⟨gs,made,h1,h2,lp⟩
noncomputable abbrev chT(K:Qd)(A:Adr):SF:=(sIf (bAnd (bV (eNw (hEq false) (Z0 (eNw hMod (Z0 (eCh (hIx K) (Z0 (Z1 4) (Z0 (eC (.int (3))) Z2))) (Z0 (eC (.int (6))) Z2))) (Z0 (eC (.int (1))) Z2)))) (bV (eNw hGt (Z0 (Z1 5) (Z0 (eC (.int (0))) Z2))))) (Z00 (ZF [false,false,false] (Z03 K A) (Z0 (Z1 5) (Z0 (Z1 7) (Z0 (eNw hDiv (Z0 (eCh (hIx K) (Z0 (Z1 4) (Z0 (eC (.int (3))) Z2))) (Z0 (eC (.int (6))) Z2))) Z2))))) ZV)
noncomputable abbrev fg0(K:Qd)(A:Adr):SF:=(Zn (ZF [false,false,false,false] (Zv K A) (Z0 (Z1 0) (Z0 (Z1 1) (Z0 (eC (.int (840))) (Z0 (eC (.int (4))) Z2))))) (Z5 4))
theorem v_dq1(k:NK)(hk:Scr K k)(ns:List Int)(f:Int)(gs:List Int)(e:Zv K A [scD k ns,aI f,aI 840,aI 4]=.ok (.val (.nd (.lst true) (gs.map aI))) [scD k ns,aI f,aI 840,aI 4]) :
  fg0 K A (drS k ns f .non .non .non .non .non .non .non .non)=.nx (drS k ns f (.own true (nD gs)) .non .non .non .non .non .non .non):=by
 have hki:=Z0l hk ns
 unfold fg0
 generalize Zv K A=F at *
 walk_at "evs"
theorem ZbY(k:NK)(hk:Scr K k)(ns:List Int)(f f0 f1 f2 f3 w sp:Int)(m:Nat)(rows:List (List Int))(h:f3 % 6=1)(hm:(m:Int) > 0)(e:Z03 K A [aI m,aI sp,aI (f3 / 6)]=.ok (.val (rwD rows)) [aI m,aI sp,aI (f3 / 6)]) :
  chT K A (drS k ns f (.own true (.nd (.lst true) [aI f0,aI f1,aI f2,aI f3])) (.own true (aI m)) (.own true (aI w)) (.own true (aI sp)) .non .non .non .non) =
   .rt (.val (rwD rows)) (drS k ns f (.own true (.nd (.lst true) [aI f0,aI f1,aI f2,aI f3])) (.own true (aI m)) (.own true (aI w)) (.own true (aI sp)) .non .non .non .non):=by
 have hki:=Z0l hk ns
 have x3:=ix43
 unfold chT
 generalize Z03 K A=F at *
 walk_at "evs"
theorem ZbZ(k:NK)(hk:Scr K k)(ns:List Int)(f f0 f1 f2 f3 w sp:Int)(m:Nat)(h:¬ (f3 % 6=1∧(m:Int) > 0)) :
  chT K A (drS k ns f (.own true (.nd (.lst true) [aI f0,aI f1,aI f2,aI f3])) (.own true (aI m)) (.own true (aI w)) (.own true (aI sp)) .non .non .non .non) =
   .nx (drS k ns f (.own true (.nd (.lst true) [aI f0,aI f1,aI f2,aI f3])) (.own true (aI m)) (.own true (aI w)) (.own true (aI sp)) .non .non .non .non):=by
 have hki:=Z0l hk ns
 have x3:=ix43
 unfold chT
 generalize Z03 K A=F at *
 by_cases h1:f3 % 6=1
 ·have h2:¬ (m:Int) > 0:=fun z=>h ⟨h1,z⟩
  clear h
  walk_at "evs"
 ·clear h
  walk_at "evs"
theorem v_dq7(k:NK)(hk:Scr K k)(ns:List Int)(f f0 f1 f2 f3 w sp:Int)(m:Nat)(h8:m≤20)(gs:List Int)(made:List (List Int))
  (lp:Ze (itR 0 m) (Z5 9) (Z08 K A) (m + 1) 0 (dqS k ns f [f0,f1,f2,f3] m w sp [] .non .non .non)=.nx (dqS k ns f gs m w sp made .non .non .non)) :
  Z1E K A (drS k ns f (.own true (.nd (.lst true) [aI f0,aI f1,aI f2,aI f3])) (.own true (aI m)) (.own true (aI w)) (.own true (aI sp)) .non .non .non .non)=.rt (.plc 8 []) (dqS k ns f gs m w sp made .non .non .non):=by
 have hki:=Z0l hk ns
 have b1:(m:Int) < 4611686018427387904:=by omega
 have b2:-4611686018427387904≤(m:Int):=by omega
 have lp':Ze (itR 0 m) (Z5 9) (Z08 K A) (m + 1) 0 [.own true (scD k ns),.own true (aI f),.own true (aI 20),.own true (aI 24),.own true (.nd (.lst true) [aI f0,aI f1,aI f2,aI f3]),.own true (aI m),.own true (aI w),.own true (aI sp),.own true (.nd (.lst true) []),.non,.non,.non,.non,.non,.non,.non] =
   .nx [.own true (scD k ns),.own true (aI f),.own true (aI 20),.own true (aI 24),.own true (nD gs),.own true (aI m),.own true (aI w),.own true (aI sp),.own true (rwD made),.non,.non,.non,.non,.non,.non,.non]:=lp
 clear lp h8
 unfold Z1E
 walk_at "evs"
theorem v_drA(k:NK)(hk:Scr K k)(ns:List Int)(f:Int)(rows:List (List Int))(y4 y5 y6 y7:DL)(B:SF)(e:B (drS k ns f .non .non .non .non .non .non .non .non)=.rt (.val (rwD rows)) (drS k ns f y4 y5 y6 y7 .non .non .non .non)) :
  ZL 12 [false,false,false,false] B [scD k ns,aI f,aI 20,aI 24]=.ok (.val (rwD rows)) [scD k ns,aI f,aI 20,aI 24]:=by
 have hki:=Z0l hk ns
 walk_at "evs"
theorem v_drB(k:NK)(hk:Scr K k)(ns:List Int)(f:Int)(rows:List (List Int))(y4 y5 y6 y7:DL)(B:SF)(e:B (drS k ns f .non .non .non .non .non .non .non .non)=.rt (.plc 8 []) (drS k ns f y4 y5 y6 y7 (.own true (rwD rows)) .non .non .non)) :
  ZL 12 [false,false,false,false] B [scD k ns,aI f,aI 20,aI 24]=.ok (.val (rwD rows)) [scD k ns,aI f,aI 20,aI 24]:=by
 have hki:=Z0l hk ns
 walk_at "evs"
theorem ZaJ(k:NK)(hk:Scr K k)(ns:List Int)(f:Int)(h0:0≤f):∃ rows:List (List Int),rows.length≤20∧(∀ r∈rows,r.length≤24) ∧
  Zy K A [scD k ns,aI f,aI 20,aI 24]=.ok (.val (rwD rows)) [scD k ns,aI f,aI 20,aI 24]:=by
 obtain ⟨gs,g1,g2,ge⟩:=Z5t (A:=A) k hk ns f 840 4 h0 (by omega) (by omega) (by omega)
 obtain ⟨f0,f1,f2,f3,rfl⟩:=len4 g1
 have t1:=v_dq1 (A:=A) k hk ns f _ ge
 obtain ⟨m,m8,t2⟩:=v_dr2 (K:=K) k hk ns f f0 f1 f2 f3
 obtain ⟨w,hw,t3⟩:=v_dr3 (K:=K) k hk ns f f0 f1 f2 f3 m (by omega)
 obtain ⟨sp,s0,s1,t4⟩:=v_dr4 (K:=K) k hk ns f f0 f1 f2 f3 m w
 unfold fg0 at t1
 unfold mnE at t2
 unfold wdE at t3
 unfold spE at t4
 by_cases h:f3 % 6=1∧(m:Int) > 0
 ·obtain ⟨rows,r1,r2,re⟩:=ZaI (K:=K) (A:=A) m sp (f3 / 6) (by omega) m8 (by omega) (by omega)
  have t5:=ZbY (A:=A) k hk ns f f0 f1 f2 f3 w sp m rows h.1 h.2 re
  unfold chT at t5
  refine ⟨rows,by omega,fun r hr=>by have:=r2 r hr;omega,?_⟩
  unfold Zy
  refine v_drA k hk ns f rows _ _ _ _ _ (?_:_=SR.rt (.val (rwD rows)) (drS k ns f (.own true (.nd (.lst true) [aI f0,aI f1,aI f2,aI f3])) (.own true (aI m)) (.own true (aI w)) (.own true (aI sp)) .non .non .non .non))
  unfold Z1i
  rw [Zr,t1]
  dsimp only
  unfold Z1A
  rw [Zr,t2]
  dsimp only
  unfold Z1B
  refine (Zr.trans ?_)
  rw [show drS k ns f (.own true (nD [f0,f1,f2,f3])) (.own true (aI m)) .non .non .non .non .non .non=drS k ns f (.own true (.nd (.lst true) [aI f0,aI f1,aI f2,aI f3])) (.own true (aI m)) .non .non .non .non .non .non from rfl,t3]
  dsimp only
  unfold Z1C
  rw [Zr,t4]
  dsimp only
  unfold Z1D
  rw [Zr,t5]
 ·obtain ⟨gs,made,l1,l2,lp⟩:=Zc1 (A:=A) k hk ns f w sp [f0,f1,f2,f3] m m8 h0 hw (by omega) (by omega)
  have t5:=ZbZ (A:=A) k hk ns f f0 f1 f2 f3 w sp m h
  unfold chT at t5
  have t7:=v_dq7 (A:=A) k hk ns f f0 f1 f2 f3 w sp m m8 gs made lp
  refine ⟨made,by omega,l2,?_⟩
  unfold Zy
  refine v_drB k hk ns f made _ _ _ _ _ (?_:_=SR.rt (.plc 8 []) (drS k ns f (.own true (nD gs)) (.own true (aI m)) (.own true (aI w)) (.own true (aI sp)) (.own true (rwD made)) .non .non .non))
  unfold Z1i
  rw [Zr,t1]
  dsimp only
  unfold Z1A
  rw [Zr,t2]
  dsimp only
  unfold Z1B
  refine (Zr.trans ?_)
  rw [show drS k ns f (.own true (nD [f0,f1,f2,f3])) (.own true (aI m)) .non .non .non .non .non .non=drS k ns f (.own true (.nd (.lst true) [aI f0,aI f1,aI f2,aI f3])) (.own true (aI m)) .non .non .non .non .non .non from rfl,t3]
  dsimp only
  unfold Z1C
  rw [Zr,t4]
  dsimp only
  unfold Z1D
  rw [Zr,t5]
  dsimp only
  exact t7
noncomputable def sv(h:Hd):List (Int×V):=h.map fun e=>(e.1,V.int e.2)
theorem hD_sv(h:Hd):sD (sv h)=hD h:=by
 show D.nd (.dic true ((sv h).map fun e=>kG e.1)) ((sv h).map fun e=>D.at e.2)=_
 unfold sv
 rw [Jp,Jp];rfl
theorem sK_sv(h:Hd):sK (sv h)=hK h:=by unfold sK sv hK;rw [Jp];rfl
noncomputable abbrev hoS(rows:List (List Int))(p:Nat)(x:Int)(st:Hd)(y5 y6 y7 y8 t12:DL):Sd:=[.bor 9 [],.own true (aI p),.own true (aI x),.bor 12 [],.bor 13 [],y5,y6,y7,y8,.own false (rwD rows),.non,.non,t12,.own false (hD st)]
noncomputable abbrev hoC(p:Nat)(x:Int)(e:Int×Nat):Bool:=decide (e.1≠x) && decide (e.2≠p)
theorem v_ho1(rows:List (List Int))(p:Nat)(x:Int)(st s:Hd)(o:Int)(q:Nat)(hn:o≠x→idk (kG o) (kH s)=none)(hz:s.length < 16777216) :
  Z0G K A (hoS rows p x st (.own true (hD s)) (.own true (aI o)) (.own true (aI q)) .non (.own true hole)++[.bor 12 []]) =
   .nx (hoS rows p x st (.own true (hD (if hoC p x (o,q) then s++[(o,q)] else s))) .non .non .non (.own true hole)++[.bor 12 []]):=by
 by_cases h1:o=x
 ·have:hoC p x (o,q)=false:=by simp [h1]
  rw [this,if_neg Qp]
  unfold Z0G
  walk_at "evs"
 ·by_cases h2:(q:Int)=(p:Int)
  ·have:hoC p x (o,q)=false:=by simp;omega
   rw [this,if_neg Qp]
   unfold Z0G
   walk_at "evs"
  ·have h3:¬ q=p:=by omega
   have:hoC p x (o,q)=true:=by simp [h1,h3]
   rw [this,if_pos rfl]
   have hi:=hn h1
   clear hn
   unfold Z0G
   walk_at "evs"
   show _=SR.nx (hoS rows p x st (.own true (hD (s++[(o,q)]))) .non .non .non (.own true hole)++[.bor 12 []])
   rw [Z47]
   rfl
noncomputable def ZQ(p:Nat)(x:Int)(h:Hd):Hd:=(x,p)::h.filter (hoC p x)
theorem v_ho2(rows:List (List Int))(p:Nat)(x:Int)(st h:Hd)(hn:(hK h).Nodup)(hz:h.length < 10000) :
  Ze (itC (kH h) (h.map fun e=>aI e.2)) (tgT (tgC (Z5 6) (tgC (Z5 7) tgN))) (Z0G K A) (h.length + 1) 0 (hoS rows p x st (.own true (hD [(x,p)])) .non .non .non (.own true hole)++[.bor 12 []]) =
   .nx (hoS rows p x st (.own true (hD (ZQ p x h))) .non .non .non (.own true hole)++[.bor 12 []]):=by
 obtain ⟨s',lp,rfl⟩:=Z6j (ks:=kH h) (l:=h.map fun e=>aI e.2) (b:=tgT (tgC (Z5 6) (tgC (Z5 7) tgN))) (body:=Z0G K A) (s:=hoS rows p x st (.own true (hD [(x,p)])) .non .non .non (.own true hole)++[.bor 12 []]) (by simp)
  (fun i s=>s=hoS rows p x st (.own true (hD (ZQ p x (h.take i)))) .non .non .non (.own true hole)++[.bor 12 []]) rfl (by
  rintro i s k d hk hd rfl
  rw [Qa] at hk hd
  cases ei:h[i]? with
  | none=>rw [ei] at hk;cases hk
  | some e =>
   obtain ⟨o,q⟩:=e
   rw [ei] at hk hd
   cases hk
   cases hd
   have hl:(ZQ p x (h.take i)).length < 16777216:=by
    have:=Jy (hoC p x) (h.take i)
    rw [Jv] at this
    unfold ZQ
    rw [Jk];omega
   have tk:h.take (i + 1)=h.take i++[(o,q)]:=by rw [Wd,ei];rfl
   have e1:=v_ho1 (K:=K) (A:=A) rows p x st (ZQ p x (h.take i)) o q (fun hox=>by
    refine Z3j fun z=>?_
    unfold ZQ at z
    rw [Ql] at z
    rcases Qz.mp z with z | z
    ·exact hox z
    ·obtain ⟨e,he,z⟩:=Qi.mp z
     have he:=(Qn.mp he).1
     have nd:(hK (h.take (i + 1))).Nodup:=hn.sublist ((Ga _ _).map _)
     rw [tk] at nd
     unfold hK at nd
     rw [Qt,Qk] at nd
     exact nd.2.2 _ (Qi.mpr ⟨e,he,z⟩) o (by simp) rfl) hl
   refine ⟨_,_,rfl,.inl e1,?_⟩
   have e2:ZQ p x (h.take (i + 1))=if hoC p x (o,q) then ZQ p x (h.take i)++[(o,q)] else ZQ p x (h.take i):=by
    rw [tk]
    unfold ZQ
    rw [Wa,Ws]
    cases hoC p x (o,q) <;> simp
   rw [e2])
 rw [Qs] at lp
 rw [lp]
 rw [Wh]
theorem atH(h:Hd):(h.map fun e=>aI e.2).all isAt=true:=by
 rw [List.all_map,Np];intro e _;rfl
theorem v_ho3(rows:List (List Int))(p:Nat)(x:Int)(st h s:Hd)(B:SF)
  (lp:Ze (itC (kH h) (h.map fun e=>aI e.2)) (tgT (tgC (Z5 6) (tgC (Z5 7) tgN))) B (h.length + 1) 0 (hoS rows p x st (.own true (hD [(x,p)])) .non .non .non (.own true hole)++[.bor 12 []]) =
   .nx (hoS rows p x st (.own true (hD s)) .non .non .non (.own true hole)++[.bor 12 []])) :
  sForD (Z1 3) (tgT (tgC (Z5 6) (tgC (Z5 7) tgN))) B (hoS rows p x st (.own true (hD [(x,p)])) .non .non .non (.own true (hD h)))=.nx (hoS rows p x st (.own true (hD s)) .non .non .non (.own true (hD h))):=by
 have ha:=atH h
 simp only [hoS,hole,Jh,Je] at lp
 walk_at "evs"
theorem v_ho0(rows:List (List Int))(p:Nat)(x:Int)(st h:Hd):Zn (eDict [((Z1 2),(Z1 1))]) (Z5 5) (hoS rows p x st .non .non .non .non (.own true (hD h)))=.nx (hoS rows p x st (.own true (hD [(x,p)])) .non .non .non (.own true (hD h))):=by
 have nd:([kG x]:List Key).Nodup:=by simp
 walk_at "evs"
 rfl
theorem v_ho4(rows:List (List Int))(p:Nat)(x:Int)(st h s:Hd):Zn (eNw hDict (Z0 (Z1 4) Z2)) (Z5 8) (hoS rows p x st (.own true (hD s)) .non .non .non (.own true (hD h)))=.nx (hoS rows p x st (.own true (hD s)) .non .non (.own true (hD st)) (.own true (hD h))):=by
 have im:=imH st
 walk_at "evs"
theorem v_ho5(rows:List (List Int))(p:Nat)(x:Int)(st h s:Hd)(hi:idk (kG x) (kH st)=none)(hz:st.length < 16777216):sE (eMu 1 Z0E (Z0 (Z1 1) (Z0 (Z1 8) (Z0 (Z1 2) Z2)))) (hoS rows p x st (.own true (hD s)) .non .non (.own true (hD st)) (.own true (hD h))) =
  .nx (hoS rows p x st (.own true (hD s)) .non .non (.own true (hD (st++[(x,p)]))) (.own true (hD h))):=by
 rw [Z47]
 walk_at "evs"
theorem v_ho6(rows:List (List Int))(p:Nat)(x:Int)(st h s kp r:Hd)(F:Fn)(e:F [rwD rows,hD s,hD kp]=.ok (.val (hD r)) [rwD rows,hD s,hD kp]) :
  Z00 (ZF [false,false,false] F (Z0 (Z1 0) (Z0 (Z1 5) (Z0 (Z1 8) Z2)))) (hoS rows p x st (.own true (hD s)) .non .non (.own true (hD kp)) (.own true (hD h))) =
   .rt (.val (hD r)) (hoS rows p x st (.own true (hD s)) .non .non (.own true (hD kp)) (.own true (hD h))):=by
 walk_at "evs"
theorem v_ho7(rows:List (List Int))(p:Nat)(x:Int)(st h s kp r:Hd)(B:SF)(e:B (hoS rows p x st .non .non .non .non (.own true (hD h)))=.rt (.val (hD r)) (hoS rows p x st (.own true (hD s)) .non .non (.own true (hD kp)) (.own true (hD h)))) :
  ZL 9 [false,false,false,true,false] B [rwD rows,aI p,aI x,hD h,hD st]=.ok (.val (hD r)) [rwD rows,aI p,aI x,hD h,hD st]:=by
 simp only [hoS] at e
 walk_at "evs"
theorem Z6X(rows:List (List Int))(p:Nat)(x:Int)(st h r:Hd)(hn:(hK h).Nodup)(hz:h.length < 10000)(hs:st.length < 10000)(hx:x∉hK st)
  (e:ZK K A [rwD rows,hD (ZQ p x h),hD (st++[(x,p)])]=.ok (.val (hD r)) [rwD rows,hD (ZQ p x h),hD (st++[(x,p)])]) :
  Z05 K A [rwD rows,aI p,aI x,hD h,hD st]=.ok (.val (hD r)) [rwD rows,aI p,aI x,hD h,hD st]:=by
 have t0:=v_ho0 rows p x st h
 have t1:=v_ho3 rows p x st h _ _ (v_ho2 (K:=K) (A:=A) rows p x st h hn hz)
 have t2:=v_ho4 rows p x st h (ZQ p x h)
 have t3:=v_ho5 rows p x st h (ZQ p x h) (Z3j hx) (by omega)
 have t4:=v_ho6 rows p x st h _ _ _ _ e
 unfold Z05
 refine v_ho7 rows p x st h (ZQ p x h) (st++[(x,p)]) r _ ?_
 unfold Z3d
 rw [Zr,t0]
 dsimp only
 rw [Zr,t1]
 dsimp only
 rw [Zr,t2]
 dsimp only
 rw [Zr,t3]
 dsimp only
 exact t4
theorem Z7K{rows:List (List Int)}{h:Hd}{k:Nat}(M:Mat rows k h):h.length≤k:=by
 have:=Z0p (l:=hV h) (m:=List.range k) M.vn fun q hq=>by
  obtain ⟨e,he,rfl⟩:=Qi.mp hq
  exact Wi.mpr (M.ed e he).1
 simpa [hV] using this
theorem ZaP{rows:List (List Int)}{h h':Hd}{p k:Nat}{s:List Int}(M:Mat rows k h)(hp:p < k)(hn:p∉hV h)(w:Won rows p h s h'):Mat rows k h'∧h'.length=h.length + 1:=by
 obtain ⟨z,z1,z2⟩:=w.ks
 have l2:h'.length=h.length + 1:=by
  have:=congrArg List.length z2
  simpa [hK] using this
 refine ⟨⟨?_,?_,fun e he=>⟨?_,w.ed e he⟩⟩,l2⟩
 ·rw [z2,Qk]
  refine ⟨M.kn,by simp,fun a ha b hb=>?_⟩
  rw [Qw.mp hb]
  rintro rfl
  exact z1 ha
 ·exact w.vs.nodup_iff.mpr (Ji.mpr ⟨hn,M.vn⟩)
 ·have:=w.vs.mem_iff.mp (Qi.mpr ⟨e,he,rfl⟩)
  rcases Qz.mp this with z | z
  ·omega
  ·obtain ⟨e2,he2,h3⟩:=Qi.mp z
   have:=(M.ed e2 he2).1
   omega
theorem Z3l{h:Hd}(hn:(hK h).Nodup){e f:Int×Nat}(he:e∈h)(hf:f∈h)(hk:e.1=f.1):e=f:=by
 obtain ⟨i,hi⟩:=Jd.mp he
 obtain ⟨j,hj⟩:=Jd.mp hf
 have q1:(hK h)[i]?=some f.1:=by rw [Qa,hi,Option.map_some,hk]
 have q2:(hK h)[j]?=some f.1:=by rw [Qa,hj];rfl
 obtain ⟨b1,r1⟩:=Qc.mp q1
 obtain ⟨b2,r2⟩:=Qc.mp q2
 have:=(Wr hn).mp (r1.trans r2.symm)
 subst this
 rw [hi] at hj
 exact Option.some.inj hj
theorem Z4w{h:Hd}(hn:(hV h).Nodup){e f:Int×Nat}(he:e∈h)(hf:f∈h)(hk:e.2=f.2):e=f:=by
 obtain ⟨i,hi⟩:=Jd.mp he
 obtain ⟨j,hj⟩:=Jd.mp hf
 have q1:(hV h)[i]?=some f.2:=by rw [Qa,hi,Option.map_some,hk]
 have q2:(hV h)[j]?=some f.2:=by rw [Qa,hj];rfl
 obtain ⟨b1,r1⟩:=Qc.mp q1
 obtain ⟨b2,r2⟩:=Qc.mp q2
 have:=(Wr hn).mp (r1.trans r2.symm)
 subst this
 rw [hi] at hj
 exact Option.some.inj hj
theorem Z1O{α:Type}(f:α→Bool):∀ l:List α,l.length=(l.filter fun e=>!f e).length + (l.filter f).length
 | []=>rfl
 | a::l=>by
  have:=Z1O f l
  rw [Ws,Ws]
  cases f a <;> simp <;> omega

noncomputable def red(rows:List (List Int))(st:Hd)(p:Nat):List Int:=if p∈hV st then [] else (rowAt rows p).filter fun x=>!(hK st).contains x
theorem Z3n{rows:List (List Int)}{st:Hd}{p:Nat}{x:Int}:x∈red rows st p↔p∉hV st∧x∈rowAt rows p∧x∉hK st:=by
 unfold red
 split
 case isTrue h=>simp [h]
 case isFalse h=>rw [Qn];simp [h]
noncomputable def Z11(rr:Nat→List Int)(S:List Int)(L:List Nat):List Nat:=L.filter fun i=>!(rr i).all fun x=>S.contains x
theorem Z1f{rr:Nat→List Int}{S:List Int}{L:List Nat}{i:Nat}:i∈Z11 rr S L↔i∈L∧∃ x∈rr i,x∉S:=by
 unfold Z11
 rw [Qn]
 simp
structure MatL(rr:Nat→List Int)(L:List Nat)(h:Hd):Prop where
 kn:(hK h).Nodup
 vn:(hV h).Nodup
 ed:∀ e∈h,e.2∈L∧e.1∈rr e.2
theorem weakL{rr:Nat→List Int}{L:List Nat}{h:Hd}(M:MatL rr L h)(S:List Int):h.length≤(Z11 rr S L).length + S.length:=by
 have e:h.length=(h.filter fun e=>S.contains e.1).length + (h.filter fun e=>!S.contains e.1).length:=by
  have:=Z1O (fun e:Int×Nat=>S.contains e.1) h
  omega
 have h1:(h.filter fun e=>S.contains e.1).length≤S.length:=by
  have:=Z0p (l:=(h.filter fun e=>S.contains e.1).map (·.1)) (m:=S) (M.kn.sublist (Jb.map _)) fun x hx=>by
   obtain ⟨e,he,rfl⟩:=Qi.mp hx
   simpa using (Qn.mp he).2
  simpa using this
 have h2:(h.filter fun e=>!S.contains e.1).length≤(Z11 rr S L).length:=by
  have:=Z0p (l:=(h.filter fun e=>!S.contains e.1).map (·.2)) (m:=Z11 rr S L) (M.vn.sublist (Jb.map _)) fun x hx=>by
   obtain ⟨e,he,rfl⟩:=Qi.mp hx
   obtain ⟨h3,h4⟩:=Qn.mp he
   exact Z1f.mpr ⟨(M.ed e h3).1,e.1,(M.ed e h3).2,by simpa using h4⟩
  simpa using this
 omega
theorem Z6O{rr:Nat→List Int}{L:List Nat}{p:Nat}{h:Hd}{S s2:List Int}(M:MatL rr L h)(hL:L.Nodup)(hS:(Z11 rr S L).length + S.length≤h.length)(h1:∀ y∈rr p,y∈s2)
  (h2:∀ x∈s2,x∈hK h∧∀ e∈h,e.1=x→∀ y∈rr e.2,y∈s2):∃ S':List Int,(Z11 rr S' (L++[p])).length + S'.length≤h.length:=by
 let hT:=h.filter fun e=>s2.contains e.1 && !S.contains e.1
 have mT:∀ e,e∈hT↔e∈h∧e.1∈s2∧e.1∉S:=fun e=>by
  show e∈h.filter _↔_
  rw [Qn];simp
 let S':=S++hT.map (·.1)
 have sub:∀ x∈s2,x∈S':=fun x hx=>by
  by_cases hs:x∈S
  ·exact Qh _ hs
  ·obtain ⟨e,he,rfl⟩:=Qi.mp (h2 x hx).1
   exact Qg _ (Qi.mpr ⟨e,(mT e).mpr ⟨he,hx,hs⟩,rfl⟩)
 refine ⟨S',?_⟩
 have e0:Z11 rr S' (L++[p])=Z11 rr S' L:=by
  have:(rr p).all (fun x=>S'.contains x)=true:=by
   rw [Np];intro x hx;simpa using sub x (h1 x hx)
  unfold Z11
  rw [Wa]
  simp only [Ws,this,Bool.not_true,Jz,if_false,List.filter_nil,Jm]
 rw [e0]
 have key:(hT.map (·.2)++Z11 rr S' L).length≤(Z11 rr S L).length:=by
  refine Z0p ?_ fun i hi=>?_
  ·rw [Qk]
   refine ⟨M.vn.sublist (Jb.map _),hL.sublist Jb,fun i hi j hj=>?_⟩
   rintro rfl
   obtain ⟨e,he,rfl⟩:=Qi.mp hi
   obtain ⟨g1,g2,g3⟩:=(mT e).mp he
   obtain ⟨_,x,q1,q2⟩:=Z1f.mp hj
   exact q2 (sub x ((h2 e.1 g2).2 e g1 rfl x q1))
  ·rcases Qe.mp hi with hi | hi
   ·obtain ⟨e,he,rfl⟩:=Qi.mp hi
    obtain ⟨g1,g2,g3⟩:=(mT e).mp he
    exact Z1f.mpr ⟨(M.ed e g1).1,e.1,(M.ed e g1).2,g3⟩
   ·obtain ⟨q0,x,q1,q2⟩:=Z1f.mp hi
    exact Z1f.mpr ⟨q0,x,q1,fun z=>q2 (Qh _ z)⟩
 have e1:S'.length=S.length + hT.length:=by show (S++hT.map (·.1)).length=_;simp
 rw [Ja,Qs] at key
 omega
noncomputable def minus(h st:Hd):Hd:=h.filter fun e=>!(hK st).contains e.1
theorem Z25{h st:Hd}{e:Int×Nat}:e∈minus h st↔e∈h∧e.1∉hK st:=by
 unfold minus;rw [Qn];simp
theorem Z26{rows:List (List Int)}{k:Nat}{h st:Hd}(M:Mat rows k h)(hs:∀ e∈st,e∈h)(hn:(hK st).Nodup):(minus h st).length + st.length=h.length:=by
 have e:=Z1O (fun e:Int×Nat=>(hK st).contains e.1) h
 have l1:st.length≤(h.filter fun e=>(hK st).contains e.1).length:=by
  have:=Z0p (l:=hK st) (m:=(h.filter fun e=>(hK st).contains e.1).map (·.1)) hn fun x hx=>by
   obtain ⟨e,he,rfl⟩:=Qi.mp hx
   exact Qi.mpr ⟨e,Qn.mpr ⟨hs e he,by simpa using hx⟩,rfl⟩
  simpa [hK] using this
 have l2:(h.filter fun e=>(hK st).contains e.1).length≤st.length:=by
  have:=Z0p (l:=(h.filter fun e=>(hK st).contains e.1).map (·.1)) (m:=hK st) (M.kn.sublist (Jb.map _)) fun x hx=>by
   obtain ⟨e,he,rfl⟩:=Qi.mp hx
   simpa using (Qn.mp he).2
  simpa [hK] using this
 unfold minus
 omega
theorem Z4b{rows:List (List Int)}{k:Nat}{h st:Hd}{L:List Nat}(M:Mat rows k h)(hs:∀ e∈st,e∈h)(hL:∀ e∈h,e.2∉hV st→e.2∈L):MatL (red rows st) L (minus h st):=by
 refine ⟨M.kn.sublist (Jb.map _),M.vn.sublist (Jb.map _),fun e he=>?_⟩
 obtain ⟨g1,g2⟩:=Z25.mp he
 have g3:e.2∉hV st:=fun z=>by
  obtain ⟨f,hf,hfe⟩:=Qi.mp z
  have:=Z4w M.vn (hs f hf) g1 hfe
  subst this
  exact g2 (Qi.mpr ⟨f,hf,rfl⟩)
 exact ⟨hL e g1 g3,Z3n.mpr ⟨g3,(M.ed e g1).2,g2⟩⟩
structure SM(rows:List (List Int))(h0 st r:Hd):Prop where
 M:Mat rows rows.length r
 keep:∀ e∈st,e∈r
 served:∀ q∈hV h0,q∈hV r
 len:h0.length≤r.length
 cov:∃ S:List Int,(Z11 (red rows st) S (List.range rows.length)).length + S.length≤(minus r st).length
theorem SM.mx{rows:List (List Int)}{h0 st r:Hd}(s:SM rows h0 st r)(hn:(hK st).Nodup){N:Hd}(M:Mat rows rows.length N)(hs:∀ e∈st,e∈N):N.length≤r.length:=by
 obtain ⟨S,hS⟩:=s.cov
 have h1:=weakL (Z4b (L:=List.range rows.length) M hs fun e he _=>Wi.mpr (M.ed e he).1) S
 have h2:=Z26 M hs hn
 have h3:=Z26 s.M s.keep hn
 omega
theorem Z8R{rows:List (List Int)}{h h' st:Hd}(M:Mat rows rows.length h)(M':Mat rows rows.length h')(h1:∀ e∈st,e∈h)(h2:∀ e∈st,e∈h')(hn:(hK st).Nodup)(hl:h'.length=h.length + 1):(minus h' st).length=(minus h st).length + 1:=by
 have a:=Z26 M h1 hn
 have b:=Z26 M' h2 hn
 omega
theorem v_sm(rows:List (List Int))(hz:rows.length≤20)(h0 st:Hd)(M0:Mat rows rows.length h0)(hs:∀ e∈st,e∈h0)(hkn:(hK st).Nodup)(hst:st.length < 10000) :
  ∃ r,ZK K A [rwD rows,hD h0,hD st]=.ok (.val (hD r)) [rwD rows,hD h0,hD st]∧SM rows h0 st r:=by
 have lnd:(left rows h0).Nodup:=List.Nodup.sublist Jb Qae
 have pin:∀ {h:Hd} {l:List Nat},(∀ q∈hV h,q∈hV h0∨q∈l)→∀ e∈h,e.2∉hV st→e.2∈hV (minus h0 st)++l:=fun hh e he hn=>by
  rcases hh e.2 (Qi.mpr ⟨e,he,rfl⟩) with z | z
  ·obtain ⟨f,hf,hfe⟩:=Qi.mp z
   refine Qh _ (Qi.mpr ⟨f,Z25.mpr ⟨hf,fun z=>?_⟩,hfe⟩)
   obtain ⟨g,hg,hgf⟩:=Qi.mp z
   have:=Z3l M0.kn (hs g hg) hf hgf
   subst this
   exact hn (hfe ▸ Qi.mpr ⟨g,hg,rfl⟩)
  ·exact Qg _ z
 have ndL:∀ i,(hV (minus h0 st)++(left rows h0).take i).Nodup:=fun i=>by
  rw [Qk]
  refine ⟨M0.vn.sublist (Jb.map _),lnd.sublist (Ga _ _),fun a ha b hb=>?_⟩
  rintro rfl
  obtain ⟨e,he,rfl⟩:=Qi.mp ha
  have:=(Qn.mp (Wg hb)).2
  simp only [Gy,decide_eq_false_iff_not] at this
  exact this (Qi.mpr ⟨e,(Z25.mp he).1,rfl⟩)
 obtain ⟨r,e,M,h1,h2,h3,h4,S,hS⟩:=Z4l (K:=K) (A:=A) rows h0 (sv st) (by omega) (by unfold sv;rw [Qs];exact hst)
  (fun i h=>Mat rows rows.length h∧(∀ e∈st,e∈h)∧(∀ q∈hV h0,q∈hV h)∧h0.length≤h.length∧(∀ q∈hV h,q∈hV h0∨q∈(left rows h0).take i)∧∃ S:List Int,(Z11 (red rows st) S (hV (minus h0 st)++(left rows h0).take i)).length + S.length≤(minus h st).length)
  ⟨M0,hs,fun q hq=>hq,Qu _,fun q hq=>.inl hq,[],by
   have:=Jy (fun i=>!(red rows st i).all fun x=>([]:List Int).contains x) (hV (minus h0 st)++(left rows h0).take 0)
   have e0:(hV (minus h0 st)++(left rows h0).take 0).length=(minus h0 st).length:=by simp [hV]
   unfold Z11
   rw [e0] at this
   simpa using this⟩
  (fun i h ⟨M,_⟩=>⟨M.kn,M.ed,by have:=Z7K M;omega⟩)
  (fun i p h hp ⟨M,h1,h2,h3,h4,S,hS⟩=>by
   have hpl:=Qn.mp (Qf hp)
   have hp1:p < rows.length:=Wi.mp hpl.1
   have hp2:p∉hV h0:=by simpa using hpl.2
   have tk:(left rows h0).take (i + 1)=(left rows h0).take i++[p]:=by rw [Wd,hp];rfl
   have hp3:p∉(left rows h0).take i:=fun z=>by
    have nd:((left rows h0).take (i + 1)).Nodup:=lnd.sublist (Ga _ _)
    rw [tk,Qk] at nd
    exact nd.2.2 p z p (by simp) rfl
   have hn:p∉hV h:=fun z=>(h4 p z).elim hp2 hp3
   refine ⟨fun h' w=>?_,fun s' w=>⟨M,h1,h2,h3,fun q hq=>(h4 q hq).imp id fun z=>by rw [tk];exact Qh _ z,?_⟩⟩
   ·obtain ⟨M',l'⟩:=ZaP M hp1 hn w
    have h1':∀ e∈st,e∈h':=fun e he=>by
     obtain ⟨j,hj⟩:=Jd.mp (h1 e he)
     exact Qf (w.st j e hj (by rw [sK_sv];exact Qi.mpr ⟨e,he,rfl⟩))
    refine ⟨M',h1',fun q hq=>w.vs.mem_iff.mpr (Qv _ (h2 q hq)),by omega,fun q hq=>?_,S,?_⟩
    ·rcases Qz.mp (w.vs.mem_iff.mp hq) with rfl | z
     ·exact .inr (by rw [tk];simp)
     ·exact (h4 q z).imp id fun z=>by rw [tk];exact Qh _ z
    ·have:=Z8R M M' h1 h1' hkn l'
     have o:(Z11 (red rows st) S (hV (minus h0 st)++(left rows h0).take (i + 1))).length≤(Z11 (red rows st) S (hV (minus h0 st)++(left rows h0).take i)).length + 1:=by
      unfold Z11
      rw [tk,← Qq,Wa,Ja]
      have:=Jy (fun i=>!(red rows st i).all fun x=>S.contains x) [p]
      simp only [Jk,Nh] at this
      omega
     omega
   ·rw [tk,← Qq]
    refine Z6O (s2:=s'.filter fun x=>!(hK st).contains x) (Z4b M h1 (pin h4)) (ndL i) hS (fun y hy=>?_) fun x hx=>?_
    ·obtain ⟨_,g2,g3⟩:=Z3n.mp hy
     exact Qn.mpr ⟨w.row y g2,by simpa using g3⟩
    ·obtain ⟨g1,g2⟩:=Qn.mp hx
     have g2:x∉hK st:=by simpa using g2
     rcases w.cl x g1 with z | ⟨z1,z2⟩
     ·rw [sK_sv] at z;exact (g2 z).elim
     ·refine ⟨?_,fun e he hex y hy=>?_⟩
      ·obtain ⟨e,he,rfl⟩:=Qi.mp z1
       exact Qi.mpr ⟨e,Z25.mpr ⟨he,g2⟩,rfl⟩
      ·obtain ⟨_,q2,q3⟩:=Z3n.mp hy
       exact Qn.mpr ⟨z2 e (Z25.mp he).1 hex y q2,by simpa using q3⟩)
 rw [hD_sv] at e
 refine ⟨r,e,M,h1,h2,h3,S,?_⟩
 have:(Z11 (red rows st) S (List.range rows.length)).length≤(Z11 (red rows st) S (hV (minus h0 st)++(left rows h0).take (left rows h0).length)).length:=by
  refine Z0p (List.Nodup.sublist Jb Qae) fun i hi=>?_
  obtain ⟨g1,x,g2,g3⟩:=Z1f.mp hi
  refine Z1f.mpr ⟨?_,x,g2,g3⟩
  have hni:i∉hV st:=(Z3n.mp g2).1
  rw [Wh]
  by_cases hi0:i∈hV h0
  ·obtain ⟨f,hf,rfl⟩:=Qi.mp hi0
   exact pin (h:=h0) (l:=left rows h0) (fun q hq=>.inl hq) f hf hni
  ·exact Qg _ (Qn.mpr ⟨g1,by simpa using hi0⟩)
 omega
noncomputable abbrev seS(rows:List (List Int))(p:Nat)(h st:Hd)(y4 y5:DL):Sd:=[.bor 6 [],.own true (aI p),.bor 8 [],.bor 9 [],y4,y5,.own false (rwD rows),.non,.own true (hD h),.own true (hD st),.bor 6 [p]]
theorem v_se1(rows:List (List Int))(p:Nat)(h st:Hd)(x:Int)(j:Nat)(hs:idk (kG x) (kH st)=some j) :
  Z0n K A (seS rows p h st (.own true (aI x)) .non)=.nx (seS rows p h st .non .non):=by
 unfold Z0n
 generalize Z05 K A=F
 walk_at "evs"
theorem v_se2(rows:List (List Int))(p:Nat)(h st r:Hd)(x:Int)(hs:idk (kG x) (kH st)=none)(hl:¬ (r.length:Int)=(h.length:Int))(e:Z05 K A [rwD rows,aI p,aI x,hD h,hD st]=.ok (.val (hD r)) [rwD rows,aI p,aI x,hD h,hD st]) :
  Z0n K A (seS rows p h st (.own true (aI x)) .non)=.nx (seS rows p h st .non .non):=by
 unfold Z0n
 generalize Z05 K A=F at *
 walk_at "evs"
theorem v_se3(rows:List (List Int))(p:Nat)(h st r:Hd)(x:Int)(hs:idk (kG x) (kH st)=none)(hz:st.length < 16777216)(hl:(r.length:Int)=(h.length:Int))(e:Z05 K A [rwD rows,aI p,aI x,hD h,hD st]=.ok (.val (hD r)) [rwD rows,aI p,aI x,hD h,hD st]) :
  Z0n K A (seS rows p h st (.own true (aI x)) .non)=.rt (.plc 5 []) (seS rows p h (st++[(x,p)]) (.own true (aI x)) (.own true (hD r))):=by
 show _=SR.rt (.plc 5 []) [.bor 6 [],.own true (aI p),.bor 8 [],.bor 9 [],.own true (aI x),.own true (hD r),.own false (rwD rows),.non,.own true (hD h),.own true (hD (st++[(x,p)])),.bor 6 [p]]
 rw [Z47]
 unfold Z0n
 generalize Z05 K A=F at *
 walk_at "evs"
theorem v_seA(rows:List (List Int))(p:Nat)(h st:Hd)(hp:p < rows.length)(B:SF)
  (lp:Ze (itP false 10 6 [p]) (Z5 4) B ((rowAt rows p).length + 1) 0 (seS rows p h st .non .non)=.nx (seS rows p h st .non .non)) :
  ZL 6 [false,false,true,true] (Zj (Z1y (eCh (hIx K) (Z0 (Z1 0) (Z0 (Z1 1) Z2))) (Z5 4) B) (Z00 (Z1 2))) [rwD rows,aI p,hD h,hD st]=.ok (.arg 2 []) [rwD rows,aI p,hD h,hD st]:=by
 have e1:=Z2n hp
 have e2:ixN rows.length (p:Int)=some p:=Z0L (by omega)
 walk_at "evs"
theorem v_seB(rows:List (List Int))(p:Nat)(h st st' r:Hd)(x:Int)(hp:p < rows.length)(B:SF)
  (lp:Ze (itP false 10 6 [p]) (Z5 4) B ((rowAt rows p).length + 1) 0 (seS rows p h st .non .non)=.rt (.plc 5 []) (seS rows p h st' (.own true (aI x)) (.own true (hD r)))) :
  ZL 6 [false,false,true,true] (Zj (Z1y (eCh (hIx K) (Z0 (Z1 0) (Z0 (Z1 1) Z2))) (Z5 4) B) (Z00 (Z1 2))) [rwD rows,aI p,hD h,hD st]=.ok (.val (hD r)) [rwD rows,aI p,hD h,hD st']:=by
 have e1:=Z2n hp
 have e2:ixN rows.length (p:Int)=some p:=Z0L (by omega)
 walk_at "evs"
noncomputable def Tried(rows:List (List Int))(p:Nat)(h st:Hd)(y:Int):Prop:=y∈hK st∨∃ r,SM rows (ZQ p y h) (st++[(y,p)]) r∧r.length≠h.length
theorem Zb5{rows:List (List Int)}{p:Nat}{x:Int}{h:Hd}(M:Mat rows rows.length h)(hp:p < rows.length)(hx:x∈rowAt rows p):Mat rows rows.length (ZQ p x h):=by
 have sub:(h.filter (hoC p x)).Sublist h:=Jb
 refine ⟨?_,?_,fun e he=>?_⟩
 ·show (((x,p)::h.filter (hoC p x)).map (·.1)).Nodup
  rw [Ql,Ji]
  refine ⟨fun z=>?_,M.kn.sublist (sub.map _)⟩
  obtain ⟨e,he,z⟩:=Qi.mp z
  have:=(Qn.mp he).2
  simp at this
  exact this.1 z
 ·show (((x,p)::h.filter (hoC p x)).map (·.2)).Nodup
  rw [Ql,Ji]
  refine ⟨fun z=>?_,M.vn.sublist (sub.map _)⟩
  obtain ⟨e,he,z⟩:=Qi.mp z
  have:=(Qn.mp he).2
  simp at this
  exact this.2 z
 ·rcases Qz.mp he with rfl | he
  ·exact ⟨hp,hx⟩
  ·exact M.ed e (Qn.mp he).1
theorem Za6{p:Nat}{x:Int}{h st:Hd}(hs:∀ e∈st,e∈h)(hx:x∉hK st)(hp:p∉hV st):∀ e∈st++[(x,p)],e∈ZQ p x h:=fun e he=>by
 rcases Qe.mp he with he | he
 ·refine Qv _ (Qn.mpr ⟨hs e he,?_⟩)
  have h1:e.1≠x:=fun z=>hx (z ▸ Qi.mpr ⟨e,he,rfl⟩)
  have h2:e.2≠p:=fun z=>hp (z ▸ Qi.mpr ⟨e,he,rfl⟩)
  simp [h1,h2]
 ·rw [Qw.mp he];exact Qy
theorem Z6l{st:Hd}{x:Int}{p:Nat}(h:(hK st).Nodup)(hx:x∉hK st):(hK (st++[(x,p)])).Nodup:=by
 show ((st++[(x,p)]).map (·.1)).Nodup
 rw [Qt,Qk]
 refine ⟨h,by simp,fun a ha b hb=>?_⟩
 rintro rfl
 have:a=x:=by simpa using hb
 exact hx (this ▸ ha)
theorem Zb4{rows:List (List Int)}{p k:Nat}{x:Int}{h:Hd}(M:Mat rows k h)(hg:(x,p)∈h∨p∉hV h):h.length≤(ZQ p x h).length:=by
 have key:=Z1O (hoC p x) h
 have one:(h.filter fun e=>!hoC p x e).length≤1:=by
  have:∀ e∈h.filter (fun e=>!hoC p x e),e.1=x:=fun e he=>by
   obtain ⟨h1,h2⟩:=Qn.mp he
   rcases hg with hg | hg
   ·have h3:e.1=x∨e.2=p:=by
     by_cases z:e.1=x
     ·exact .inl z
     ·right
      simp [z] at h2
      exact h2
    rcases h3 with h3 | h3
    ·exact h3
    ·have:=Z4w M.vn h1 hg h3
     rw [this]
   ·have h4:e.2≠p:=fun z=>hg (z ▸ Qi.mpr ⟨e,h1,rfl⟩)
    by_cases z:e.1=x
    ·exact z
    ·simp [z,h4] at h2
  have:=Z0p (l:=(h.filter fun e=>!hoC p x e).map (·.1)) (m:=[x]) (M.kn.sublist (Jb.map _)) fun y hy=>by
   obtain ⟨e,he,rfl⟩:=Qi.mp hy
   simp [this e he]
  simpa using this
 unfold ZQ
 rw [Jk]
 omega
theorem Z9V(rows:List (List Int))(hz:rows.length≤20)(p:Nat)(h st:Hd)(hp:p < rows.length)(M:Mat rows rows.length h)(mx:∀ h',Mat rows rows.length h'→h'.length≤h.length)(hs:∀ e∈st,e∈h)(hl:st.length < 1000)(hkn:(hK st).Nodup)(hq:p∉hV st) :
  (∃ i x r,(rowAt rows p)[i]?=some x∧x∉hK st∧(∀ y∈(rowAt rows p).take i,Tried rows p h st y)∧Z0x K A [rwD rows,aI p,hD h,hD st]=.ok (.val (hD r)) [rwD rows,aI p,hD h,hD (st++[(x,p)])]∧SM rows (ZQ p x h) (st++[(x,p)]) r∧r.length=h.length) ∨
  (Z0x K A [rwD rows,aI p,hD h,hD st]=.ok (.arg 2 []) [rwD rows,aI p,hD h,hD st]∧p∉hV h∧∀ y∈rowAt rows p,y∈hK st):=by
 have lp:=Z4F (t:=false) (n:=10) (k:=6) (p:=[p]) (l:=(rowAt rows p).map aI) (kd:=.lst true) (b:=Z5 4) (body:=Z0n K A) (s:=seS rows p h st .non .non) (.inl ⟨rfl,true,rfl⟩)
  (fun i s=>s=seS rows p h st .non .non∧∀ y∈(rowAt rows p).take i,Tried rows p h st y)
  (fun r=>∃ i x h',r=.rt (.plc 5 []) (seS rows p h (st++[(x,p)]) (.own true (aI x)) (.own true (hD h')))∧(rowAt rows p)[i]?=some x∧x∉hK st∧(∀ y∈(rowAt rows p).take i,Tried rows p h st y)∧SM rows (ZQ p x h) (st++[(x,p)]) h'∧h'.length=h.length)
  ⟨rfl,by simp⟩
  (by
   rintro i s ⟨rfl,_⟩
   refine ⟨by simp [held,seS],?_⟩
   have e1:=Z2n hp
   walk_at "evs")
  (by
   rintro i s c hc ⟨rfl,hb⟩
   rw [Qa] at hc
   cases ex:(rowAt rows p)[i]? with
   | none=>rw [ex] at hc;cases hc
   | some x =>
    rw [ex] at hc
    cases hc
    have hx:x∈rowAt rows p:=Qf ex
    have tk:(rowAt rows p).take (i + 1)=(rowAt rows p).take i++[x]:=by rw [Wd,ex];rfl
    refine ⟨seS rows p h st (.own true (aI x)) .non,rfl,?_⟩
    by_cases hxs:x∈hK st
    ·obtain ⟨j,v,h1,h2⟩:=Z2J hxs
     refine .inl ⟨_,.inl (v_se1 rows p h st x j h1),rfl,fun y hy=>?_⟩
     rw [tk] at hy
     rcases Qe.mp hy with hy | hy
     ·exact hb y hy
     ·rw [Qw.mp hy];exact .inl hxs
    ·have i1:=Z3j hxs
     obtain ⟨r,e,sm⟩:=v_sm (K:=K) (A:=A) rows hz (ZQ p x h) (st++[(x,p)]) (Zb5 M hp hx) (Za6 hs hxs hq) (Z6l hkn hxs) (by rw [Ja,Jq];omega)
     have e2:=Z6X rows p x st h r M.kn (by have:=Z7K M;omega) (by omega) hxs e
     by_cases hlen:r.length=h.length
     ·exact .inr ⟨_,_,v_se3 rows p h st r x i1 (by omega) (by omega) e2,i,x,r,rfl,ex,hxs,hb,sm,hlen⟩
     ·refine .inl ⟨_,.inl (v_se2 rows p h st r x i1 (by omega) e2),rfl,fun y hy=>?_⟩
      rw [tk] at hy
      rcases Qe.mp hy with hy | hy
      ·exact hb y hy
      ·rw [Qw.mp hy];exact .inr ⟨r,sm,hlen⟩)
 rw [Qs] at lp
 rcases lp with ⟨s,e,rfl,hb⟩ | ⟨r,s,e,i,x,h',e2,h1,h2,h3,h4,h5⟩
 ·refine .inr ⟨v_seA rows p h st hp _ e,?_⟩
  rw [Wh] at hb
  have good:∀ y∈rowAt rows p,y∉hK st→((y,p)∈h∨p∉hV h)→False:=fun y hy hys hg=>by
   rcases hb y hy with z | ⟨r,sm,hne⟩
   ·exact hys z
   ·have l1:=Zb4 M hg
    have l2:=sm.len
    have l3:=mx r sm.M
    omega
  have hpv:p∉hV h:=fun z=>by
   obtain ⟨e,he,hep⟩:=Qi.mp z
   have hed:=M.ed e he
   rw [hep] at hed
   refine good e.1 hed.2 (fun z2=>?_) (.inl ?_)
   ·obtain ⟨f,hf,hfe⟩:=Qi.mp z2
    have:=Z3l M.kn (hs f hf) he hfe
    rw [this] at hf
    exact hq (hep ▸ Qi.mpr ⟨e,hf,rfl⟩)
   ·rw [← hep];exact he
  refine ⟨hpv,fun y hy=>?_⟩
  by_cases hys:y∈hK st
  ·exact hys
  ·exact (good y hy hys (.inr hpv)).elim
 ·cases e2
  exact .inl ⟨i,x,h',h1,h2,h3,v_seB rows p h st _ h' x hp _ e,h4,h5⟩
inductive Run(rows:List (List Int))(h0:Hd):Nat→Hd→Hd→Prop where
 | zero:Run rows h0 0 h0 []
 | take {i j:Nat} {h st r:Hd} {x:Int}:Run rows h0 i h st→(rowAt rows i)[j]?=some x→x∉hK st→(∀ y∈(rowAt rows i).take j,Tried rows i h st y)→SM rows (ZQ i x h) (st++[(x,i)]) r→r.length=h.length→Run rows h0 (i + 1) r (st++[(x,i)])
 | skip {i:Nat} {h st:Hd}:Run rows h0 i h st→i∉hV h→(∀ y∈rowAt rows i,y∈hK st)→Run rows h0 (i + 1) h st
structure RunOk(rows:List (List Int))(h0:Hd)(i:Nat)(h st:Hd):Prop where
 M:Mat rows rows.length h
 len:h.length=h0.length
 sub:∀ e∈st,e∈h
 lt:∀ e∈st,e.2 < i
 kn:(hK st).Nodup
 vn:(hV st).Nodup
 all:∀ q,q < i→q∈hV st∨∀ y∈rowAt rows q,y∈hK st
 sz:st.length≤i
theorem Z2m{rows:List (List Int)}{h0:Hd}(M0:Mat rows rows.length h0){i:Nat}{h st:Hd}(R:Run rows h0 i h st):RunOk rows h0 i h st:=by
 induction R with
 | zero=>exact ⟨M0,rfl,by simp,by simp,Wq,Wq,fun q hq=>absurd hq (Gp _),Qu _⟩
 | @take i j h st r x R h1 h2 h3 h4 h5 ih =>
  refine ⟨h4.M,h5.trans ih.len,h4.keep,fun e he=>?_,?_,?_,fun q hq=>?_,by rw [Ja,Jq];have:=ih.sz;omega⟩
  ·rcases Qe.mp he with he | he
   ·have:=ih.lt e he;omega
   ·rw [Qw.mp he];exact Nm _
  ·show ((st++[(x,i)]).map (·.1)).Nodup
   rw [Qt,Qk]
   refine ⟨ih.kn,by simp,fun a ha b hb=>?_⟩
   rintro rfl
   have:a=x:=by simpa using hb
   exact h2 (this ▸ ha)
  ·show ((st++[(x,i)]).map (·.2)).Nodup
   rw [Qt,Qk]
   refine ⟨ih.vn,by simp,fun a ha b hb=>?_⟩
   rintro rfl
   have:a=i:=by simpa using hb
   obtain ⟨e,he,z⟩:=Qi.mp ha
   have:=ih.lt e he
   omega
  ·by_cases hqi:q=i
   ·subst hqi
    exact .inl (Qi.mpr ⟨(x,q),by simp,rfl⟩)
   ·rcases ih.all q (by omega) with z | z
    ·exact .inl (by show q∈(st++[(x,i)]).map (·.2);rw [Qt];exact Qh _ z)
    ·exact .inr fun y hy=>by show y∈(st++[(x,i)]).map (·.1);rw [Qt];exact Qh _ (z y hy)
 | @skip i h st R h1 h2 ih =>
  refine ⟨ih.M,ih.len,ih.sub,fun e he=>?_,ih.kn,ih.vn,fun q hq=>?_,by have:=ih.sz;omega⟩
  ·have:=ih.lt e he;omega
  ·by_cases hqi:q=i
   ·subst hqi;exact .inr h2
   ·exact ih.all q (by omega)
theorem ZaD{rows:List (List Int)}{h0:Hd}(M0:Mat rows rows.length h0){h st:Hd}(R:Run rows h0 rows.length h st):st.length=h0.length:=by
 have O:=Z2m M0 R
 have h1:st.length≤h.length:=by
  have:=Z0p (l:=hK st) (m:=hK h) O.kn fun x hx=>by
   obtain ⟨e,he,rfl⟩:=Qi.mp hx
   exact Qi.mpr ⟨e,O.sub e he,rfl⟩
  simpa [hK] using this
 have h2:h.length≤st.length:=by
  have:=Z0p (l:=hV h) (m:=hV st) O.M.vn fun q hq=>by
   obtain ⟨e,he,rfl⟩:=Qi.mp hq
   have hed:=O.M.ed e he
   rcases O.all e.2 hed.1 with z | z
   ·exact z
   ·obtain ⟨f,hf,hk⟩:=Qi.mp (z e.1 hed.2)
    have:=Z3l O.M.kn (O.sub f hf) he hk
    exact Qi.mpr ⟨f,hf,by rw [this]⟩
  simpa [hV] using this
 have:=O.len
 omega
theorem Z5J{rows:List (List Int)}{h S}(hS:(Z1n rows S rows.length).length + S.length≤List.length (h:Hd)):∀ h',Mat rows rows.length h'→h'.length≤h.length:=fun h' M'=>by
 have:=weak M' S
 omega
noncomputable abbrev srS(rows:List (List Int))(y1 y2 y3 y4 y5:DL):Sd:=[.bor 6 [],y1,y2,y3,y4,y5,.own false (rwD rows)]
theorem v_sr1(rows:List (List Int))(h st st' r:Hd)(p:Nat)(F:Fn)(e:F [rwD rows,aI p,hD h,hD st]=.ok (.val (hD r)) [rwD rows,aI p,hD h,hD st']) :
  Zn (ZF [false,false,true,true] F (Z0 (Z1 0) (Z0 (Z1 3) (Z0 (Z1 1) (Z0 (Z1 2) Z2))))) (Z5 1) (srS rows (.own true (hD h)) (.own true (hD st)) (.own true (aI p)) .non .non) =
   .nx (srS rows (.own true (hD r)) (.own true (hD st')) (.own true (aI p)) .non .non):=by
 walk_at "evs"
theorem v_sr2(rows:List (List Int))(h st:Hd)(p:Nat)(F:Fn)(e:F [rwD rows,aI p,hD h,hD st]=.ok (.arg 2 []) [rwD rows,aI p,hD h,hD st]) :
  Zn (ZF [false,false,true,true] F (Z0 (Z1 0) (Z0 (Z1 3) (Z0 (Z1 1) (Z0 (Z1 2) Z2))))) (Z5 1) (srS rows (.own true (hD h)) (.own true (hD st)) (.own true (aI p)) .non .non) =
   .nx (srS rows (.own true (hD h)) (.own true (hD st)) (.own true (aI p)) .non .non):=by
 walk_at "evs"
theorem v_srl(rows:List (List Int))(hz:rows.length≤20)(h0:Hd)(M0:Mat rows rows.length h0)(mx:∀ h',Mat rows rows.length h'→h'.length≤h0.length) :
  ∃ h st y3,Ow y3∧Run rows h0 rows.length h st∧Ze (itR 0 rows.length) (Z5 3) (Z2i K A) (rows.length + 1) 0 (srS rows (.own true (hD h0)) (.own true (hD [])) .non .non .non) =
   .nx (srS rows (.own true (hD h)) (.own true (hD st)) y3 .non .non):=by
 obtain ⟨s',lp,h,st,y3,hy,R,_,rfl⟩:=Z20 (lo:=0) (n:=rows.length) (b:=Z5 3) (body:=Z2i K A) (s:=srS rows (.own true (hD h0)) (.own true (hD [])) .non .non .non)
  (fun i s=>∃ h st y3,Ow y3∧Run rows h0 i h st∧i≤rows.length∧s=srS rows (.own true (hD h)) (.own true (hD st)) y3 .non .non) ⟨h0,[],.non,.inl rfl,.zero,Nk _,rfl⟩ (by
  rintro i s hi ⟨h,st,y3,hy,R,_,rfl⟩
  have O:=Z2m M0 R
  have e0:(0 + (i:Int))=(i:Int):=by omega
  refine ⟨srS rows (.own true (hD h)) (.own true (hD st)) (.own true (aI (0 + i))) .non .non,?_⟩
  have e1:Z5 3 (srS rows (.own true (hD h)) (.own true (hD st)) y3 .non .non) (.val (aI (0 + i)))=some (srS rows (.own true (hD h)) (.own true (hD st)) (.own true (aI (0 + i))) .non .non):=by
   rcases hy with rfl | ⟨d,rfl⟩ <;> rfl
  rw [e0] at e1 ⊢
  rcases Z9V (K:=K) (A:=A) rows hz i h st hi O.M (fun h' M'=>by rw [O.len];exact mx h' M') O.sub (by have:=O.sz;omega) O.kn (fun z=>by
   obtain ⟨e,he,z⟩:=Qi.mp z
   have:=O.lt e he
   omega) with ⟨j,x,r,g1,g2,g3,g4,g5,g6⟩ | ⟨g1,g2,g3⟩
  ·exact ⟨_,e1,.inl (v_sr1 rows h st _ r i _ g4),r,_,.own true (aI i),.inr ⟨_,rfl⟩,.take R g1 g2 g3 g5 g6,by omega,rfl⟩
  ·exact ⟨_,e1,.inl (v_sr2 rows h st i _ g1),h,st,.own true (aI i),.inr ⟨_,rfl⟩,.skip R g2 g3,by omega,rfl⟩)
 exact ⟨h,st,y3,hy,R,lp⟩
noncomputable def Zf(n:Nat)(st:Hd):List V:=st.foldl (fun l e=>l.set e.2 (.int e.1)) (List.replicate n .non)
theorem Z1L(n:Nat)(st:Hd):(Zf n st).length=n:=by
 unfold Zf
 have:∀ (l:List V),(st.foldl (fun l e=>l.set e.2 (V.int e.1)) l).length=l.length:=by
  induction st with
  | nil=>intro l;rfl
  | cons e r ih=>intro l;rw [Nv,ih,Gk]
 rw [this,Jt]
theorem Z9q(n:Nat)(st:Hd)(e:Int×Nat):Zf n (st++[e])=(Zf n st).set e.2 (.int e.1):=by
 unfold Zf;rw [List.foldl_append];rfl
theorem Z50{n q:Nat}{st:Hd}(hq:q < n)(h:q∉hV st):(Zf n st)[q]?=some .non:=by
 have:∀ (l:List V),q∉hV st→(st.foldl (fun l e=>l.set e.2 (V.int e.1)) l)[q]?=l[q]?:=by
  clear h
  induction st with
  | nil=>intro l _;rfl
  | cons e r ih =>
   intro l h
   rw [Nv,ih _ fun z=>h (Qv _ z),Wv fun z=>h (by rw [← z];exact Qy)]
 unfold Zf
 rw [this _ h,Wx,if_pos hq]
theorem Z4m{n:Nat}{x:Int}{q:Nat}:∀ {st:Hd},(hV st).Nodup→q < n→(x,q)∈st→(Zf n st)[q]?=some (.int x):=by
 intro st hn hq h
 unfold Zf
 have:∀ (l:List V),l.length=n→(hV st).Nodup→(x,q)∈st→(st.foldl (fun l e=>l.set e.2 (V.int e.1)) l)[q]?=some (.int x):=by
  clear hn h
  induction st with
  | nil=>intro l _ _ h;cases h
  | cons e r ih =>
   intro l hl hn h
   rw [Nv]
   have hn':=Ji.mp hn
   rcases Qz.mp h with rfl | h
   ·have keep:∀ (r:Hd) (l:List V),q∉hV r→(r.foldl (fun l e=>l.set e.2 (V.int e.1)) l)[q]?=l[q]?:=by
     intro r
     induction r with
     | nil=>intro l _;rfl
     | cons e r ih =>
      intro l h
      rw [Nv,ih _ fun z=>h (Qv _ z),Wv fun z=>h (by rw [← z];exact Qy)]
    rw [keep r _ hn'.1]
    simp [Qm,hl,hq]
   ·exact ih _ (by rw [Gk];exact hl) hn'.2 h
 exact this _ (Jt ..) hn h
noncomputable abbrev asD(l:List V):D:=.nd (.lst true) (l.map D.at)
theorem v_sr4(rows:List (List Int))(hz:rows.length≤20)(h st:Hd)(y3:DL)(hy:Ow y3) :
  Zn (Z19 (Z1 0) (fun _=>bYes) (fun n1=>(eC .non))) (Z5 4) (srS rows (.own true (hD h)) (.own true (hD st)) y3 .non .non) =
   .nx (srS rows (.own true (hD h)) (.own true (hD st)) y3 (.own true (asD (List.replicate rows.length .non))) .non):=by
 have it:∀ i y,itP false 7 6 [] i (srS rows (.own true (hD h)) (.own true (hD st)) y3 .non .non++[.bor 6 [],y])=some (((rows.map nD)[i]?).map (mkV 6 ([]++[i]))):=fun i y=>rfl
 obtain ⟨acc,s',h1,y,hyy,rfl,rfl⟩:=Z22 (it:=itP false 7 6 []) (n:=8) (c:=bYes) (e:=eC .non) (N:=rows.length)
  (P:=fun j acc s=>∃ y,(y=.non∨∃ i,y=.bor 6 [i])∧acc=(List.replicate j V.non).map D.at∧s=srS rows (.own true (hD h)) (.own true (hD st)) y3 .non .non++[.bor 6 [],y])
  (by
   rintro j acc s hj ⟨y,hyy,rfl,rfl⟩
   have hr:rows[j]?=some rows[j]:=Qj hj
   have e0:bYes (srS rows (.own true (hD h)) (.own true (hD st)) y3 .non .non++[.bor 6 [],.bor 6 [j]])=.ok true (srS rows (.own true (hD h)) (.own true (hD st)) y3 .non .non++[.bor 6 [],.bor 6 [j]]):=rfl
   have e1:eC .non (srS rows (.own true (hD h)) (.own true (hD st)) y3 .non .non++[.bor 6 [],.bor 6 [j]])=.ok (.val (.at .non)) (srS rows (.own true (hD h)) (.own true (hD st)) y3 .non .non++[.bor 6 [],.bor 6 [j]]):=rfl
   have e2:itP false 7 6 [] j (srS rows (.own true (hD h)) (.own true (hD st)) y3 .non .non++[.bor 6 [],y])=some (some (.plc 6 [j])):=by rw [it,Qa,hr];rfl
   have e3:Z5 8 (srS rows (.own true (hD h)) (.own true (hD st)) y3 .non .non++[.bor 6 [],y]) (.plc 6 [j])=some (srS rows (.own true (hD h)) (.own true (hD st)) y3 .non .non++[.bor 6 [],.bor 6 [j]]):=by
    rcases hy with rfl | ⟨d,rfl⟩ <;> rcases hyy with rfl | ⟨x,rfl⟩ <;> rfl
   refine ⟨_,_,e2,e3,.inl ⟨_,_,_,e0,e1,?_,_,.inr ⟨_,rfl⟩,?_,rfl⟩⟩
   ·rw [Qs,Jt,sz];omega
   ·rw [List.replicate_succ',Qt];rfl)
  (by
   rintro acc s ⟨y,hyy,rfl,rfl⟩
   rw [it,Qa,Jo (Qu _)];rfl)
  rows.length 0 [] (srS rows (.own true (hD h)) (.own true (hD st)) y3 .non .non++[.bor 6 [],.non]) (by omega) ⟨.non,.inl rfl,rfl,rfl⟩
 have u1:Zz 8 y=y:=by rcases hyy with rfl | ⟨n,rfl⟩ <;> rfl
 have u2:Zz 7 y=y:=by rcases hyy with rfl | ⟨n,rfl⟩ <;> rfl
 have a3:∀ j,Zz j y3=y3:=hy.u
 clear hyy hz hy
 show _=SR.nx (srS rows (.own true (hD h)) (.own true (hD st)) y3 (.own true (.nd (.lst true) ((List.replicate rows.length V.non).map D.at))) .non)
 generalize (List.replicate rows.length V.non).map D.at=L at *
 simp only [srS,Jh,Je] at h1
 walk_at "evs"
theorem v_sr5(rows:List (List Int))(h:Hd)(l:List V)(x:Int)(q:Nat)(hq:q < l.length) :
  Z1c K A (srS rows (.own true (hD h)) (.own true hole) (.own true (aI q)) (.own true (asD l)) (.own true (aI x))++[.bor 2 []]) =
   .nx (srS rows (.own true (hD h)) (.own true hole) (.own true (aI q)) (.own true (asD (l.set q (.int x)))) .non++[.bor 2 []]):=by
 have e2:ixN l.length (q:Int)=some q:=Z0L (by omega)
 have e:asD (l.set q (.int x))=.nd (.lst true) ((l.map D.at).set q (aI x)):=by
  show D.nd (.lst true) ((l.set q (.int x)).map D.at)=_
  rw [Wb]
 rw [e]
 unfold Z1c
 walk_at "evs"
theorem v_sr6(rows:List (List Int))(h st:Hd)(y3:DL)(hy:Ow y3)(hst:∀ e∈st,e.2 < rows.length):∃ y3',Ow y3' ∧
  Ze (itC (kH st) (st.map fun e=>aI e.2)) (tgT (tgC (Z5 5) (tgC (Z5 3) tgN))) (Z1c K A) (st.length + 1) 0 (srS rows (.own true (hD h)) (.own true hole) y3 (.own true (asD (Zf rows.length []))) .non++[.bor 2 []]) =
   .nx (srS rows (.own true (hD h)) (.own true hole) y3' (.own true (asD (Zf rows.length st))) .non++[.bor 2 []]):=by
 obtain ⟨s',lp,y3',hy',rfl⟩:=Z6j (ks:=kH st) (l:=st.map fun e=>aI e.2) (b:=tgT (tgC (Z5 5) (tgC (Z5 3) tgN))) (body:=Z1c K A) (s:=srS rows (.own true (hD h)) (.own true hole) y3 (.own true (asD (Zf rows.length []))) .non++[.bor 2 []]) (by simp)
  (fun i s=>∃ y3,Ow y3∧s=srS rows (.own true (hD h)) (.own true hole) y3 (.own true (asD (Zf rows.length (st.take i)))) .non++[.bor 2 []]) ⟨y3,hy,rfl⟩ (by
  rintro i s k d hk hd ⟨y3,hy,rfl⟩
  rw [Qa] at hk hd
  cases ei:st[i]? with
  | none=>rw [ei] at hk;cases hk
  | some e =>
   obtain ⟨x,q⟩:=e
   rw [ei] at hk hd
   cases hk
   cases hd
   have hq:q < rows.length:=hst _ (Qf ei)
   have e1:=v_sr5 (K:=K) (A:=A) rows h (Zf rows.length (st.take i)) x q (by rw [Z1L];exact hq)
   refine ⟨srS rows (.own true (hD h)) (.own true hole) (.own true (aI q)) (.own true (asD (Zf rows.length (st.take i)))) (.own true (aI x))++[.bor 2 []],_,?_,.inl e1,.own true (aI q),.inr ⟨_,rfl⟩,?_⟩
   ·rcases hy with rfl | ⟨d,rfl⟩ <;> rfl
   ·rw [Wd,ei,Option.toList_some,Z9q])
 rw [Qs] at lp
 rw [Wh] at lp
 exact ⟨y3',hy',lp⟩
theorem v_sr7(rows:List (List Int))(h st:Hd)(l l':List V)(y3 y3':DL)(hy:Ow y3)(hy':Ow y3')(B:SF)
  (lp:Ze (itC (kH st) (st.map fun e=>aI e.2)) (tgT (tgC (Z5 5) (tgC (Z5 3) tgN))) B (st.length + 1) 0 (srS rows (.own true (hD h)) (.own true hole) y3 (.own true (asD l)) .non++[.bor 2 []]) =
   .nx (srS rows (.own true (hD h)) (.own true hole) y3' (.own true (asD l')) .non++[.bor 2 []])) :
  sForD (Z1 2) (tgT (tgC (Z5 5) (tgC (Z5 3) tgN))) B (srS rows (.own true (hD h)) (.own true (hD st)) y3 (.own true (asD l)) .non)=.nx (srS rows (.own true (hD h)) (.own true (hD st)) y3' (.own true (asD l')) .non):=by
 have ha:=atH st
 have a1:∀ j,Zz j y3=y3:=hy.u
 have a2:∀ j,Zz j y3'=y3':=hy'.u
 have b1:∀ j p f,Z1X j p f y3=y3:=hy.k
 have b2:∀ j p f,Z1X j p f y3'=y3':=hy'.k
 clear hy hy'
 simp only [srS,hole,Jh,Je] at lp
 walk_at "evs"
theorem v_sr0(rows:List (List Int))(h:Hd)(F:Fn)(e:F [rwD rows,.nd (.dic true []) [],.nd (.dic true []) []]=.ok (.val (hD h)) [rwD rows,.nd (.dic true []) [],.nd (.dic true []) []]) :
  Zn (ZF [false,false,false] F (Z0 (Z1 0) (Z0 (Z04 (.dic true []) Z2) (Z0 (Z04 (.dic true []) Z2) Z2)))) (Z5 1) (srS rows .non .non .non .non .non)=.nx (srS rows (.own true (hD h)) .non .non .non .non):=by
 walk_at "evs"
theorem Zc3(rows:List (List Int))(h:Hd):Zn (Z04 (.dic true []) Z2) (Z5 2) (srS rows (.own true (hD h)) .non .non .non .non)=.nx (srS rows (.own true (hD h)) (.own true (hD [])) .non .non .non):=by
 walk_at "evs"
 rfl
theorem v_sr3(rows:List (List Int))(hz:rows.length≤20)(h h' st st':Hd)(y3:DL)(B:SF)
  (lp:Ze (itR 0 rows.length) (Z5 3) B (rows.length + 1) 0 (srS rows (.own true (hD h)) (.own true (hD st)) .non .non .non)=.nx (srS rows (.own true (hD h')) (.own true (hD st')) y3 .non .non)) :
  Z1e (Z0 (eNw (hLen K) (Z0 (Z1 0) Z2)) Z2) (Z5 3) B (srS rows (.own true (hD h)) (.own true (hD st)) .non .non .non)=.nx (srS rows (.own true (hD h')) (.own true (hD st')) y3 .non .non):=by
 have b1:(rows.length:Int) < 4611686018427387904:=by omega
 have b2:-4611686018427387904≤(rows.length:Int):=by omega
 clear hz
 simp only [srS] at lp
 walk_at "evs"
theorem v_sr8(rows:List (List Int))(h st:Hd)(l:List V)(y3:DL)(B:SF)(e:B (srS rows .non .non .non .non .non)=.rt (.plc 4 []) (srS rows (.own true (hD h)) (.own true (hD st)) y3 (.own true (asD l)) .non)) :
  ZL 6 [false] B [rwD rows]=.ok (.val (asD l)) [rwD rows]:=by
 simp only [srS] at e
 walk_at "evs"
theorem v_sr9(rows:List (List Int))(h st:Hd)(l:List V)(y3:DL):Z00 (Z1 4) (srS rows (.own true (hD h)) (.own true (hD st)) y3 (.own true (asD l)) .non)=.rt (.plc 4 []) (srS rows (.own true (hD h)) (.own true (hD st)) y3 (.own true (asD l)) .non):=by
 walk_at "evs"
theorem Z6J(rows:List (List Int))(hz:rows.length≤20)(h0:Hd)(M0:Mat rows rows.length h0)(mx:∀ h',Mat rows rows.length h'→h'.length≤h0.length)
  (e0:ZK K A [rwD rows,.nd (.dic true []) [],.nd (.dic true []) []]=.ok (.val (hD h0)) [rwD rows,.nd (.dic true []) [],.nd (.dic true []) []]) :
  ∃ h st,Run rows h0 rows.length h st∧Z0w K A [rwD rows]=.ok (.val (asD (Zf rows.length st))) [rwD rows]:=by
 obtain ⟨h,st,y3,hy,R,lp⟩:=v_srl (K:=K) (A:=A) rows hz h0 M0 mx
 have O:=Z2m M0 R
 obtain ⟨y3',hy',lp2⟩:=v_sr6 (K:=K) (A:=A) rows h st y3 hy O.lt
 have t0:=v_sr0 rows h0 _ e0
 have t1:=Zc3 rows h0
 have t2:=v_sr3 (K:=K) rows hz h0 h [] st y3 _ lp
 have t3:=v_sr4 rows hz h st y3 hy
 have t4:=v_sr7 rows h st _ _ y3 y3' hy hy' _ lp2
 have t5:=v_sr9 rows h st (Zf rows.length st) y3'
 refine ⟨h,st,R,?_⟩
 unfold Z0w
 refine v_sr8 rows h st _ y3' _ ?_
 unfold Z2R
 rw [Zr,t0]
 dsimp only
 rw [Zr,t1]
 dsimp only
 rw [Zr,t2]
 dsimp only
 rw [Zr,t3]
 dsimp only
 refine Zr.trans ?_
 rw [show (List.replicate rows.length V.non)=Zf rows.length [] from rfl,t4]
 exact t5
theorem Z9h{α:Type}[DecidableEq α]{l m:List α}(hn:l.Nodup)(hs:∀ x∈l,x∈m)(hl:m.length≤l.length):∀ x∈m,x∈l:=fun x hx=>by
 by_cases h:x∈l
 ·exact h
 ·have:=Z0p (l:=x::l) (m:=m) (Ji.mpr ⟨h,hn⟩) fun y hy=>by
   rcases Qz.mp hy with rfl | hy
   ·exact hx
   ·exact hs y hy
  rw [Jk] at this
  omega
structure CovL(rr:Nat→List Int)(L:List Nat)(h:Hd)(S:List Int):Prop where
 a:∀ p∈L,p∉hV h→∀ x∈rr p,x∈S
 b:∀ x∈S,x∈hK h
 c:∀ e∈h,e.1∈S→∀ x∈rr e.2,x∈S
theorem Za0{rr:Nat→List Int}{L:List Nat}{h:Hd}{S:List Int}(M:MatL rr L h)(hS:(Z11 rr S L).length + S.length≤h.length):CovL rr L h S:=by
 have e:h.length=(h.filter fun e=>S.contains e.1).length + (h.filter fun e=>!S.contains e.1).length:=by
  have:=Z1O (fun e:Int×Nat=>S.contains e.1) h
  omega
 have n1:((h.filter fun e=>S.contains e.1).map (·.1)).Nodup:=M.kn.sublist (Jb.map _)
 have s1:∀ x∈(h.filter fun e=>S.contains e.1).map (·.1),x∈S:=fun x hx=>by
  obtain ⟨e,he,rfl⟩:=Qi.mp hx
  simpa using (Qn.mp he).2
 have h1:(h.filter fun e=>S.contains e.1).length≤S.length:=by simpa using Z0p n1 s1
 have n2:((h.filter fun e=>!S.contains e.1).map (·.2)).Nodup:=M.vn.sublist (Jb.map _)
 have s2:∀ x∈(h.filter fun e=>!S.contains e.1).map (·.2),x∈Z11 rr S L:=fun x hx=>by
  obtain ⟨e,he,rfl⟩:=Qi.mp hx
  obtain ⟨h3,h4⟩:=Qn.mp he
  exact Z1f.mpr ⟨(M.ed e h3).1,e.1,(M.ed e h3).2,by simpa using h4⟩
 have h2:(h.filter fun e=>!S.contains e.1).length≤(Z11 rr S L).length:=by simpa using Z0p n2 s2
 have u1:=Z9h n1 s1 (by rw [Qs];omega)
 have u2:=Z9h n2 s2 (by rw [Qs];omega)
 refine ⟨fun p hp hn x hx=>?_,fun x hx=>?_,fun e he hs x hx=>?_⟩
 ·by_cases hxs:x∈S
  ·exact hxs
  ·obtain ⟨f,hf,z⟩:=Qi.mp (u2 p (Z1f.mpr ⟨hp,x,hx,hxs⟩))
   exact (hn (z ▸ Qi.mpr ⟨f,(Qn.mp hf).1,rfl⟩)).elim
 ·obtain ⟨f,hf,rfl⟩:=Qi.mp (u1 x hx)
  exact Qi.mpr ⟨f,(Qn.mp hf).1,rfl⟩
 ·by_cases hxs:x∈S
  ·exact hxs
  ·obtain ⟨f,hf,z⟩:=Qi.mp (u2 e.2 (Z1f.mpr ⟨(M.ed e he).1,x,hx,hxs⟩))
   obtain ⟨f1,f2⟩:=Qn.mp hf
   have:=Z4w M.vn f1 he z
   subst this
   simp [hs] at f2
structure At(rows:List (List Int))(h0 st:Hd)(p:Nat)(hp sp:Hd):Prop where
 R:Run rows h0 p hp sp
 mem:∀ e,e∈sp↔e∈st∧e.2 < p
 how:(∃ j x,(rowAt rows p)[j]?=some x∧(x,p)∈st∧x∉hK sp∧∀ y∈(rowAt rows p).take j,Tried rows p hp sp y)∨(p∉hV st∧∀ y∈rowAt rows p,y∈hK sp)
theorem ZbR{rows:List (List Int)}{h0:Hd}(M0:Mat rows rows.length h0){i:Nat}{h st:Hd}(R:Run rows h0 i h st):∀ p,p < i→∃ hp sp,At rows h0 st p hp sp:=by
 induction R with
 | zero=>intro p hp;exact absurd hp (Gp _)
 | @take i j h st r x R h1 h2 h3 h4 h5 ih =>
  intro p hp
  have O:=Z2m M0 R
  by_cases hpi:p=i
  ·subst hpi
   refine ⟨h,st,R,fun e=>⟨fun he=>⟨Qh _ he,O.lt e he⟩,fun ⟨he,hl⟩=>?_⟩,.inl ⟨j,x,h1,by simp,h2,h3⟩⟩
   rcases Qe.mp he with he | he
   ·exact he
   ·rw [Qw.mp he] at hl;exact absurd hl (Js _)
  ·obtain ⟨hp',sp,a⟩:=ih p (by omega)
   refine ⟨hp',sp,a.R,fun e=>?_,?_⟩
   ·rw [a.mem e]
    constructor
    ·rintro ⟨q1,q2⟩;exact ⟨Qh _ q1,q2⟩
    ·rintro ⟨q1,q2⟩
     rcases Qe.mp q1 with q1 | q1
     ·exact ⟨q1,q2⟩
     ·rw [Qw.mp q1] at q2
      have q3:i < p:=q2
      omega
   ·rcases a.how with ⟨j',y,g1,g2,g3,g4⟩ | ⟨g1,g2⟩
    ·exact .inl ⟨j',y,g1,Qh _ g2,g3,g4⟩
    ·refine .inr ⟨fun z=>?_,g2⟩
     obtain ⟨e,he,hep⟩:=Qi.mp z
     rcases Qe.mp he with he | he
     ·exact g1 (hep ▸ Qi.mpr ⟨e,he,rfl⟩)
     ·rw [Qw.mp he] at hep;exact hpi hep.symm
 | @skip i h st R h1 h2 ih =>
  intro p hp
  have O:=Z2m M0 R
  by_cases hpi:p=i
  ·subst hpi
   refine ⟨h,st,R,fun e=>⟨fun he=>⟨he,O.lt e he⟩,fun ⟨he,_⟩=>he⟩,.inr ⟨fun z=>?_,h2⟩⟩
   obtain ⟨e,he,hep⟩:=Qi.mp z
   have:=O.lt e he
   omega
  ·obtain ⟨hp',sp,a⟩:=ih p (by omega)
   exact ⟨hp',sp,a⟩
noncomputable def later(st:Hd)(p:Nat)(y:Int):Hd:=st.filter fun e=>decide (p < e.2) && decide (e.1≠y)
theorem Z2B{st:Hd}{p:Nat}{y:Int}{e:Int×Nat}:e∈later st p y↔e∈st∧p < e.2∧e.1≠y:=by
 unfold later;rw [Qn];simp
structure Blk(rows:List (List Int))(st:Hd)(p:Nat)(y:Int):Prop where
 has:y∈hK st
 cov:∃ S:List Int,(∀ q,p < q→q < rows.length→q∉hV (later st p y)→∀ z∈rowAt rows q,z≠y→(∀ e∈st,e.1=z→p≤e.2)→z∈S)∧(∀ z∈S,z∈hK (later st p y)) ∧
  ∀ e∈later st p y,e.1∈S→∀ z∈rowAt rows e.2,z≠y→(∀ f∈st,f.1=z→p≤f.2)→z∈S
theorem ZaT{rows:List (List Int)}{h0 h st hp sp:Hd}{p j:Nat}{x y:Int}(M0:Mat rows rows.length h0)(mx:∀ h',Mat rows rows.length h'→h'.length≤h0.length)(R:Run rows h0 rows.length h st)
  (a:At rows h0 st p hp sp) (hx:(x,p)∈st) (hxs:x∉hK sp) (hy:y∈rowAt rows p) (hys:y∉hK sp) (hT:Tried rows p hp sp y):Blk rows st p y:=by
 have O:=Z2m M0 R
 have Op:=Z2m M0 a.R
 have hst:=ZaD M0 R
 have Ms:Mat rows rows.length st:=⟨O.kn,O.vn,fun e he=>O.M.ed e (O.sub e he)⟩
 have hpl:p < rows.length:=(Ms.ed _ hx).1
 obtain ⟨r,sm,hne⟩:∃ r,SM rows (ZQ p y hp) (sp++[(y,p)]) r∧r.length≠hp.length:=hT.resolve_left hys
 have hr:r.length < h0.length:=by
  have l1:=mx r sm.M
  have l2:=Op.len
  omega
 have kn:=Z6l (p:=p) Op.kn hys
 have big:∀ N,Mat rows rows.length N→(∀ e∈sp++[(y,p)],e∈N)→N.length < h0.length:=fun N M hs=>by
  have:=sm.mx kn M hs
  omega
 have hsp:∀ e∈sp,e∈st∧e.2 < p:=fun e he=>(a.mem e).mp he
 have hxy:y≠x:=fun z=>by
  subst z
  have:=big st Ms fun e he=>by
   rcases Qe.mp he with he | he
   ·exact (hsp e he).1
   ·rw [Qw.mp he];exact hx
  omega
 have base:∀ (g:Int×Nat→Bool),(∀ e∈st,g e=true→e.2≠p∧e.1≠y)→(∀ e∈sp,g e=true)→Mat rows rows.length ((y,p)::st.filter g)∧∀ e∈sp++[(y,p)],e∈(y,p)::st.filter g:=fun g hg hgs=>by
  refine ⟨⟨?_,?_,fun e he=>?_⟩,fun e he=>?_⟩
  ·show (((y,p)::st.filter g).map (·.1)).Nodup
   rw [Ql,Ji]
   refine ⟨fun z=>?_,O.kn.sublist (Jb.map _)⟩
   obtain ⟨e,he,z⟩:=Qi.mp z
   obtain ⟨e1,e2⟩:=Qn.mp he
   exact (hg e e1 e2).2 z
  ·show (((y,p)::st.filter g).map (·.2)).Nodup
   rw [Ql,Ji]
   refine ⟨fun z=>?_,O.vn.sublist (Jb.map _)⟩
   obtain ⟨e,he,z⟩:=Qi.mp z
   obtain ⟨e1,e2⟩:=Qn.mp he
   exact (hg e e1 e2).1 z
  ·rcases Qz.mp he with rfl | he
   ·exact ⟨hpl,hy⟩
   ·exact Ms.ed e (Qn.mp he).1
  ·rcases Qe.mp he with he | he
   ·exact Qv _ (Qn.mpr ⟨(hsp e he).1,hgs e he⟩)
   ·rw [Qw.mp he];exact Qy
 have hgs:∀ e∈sp,e.2≠p∧e.1≠y:=fun e he=>⟨by have:=(hsp e he).2;omega,fun z=>hys (z ▸ Qi.mpr ⟨e,he,rfl⟩)⟩
 have outp:(st.filter fun e=>!decide (e.2≠p)).length≤1:=by
  have:=Z0p (l:=(st.filter fun e=>!decide (e.2≠p)).map (·.2)) (m:=[p]) (O.vn.sublist (Jb.map _)) fun q hq=>by
   obtain ⟨e,he,rfl⟩:=Qi.mp hq
   have:=(Qn.mp he).2
   simpa using this
  simpa using this
 have hy2:y∈hK st:=by
  by_cases hyk:y∈hK st
  ·exact hyk
  ·obtain ⟨M1,s1⟩:=base (fun e=>decide (e.2≠p)) (fun e he hg=>⟨by simpa using hg,fun z=>hyk (z ▸ Qi.mpr ⟨e,he,rfl⟩)⟩) fun e he=>by simpa using (hgs e he).1
   have l1:=big _ M1 s1
   have l2:=Z1O (fun e:Int×Nat=>decide (e.2≠p)) st
   rw [Jk] at l1
   omega
 refine ⟨hy2,?_⟩
 obtain ⟨M1,s1⟩:=base (fun e=>decide (e.2≠p) && decide (e.1≠y)) (fun e he hg=>by simpa using hg) fun e he=>by simpa using hgs e he
 have l1:=big _ M1 s1
 have l2:=Z1O (fun e:Int×Nat=>decide (e.2≠p) && decide (e.1≠y)) st
 have l3:(st.filter fun e=>!(decide (e.2≠p) && decide (e.1≠y))).length≤2:=by
  have:=Z0p (l:=(st.filter fun e=>!(decide (e.2≠p) && decide (e.1≠y))).map (·.1)) (m:=[x,y]) (O.kn.sublist (Jb.map _)) fun z hz=>by
   obtain ⟨e,he,rfl⟩:=Qi.mp hz
   obtain ⟨e1,e2⟩:=Qn.mp he
   by_cases q1:e.1=y
   ·simp [q1]
   ·have q2:e.2=p:=by simpa [q1] using e2
    have:=Z4w O.vn e1 hx q2
    rw [this];simp
  simpa using this
 rw [Jk] at l1
 obtain ⟨S,hS⟩:=sm.cov
 have k1:=Z26 sm.M sm.keep kn
 have k2:=Z26 M1 s1 kn
 rw [Jk] at k2
 have lr:=sm.mx kn M1 s1
 rw [Jk] at lr
 have mm:MatL (red rows (sp++[(y,p)])) (List.range rows.length) (minus ((y,p)::st.filter fun e=>decide (e.2≠p) && decide (e.1≠y)) (sp++[(y,p)])):=Z4b M1 s1 fun e he _=>Wi.mpr (M1.ed e he).1
 have cv:=Za0 mm (S:=S) (by omega)
 have kept:∀ z,z∈hK (sp++[(y,p)])↔z∈hK sp∨z=y:=fun z=>by
  show z∈(sp++[(y,p)]).map (·.1)↔_
  rw [Qt];simp
 have keptV:∀ q,q∈hV (sp++[(y,p)])↔q∈hV sp∨q=p:=fun q=>by
  show q∈(sp++[(y,p)]).map (·.2)↔_
  rw [Qt];simp
 have lat:∀ e,e∈minus ((y,p)::st.filter fun e=>decide (e.2≠p) && decide (e.1≠y)) (sp++[(y,p)])↔e∈later st p y:=fun e=>by
  rw [Z25,Z2B,kept]
  constructor
  ·rintro ⟨q1,q2⟩
   rcases Qz.mp q1 with rfl | q1
   ·exact (q2 (.inr rfl)).elim
   ·obtain ⟨q3,q4⟩:=Qn.mp q1
    have q5:e.2≠p∧e.1≠y:=by simpa using q4
    refine ⟨q3,?_,q5.2⟩
    by_cases hlt:e.2 < p
    ·exact (q2 (.inl (Qi.mpr ⟨e,(a.mem e).mpr ⟨q3,hlt⟩,rfl⟩))).elim
    ·omega
  ·rintro ⟨q1,q2,q3⟩
   refine ⟨Qv _ (Qn.mpr ⟨q1,?_⟩),?_⟩
   ·have:e.2≠p:=by omega
    simp [this,q3]
   ·rintro (z | z)
    ·obtain ⟨f,hf,hfe⟩:=Qi.mp z
     have:=Z3l O.kn (hsp f hf).1 q1 hfe
     subst this
     have:=(hsp f hf).2
     omega
    ·exact q3 z
 have inred:∀ q z,p < q→z∈rowAt rows q→z≠y→(∀ e∈st,e.1=z→p≤e.2)→z∈red rows (sp++[(y,p)]) q:=fun q z h1 h2 h3 h4=>by
  refine Z3n.mpr ⟨fun w=>?_,h2,fun w=>?_⟩
  ·rcases (keptV q).mp w with w | w
   ·obtain ⟨e,he,hq⟩:=Qi.mp w
    have:=(hsp e he).2
    omega
   ·omega
  ·rcases (kept z).mp w with w | w
   ·obtain ⟨e,he,hz⟩:=Qi.mp w
    have g1:=hsp e he
    have:=h4 e g1.1 hz
    omega
   ·exact h3 w
 refine ⟨S,fun q h1 h2 h3 z h4 h5 h6=>cv.a q (Wi.mpr h2) (fun w=>?_) z (inred q z h1 h4 h5 h6),fun z hz=>?_,fun e he h1 z h2 h3 h4=>cv.c e ((lat e).mpr he) h1 z (inred e.2 z (Z2B.mp he).2.1 h2 h3 h4)⟩
 ·obtain ⟨e,he,hq⟩:=Qi.mp w
  exact h3 (hq ▸ Qi.mpr ⟨e,(lat e).mp he,rfl⟩)
 ·obtain ⟨e,he,hq⟩:=Qi.mp (cv.b z hz)
  exact Qi.mpr ⟨e,(lat e).mp he,hq⟩
theorem Z6k{c:BF}{body:SF}(P:Nat→Sd→Prop)(Q:Sd→Prop)
  (hs:∀ m s,P m s→∃ b s1,c s=.ok b s1∧(b=false→Q s1)∧(b=true→∃ s2 m',body s1=.nx s2∧P m' s2∧m' < m)) :
  ∀ (f m:Nat) (s:Sd),m < f→P m s→∃ s',Z1k c body f s=.nx s'∧Q s'
 | 0,m,s,hm,_=>absurd hm (Gp _)
 | f + 1,m,s,hm,h=>by
  obtain ⟨b,s1,h1,h2,h3⟩:=hs m s h
  cases b with
  | false=>exact ⟨s1,by unfold Z1k;rw [h1],h2 rfl⟩
  | true =>
   obtain ⟨s2,m',h4,h5,h6⟩:=h3 rfl
   have e:Z1k c body (f + 1) s=Z1k c body f s2:=by
    conv=>lhs;unfold Z1k
    rw [h1];dsimp only
    rw [h4]
   rw [e]
   exact Z6k P Q hs f m' s2 (by omega) h5
noncomputable abbrev wyS(rows:List (List Int))(L:List V)(p:Nat)(y:Int)(y4 y5 y6 y7 y8 y9:DL):Sd:=[.bor 10 [],.bor 11 [],.own true (aI p),.own true (aI y),y4,y5,y6,y7,y8,y9,.own false (rwD rows),.own false (asD L),.non,.non]
theorem v_wy0(rows:List (List Int))(L:List V)(p:Nat)(y:Int):Zn (eDict [((Z1 3),(eC (.bl true)))]) (Z5 4) (wyS rows L p y .non .non .non .non .non .non)=.nx (wyS rows L p y (.own true (jD [y])) .non .non .non .non .non):=by
 have nd:([kG y]:List Key).Nodup:=by simp
 walk_at "evs"
 rfl
theorem v_wy1(rows:List (List Int))(L:List V)(p:Nat)(y:Int)(a:List Int)(k:Nat)(hk:L[k]?=some .non) :
  Z0C K A (wyS rows L p y (.own true (jD a)) (.own true (aI k)) .non .non .non .non)=.nx (wyS rows L p y (.own true (jD a)) (.own true (aI k)) .non .non .non .non):=by
 have hl:=(Qc.mp hk).1
 have e1:(L.map D.at)[k]?=some (.at .non):=by rw [Qa,hk];rfl
 have e2:ixN L.length (k:Int)=some k:=Z0L (by omega)
 clear hl hk
 unfold Z0C
 walk_at "evs"
theorem v_wy2(rows:List (List Int))(L:List V)(p:Nat)(y:Int)(a:List Int)(k:Nat)(x:Int)(hk:L[k]?=some (.int x))(hz:a.length < 16777216) :
  Z0C K A (wyS rows L p y (.own true (jD a)) (.own true (aI k)) .non .non .non .non)=.nx (wyS rows L p y (.own true (jD (if a.contains x then a else a++[x]))) (.own true (aI k)) .non .non .non .non):=by
 have hl:=(Qc.mp hk).1
 have e1:(L.map D.at)[k]?=some (aI x):=by rw [Qa,hk];rfl
 have e2:ixN L.length (k:Int)=some k:=Z0L (by omega)
 clear hl hk
 by_cases h:x∈a
 ·obtain ⟨j,h1,h2⟩:=Z6b h
  rw [if_pos (by simpa using h)]
  have sb:=ZbS a j
  unfold Z0C Z2G
  walk_at "evs"
 ·have h1:=Z8z h
  rw [if_neg (by simpa using h)]
  have e:jD (a++[x])=.nd (.dic true (a.map kG++[Sum.inl x])) (List.map (fun _=>bT) a++[bT]):=by
   show D.nd (.dic true ((a++[x]).map kG)) ((a++[x]).map fun _=>bT)=_
   rw [Qt,Qt];rfl
  unfold Z0C Z2G
  walk_at "evs"
theorem v_wy3(rows:List (List Int))(L:List V)(p:Nat)(y:Int)(hp:p < L.length)(hL:∀ v∈L,v=.non∨∃ x,v=.int x)(hz:L.length < 1000) :
  ∃ a y5,Ow y5∧a.length≤p + 1∧(∀ z,z∈a↔z=y∨∃ q,q < p∧L[q]?=some (.int z)) ∧
  Ze (itR 0 p) (Z5 5) (Z0C K A) (p + 1) 0 (wyS rows L p y (.own true (jD [y])) .non .non .non .non .non)=.nx (wyS rows L p y (.own true (jD a)) y5 .non .non .non .non):=by
 obtain ⟨s',lp,a,y5,hy5,hl,ha,rfl⟩:=Z20 (lo:=0) (n:=p) (b:=Z5 5) (body:=Z0C K A) (s:=wyS rows L p y (.own true (jD [y])) .non .non .non .non .non)
  (fun i s=>∃ (a:List Int) (y5:DL),Ow y5∧a.length≤i + 1∧(∀ z,z∈a↔z=y∨∃ q,q < i∧L[q]?=some (.int z))∧s=wyS rows L p y (.own true (jD a)) y5 .non .non .non .non) ⟨[y],.non,.inl rfl,by simp,fun z=>by simp,rfl⟩ (by
  rintro i s hi ⟨a,y5,hy5,hl,ha,rfl⟩
  have e0:(0 + (i:Int))=(i:Int):=by omega
  rw [e0]
  have hx:L[i]?=some (L[i]'(by omega)):=Qj _
  have e1:Z5 5 (wyS rows L p y (.own true (jD a)) y5 .non .non .non .non) (.val (aI i))=some (wyS rows L p y (.own true (jD a)) (.own true (aI i)) .non .non .non .non):=by
   rcases hy5 with rfl | ⟨d,rfl⟩ <;> rfl
  rcases hL _ (Qf hx) with h0 | ⟨x,h0⟩
  ·rw [h0] at hx
   refine ⟨_,_,e1,.inl (v_wy1 rows L p y a i hx),a,.own true (aI i),.inr ⟨_,rfl⟩,by omega,fun z=>?_,rfl⟩
   rw [ha z]
   constructor
   ·rintro (q | ⟨q,q1,q2⟩)
    ·exact .inl q
    ·exact .inr ⟨q,by omega,q2⟩
   ·rintro (q | ⟨q,q1,q2⟩)
    ·exact .inl q
    ·by_cases hqi:q=i
     ·subst hqi;rw [hx] at q2;cases q2
     ·exact .inr ⟨q,by omega,q2⟩
  ·rw [h0] at hx
   refine ⟨_,_,e1,.inl (v_wy2 rows L p y a i x hx (by omega)),_,.own true (aI i),.inr ⟨_,rfl⟩,?_,fun z=>?_,rfl⟩
   ·split
    ·omega
    ·rw [Ja,Jq];omega
   ·have m1:z∈(if a.contains x then a else a++[x])↔z∈a∨z=x:=by
     by_cases hxa:x∈a
     ·rw [if_pos (by simpa using hxa)]
      constructor
      ·exact .inl
      ·rintro (q | rfl)
       ·exact q
       ·exact hxa
     ·rw [if_neg (by simpa using hxa)];simp
    rw [m1,ha z]
    constructor
    ·rintro ((q | ⟨q,q1,q2⟩) | rfl)
     ·exact .inl q
     ·exact .inr ⟨q,by omega,q2⟩
     ·exact .inr ⟨i,by omega,hx⟩
    ·rintro (q | ⟨q,q1,q2⟩)
     ·exact .inl (.inl q)
     ·by_cases hqi:q=i
      ·subst hqi;rw [hx] at q2;cases q2;exact .inr rfl
      ·exact .inl (.inr ⟨q,by omega,q2⟩))
 exact ⟨a,y5,hy5,hl,ha,lp⟩
theorem Zc5(rows:List (List Int))(L:List V)(p:Nat)(y:Int)(a:List Int)(hh:Hd)(qs:List Nat)(k:Nat)(hk:L[k]?=some .non)(hz:qs.length < 16777216) :
  Z0r K A (wyS rows L p y (.own true (jD a)) (.own true (aI k)) (.own true (hD hh)) (.own true (lfD qs)) .non .non)=.nx (wyS rows L p y (.own true (jD a)) (.own true (aI k)) (.own true (hD hh)) (.own true (lfD (qs++[k]))) .non .non):=by
 have hl:=(Qc.mp hk).1
 have e1:(L.map D.at)[k]?=some (.at .non):=by rw [Qa,hk];rfl
 have e2:ixN L.length (k:Int)=some k:=Z0L (by omega)
 have e:lfD (qs++[k])=.nd (.lst true) ((qs.map fun p:Nat=>aI p)++[aI k]):=by
  show D.nd (.lst true) ((qs++[k]).map fun p:Nat=>aI p)=_
  rw [Qt];rfl
 rw [e]
 clear hl hk
 unfold Z0r
 walk_at "evs"
theorem Zc6(rows:List (List Int))(L:List V)(p:Nat)(y:Int)(a:List Int)(hh:Hd)(qs:List Nat)(k:Nat)(hk:L[k]?=some (.int y))(hz:qs.length < 16777216) :
  Z0r K A (wyS rows L p y (.own true (jD a)) (.own true (aI k)) (.own true (hD hh)) (.own true (lfD qs)) .non .non)=.nx (wyS rows L p y (.own true (jD a)) (.own true (aI k)) (.own true (hD hh)) (.own true (lfD (qs++[k]))) .non .non):=by
 have hl:=(Qc.mp hk).1
 have e1:(L.map D.at)[k]?=some (aI y):=by rw [Qa,hk];rfl
 have e2:ixN L.length (k:Int)=some k:=Z0L (by omega)
 have e:lfD (qs++[k])=.nd (.lst true) ((qs.map fun p:Nat=>aI p)++[aI k]):=by
  show D.nd (.lst true) ((qs++[k]).map fun p:Nat=>aI p)=_
  rw [Qt];rfl
 rw [e]
 clear hl hk
 unfold Z0r
 walk_at "evs"
theorem Zc7(rows:List (List Int))(L:List V)(p:Nat)(y:Int)(a:List Int)(hh:Hd)(qs:List Nat)(k:Nat)(x:Int)(hk:L[k]?=some (.int x))(hxy:¬ x=y)(hn:idk (kG x) (kH hh)=none)(hz:hh.length < 16777216) :
  Z0r K A (wyS rows L p y (.own true (jD a)) (.own true (aI k)) (.own true (hD hh)) (.own true (lfD qs)) .non .non)=.nx (wyS rows L p y (.own true (jD a)) (.own true (aI k)) (.own true (hD (hh++[(x,k)]))) (.own true (lfD qs)) .non .non):=by
 have hl:=(Qc.mp hk).1
 have e1:(L.map D.at)[k]?=some (aI x):=by rw [Qa,hk];rfl
 have e2:ixN L.length (k:Int)=some k:=Z0L (by omega)
 rw [Z47]
 clear hl hk
 unfold Z0r Z3B
 walk_at "evs"
structure HQ(L:List V)(p m:Nat)(y:Int)(hh:Hd)(qs:List Nat):Prop where
 h:∀ z q,(z,q)∈hh↔p < q∧q < m∧L[q]?=some (.int z)∧z≠y
 q:∀ k,k∈qs↔p < k∧k < m∧(L[k]?=some .non∨L[k]?=some (.int y))
 hl:hh.length≤m
 ql:qs.length≤m
 nd:(hK hh).Nodup
theorem v_wy5(rows:List (List Int))(L:List V)(p:Nat)(y:Int)(a:List Int)(y5:DL)(hy5:Ow y5)(hp:p < L.length)(hL:∀ v∈L,v=.non∨∃ x,v=.int x)(hon:∀ (q q':Nat) x,L[q]?=some (.int x)→L[q']?=some (.int x)→q=q')(hz:L.length < 1000) :
  ∃ hh qs y5',Ow y5'∧HQ L p L.length y hh qs ∧
  Ze (itR ((p:Int) + 1) (L.length - (p + 1))) (Z5 5) (Z0r K A) (L.length - (p + 1) + 1) 0 (wyS rows L p y (.own true (jD a)) y5 (.own true (hD [])) (.own true (lfD [])) .non .non)=.nx (wyS rows L p y (.own true (jD a)) y5' (.own true (hD hh)) (.own true (lfD qs)) .non .non):=by
 obtain ⟨s',lp,hh,qs,y5',hy5',hq,rfl⟩:=Z20 (lo:=(p:Int) + 1) (n:=L.length - (p + 1)) (b:=Z5 5) (body:=Z0r K A) (s:=wyS rows L p y (.own true (jD a)) y5 (.own true (hD [])) (.own true (lfD [])) .non .non)
  (fun i s=>∃ (hh:Hd) (qs:List Nat) (y5:DL),Ow y5∧HQ L p (p + 1 + i) y hh qs∧s=wyS rows L p y (.own true (jD a)) y5 (.own true (hD hh)) (.own true (lfD qs)) .non .non)
  ⟨[],[],y5,hy5,⟨fun z q=>⟨(fun h=>by cases h),(fun h=>by omega)⟩,fun k=>⟨(fun h=>by cases h),(fun h=>by omega)⟩,by simp,by simp,Wq⟩,rfl⟩ (by
  rintro i s hi ⟨hh,qs,y5,hy5,hq,rfl⟩
  have e0:((p:Int) + 1 + (i:Int))=((p + 1 + i:Nat):Int):=by omega
  rw [e0]
  generalize hm:p + 1 + i=m at *
  have hx:L[m]?=some (L[m]'(by omega)):=Qj _
  have e1:Z5 5 (wyS rows L p y (.own true (jD a)) y5 (.own true (hD hh)) (.own true (lfD qs)) .non .non) (.val (aI m))=some (wyS rows L p y (.own true (jD a)) (.own true (aI m)) (.own true (hD hh)) (.own true (lfD qs)) .non .non):=by
   rcases hy5 with rfl | ⟨d,rfl⟩ <;> rfl
  have em:p + 1 + (i + 1)=m + 1:=by omega
  rw [em]
  have addq:(L[m]?=some .non∨L[m]?=some (.int y))→HQ L p (m + 1) y hh (qs++[m]):=fun hc=>by
   refine ⟨fun z q=>?_,fun k=>?_,by have:=hq.hl;omega,by rw [Ja,Jq];have:=hq.ql;omega,hq.nd⟩
   ·rw [hq.h]
    constructor
    ·rintro ⟨g1,g2,g3⟩;exact ⟨g1,by omega,g3⟩
    ·rintro ⟨g1,g2,g3,g4⟩
     by_cases hqm:q=m
     ·subst hqm
      rcases hc with hc | hc
      ·rw [hc] at g3;cases g3
      ·rw [hc] at g3;cases g3;exact (g4 rfl).elim
     ·exact ⟨g1,by omega,g3,g4⟩
   ·rw [Qe,hq.q]
    constructor
    ·rintro (⟨g1,g2,g3⟩ | g)
     ·exact ⟨g1,by omega,g3⟩
     ·rw [Qw.mp g];exact ⟨by omega,by omega,hc⟩
    ·rintro ⟨g1,g2,g3⟩
     by_cases hkm:k=m
     ·exact .inr (by simp [hkm])
     ·exact .inl ⟨g1,by omega,g3⟩
  have ql:=hq.ql
  have hl:=hq.hl
  rcases hL _ (Qf hx) with h0 | ⟨x,h0⟩
  ·rw [h0] at hx
   exact ⟨_,_,e1,.inl (Zc5 rows L p y a hh qs m hx (by omega)),hh,qs++[m],.own true (aI m),.inr ⟨_,rfl⟩,addq (.inl hx),rfl⟩
  ·rw [h0] at hx
   by_cases hxy:x=y
   ·subst hxy
    exact ⟨_,_,e1,.inl (Zc6 rows L p x a hh qs m hx (by omega)),hh,qs++[m],.own true (aI m),.inr ⟨_,rfl⟩,addq (.inr hx),rfl⟩
   ·have hnk:x∉hK hh:=fun z=>by
     obtain ⟨e,he,hez⟩:=Qi.mp z
     obtain ⟨g1,g2,g3,g4⟩:=(hq.h e.1 e.2).mp he
     rw [hez] at g3
     have:=hon _ _ x g3 hx
     omega
    have hn:idk (kG x) (kH hh)=none:=Z3j hnk
    refine ⟨_,_,e1,.inl (Zc7 rows L p y a hh qs m x hx hxy hn (by omega)),hh++[(x,m)],qs,.own true (aI m),.inr ⟨_,rfl⟩,⟨fun z q=>?_,fun k=>?_,by rw [Ja,Jq];omega,by omega,Z6l hq.nd hnk⟩,rfl⟩
    ·rw [Qe,hq.h]
     constructor
     ·rintro (⟨g1,g2,g3,g4⟩ | g)
      ·exact ⟨g1,by omega,g3,g4⟩
      ·cases Qw.mp g;exact ⟨by omega,by omega,hx,hxy⟩
     ·rintro ⟨g1,g2,g3,g4⟩
      by_cases hqm:q=m
      ·subst hqm
       rw [hx] at g3;cases g3
       exact .inr (by simp)
      ·exact .inl ⟨g1,by omega,g3,g4⟩
    ·rw [hq.q]
     constructor
     ·rintro ⟨g1,g2,g3⟩;exact ⟨g1,by omega,g3⟩
     ·rintro ⟨g1,g2,g3⟩
      by_cases hkm:k=m
      ·subst hkm
       rcases g3 with g3 | g3
       ·rw [hx] at g3;cases g3
       ·rw [hx] at g3;cases g3;exact (hxy rfl).elim
      ·exact ⟨g1,by omega,g3⟩)
 have e2:p + 1 + (L.length - (p + 1))=L.length:=by omega
 rw [e2] at hq
 exact ⟨hh,qs,y5',hy5',hq,lp⟩
theorem Zc8(rows:List (List Int))(L:List V)(p:Nat)(y:Int)(a:List Int)(y5:DL)(hy5:Ow y5)(hh:Hd)(qs:List Nat)(q:Nat)(z:Int)(hz:z∈a) :
  Z0O K A (wyS rows L p y (.own true (jD a)) y5 (.own true (hD hh)) (.own true (lfD qs)) (.own true (aI q)) (.own true (aI z))++[.bor 10 [q]])=.nx (wyS rows L p y (.own true (jD a)) y5 (.own true (hD hh)) (.own true (lfD qs)) (.own true (aI q)) .non++[.bor 10 [q]]):=by
 obtain ⟨j,h1,h2⟩:=Z6b hz
 have a5:∀ j,Zz j y5=y5:=hy5.u
 clear hy5
 unfold Z0O
 walk_at "evs"
theorem Zc9(rows:List (List Int))(L:List V)(p:Nat)(y:Int)(a:List Int)(y5:DL)(hy5:Ow y5)(hh:Hd)(qs:List Nat)(q q' j:Nat)(z:Int)(hz:z∉a)(hi:idk (kG z) (kH hh)=some j)(hj:hh[j]?=some (z,q'))(l1:a.length < 16777216)(l2:qs.length < 16777216) :
  Z0O K A (wyS rows L p y (.own true (jD a)) y5 (.own true (hD hh)) (.own true (lfD qs)) (.own true (aI q)) (.own true (aI z))++[.bor 10 [q]])=.nx (wyS rows L p y (.own true (jD (a++[z]))) y5 (.own true (hD hh)) (.own true (lfD (qs++[q']))) (.own true (aI q)) .non++[.bor 10 [q]]):=by
 have h1:=Z8z hz
 have hj2:(hh.map fun e=>aI e.2)[j]?=some (aI q'):=by rw [Qa,hj];rfl
 have a5:∀ j,Zz j y5=y5:=hy5.u
 have k5:∀ j p f,Z1X j p f y5=y5:=hy5.k
 have e:jD (a++[z])=.nd (.dic true (a.map kG++[Sum.inl z])) (List.map (fun _=>bT) a++[bT]):=by
  show D.nd (.dic true ((a++[z]).map kG)) ((a++[z]).map fun _=>bT)=_
  rw [Qt,Qt];rfl
 have e2:lfD (qs++[q'])=.nd (.lst true) ((qs.map fun p:Nat=>aI p)++[aI q']):=by
  show D.nd (.lst true) ((qs++[q']).map fun p:Nat=>aI p)=_
  rw [Qt];rfl
 rw [e,e2]
 clear hy5 hj
 unfold Z0O
 walk_at "evs"
noncomputable def Goo(rows:List (List Int))(st:Hd)(p:Nat)(y:Int)(S:List Int)(k:Nat):Prop:=p < k∧k < rows.length∧∀ z∈rowAt rows k,z≠y→(∀ e∈st,e.1=z→p≤e.2)→z∈S
structure WI(rows:List (List Int))(st:Hd)(p:Nat)(y:Int)(S:List Int)(hh:Hd)(a:List Int)(qs:List Nat)(m:Nat):Prop where
 g:∀ k∈qs,Goo rows st p y S k
 y:y∈a
 f:∀ e∈st,e.2 < p→e.1∈a
 al:a.length + free hh a≤100
 ml:qs.length + free hh a≤m
theorem v_wy7(rows:List (List Int))(L:List V)(st:Hd)(p:Nat)(y:Int)(S:List Int)(y5:DL)(hy5:Ow y5)(hh:Hd)(hn:(hK hh).Nodup)(hS:∀ z∈S,z∈hK hh)(hc:∀ e∈hh,e.1∈S→Goo rows st p y S e.2)(a:List Int)(qs:List Nat)(m q:Nat)(hq:Goo rows st p y S q)(hm:m < 1000)(W:WI rows st p y S hh a qs m) :
  ∃ a' qs',WI rows st p y S hh a' qs' m∧Ze (itP false 14 10 [q]) (Z5 9) (Z0O K A) ((rowAt rows q).length + 1) 0 (wyS rows L p y (.own true (jD a)) y5 (.own true (hD hh)) (.own true (lfD qs)) (.own true (aI q)) .non++[.bor 10 [q]]) =
   .nx (wyS rows L p y (.own true (jD a')) y5 (.own true (hD hh)) (.own true (lfD qs')) (.own true (aI q)) .non++[.bor 10 [q]]):=by
 obtain ⟨s',lp,a',qs',W',rfl⟩:=Z4E (t:=false) (n:=14) (k:=10) (p:=[q]) (l:=(rowAt rows q).map aI) (kd:=.lst true) (b:=Z5 9) (body:=Z0O K A) (s:=wyS rows L p y (.own true (jD a)) y5 (.own true (hD hh)) (.own true (lfD qs)) (.own true (aI q)) .non++[.bor 10 [q]]) (.inl ⟨rfl,true,rfl⟩)
  (fun i s=>∃ a qs,WI rows st p y S hh a qs m∧s=wyS rows L p y (.own true (jD a)) y5 (.own true (hD hh)) (.own true (lfD qs)) (.own true (aI q)) .non++[.bor 10 [q]]) ⟨a,qs,W,rfl⟩
  (by
   rintro i s ⟨a,qs,_,rfl⟩
   refine ⟨by simp [held,wyS],?_⟩
   have hql:=hq.2.1
   have e1:=Z2n hql
   clear hq hql W
   walk_at "evs")
  (by
   rintro i s c hcc ⟨a,qs,W,rfl⟩
   rw [Qa] at hcc
   cases ex:(rowAt rows q)[i]? with
   | none=>rw [ex] at hcc;cases hcc
   | some z =>
    rw [ex] at hcc
    cases hcc
    have hz:z∈rowAt rows q:=Qf ex
    have e0:Z5 9 (wyS rows L p y (.own true (jD a)) y5 (.own true (hD hh)) (.own true (lfD qs)) (.own true (aI q)) .non++[.bor 10 [q]]) (mkV 10 ([q]++[i]) (aI z))=some (wyS rows L p y (.own true (jD a)) y5 (.own true (hD hh)) (.own true (lfD qs)) (.own true (aI q)) (.own true (aI z))++[.bor 10 [q]]):=by
     rcases hy5 with rfl | ⟨d,rfl⟩ <;> rfl
    by_cases hza:z∈a
    ·exact ⟨_,_,e0,.inl (Zc8 rows L p y a y5 hy5 hh qs q z hza),a,qs,W,rfl⟩
    ·have hzS:z∈S:=hq.2.2 z hz (fun w=>hza (w ▸ W.y)) fun e he hez=>by
      by_cases hlt:e.2 < p
      ·exact (hza (hez ▸ W.f e he hlt)).elim
      ·omega
     have hzh:=hS z hzS
     obtain ⟨j,q',h1,h2⟩:=Z2J hzh
     have fl:=Z7s hn hzh hza
     have al:=W.al
     have ml:=W.ml
     refine ⟨_,_,e0,.inl (Zc9 rows L p y a y5 hy5 hh qs q q' j z hza h1 h2 (by omega) (by omega)),a++[z],qs++[q'],⟨fun k hk=>?_,Qh _ W.y,fun e he hlt=>Qh _ (W.f e he hlt),?_,?_⟩,rfl⟩
     ·rcases Qe.mp hk with hk | hk
      ·exact W.g k hk
      ·rw [Qw.mp hk];exact hc _ (Qf h2) hzS
     ·rw [Ja,Jq];omega
     ·rw [Ja,Jq];omega)
 rw [Qs] at lp
 exact ⟨a',qs',W',lp⟩
theorem v_wy8(rows:List (List Int))(L:List V)(p:Nat)(y:Int)(a a':List Int)(y5:DL)(hy5:Ow y5)(hh:Hd)(qs qs':List Nat)(q:Nat)(hq:q < rows.length)(B:SF)
  (lp:Ze (itP false 14 10 [q]) (Z5 9) B ((rowAt rows q).length + 1) 0 (wyS rows L p y (.own true (jD a)) y5 (.own true (hD hh)) (.own true (lfD qs)) (.own true (aI q)) .non++[.bor 10 [q]]) =
   .nx (wyS rows L p y (.own true (jD a')) y5 (.own true (hD hh)) (.own true (lfD qs')) (.own true (aI q)) .non++[.bor 10 [q]])) :
  Z15 [8,9] (Zj (Zn (ePop0 (Z1 7)) (Z5 8)) (Z1y (eCh (hIx K) (Z0 (Z1 0) (Z0 (Z1 8) Z2))) (Z5 9) B)) (wyS rows L p y (.own true (jD a)) y5 (.own true (hD hh)) (.own true (lfD (q::qs))) .non .non)=.nx (wyS rows L p y (.own true (jD a')) y5 (.own true (hD hh)) (.own true (lfD qs')) .non .non):=by
 have e1:=Z2n hq
 have e2:ixN rows.length (q:Int)=some q:=Z0L (by omega)
 have ha:(qs.map fun p:Nat=>aI p).all isAt=true:=by rw [List.all_map,Np];intro e _;rfl
 have a5:∀ j,Zz j y5=y5:=hy5.u
 have k5:∀ j p f,Z1X j p f y5=y5:=hy5.k
 clear hy5 hq
 simp only [wyS,Jh,Je] at lp
 show Z15 [8,9] (Zj (Zn (ePop0 (Z1 7)) (Z5 8)) (Z1y (eCh (hIx K) (Z0 (Z1 0) (Z0 (Z1 8) Z2))) (Z5 9) B)) (wyS rows L p y (.own true (jD a)) y5 (.own true (hD hh)) (.own true (.nd (.lst true) (aI q::qs.map fun p:Nat=>aI p))) .non .non)=_
 walk_at "evs"
noncomputable abbrev wyT(K:Qd):BF:=bV (eNw hGt (Z0 (eNw (hLen K) (Z0 (Z1 7) Z2)) (Z0 (eC (.int (0))) Z2)))
theorem v_wy9(rows:List (List Int))(L:List V)(p:Nat)(y:Int)(a:List Int)(y5:DL)(hh:Hd)(qs:List Nat):wyT K (wyS rows L p y (.own true (jD a)) y5 (.own true (hD hh)) (.own true (lfD qs)) .non .non)=.ok (decide (0 < qs.length)) (wyS rows L p y (.own true (jD a)) y5 (.own true (hD hh)) (.own true (lfD qs)) .non .non):=by
 by_cases hd:0 < qs.length
 ·have h1:(qs.length:Int) > 0:=by omega
  rw [decide_eq_true hd]
  clear hd
  walk_at "evs"
 ·have h1:¬ (qs.length:Int) > 0:=by omega
  rw [decide_eq_false hd]
  clear hd
  walk_at "evs"
theorem v_wyW(rows:List (List Int))(L:List V)(st:Hd)(p:Nat)(y:Int)(S:List Int)(y5:DL)(hy5:Ow y5)(hh:Hd)(hn:(hK hh).Nodup)(hS:∀ z∈S,z∈hK hh)(hc:∀ e∈hh,e.1∈S→Goo rows st p y S e.2)(a:List Int)(qs:List Nat)(m:Nat)(hm:m < 500)(W:WI rows st p y S hh a qs m) :
  ∃ a',Z3y 1000 (wyT K) (Z1Y K A) (wyS rows L p y (.own true (jD a)) y5 (.own true (hD hh)) (.own true (lfD qs)) .non .non)=.nx (wyS rows L p y (.own true (jD a')) y5 (.own true (hD hh)) (.own true (lfD [])) .non .non):=by
 obtain ⟨s',e,a',rfl⟩:=Z6k (c:=wyT K) (body:=Z1Y K A) (fun m s=>∃ a qs,m < 500∧WI rows st p y S hh a qs m∧s=wyS rows L p y (.own true (jD a)) y5 (.own true (hD hh)) (.own true (lfD qs)) .non .non)
  (fun s=>∃ a',s=wyS rows L p y (.own true (jD a')) y5 (.own true (hD hh)) (.own true (lfD [])) .non .non) (by
  rintro m s ⟨a,qs,hm,W,rfl⟩
  refine ⟨_,_,v_wy9 rows L p y a y5 hh qs,fun hb=>?_,fun hb=>?_⟩
  ·have h1:=of_decide_eq_false hb
   cases qs with
   | nil=>exact ⟨a,rfl⟩
   | cons q r=>simp at h1
  ·cases qs with
   | nil=>simp at hb
   | cons q r =>
    have hq:=W.g q Qy
    have ml:=W.ml
    rw [Jk] at ml
    obtain ⟨a',qs',W',lp⟩:=v_wy7 (K:=K) (A:=A) rows L st p y S y5 hy5 hh hn hS hc a r (m - 1) q hq (by omega) ⟨fun k hk=>W.g k (Qv _ hk),W.y,W.f,W.al,by omega⟩
    have e:=v_wy8 (K:=K) rows L p y a a' y5 hy5 hh r qs' q hq.2.1 _ lp
    refine ⟨_,m - 1,?_,⟨a',qs',by omega,W',rfl⟩,by omega⟩
    unfold Z1Y
    exact e) 1000 m (wyS rows L p y (.own true (jD a)) y5 (.own true (hD hh)) (.own true (lfD qs)) .non .non) (by omega) ⟨a,qs,hm,W,rfl⟩
 exact ⟨a',e⟩
theorem v_wyA(rows:List (List Int))(L:List V)(p:Nat)(y:Int)(a:List Int)(y5:DL)(hz:p < 1000)(B:SF)
  (lp:Ze (itR 0 p) (Z5 5) B (p + 1) 0 (wyS rows L p y (.own true (jD [y])) .non .non .non .non .non)=.nx (wyS rows L p y (.own true (jD a)) y5 .non .non .non .non)) :
  Z1e (Z0 (Z1 2) Z2) (Z5 5) B (wyS rows L p y (.own true (jD [y])) .non .non .non .non .non)=.nx (wyS rows L p y (.own true (jD a)) y5 .non .non .non .non):=by
 have b1:(p:Int) < 4611686018427387904:=by omega
 have b2:-4611686018427387904≤(p:Int):=by omega
 clear hz
 simp only [wyS] at lp
 walk_at "evs"
theorem v_wyB(rows:List (List Int))(L:List V)(p:Nat)(y:Int)(a:List Int)(y5:DL)(hy5:Ow y5) :
  Zn (Z04 (.dic true []) Z2) (Z5 6) (wyS rows L p y (.own true (jD a)) y5 .non .non .non .non)=.nx (wyS rows L p y (.own true (jD a)) y5 (.own true (hD [])) .non .non .non):=by
 rcases hy5 with rfl | ⟨d,rfl⟩ <;> rfl
theorem v_wyC(rows:List (List Int))(L:List V)(p:Nat)(y:Int)(a:List Int)(y5:DL)(hy5:Ow y5) :
  Zn (Z04 (.lst true) Z2) (Z5 7) (wyS rows L p y (.own true (jD a)) y5 (.own true (hD [])) .non .non .non)=.nx (wyS rows L p y (.own true (jD a)) y5 (.own true (hD [])) (.own true (lfD [])) .non .non):=by
 rcases hy5 with rfl | ⟨d,rfl⟩ <;> rfl
theorem v_wyD(rows:List (List Int))(L:List V)(p n:Nat)(y:Int)(a:List Int)(y5 y5':DL)(hh:Hd)(qs:List Nat)(hn:n=rows.length - (p + 1))(hp:p < rows.length)(hz:rows.length < 1000)(B:SF)
  (lp:Ze (itR ((p:Int) + 1) n) (Z5 5) B (n + 1) 0 (wyS rows L p y (.own true (jD a)) y5 (.own true (hD [])) (.own true (lfD [])) .non .non)=.nx (wyS rows L p y (.own true (jD a)) y5' (.own true (hD hh)) (.own true (lfD qs)) .non .non)) :
  Z1e (Z0 (eNw Z0g (Z0 (Z1 2) (Z0 (eC (.int (1))) Z2))) (Z0 (eNw (hLen K) (Z0 (Z1 0) Z2)) Z2)) (Z5 5) B (wyS rows L p y (.own true (jD a)) y5 (.own true (hD [])) (.own true (lfD [])) .non .non)=.nx (wyS rows L p y (.own true (jD a)) y5' (.own true (hD hh)) (.own true (lfD qs)) .non .non):=by
 have b1:(p:Int) + 1 < 4611686018427387904:=by omega
 have b2:-4611686018427387904≤(p:Int) + 1:=by omega
 have b3:(rows.length:Int) < 4611686018427387904:=by omega
 have b4:-4611686018427387904≤(rows.length:Int):=by omega
 have tn:((rows.length:Int) - ((p:Int) + 1)).toNat=n:=by omega
 clear hn hp hz
 simp only [wyS] at lp
 walk_at "evs"
theorem v_wyZ(rows:List (List Int))(L:List V)(p:Nat)(y:Int)(a:List Int)(y5:DL)(hh:Hd)(B:SF)(e:B (wyS rows L p y .non .non .non .non .non .non)=.rt (.val (.at (.bl false))) (wyS rows L p y (.own true (jD a)) y5 (.own true (hD hh)) (.own true (lfD [])) .non .non)) :
  ZL 10 [false,false,false,false] B [rwD rows,asD L,aI p,aI y]=.ok (.val (.at (.bl false))) [rwD rows,asD L,aI p,aI y]:=by
 simp only [wyS] at e
 walk_at "evs"
theorem v_way(rows:List (List Int))(st:Hd)(Ms:Mat rows rows.length st)(p:Nat)(y:Int)(hp:p < rows.length)(hz:rows.length≤20)(b:Blk rows st p y)(ty:∀ v∈Zf rows.length st,v=.non∨∃ x,v=.int x)
  (get:∀ (q:Nat) z,(Zf rows.length st)[q]?=some (.int z)↔(z,q)∈st) (on:∀ (q q':Nat) x,(Zf rows.length st)[q]?=some (.int x)→(Zf rows.length st)[q']?=some (.int x)→q=q') :
  Z0q K A [rwD rows,asD (Zf rows.length st),aI p,aI y]=.ok (.val (.at (.bl false))) [rwD rows,asD (Zf rows.length st),aI p,aI y]:=by
 have ll:(Zf rows.length st).length=rows.length:=Z1L _ _
 obtain ⟨a,y5,hy5,al,ha,lp1⟩:=v_wy3 (K:=K) (A:=A) rows (Zf rows.length st) p y (by omega) ty (by omega)
 obtain ⟨hh,qs,y6,hy6,hq,lp2⟩:=v_wy5 (K:=K) (A:=A) rows (Zf rows.length st) p y a y5 hy5 (by omega) ty on (by omega)
 obtain ⟨S,c1,c2,c3⟩:=b.cov
 have lat:∀ e,e∈later st p y↔e∈hh:=fun e=>by
  rw [Z2B,show e=(e.1,e.2) from rfl,hq.h,get,ll]
  constructor
  ·rintro ⟨g1,g2,g3⟩;exact ⟨g2,(Ms.ed _ g1).1,g1,g3⟩
  ·rintro ⟨g1,g2,g3,g4⟩;exact ⟨g3,g1,g4⟩
 have latK:∀ z,z∈hK (later st p y)→z∈hK hh:=fun z hz=>by
  obtain ⟨e,he,rfl⟩:=Qi.mp hz
  exact Qi.mpr ⟨e,(lat e).mp he,rfl⟩
 have hl:=hq.hl
 have ql:=hq.ql
 rw [ll] at hl ql
 have fr:free hh a≤hh.length:=by
  have:=Jy (fun y=>!a.contains y) (hK hh)
  simpa [free,hK] using this
 have W:WI rows st p y S hh a qs (qs.length + free hh a):=by
  refine ⟨fun k hk=>?_,(ha y).mpr (.inl rfl),fun e he hlt=>(ha e.1).mpr (.inr ⟨e.2,hlt,(get e.2 e.1).mpr he⟩),by omega,Qu _⟩
  obtain ⟨g1,g2,g3⟩:=(hq.q k).mp hk
  rw [ll] at g2
  refine ⟨g1,g2,fun z hz h1 h2=>c1 k g1 g2 (fun w=>?_) z hz h1 h2⟩
  obtain ⟨e,he,rfl⟩:=Qi.mp w
  obtain ⟨e1,e2,e3⟩:=Z2B.mp he
  have:=(get e.2 e.1).mpr e1
  rcases g3 with g3 | g3
  ·rw [this] at g3;cases g3
  ·rw [this] at g3;cases g3;exact e3 rfl
 obtain ⟨a',tW⟩:=v_wyW (K:=K) (A:=A) rows (Zf rows.length st) st p y S y6 hy6 hh hq.nd (fun z hz=>latK z (c2 z hz)) (fun e he hs=>by
  have he':=(lat e).mpr he
  obtain ⟨e1,e2,e3⟩:=Z2B.mp he'
  exact ⟨e2,(Ms.ed e e1).1,fun z hz h1 h2=>c3 e he' hs z hz h1 h2⟩) a qs _ (by omega) W
 have t0:=v_wy0 rows (Zf rows.length st) p y
 have t1:=v_wyA rows (Zf rows.length st) p y a y5 (by omega) _ lp1
 have t2:=v_wyB rows (Zf rows.length st) p y a y5 hy5
 have t3:=v_wyC rows (Zf rows.length st) p y a y5 hy5
 have t4:=v_wyD (K:=K) rows (Zf rows.length st) p _ y a y5 y6 hh qs (by rw [ll]) hp (by omega) _ lp2
 unfold Z0q
 refine v_wyZ rows (Zf rows.length st) p y a' y6 hh _ ?_
 unfold Z3C Z41
 rw [Zr,t0]
 dsimp only
 rw [Zr,t1]
 dsimp only
 rw [Zr,t2]
 dsimp only
 rw [Zr,t3]
 dsimp only
 rw [Zr,t4]
 dsimp only
 rw [Zr,tW]
 rfl
theorem ZaM(n:Int):Z0o K A [aI n]=.ok (.val bT) [aI n]:=by
 have h1:=is_ii (i:=n)
 have h2:=is_ib (i:=n)
 unfold Z0o Z2P
 walk_at "evs"
noncomputable def Z2g:V→Bool
 | .non=>true | _=>false
noncomputable abbrev Ty(l:List V):Prop:=∀ v∈l,v=.non∨∃ x,v=.int x
theorem Z8B{l:List V}(h:Ty l)(x:Int):inV (.int x) l=true↔V.int x∈l:=by
 unfold inV
 rw [List.any_eq_true]
 constructor
 ·rintro ⟨v,hv,e⟩
  rcases h v hv with rfl | ⟨y,rfl⟩
  ·simp [eqV] at e
  ·have:y=x:=by simpa [eqV] using e
   exact this ▸ hv
 ·intro h
  exact ⟨_,h,by simp [eqV]⟩
theorem Z7A{l:List V}(h:Ty l){x:Int}(hx:V.int x∈l):inV (.int x) l=true:=(Z8B h x).mpr hx
theorem Z8A{l:List V}(h:Ty l){x:Int}(hx:V.int x∉l):inV (.int x) l=false:=by
 cases e:inV (.int x) l with
 | false=>rfl
 | true=>exact (hx ((Z8B h x).mp e)).elim
theorem at_ty{l:List V}(h:Ty l):Z0Y (l.map D.at)=some l:=by
 induction l with
 | nil=>rfl
 | cons v r ih =>
  have hv:Z0j v=true:=by rcases h v Qy with rfl | ⟨x,rfl⟩ <;> rfl
  rw [Ql,Z0Y,if_pos hv,ih fun u hu=>h u (Qv _ hu)]
theorem imA(l:List V):D.imms (l.map D.at)=true:=Z2T (fun _=>rfl) l
noncomputable abbrev baS(rows:List (List Int))(L:List V)(p:Nat)(y3 y4:DL):Sd:=[.bor 5 [],.bor 6 [],.own true (aI p),y3,y4,.own false (rwD rows),.own false (asD L),.non]
noncomputable abbrev ahT(n1:Nat):BF:=(bV (eNw (hIsN true) (Z0 (Z1 n1) (Z0 (eC .non) Z2))))
theorem v_ba1(rows:List (List Int))(L M:List V)(p:Nat)(v:V)(hv:v=.non∨∃ x,v=.int x) :
  ahT 9 (baS rows L p .non .non++[.own true (asD M),.own true (.at v)])=.ok (!Z2g v) (baS rows L p .non .non++[.own true (asD M),.own true (.at v)]):=by
 rcases hv with rfl | ⟨x,rfl⟩
 ·rfl
 ·rfl
noncomputable abbrev ahL(L:List V)(p:Nat):List V:=(L.take p).filter fun v=>!Z2g v
theorem v_ba2(rows:List (List Int))(L:List V)(p:Nat)(hL:Ty L)(hz:L.length < 1000) :
  Zn (Z19 (eNw (hCut false) (Z0 (Z1 1) (Z0 (Z1 2) Z2))) (fun n1=>ahT n1) (fun n1=>(Z1 n1))) (Z5 3) (baS rows L p .non .non)=.nx (baS rows L p (.own true (asD (ahL L p))) .non):=by
 have tl:(L.take p).length≤L.length:=by rw [Jv];omega
 have tm:Ty (L.take p):=fun v hv=>hL v (Wg hv)
 unfold ahL
 have cu:hCut false [asD L,aI p]=some (asD (L.take p)):=by
  unfold hCut
  dsimp only
  rw [if_pos ⟨imA L,by omega⟩]
  simp only [Jz,if_false,Nj]
  show some (D.nd (.lst true) ((L.map D.at).take p))=some (D.nd (.lst true) ((L.take p).map D.at))
  rw [Gh]
 generalize L.take p=M at *
 have it:∀ t y,itP false 8 8 [] t (baS rows L p .non .non++[.own true (asD M),y])=some (((M.map D.at)[t]?).map (mkV 8 ([]++[t]))):=fun t y=>rfl
 obtain ⟨acc,s',h1,y,hy,rfl,rfl⟩:=Z22 (it:=itP false 8 8 []) (n:=9) (c:=ahT 9) (e:=Z1 9) (N:=M.length)
  (P:=fun t acc s=>∃ y,(y=.non∨∃ v,y=.own true (.at v))∧acc=((M.take t).filter fun v=>!Z2g v).map D.at∧s=baS rows L p .non .non++[.own true (asD M),y])
  (by
   rintro t acc s ht ⟨y,hy,rfl,rfl⟩
   have hr:M[t]?=some M[t]:=Qj ht
   generalize M[t]=v at hr
   have e0:=v_ba1 rows L M p v (tm v (Qf hr))
   have e1:Z1 9 (baS rows L p .non .non++[.own true (asD M),.own true (.at v)])=.ok (.val (.at v)) (baS rows L p .non .non++[.own true (asD M),.own true (.at v)]):=rfl
   have e2:itP false 8 8 [] t (baS rows L p .non .non++[.own true (asD M),y])=some (some (.val (.at v))):=by rw [it,Qa,hr];rfl
   have e3:Z5 9 (baS rows L p .non .non++[.own true (asD M),y]) (.val (.at v))=some (baS rows L p .non .non++[.own true (asD M),.own true (.at v)]):=by rcases hy with rfl | ⟨x,rfl⟩ <;> rfl
   have tk:M.take (t + 1)=M.take t++[v]:=by rw [Wd,hr];rfl
   cases hb:!Z2g v with
   | true =>
    rw [hb] at e0
    refine ⟨_,_,e2,e3,.inl ⟨_,_,_,e0,e1,?_,_,.inr ⟨_,rfl⟩,?_,rfl⟩⟩
    ·have:=Jy (fun v=>!Z2g v) (M.take t)
     rw [Jv] at this
     rw [Qs,sz];omega
    ·rw [tk,Wa,Qt,Ws,hb];rfl
   | false =>
    rw [hb] at e0
    refine ⟨_,_,e2,e3,.inr ⟨_,e0,_,.inr ⟨_,rfl⟩,?_,rfl⟩⟩
    rw [tk,Wa,Ws,hb];simp)
  (by
   rintro acc s ⟨y,hy,rfl,rfl⟩
   rw [it,Qa,Jo (Qu _)];rfl)
  M.length 0 [] (baS rows L p .non .non++[.own true (asD M),.non]) (by omega) ⟨.non,.inl rfl,rfl,rfl⟩
 rw [Wh] at h1
 have u1:Zz 9 y=y:=by rcases hy with rfl | ⟨n,rfl⟩ <;> rfl
 have u2:Zz 8 y=y:=by rcases hy with rfl | ⟨n,rfl⟩ <;> rfl
 clear hy hz hL it tm tl
 show _=SR.nx (baS rows L p (.own true (.nd (.lst true) ((M.filter fun v=>!Z2g v).map D.at))) .non)
 generalize (M.filter fun v=>!Z2g v).map D.at=Q at *
 generalize ahT=G at *
 simp only [baS,Jh,Je] at h1
 generalize hCut false=HC at *
 walk_at "evs"
theorem v_ba3(rows:List (List Int))(L AH:List V)(p:Nat)(y:Int)(hp:L[p]?=some (.int y)) :
  ZR K A (baS rows L p (.own true (asD AH)) (.own true (aI y))++[.bor 5 [p]])=.rt (.val bT) (baS rows L p (.own true (asD AH)) (.own true (aI y))++[.bor 5 [p]]):=by
 have hl:=(Qc.mp hp).1
 have e1:(L.map D.at)[p]?=some (aI y):=by rw [Qa,hp];rfl
 have e2:ixN L.length (p:Int)=some p:=Z0L (by omega)
 clear hl hp
 unfold ZR
 generalize Z0q K A=F
 walk_at "evs"
theorem v_ba4(rows:List (List Int))(L AH:List V)(p:Nat)(y:Int)(v:V)(hv:v=.non∨∃ x,v=.int x)(hvy:¬ v=.int y)(hp:L[p]?=some v)(hA:Ty AH)(hy:V.int y∈AH) :
  ZR K A (baS rows L p (.own true (asD AH)) (.own true (aI y))++[.bor 5 [p]])=.nx (baS rows L p (.own true (asD AH)) .non++[.bor 5 [p]]):=by
 have hl:=(Qc.mp hp).1
 have e1:(L.map D.at)[p]?=some (.at v):=by rw [Qa,hp];rfl
 have e2:ixN L.length (p:Int)=some p:=Z0L (by omega)
 have a1:=at_ty hA
 have a2:=Z7A hA hy
 clear hl hp hA hy
 unfold ZR
 generalize Z0q K A=F
 rcases hv with rfl | ⟨x,rfl⟩
 ·walk_at "evs"
 ·have hxy:¬ x=y:=fun z=>hvy (by rw [z])
  clear hvy
  walk_at "evs"
theorem v_bi1(rows:List (List Int))(L AH:List V)(p:Nat)(y x:Int)(hxy:¬ x=y)(hp:L[p]?=some (.int x)) :
  sIf (bV (eNw (hEq false) (Z0 (eCh (hIx K) (Z0 (Z1 1) (Z0 (Z1 2) Z2))) (Z0 (Z1 4) Z2)))) (Z00 (eC (.bl true))) ZV (baS rows L p (.own true (asD AH)) (.own true (aI y))++[.bor 5 [p]])=.nx (baS rows L p (.own true (asD AH)) (.own true (aI y))++[.bor 5 [p]]):=by
 have hl:=(Qc.mp hp).1
 have e1:(L.map D.at)[p]?=some (aI x):=by rw [Qa,hp];rfl
 have e2:ixN L.length (p:Int)=some p:=Z0L (by omega)
 clear hl hp
 walk_at "evs"
theorem v_bi2(rows:List (List Int))(L AH:List V)(p:Nat)(y:Int)(hA:Ty AH)(hy:V.int y∉AH) :
  bV (eNw (hIn true) (Z0 (Z1 4) (Z0 (Z1 3) Z2))) (baS rows L p (.own true (asD AH)) (.own true (aI y))++[.bor 5 [p]])=.ok true (baS rows L p (.own true (asD AH)) (.own true (aI y))++[.bor 5 [p]]):=by
 have a1:=at_ty hA
 have a2:=Z8A hA hy
 clear hA hy
 walk_at "evs"
theorem v_bi3(rows:List (List Int))(L AH:List V)(p:Nat)(y x:Int)(hp:L[p]?=some (.int x)) :
  bV (eNw (hIsN false) (Z0 (eCh (hIx K) (Z0 (Z1 1) (Z0 (Z1 2) Z2))) (Z0 (eC .non) Z2))) (baS rows L p (.own true (asD AH)) (.own true (aI y))++[.bor 5 [p]])=.ok false (baS rows L p (.own true (asD AH)) (.own true (aI y))++[.bor 5 [p]]):=by
 have hl:=(Qc.mp hp).1
 have e1:(L.map D.at)[p]?=some (aI x):=by rw [Qa,hp];rfl
 have e2:ixN L.length (p:Int)=some p:=Z0L (by omega)
 clear hl hp
 walk_at "evs"
theorem v_bi4(rows:List (List Int))(L AH:List V)(p:Nat)(y:Int)(hL:Ty L)(hy:V.int y∈L) :
  bV (eNw (hIn true) (Z0 (Z1 4) (Z0 (Z1 1) Z2))) (baS rows L p (.own true (asD AH)) (.own true (aI y))++[.bor 5 [p]])=.ok false (baS rows L p (.own true (asD AH)) (.own true (aI y))++[.bor 5 [p]]):=by
 have a1:=at_ty hL
 have a2:=Z7A hL hy
 clear hL hy
 walk_at "evs"
theorem v_bi5(rows:List (List Int))(L AH:List V)(p:Nat)(y:Int)(F:Fn)(e:F [rwD rows,asD L,aI p,aI y]=.ok (.val (.at (.bl false))) [rwD rows,asD L,aI p,aI y]) :
  bV (ZF [false,false,false,false] F (Z0 (Z1 0) (Z0 (Z1 1) (Z0 (Z1 2) (Z0 (Z1 4) Z2))))) (baS rows L p (.own true (asD AH)) (.own true (aI y))++[.bor 5 [p]])=.ok false (baS rows L p (.own true (asD AH)) (.own true (aI y))++[.bor 5 [p]]):=by
 walk_at "evs"
theorem v_bi6(rows:List (List Int))(L AH:List V)(p:Nat)(y:Int)(I1 R1:SF)(T2 T3 T4 T5:BF)(S:Sd)(hS:S=baS rows L p (.own true (asD AH)) (.own true (aI y))++[.bor 5 [p]])(t1:I1 S=.nx S)(t2:T2 S=.ok true S)(t3:T3 S=.ok false S)(t4:T4 S=.ok false S)(t5:T5 S=.ok false S) :
  Z15 [4] (Zj I1 (sIf T2 (sIf (bOr T3 (bOr T4 T5)) R1 ZV) ZV)) S=.nx (baS rows L p (.own true (asD AH)) .non++[.bor 5 [p]]):=by
 have e:Zj I1 (sIf T2 (sIf (bOr T3 (bOr T4 T5)) R1 ZV) ZV) S=.nx S:=by
  rw [Zr,t1]
  dsimp only
  rw [ev_if,t2]
  dsimp only
  rw [ev_if,ev_or,t3]
  dsimp only
  rw [ev_or,t4]
  dsimp only
  rw [t5]
  rfl
 rw [Z4o,e,hS]
 rfl
theorem v_ba5(rows:List (List Int))(L AH:List V)(p:Nat)(y x:Int)(hxy:¬ x=y)(hp:L[p]?=some (.int x))(hA:Ty AH)(hL:Ty L)(hy:V.int y∉AH)(hy2:V.int y∈L)
  (e:Z0q K A [rwD rows,asD L,aI p,aI y]=.ok (.val (.at (.bl false))) [rwD rows,asD L,aI p,aI y]) :
  ZR K A (baS rows L p (.own true (asD AH)) (.own true (aI y))++[.bor 5 [p]])=.nx (baS rows L p (.own true (asD AH)) .non++[.bor 5 [p]]):=by
 unfold ZR
 exact v_bi6 rows L AH p y _ _ _ _ _ _ _ rfl (v_bi1 rows L AH p y x hxy hp) (v_bi2 rows L AH p y hA hy) (v_bi3 rows L AH p y x hp) (v_bi4 rows L AH p y hL hy2) (v_bi5 rows L AH p y _ e)
theorem v_ba6(rows:List (List Int))(L AH:List V)(p:Nat)(hp:p < rows.length)(B:SF)
  (lp:Ze (itP false 8 5 [p]) (Z5 4) B ((rowAt rows p).length + 1) 0 (baS rows L p (.own true (asD AH)) .non++[.bor 5 [p]])=.nx (baS rows L p (.own true (asD AH)) .non++[.bor 5 [p]])) :
  Z1y (eCh (hIx K) (Z0 (Z1 0) (Z0 (Z1 2) Z2))) (Z5 4) B (baS rows L p (.own true (asD AH)) .non)=.nx (baS rows L p (.own true (asD AH)) .non):=by
 have e1:=Z2n hp
 have e2:ixN rows.length (p:Int)=some p:=Z0L (by omega)
 clear hp
 simp only [baS,Jh,Je] at lp
 walk_at "evs"
theorem v_ba7(rows:List (List Int))(L AH:List V)(p:Nat)(y:Int)(hp:p < rows.length)(B:SF)
  (lp:Ze (itP false 8 5 [p]) (Z5 4) B ((rowAt rows p).length + 1) 0 (baS rows L p (.own true (asD AH)) .non++[.bor 5 [p]])=.rt (.val bT) (baS rows L p (.own true (asD AH)) (.own true (aI y))++[.bor 5 [p]])) :
  Z1y (eCh (hIx K) (Z0 (Z1 0) (Z0 (Z1 2) Z2))) (Z5 4) B (baS rows L p (.own true (asD AH)) .non)=.rt (.val bT) (baS rows L p (.own true (asD AH)) (.own true (aI y))):=by
 have e1:=Z2n hp
 have e2:ixN rows.length (p:Int)=some p:=Z0L (by omega)
 clear hp
 simp only [baS,Jh,Je] at lp
 walk_at "evs"
theorem v_ba8(rows:List (List Int))(L AH:List V)(p:Nat)(hp:L[p]?=some .non):Z00 (eNw (hIsN false) (Z0 (eCh (hIx K) (Z0 (Z1 1) (Z0 (Z1 2) Z2))) (Z0 (eC .non) Z2))) (baS rows L p (.own true (asD AH)) .non)=.rt (.val bT) (baS rows L p (.own true (asD AH)) .non):=by
 have hl:=(Qc.mp hp).1
 have e1:(L.map D.at)[p]?=some (.at .non):=by rw [Qa,hp];rfl
 have e2:ixN L.length (p:Int)=some p:=Z0L (by omega)
 clear hl hp
 walk_at "evs"
theorem v_ba9(rows:List (List Int))(L AH:List V)(p:Nat)(y4:DL)(B:SF)(e:B (baS rows L p .non .non)=.rt (.val bT) (baS rows L p (.own true (asD AH)) y4)) :
  ZL 5 [false,false,false] B [rwD rows,asD L,aI p]=.ok (.val bT) [rwD rows,asD L,aI p]:=by
 simp only [baS] at e
 walk_at "evs"
theorem Z7y(rows:List (List Int))(L AH:List V)(p:Nat)(hp:p < rows.length)(y4:DL):held 8 5 [p] (baS rows L p (.own true (asD AH)) y4++[.bor 5 [p]])=true∧Zq (baS rows L p (.own true (asD AH)) y4++[.bor 5 [p]]) (.plc 5 [p])=some (.nd (.lst true) ((rowAt rows p).map aI)):=by
 refine ⟨by simp [held,baS],?_⟩
 have e1:=Z2n hp
 walk_at "evs"
theorem Z82{y:Int}:¬ V.non=.int y:=by intro z;cases z
theorem Z83(rows:List (List Int))(L AH:List V)(p:Nat)(y:Int)(i:Nat):Z5 4 (baS rows L p (.own true (asD AH)) .non++[.bor 5 [p]]) (mkV 5 ([p]++[i]) (aI y))=some (baS rows L p (.own true (asD AH)) (.own true (aI y))++[.bor 5 [p]]):=rfl
theorem ZbW(rows:List (List Int))(hz:rows.length≤20)(h0 h st:Hd)(M0:Mat rows rows.length h0)(mx:∀ h',Mat rows rows.length h'→h'.length≤h0.length)(R:Run rows h0 rows.length h st)(p:Nat)(hp:p < rows.length)
  (ty:Ty (Zf rows.length st)) (get:∀ (q:Nat) z,(Zf rows.length st)[q]?=some (.int z)↔(z,q)∈st) (on:∀ (q q':Nat) x,(Zf rows.length st)[q]?=some (.int x)→(Zf rows.length st)[q']?=some (.int x)→q=q') :
  Z0c K A [rwD rows,asD (Zf rows.length st),aI p]=.ok (.val bT) [rwD rows,asD (Zf rows.length st),aI p]:=by
 have O:=Z2m M0 R
 have Ms:Mat rows rows.length st:=⟨O.kn,O.vn,fun e he=>O.M.ed e (O.sub e he)⟩
 have ll:(Zf rows.length st).length=rows.length:=Z1L _ _
 obtain ⟨hp',sp,a⟩:=ZbR M0 R p hp
 have tA:Ty (ahL (Zf rows.length st) p):=fun v hv=>ty v (Wg (Qn.mp hv).1)
 have mA:∀ z,z∈hK sp→V.int z∈ahL (Zf rows.length st) p:=fun z hz=>by
  obtain ⟨e,he,rfl⟩:=Qi.mp hz
  obtain ⟨g1,g2⟩:=(a.mem e).mp he
  refine Qn.mpr ⟨?_,rfl⟩
  have:=(get e.2 e.1).mpr g1
  exact Qf (i:=e.2) (by rw [Wn g2];exact this)
 have nA:∀ z,V.int z∈ahL (Zf rows.length st) p→z∈hK sp:=fun z hz=>by
  obtain ⟨g1,_⟩:=Qn.mp hz
  obtain ⟨q,hq⟩:=Jd.mp g1
  have hqp:q < p:=by
   have:=(Qc.mp hq).1
   rw [Jv] at this
   omega
  rw [Wn hqp] at hq
  exact Qi.mpr ⟨(z,q),(a.mem _).mpr ⟨(get q z).mp hq,hqp⟩,rfl⟩
 have t1:=v_ba2 rows (Zf rows.length st) p ty (by omega)
 unfold Z0c
 rcases a.how with ⟨j,x,g1,g2,g3,g4⟩ | ⟨g1,g2⟩
 ·have hLp:=(get p x).mpr g2
  have lp:=Z4F (t:=false) (n:=8) (k:=5) (p:=[p]) (l:=(rowAt rows p).map aI) (kd:=.lst true) (b:=Z5 4) (body:=ZR K A) (s:=baS rows (Zf rows.length st) p (.own true (asD (ahL (Zf rows.length st) p))) .non++[.bor 5 [p]]) (.inl ⟨rfl,true,rfl⟩)
   (fun i s=>i≤j∧s=baS rows (Zf rows.length st) p (.own true (asD (ahL (Zf rows.length st) p))) .non++[.bor 5 [p]])
   (fun r=>r=.rt (.val bT) (baS rows (Zf rows.length st) p (.own true (asD (ahL (Zf rows.length st) p))) (.own true (aI x))++[.bor 5 [p]]))
   ⟨Nk _,rfl⟩ (by rintro i s ⟨_,rfl⟩;exact Z7y rows _ _ p hp .non) (by
   rintro i s c hc ⟨hij,rfl⟩
   rw [Qa] at hc
   cases ex:(rowAt rows p)[i]? with
   | none=>rw [ex] at hc;cases hc
   | some y =>
    rw [ex] at hc
    cases hc
    refine ⟨baS rows (Zf rows.length st) p (.own true (asD (ahL (Zf rows.length st) p))) (.own true (aI y))++[.bor 5 [p]],Z83 rows _ _ p y i,?_⟩
    by_cases hyx:x=y
    ·subst hyx
     exact .inr ⟨_,_,v_ba3 rows _ _ p x hLp,rfl⟩
    ·have hij':i < j:=by
      rcases Qai i j with z | z
      ·exact z
      ·have:i=j:=by omega
       subst this
       rw [ex] at g1
       cases g1
       exact (hyx rfl).elim
     by_cases hys:y∈hK sp
     ·exact .inl ⟨_,.inl (v_ba4 rows _ _ p y (.int x) (.inr ⟨x,rfl⟩) (fun z=>hyx (by cases z;rfl)) hLp tA (mA y hys)),by omega,rfl⟩
     ·have hyr:y∈rowAt rows p:=Qf ex
      have hyt:y∈(rowAt rows p).take j:=Qf (i:=i) (by rw [Wn hij'];exact ex)
      have b:=ZaT (j:=j) M0 mx R a g2 g3 hyr hys (g4 y hyt)
      have hyL:V.int y∈Zf rows.length st:=by
       obtain ⟨e,he,hey⟩:=Qi.mp b.has
       have:=(get e.2 e.1).mpr he
       rw [hey] at this
       exact Qf this
      have w:=v_way (K:=K) (A:=A) rows st Ms p y hp hz b ty get on
      exact .inl ⟨_,.inl (v_ba5 rows _ _ p y x hyx hLp tA ty (fun z=>hys (nA y z)) hyL w),by omega,rfl⟩)
  rw [Qs] at lp
  rcases lp with ⟨s,e,hlen,rfl⟩ | ⟨r,s,e,e2⟩
  ·have:=(Qc.mp g1).1
   omega
  ·cases e2
   have t2:=v_ba7 (K:=K) rows (Zf rows.length st) _ p x hp _ e
   refine v_ba9 rows (Zf rows.length st) (ahL (Zf rows.length st) p) p (.own true (aI x)) _ ?_
   unfold Z1I
   rw [Zr,t1]
   dsimp only
   rw [Zr,t2]
 ·have hLp:(Zf rows.length st)[p]?=some .non:=by
   rcases ty _ (Qf (Qj (show p < (Zf rows.length st).length by omega))) with z | ⟨x,z⟩
   ·rw [Qj (show p < (Zf rows.length st).length by omega),z]
   ·have:(Zf rows.length st)[p]?=some (.int x):=by rw [Qj (show p < (Zf rows.length st).length by omega),z]
    exact (g1 (Qi.mpr ⟨(x,p),(get p x).mp this,rfl⟩)).elim
  obtain ⟨s',lp,rfl⟩:=Z4E (t:=false) (n:=8) (k:=5) (p:=[p]) (l:=(rowAt rows p).map aI) (kd:=.lst true) (b:=Z5 4) (body:=ZR K A) (s:=baS rows (Zf rows.length st) p (.own true (asD (ahL (Zf rows.length st) p))) .non++[.bor 5 [p]]) (.inl ⟨rfl,true,rfl⟩)
   (fun i s=>s=baS rows (Zf rows.length st) p (.own true (asD (ahL (Zf rows.length st) p))) .non++[.bor 5 [p]]) rfl (by rintro i s rfl;exact Z7y rows _ _ p hp .non) (by
   rintro i s c hc rfl
   rw [Qa] at hc
   cases ex:(rowAt rows p)[i]? with
   | none=>rw [ex] at hc;cases hc
   | some y =>
    rw [ex] at hc
    cases hc
    have e:=v_ba4 (K:=K) (A:=A) rows (Zf rows.length st) (ahL (Zf rows.length st) p) p y .non (.inl rfl) Z82 hLp tA (mA y (g2 y (Qf ex)))
    have e0:Z5 4 (baS rows (Zf rows.length st) p (.own true (asD (ahL (Zf rows.length st) p))) .non++[.bor 5 [p]]) (mkV 5 ([p]++[i]) (aI y))=some (baS rows (Zf rows.length st) p (.own true (asD (ahL (Zf rows.length st) p))) (.own true (aI y))++[.bor 5 [p]]):=Z83 rows _ _ p y i
    exact ⟨_,_,e0,.inl e,rfl⟩)
  rw [Qs] at lp
  have t2:=v_ba6 (K:=K) rows (Zf rows.length st) _ p hp _ lp
  have t3:=v_ba8 (K:=K) rows (Zf rows.length st) (ahL (Zf rows.length st) p) p hLp
  refine v_ba9 rows (Zf rows.length st) (ahL (Zf rows.length st) p) p .non _ ?_
  unfold Z1I
  rw [Zr,t1]
  dsimp only
  rw [Zr,t2]
  dsimp only
  exact t3
structure Val(L:List V)(rows:List (List Int)):Prop where
 ln:L.length=rows.length
 ty:∀ v∈L,v=.non∨∃ x,v=.int x
 ed:∀ (q:Nat) x,L[q]?=some (.int x)→x∈rowAt rows q
 on:∀ (q q':Nat) x,L[q]?=some (.int x)→L[q']?=some (.int x)→q=q'
theorem Z9X{rows:List (List Int)}{h st:Hd}{i:Nat}{h0:Hd}(O:RunOk rows h0 i h st)(hi:i≤rows.length):Val (Zf rows.length st) rows:=by
 have get:∀ (q:Nat) x,(Zf rows.length st)[q]?=some (.int x)→(x,q)∈st:=fun q x hx=>by
  have hq:q < rows.length:=by have:=(Qc.mp hx).1;rwa [Z1L] at this
  by_cases hm:q∈hV st
  ·obtain ⟨e,he,rfl⟩:=Qi.mp hm
   have:=Z4m (n:=rows.length) O.vn hq (show (e.1,e.2)∈st from he)
   rw [this] at hx
   cases hx
   exact he
  ·rw [Z50 hq hm] at hx;cases hx
 refine ⟨Z1L _ _,fun v hv=>?_,fun q x hx=>?_,fun q q' x h1 h2=>?_⟩
 ·obtain ⟨q,hq⟩:=Jd.mp hv
  have hql:q < rows.length:=by have:=(Qc.mp hq).1;rwa [Z1L] at this
  by_cases hm:q∈hV st
  ·obtain ⟨e,he,rfl⟩:=Qi.mp hm
   rw [Z4m (n:=rows.length) O.vn hql (show (e.1,e.2)∈st from he)] at hq
   cases hq
   exact .inr ⟨_,rfl⟩
  ·rw [Z50 hql hm] at hq;cases hq;exact .inl rfl
 ·exact (O.M.ed _ (O.sub _ (get q x hx))).2
 ·have:=Z3l O.M.kn (O.sub _ (get q x h1)) (O.sub _ (get q' x h2)) rfl
  cases this
  rfl
noncomputable abbrev lwS(k:NK)(ns:List Int)(y1 y2 y3 y4:DL):Sd:=[.own true (scD k ns),y1,y2,y3,y4,.non]
theorem v_lw1(k:NK)(hk:Scr K k)(ns:List Int)(rows:List (List Int))(e:Zy K A [scD k ns,aI 1,aI 20,aI 24]=.ok (.val (rwD rows)) [scD k ns,aI 1,aI 20,aI 24]) :
  Zn (ZF [false,false,false,false] (Zy K A) (Z0 (Z1 0) (Z0 (eC (.int (1))) (Z0 (eC (.int (20))) (Z0 (eC (.int (24))) Z2))))) (Z5 1) (lwS k ns .non .non .non .non)=.nx (lwS k ns (.own true (rwD rows)) .non .non .non):=by
 have hki:=Z0l hk ns
 generalize Zy K A=F at *
 walk_at "evs"
noncomputable abbrev cpE(n1:Nat):EF:=(eNw Z1W (Z0 (Z1 n1) Z2))
theorem v_lwc(k:NK)(ns:List Int)(rows:List (List Int))(j:Nat)(row:List Int)(hj:rows[j]?=some row) :
  cpE 7 (lwS k ns (.own true (rwD rows)) .non .non .non++[.bor 1 [],.bor 1 [j]])=.ok (.val (nD row)) (lwS k ns (.own true (rwD rows)) .non .non .non++[.bor 1 [],.bor 1 [j]]):=by
 have e1:(rows.map nD)[j]?=some (nD row):=by rw [Qa,hj];rfl
 have im:=imI row
 walk_at "evs"
theorem v_lw2(k:NK)(hk:Scr K k)(ns:List Int)(rows:List (List Int))(hz:rows.length < 1000) :
  Zn (Z19 (Z1 1) (fun _=>bYes) (fun n1=>cpE n1)) (Z5 2) (lwS k ns (.own true (rwD rows)) .non .non .non)=.nx (lwS k ns (.own true (rwD rows)) (.own true (rwD rows)) .non .non):=by
 have hki:=Z0l hk ns
 have it:∀ j y,itP false 6 1 [] j (lwS k ns (.own true (rwD rows)) .non .non .non++[.bor 1 [],y])=some (((rows.map nD)[j]?).map (mkV 1 ([]++[j]))):=fun j y=>rfl
 obtain ⟨acc,s',h1,y,hy,rfl,rfl⟩:=Z22 (it:=itP false 6 1 []) (n:=7) (c:=bYes) (e:=cpE 7) (N:=rows.length)
  (P:=fun j acc s=>∃ y,(y=.non∨∃ i,y=.bor 1 [i])∧acc=(rows.take j).map nD∧s=lwS k ns (.own true (rwD rows)) .non .non .non++[.bor 1 [],y])
  (by
   rintro j acc s hj ⟨y,hy,rfl,rfl⟩
   have hr:rows[j]?=some rows[j]:=Qj hj
   have e1:=v_lwc k ns rows j _ hr
   have e0:bYes (lwS k ns (.own true (rwD rows)) .non .non .non++[.bor 1 [],.bor 1 [j]])=.ok true (lwS k ns (.own true (rwD rows)) .non .non .non++[.bor 1 [],.bor 1 [j]]):=rfl
   have e2:itP false 6 1 [] j (lwS k ns (.own true (rwD rows)) .non .non .non++[.bor 1 [],y])=some (some (.plc 1 [j])):=by rw [it,Qa,hr];rfl
   have e3:Z5 7 (lwS k ns (.own true (rwD rows)) .non .non .non++[.bor 1 [],y]) (.plc 1 [j])=some (lwS k ns (.own true (rwD rows)) .non .non .non++[.bor 1 [],.bor 1 [j]]):=by rcases hy with rfl | ⟨x,rfl⟩ <;> rfl
   refine ⟨_,_,e2,e3,.inl ⟨_,_,_,e0,e1,?_,_,.inr ⟨_,rfl⟩,?_,rfl⟩⟩
   ·rw [Qs,Jv,sz];omega
   ·rw [Wd,hr,Option.toList_some,Qt];rfl)
  (by
   rintro acc s ⟨y,hy,rfl,rfl⟩
   rw [it,Qa,Jo (Qu _)];rfl)
  rows.length 0 [] (lwS k ns (.own true (rwD rows)) .non .non .non++[.bor 1 [],.non]) (by omega) ⟨.non,.inl rfl,rfl,rfl⟩
 rw [Wh] at h1
 have u1:Zz 7 y=y:=by rcases hy with rfl | ⟨n,rfl⟩ <;> rfl
 have u2:Zz 6 y=y:=by rcases hy with rfl | ⟨n,rfl⟩ <;> rfl
 clear hy hz
 generalize cpE=G at *
 simp only [lwS,Jh,Je] at h1
 walk_at "evs"
theorem Za3(rows:List (List Int))(h8:rows.length≤20)(hr:∀ r∈rows,r.length≤24):DtN 3 (rwD rows) :=
 Z8d (by rw [Qs,sz];omega) fun x hx=>by
  obtain ⟨r,h1,rfl⟩:=Qi.mp hx
  have:=hr r h1
  exact Z8d (by rw [Qs,sz];omega) fun y hy=>by
   obtain ⟨z,_,rfl⟩:=Qi.mp hy
   exact ZaY
theorem v_lw3(k:NK)(ns:List Int)(rows:List (List Int))(L:List V)(F:Fn)(e:F [rwD rows]=.ok (.val (asD L)) [rwD rows]) :
  Zn (ZF [false] F (Z0 (Z1 2) Z2)) (Z5 3) (lwS k ns (.own true (rwD rows)) (.own true (rwD rows)) .non .non)=.nx (lwS k ns (.own true (rwD rows)) (.own true (rwD rows)) (.own true (asD L)) .non):=by
 walk_at "evs"
theorem v_lw4(k:NK)(ns:List Int)(rows:List (List Int))(L:List V)(F:Fn)(hl:(L.length:Int)=(rows.length:Int))(e1:F [rwD rows,rwD rows]=.ok (.val bT) [rwD rows,rwD rows]) :
  sIf (bOr (bNot (bV (ZF [false,false] F (Z0 (Z1 2) (Z0 (Z1 1) Z2))))) (bOr (bNot (bV (eNw hIs (Z0 (Z1 3) (Z0 (eC (.ty "list")) Z2))))) (bV (eNw (hEq true) (Z0 (eNw (hLen K) (Z0 (Z1 3) Z2)) (Z0 (eNw (hLen K) (Z0 (Z1 1) Z2)) Z2)))))) (Z00 (eC (.bl false))) ZV (lwS k ns (.own true (rwD rows)) (.own true (rwD rows)) (.own true (asD L)) .non) =
   .nx (lwS k ns (.own true (rwD rows)) (.own true (rwD rows)) (.own true (asD L)) .non):=by
 have h1:=is_ll (l:=L.map D.at)
 walk_at "evs"
noncomputable abbrev lvS(k:NK)(ns:List Int)(rows:List (List Int))(L:List V)(y4:DL):Sd:=lwS k ns (.own true (rwD rows)) (.own true (rwD rows)) (.own true (asD L)) y4
theorem v_l1a(k:NK)(ns:List Int)(rows:List (List Int))(L:List V)(i:Nat)(hi:L[i]?=some .non):Z2t K A (lvS k ns rows L (.own true (aI i)))=.nx (lvS k ns rows L (.own true (aI i))):=by
 have hl:=(Qc.mp hi).1
 have e1:(L.map D.at)[i]?=some (.at .non):=by rw [Qa,hi];rfl
 have e2:ixN L.length (i:Int)=some i:=Z0L (by omega)
 clear hl hi
 unfold Z2t
 generalize Z0o K A=F
 walk_at "evs"
theorem v_lG(k:NK)(ns:List Int)(rows:List (List Int))(L:List V)(i:Nat)(x:Int)(hi:L[i]?=some (.int x)):eCh (hIx K) (Z0 (Z1 3) (Z0 (Z1 4) Z2)) (lvS k ns rows L (.own true (aI i)))=.ok (.val (aI x)) (lvS k ns rows L (.own true (aI i))):=by
 have hl:=(Qc.mp hi).1
 have e1:(L.map D.at)[i]?=some (aI x):=by rw [Qa,hi];rfl
 have e2:ixN L.length (i:Int)=some i:=Z0L (by omega)
 clear hl hi
 walk_at "evs"
theorem v_lC(k:NK)(ns:List Int)(rows:List (List Int))(L:List V)(i:Nat):eNw (hCut false) (Z0 (Z1 3) (Z0 (Z1 4) Z2)) (lvS k ns rows L (.own true (aI i)))=.ok (.val (asD (L.take i))) (lvS k ns rows L (.own true (aI i))):=by
 have cu:hCut false [asD L,aI i]=some (asD (L.take i)):=by
  unfold hCut
  dsimp only
  rw [if_pos ⟨imA L,by omega⟩]
  simp only [Jz,if_false,Nj]
  show some (D.nd (.lst true) ((L.map D.at).take i))=some (D.nd (.lst true) ((L.take i).map D.at))
  rw [Gh]
 generalize hCut false=HC at *
 walk_at "evs"
theorem v_lT1(G:EF)(S:Sd)(x:Int)(e:G S=.ok (.val (aI x)) S):bV (eNw (hIsN true) (Z0 G (Z0 (eC .non) Z2))) S=.ok true S:=by
 walk_at "evs"
theorem v_lT2(G:EF)(S:Sd)(x:Int)(F:Fn)(e:G S=.ok (.val (aI x)) S)(hw:F [aI x]=.ok (.val bT) [aI x]):bV (ZF [false] F (Z0 G Z2)) S=.ok true S:=by
 walk_at "evs"
theorem v_lT3(G H:EF)(S:Sd)(x:Int)(M:List V)(e:G S=.ok (.val (aI x)) S)(eh:H S=.ok (.val (asD M)) S)(a1:Z0Y (M.map D.at)=some M)(a2:inV (.int x) M=false):bV (eNw (hIn false) (Z0 G (Z0 H Z2))) S=.ok false S:=by
 walk_at "evs"
theorem v_lT4(T1 T2 T3:BF)(R1:SF)(S:Sd)(t1:T1 S=.ok true S)(t2:T2 S=.ok true S)(t3:T3 S=.ok false S):sIf (bAnd T1 (bOr (bNot T2) T3)) R1 ZV S=.nx S:=by
 walk_at "evs"
theorem v_l1b(k:NK)(ns:List Int)(rows:List (List Int))(L:List V)(i:Nat)(x:Int)(hi:L[i]?=some (.int x))(hT:Ty L)(hn:V.int x∉L.take i):Z2t K A (lvS k ns rows L (.own true (aI i)))=.nx (lvS k ns rows L (.own true (aI i))):=by
 have hw:=ZaM (K:=K) (A:=A) x
 have tT:Ty (L.take i):=fun v hv=>hT v (Wg hv)
 have g:=v_lG (K:=K) k ns rows L i x hi
 have c:=v_lC k ns rows L i
 unfold Z2t
 exact v_lT4 _ _ _ _ _ (v_lT1 _ _ x g) (v_lT2 _ _ x _ g hw) (v_lT3 _ _ _ x _ g c (at_ty tT) (Z8A tT hn))
theorem v_l2(k:NK)(ns:List Int)(rows:List (List Int))(L:List V)(i:Nat)(F:Fn)(e:F [rwD rows,asD L,aI i]=.ok (.val bT) [rwD rows,asD L,aI i]) :
  sIf (bNot (bV (ZF [false,false,false] F (Z0 (Z1 1) (Z0 (Z1 3) (Z0 (Z1 4) Z2)))))) (Z00 (eC (.bl false))) ZV (lvS k ns rows L (.own true (aI i)))=.nx (lvS k ns rows L (.own true (aI i))):=by
 walk_at "evs"
theorem v_l3(k:NK)(hk:Scr K k)(ns:List Int)(rows:List (List Int))(L:List V)(y4 y4':DL)(hy:Ow y4)(hz:rows.length≤20)(B:SF)
  (lp:Ze (itR 0 rows.length) (Z5 4) B (rows.length + 1) 0 (lvS k ns rows L y4)=.nx (lvS k ns rows L y4')) :
  Z1e (Z0 (eNw (hLen K) (Z0 (Z1 1) Z2)) Z2) (Z5 4) B (lvS k ns rows L y4)=.nx (lvS k ns rows L y4'):=by
 have hki:=Z0l hk ns
 have b1:(rows.length:Int) < 4611686018427387904:=by omega
 have b2:-4611686018427387904≤(rows.length:Int):=by omega
 clear hz
 simp only [lvS,lwS] at lp
 walk_at "evs"
theorem v_l4(k:NK)(ns:List Int)(rows:List (List Int))(L:List V)(y4:DL)(hy:Ow y4)(B:SF)(hB:∀ i:Nat,i < rows.length→B (lvS k ns rows L (.own true (aI i)))=.nx (lvS k ns rows L (.own true (aI i)))) :
  ∃ y4',Ow y4'∧Ze (itR 0 rows.length) (Z5 4) B (rows.length + 1) 0 (lvS k ns rows L y4)=.nx (lvS k ns rows L y4'):=by
 obtain ⟨s',lp,y4',hy',rfl⟩:=Z20 (lo:=0) (n:=rows.length) (b:=Z5 4) (body:=B) (s:=lvS k ns rows L y4)
  (fun j s=>∃ y4,Ow y4∧s=lvS k ns rows L y4) ⟨y4,hy,rfl⟩ (by
  rintro j s hj ⟨y4,hy,rfl⟩
  have e0:(0 + (j:Int))=(j:Int):=by omega
  rw [e0]
  have e1:Z5 4 (lvS k ns rows L y4) (.val (aI j))=some (lvS k ns rows L (.own true (aI j))):=by rcases hy with rfl | ⟨d,rfl⟩ <;> rfl
  exact ⟨_,_,e1,.inl (hB j hj),.own true (aI j),.inr ⟨_,rfl⟩,rfl⟩)
 exact ⟨y4',hy',lp⟩
theorem v_lwZ(k:NK)(hk:Scr K k)(ns:List Int)(rows:List (List Int))(L:List V)(y4:DL)(B:SF)(e:B (lwS k ns .non .non .non .non)=.rt (.val bT) (lvS k ns rows L y4)) :
  ZL 5 [false] B [scD k ns]=.ok (.val bT) [scD k ns]:=by
 have hki:=Z0l hk ns
 simp only [lwS] at e
 walk_at "evs"
theorem ZbX(P1 P2 P3 P4 P5 P6 Q:SF)(s0 s1 s2 s3 s4 s5 s6:Sd)(r:SR)(t1:P1 s0=.nx s1)(t2:P2 s1=.nx s2)(t3:P3 s2=.nx s3)(t4:P4 s3=.nx s4)(t5:P5 s4=.nx s5)(t6:P6 s5=.nx s6)(t7:Q s6=r) :
  Zj P1 (Zj P2 (Zj P3 (Zj P4 (Zj P5 (Zj P6 Q))))) s0=r:=by
 rw [Zr,t1]
 dsimp only
 rw [Zr,t2]
 dsimp only
 rw [Zr,t3]
 dsimp only
 rw [Zr,t4]
 dsimp only
 rw [Zr,t5]
 dsimp only
 rw [Zr,t6]
 exact t7
theorem v_l7(k:NK)(ns:List Int)(rows:List (List Int))(L:List V)(y4:DL):Z00 (eC (.bl true)) (lvS k ns rows L y4)=.rt (.val bT) (lvS k ns rows L y4):=by
 walk_at "evs"
theorem v_law(k:NK)(ns:List Int)(hk:Scr K k)(hl:ns.length≤63):∃ ds,f_law K A [scD k ns]=.ok (.val (.at (.bl true))) ds:=by
 obtain ⟨rows,h8,hr,e1⟩:=ZaJ (K:=K) (A:=A) k hk ns 1 (by omega)
 obtain ⟨h0,S,M0,hS,e0⟩:=v_sm0 (K:=K) (A:=A) rows h8
 obtain ⟨h,st,R,e2⟩:=Z6J (K:=K) (A:=A) rows h8 h0 M0 (Z5J hS) e0
 have O:=Z2m M0 R
 have vl:=Z9X O (Qu _)
 have ll:(Zf rows.length st).length=rows.length:=Z1L _ _
 have s1:=Zc2 (A:=A) (Za3 rows h8 hr)
 have get:∀ (q:Nat) z,(Zf rows.length st)[q]?=some (.int z)↔(z,q)∈st:=fun q z=>by
  constructor
  ·intro hx
   have hq:q < rows.length:=by have:=(Qc.mp hx).1;rwa [Z1L] at this
   by_cases hm:q∈hV st
   ·obtain ⟨e,he,rfl⟩:=Qi.mp hm
    have:=Z4m (n:=rows.length) O.vn hq (show (e.1,e.2)∈st from he)
    rw [this] at hx
    cases hx
    exact he
   ·rw [Z50 hq hm] at hx;cases hx
  ·intro h
   exact Z4m O.vn (O.lt _ h) h
 have best:=fun p hp=>ZbW (K:=K) (A:=A) rows h8 h0 h st M0 (Z5J hS) R p hp vl.ty get vl.on
 generalize Zf rows.length st=L at *
 have t1:=v_lw1 (A:=A) k hk ns rows e1
 have t2:=v_lw2 k hk ns rows (by omega)
 have t3:=v_lw3 k ns rows _ _ e2
 have t4:=v_lw4 (K:=K) k ns rows L _ (by omega) s1
 obtain ⟨y4,hy4,lp1⟩:=v_l4 k ns rows L .non (.inl rfl) (Z2t K A) fun i hi=>by
  have hx:L[i]?=some (L[i]'(by omega)):=Qj _
  rcases vl.ty _ (Qf hx) with z | ⟨x,z⟩
  ·rw [z] at hx
   exact v_l1a k ns rows L i hx
  ·rw [z] at hx
   refine v_l1b k ns rows L i x hx vl.ty fun w=>?_
   obtain ⟨q,hq⟩:=Jd.mp w
   have hqi:q < i:=by
    have:=(Qc.mp hq).1
    rw [Jv] at this
    omega
   rw [Wn hqi] at hq
   have:=vl.on q i x hq hx
   omega
 have t5:=v_l3 (K:=K) k hk ns rows L .non y4 (.inl rfl) h8 _ lp1
 obtain ⟨y5,hy5,lp2⟩:=v_l4 k ns rows L y4 hy4 (Z4D K A) fun i hi=>by
  unfold Z4D Z5s
  exact v_l2 k ns rows L i _ (best i hi)
 have t6:=v_l3 (K:=K) k hk ns rows L y4 y5 hy4 h8 _ lp2
 refine ⟨[scD k ns],?_⟩
 clear e1 e2 e0 s1 best lp1 lp2
 unfold f_law
 refine v_lwZ k hk ns rows L y5 _ ?_
 unfold b_law Z6F Z6G Z6H Z6I
 exact ZbX _ _ _ _ _ _ _ _ _ _ _ _ _ _ _ t1 t2 t3 t4 t5 t6 (v_l7 k ns rows L y5)
end Pf
namespace Pf
open PySem PySem.Spec PyProof.Rows L2 RM
theorem ZbU{K:Qd}{h:Heap}{mg:Str→Option Value}(X:K.In h)(G:h.Ns mainGlobals mg)
    (z_all:PySem.W.nsIn K mainGlobals "all"=some none)
    (z_bool:PySem.W.nsIn K mainGlobals "bool"=some none)
    (z_dict:PySem.W.nsIn K mainGlobals "dict"=some none)
    (z_int:PySem.W.nsIn K mainGlobals "int"=some none)
    (z_isinstance:PySem.W.nsIn K mainGlobals "isinstance"=some none)
    (z_len:PySem.W.nsIn K mainGlobals "len"=some none)
    (z_list:PySem.W.nsIn K mainGlobals "list"=some none)
    (z_max:PySem.W.nsIn K mainGlobals "max"=some none)
    (z_min:PySem.W.nsIn K mainGlobals "min"=some none)
    (z_range:PySem.W.nsIn K mainGlobals "range"=some none)
    (z_str:PySem.W.nsIn K mainGlobals "str"=some none)
    (z_tuple:PySem.W.nsIn K mainGlobals "tuple"=some none)
    {Zu:Addr} {X3 X4:Option Addr} {X5:Array (Option Value)} {X6 X7 X8 X10 X11 X12:Value} (X16:PySem.W.nsIn K mainGlobals "find_number"=some (some (.ref Zu))) (X13:K.lookup Zu=some ⟨X6,X3,.func (PySem.W.fnOf "find_number" "find_number" (Z0e Z18) (Z02 Z18) (Z9 Z18) .none X7 X8 X10 X4 X11 X12),X5⟩) (X14:PySem.W.codeIn K X11 "find_number"=true) (X15:PySem.W.keepIn K (.ref Zu)=true)
    {Z0R:Addr} {X17 X18:Option Addr} {X19:Array (Option Value)} {X20 X21 X22 X23 X24 X25:Value} (X29:PySem.W.nsIn K mainGlobals "unserved"=some (some (.ref Z0R))) (X26:K.lookup Z0R=some ⟨X20,X17,.func (PySem.W.fnOf "unserved" "unserved" (Z0e Z1z) (Z02 Z1z) (Z9 Z1z) .none X21 X22 X23 X18 X24 X25),X19⟩) (X27:PySem.W.codeIn K X24 "unserved"=true) (X28:PySem.W.keepIn K (.ref Z0R)=true)
    {ZK:Addr} {X30 X31:Option Addr} {X32:Array (Option Value)} {X33 X34 X35 X36 X37 X38:Value} (X42:PySem.W.nsIn K mainGlobals "serve_more"=some (some (.ref ZK))) (X39:K.lookup ZK=some ⟨X33,X30,.func (PySem.W.fnOf "serve_more" "serve_more" (Z0e Z1q) (Z02 Z1q) (Z9 Z1q) .none X34 X35 X36 X31 X37 X38),X32⟩) (X40:PySem.W.codeIn K X37 "serve_more"=true) (X41:PySem.W.keepIn K (.ref ZK)=true)
    {Z05:Addr} {X43 X44:Option Addr} {X45:Array (Option Value)} {X46 X47 X48 X49 X50 X51:Value} (X55:PySem.W.nsIn K mainGlobals "hand_over"=some (some (.ref Z05))) (X52:K.lookup Z05=some ⟨X46,X43,.func (PySem.W.fnOf "hand_over" "hand_over" (Z0e Z1H) (Z02 Z1H) (Z9 Z1H) .none X47 X48 X49 X44 X50 X51),X45⟩) (X53:PySem.W.codeIn K X50 "hand_over"=true) (X54:PySem.W.keepIn K (.ref Z05)=true)
    {Z0x:Addr} {X56 X57:Option Addr} {X58:Array (Option Value)} {X59 X60 X61 X62 X63 X64:Value} (X68:PySem.W.nsIn K mainGlobals "settle_row"=some (some (.ref Z0x))) (X65:K.lookup Z0x=some ⟨X59,X56,.func (PySem.W.fnOf "settle_row" "settle_row" (Z0e Z1r) (Z02 Z1r) (Z9 Z1r) .none X60 X61 X62 X57 X63 X64),X58⟩) (X66:PySem.W.codeIn K X63 "settle_row"=true) (X67:PySem.W.keepIn K (.ref Z0x)=true)
    {Z0w:Addr} {X69 X70:Option Addr} {X71:Array (Option Value)} {X72 X73 X74 X75 X76 X77:Value} (X81:PySem.W.nsIn K mainGlobals "serve_rows"=some (some (.ref Z0w))) (X78:K.lookup Z0w=some ⟨X72,X69,.func (PySem.W.fnOf "serve_rows" "serve_rows" (Z0e Z13) (Z02 Z13) (Z9 Z13) .none X73 X74 X75 X70 X76 X77),X71⟩) (X79:PySem.W.codeIn K X76 "serve_rows"=true) (X80:PySem.W.keepIn K (.ref Z0w)=true)
    {Z0T:Addr} {X82 X83:Option Addr} {X84:Array (Option Value)} {X85 X86 X87 X88 X89 X90:Value} (X94:PySem.W.nsIn K mainGlobals "_law_at"=some (some (.ref Z0T))) (X91:K.lookup Z0T=some ⟨X85,X82,.func (PySem.W.fnOf "_law_at" "_law_at" (Z0e Z29) (Z02 Z29) (Z9 Z29) .none X86 X87 X88 X83 X89 X90),X84⟩) (X92:PySem.W.codeIn K X89 "_law_at"=true) (X93:PySem.W.keepIn K (.ref Z0T)=true)
    {Zv:Addr} {X95 X96:Option Addr} {X97:Array (Option Value)} {X98 X99 X100 X101 X102 X103:Value} (X107:PySem.W.nsIn K mainGlobals "_law_figures"=some (some (.ref Zv))) (X104:K.lookup Zv=some ⟨X98,X95,.func (PySem.W.fnOf "_law_figures" "_law_figures" (Z0e Z0X) (Z02 Z0X) (Z9 Z0X) .none X99 X100 X101 X96 X102 X103),X97⟩) (X105:PySem.W.codeIn K X102 "_law_figures"=true) (X106:PySem.W.keepIn K (.ref Zv)=true)
    {Z03:Addr} {X108 X109:Option Addr} {X110:Array (Option Value)} {X111 X112 X113 X114 X115 X116:Value} (X120:PySem.W.nsIn K mainGlobals "_law_chain"=some (some (.ref Z03))) (X117:K.lookup Z03=some ⟨X111,X108,.func (PySem.W.fnOf "_law_chain" "_law_chain" (Z0e Z0K) (Z02 Z0K) (Z9 Z0K) .none X112 X113 X114 X109 X115 X116),X110⟩) (X118:PySem.W.codeIn K X115 "_law_chain"=true) (X119:PySem.W.keepIn K (.ref Z03)=true)
    {ZW:Addr} {X121 X122:Option Addr} {X123:Array (Option Value)} {X124 X125 X126 X127 X128 X129:Value} (X133:PySem.W.nsIn K mainGlobals "_law_long"=some (some (.ref ZW))) (X130:K.lookup ZW=some ⟨X124,X121,.func (PySem.W.fnOf "_law_long" "_law_long" (Z0e Z1G) (Z02 Z1G) (Z9 Z1G) .none X125 X126 X127 X122 X128 X129),X123⟩) (X131:PySem.W.codeIn K X128 "_law_long"=true) (X132:PySem.W.keepIn K (.ref ZW)=true)
    {ZP:Addr} {X134 X135:Option Addr} {X136:Array (Option Value)} {X137 X138 X139 X140 X141 X142:Value} (X146:PySem.W.nsIn K mainGlobals "_law_row_of"=some (some (.ref ZP))) (X143:K.lookup ZP=some ⟨X137,X134,.func (PySem.W.fnOf "_law_row_of" "_law_row_of" (Z0e Z17) (Z02 Z17) (Z9 Z17) .none X138 X139 X140 X135 X141 X142),X136⟩) (X144:PySem.W.codeIn K X141 "_law_row_of"=true) (X145:PySem.W.keepIn K (.ref ZP)=true)
    {Zy:Addr} {X147 X148:Option Addr} {X149:Array (Option Value)} {X150 X151 X152 X153 X154 X155:Value} (X159:PySem.W.nsIn K mainGlobals "_law_drawn_rows"=some (some (.ref Zy))) (X156:K.lookup Zy=some ⟨X150,X147,.func (PySem.W.fnOf "_law_drawn_rows" "_law_drawn_rows" (Z0e Z0B) (Z02 Z0B) (Z9 Z0B) .none X151 X152 X153 X148 X154 X155),X149⟩) (X157:PySem.W.codeIn K X154 "_law_drawn_rows"=true) (X158:PySem.W.keepIn K (.ref Zy)=true)
    {Z0U:Addr} {X160 X161:Option Addr} {X162:Array (Option Value)} {X163 X164 X165 X166 X167 X168:Value} (X172:PySem.W.nsIn K mainGlobals "_law_same"=some (some (.ref Z0U))) (X169:K.lookup Z0U=some ⟨X163,X160,.func (PySem.W.fnOf "_law_same" "_law_same" (Z0e Z1h) (Z02 Z1h) (Z9 Z1h) .none X164 X165 X166 X161 X167 X168),X162⟩) (X170:PySem.W.codeIn K X167 "_law_same"=true) (X171:PySem.W.keepIn K (.ref Z0U)=true)
    {Z0o:Addr} {X173 X174:Option Addr} {X175:Array (Option Value)} {X176 X177 X178 X179 X180 X181:Value} (X185:PySem.W.nsIn K mainGlobals "_law_whole"=some (some (.ref Z0o))) (X182:K.lookup Z0o=some ⟨X176,X173,.func (PySem.W.fnOf "_law_whole" "_law_whole" (Z0e Z1p) (Z02 Z1p) (Z9 Z1p) .none X177 X178 X179 X174 X180 X181),X175⟩) (X183:PySem.W.codeIn K X180 "_law_whole"=true) (X184:PySem.W.keepIn K (.ref Z0o)=true)
    {Z0q:Addr} {X186 X187:Option Addr} {X188:Array (Option Value)} {X189 X190 X191 X192 X193 X194:Value} (X198:PySem.W.nsIn K mainGlobals "_law_way"=some (some (.ref Z0q))) (X195:K.lookup Z0q=some ⟨X189,X186,.func (PySem.W.fnOf "_law_way" "_law_way" (Z0e Z1T) (Z02 Z1T) (Z9 Z1T) .none X190 X191 X192 X187 X193 X194),X188⟩) (X196:PySem.W.codeIn K X193 "_law_way"=true) (X197:PySem.W.keepIn K (.ref Z0q)=true)
    {Z0c:Addr} {X199 X200:Option Addr} {X201:Array (Option Value)} {X202 X203 X204 X205 X206 X207:Value} (X211:PySem.W.nsIn K mainGlobals "_law_best_for"=some (some (.ref Z0c))) (X208:K.lookup Z0c=some ⟨X202,X199,.func (PySem.W.fnOf "_law_best_for" "_law_best_for" (Z0e Z0A) (Z02 Z0A) (Z9 Z0A) .none X203 X204 X205 X200 X206 X207),X201⟩) (X209:PySem.W.codeIn K X206 "_law_best_for"=true) (X210:PySem.W.keepIn K (.ref Z0c)=true)
    {f_law:Addr} {X212 X213:Option Addr} {X214:Array (Option Value)} {X215 X216 X217 X218 X219 X220:Value} (X224:PySem.W.nsIn K mainGlobals "law"=some (some (.ref f_law))) (X221:K.lookup f_law=some ⟨X215,X212,.func (PySem.W.fnOf "law" "law" (Z0e s_law) (Z02 s_law) (Z9 s_law) .none X216 X217 X218 X213 X219 X220),X214⟩) (X222:PySem.W.codeIn K X219 "law"=true) (X223:PySem.W.keepIn K (.ref f_law)=true):∃ A,Txt K mg A :=
  ⟨⟨()⟩,
   ⟨PySem.W.mg_none_of X G z_all,
   PySem.W.mg_none_of X G z_bool,
   PySem.W.mg_none_of X G z_dict,
   PySem.W.mg_none_of X G z_int,
   PySem.W.mg_none_of X G z_isinstance,
   PySem.W.mg_none_of X G z_len,
   PySem.W.mg_none_of X G z_list,
   PySem.W.mg_none_of X G z_max,
   PySem.W.mg_none_of X G z_min,
   PySem.W.mg_none_of X G z_range,
   PySem.W.mg_none_of X G z_str,
   PySem.W.mg_none_of X G z_tuple,
   ⟨Zu,_,Z0J (st:=Z18) X13 X14 X15,PySem.W.mg_of X G X16,fun us hl=>by obtain ⟨_,_,_,_,rfl⟩:=RM.len4 hl;rfl⟩,
   ⟨Z0R,_,Z0J (st:=Z1z) X26 X27 X28,PySem.W.mg_of X G X29,fun us hl=>by obtain ⟨_,_,rfl⟩:=RM.len2 hl;rfl⟩,
   ⟨ZK,_,Z0J (st:=Z1q) X39 X40 X41,PySem.W.mg_of X G X42,fun us hl=>by obtain ⟨_,_,_,rfl⟩:=RM.len3 hl;rfl⟩,
   ⟨Z05,_,Z0J (st:=Z1H) X52 X53 X54,PySem.W.mg_of X G X55,fun us hl=>by obtain ⟨_,_,_,_,_,rfl⟩:=RM.len5 hl;rfl⟩,
   ⟨Z0x,_,Z0J (st:=Z1r) X65 X66 X67,PySem.W.mg_of X G X68,fun us hl=>by obtain ⟨_,_,_,_,rfl⟩:=RM.len4 hl;rfl⟩,
   ⟨Z0w,_,Z0J (st:=Z13) X78 X79 X80,PySem.W.mg_of X G X81,fun us hl=>by obtain ⟨_,rfl⟩:=RM.len1 hl;rfl⟩,
   ⟨Z0T,_,Z0J (st:=Z29) X91 X92 X93,PySem.W.mg_of X G X94,fun us hl=>by obtain ⟨_,_,rfl⟩:=RM.len2 hl;rfl⟩,
   ⟨Zv,_,Z0J (st:=Z0X) X104 X105 X106,PySem.W.mg_of X G X107,fun us hl=>by obtain ⟨_,_,_,_,rfl⟩:=RM.len4 hl;rfl⟩,
   ⟨Z03,_,Z0J (st:=Z0K) X117 X118 X119,PySem.W.mg_of X G X120,fun us hl=>by obtain ⟨_,_,_,rfl⟩:=RM.len3 hl;rfl⟩,
   ⟨ZW,_,Z0J (st:=Z1G) X130 X131 X132,PySem.W.mg_of X G X133,fun us hl=>by obtain ⟨_,_,_,rfl⟩:=RM.len3 hl;rfl⟩,
   ⟨ZP,_,Z0J (st:=Z17) X143 X144 X145,PySem.W.mg_of X G X146,fun us hl=>by obtain ⟨_,_,_,_,rfl⟩:=RM.len4 hl;rfl⟩,
   ⟨Zy,_,Z0J (st:=Z0B) X156 X157 X158,PySem.W.mg_of X G X159,fun us hl=>by obtain ⟨_,_,_,_,rfl⟩:=RM.len4 hl;rfl⟩,
   ⟨Z0U,_,Z0J (st:=Z1h) X169 X170 X171,PySem.W.mg_of X G X172,fun us hl=>by obtain ⟨_,_,rfl⟩:=RM.len2 hl;rfl⟩,
   ⟨Z0o,_,Z0J (st:=Z1p) X182 X183 X184,PySem.W.mg_of X G X185,fun us hl=>by obtain ⟨_,rfl⟩:=RM.len1 hl;rfl⟩,
   ⟨Z0q,_,Z0J (st:=Z1T) X195 X196 X197,PySem.W.mg_of X G X198,fun us hl=>by obtain ⟨_,_,_,_,rfl⟩:=RM.len4 hl;rfl⟩,
   ⟨Z0c,_,Z0J (st:=Z0A) X208 X209 X210,PySem.W.mg_of X G X211,fun us hl=>by obtain ⟨_,_,_,rfl⟩:=RM.len3 hl;rfl⟩,
   ⟨f_law,_,Z0J (st:=s_law) X221 X222 X223,PySem.W.mg_of X G X224,fun us hl=>by obtain ⟨_,rfl⟩:=RM.len1 hl;rfl⟩⟩⟩
end Pf
namespace PySem.W.Fast
theorem tw8475416573596403680:0=0:=rfl
theorem tw16138832203339095745:0=0:=rfl
theorem tw4984575967287956034:0=0:=rfl
theorem tw11606445283215208258:0=0:=rfl
theorem tw2806067287260012611:0=0:=rfl
theorem tw6468102713337846115:0=0:=rfl
theorem tw8771510429641352771:0=0:=rfl
theorem tw505297397471354467:0=0:=rfl
theorem tw3544879423931996099:0=0:=rfl
theorem tw1626147459751806052:0=0:=rfl
theorem tw17394738165448042692:0=0:=rfl
theorem tw12152796614883305700:0=0:=rfl
theorem tw7955033258856560292:0=0:=rfl
theorem tw10327934897239515812:0=0:=rfl
theorem tw15612425958272707397:0=0:=rfl
theorem tw14025398247405981830:0=0:=rfl
theorem tw7286705186855236806:0=0:=rfl
theorem tw2190624617217751366:0=0:=rfl
theorem tw408120436196367782:0=0:=rfl
theorem tw5218246914171336166:0=0:=rfl
theorem tw7814701720403045990:0=0:=rfl
theorem tw2489974037704091366:0=0:=rfl
theorem tw35644721140577062:0=0:=rfl
theorem tw6085547873866543111:0=0:=rfl
theorem tw2325109124203290791:0=0:=rfl
theorem tw16687269983491912999:0=0:=rfl
theorem tw3025099693727342119:0=0:=rfl
theorem tw17254223171365935687:0=0:=rfl
theorem tw12495041770632789895:0=0:=rfl
theorem tw12553048001695830120:0=0:=rfl
theorem tw6551864736708066056:0=0:=rfl
theorem tw5396018816298415912:0=0:=rfl
theorem tw3299202107372096585:0=0:=rfl
theorem tw660578061294146985:0=0:=rfl
theorem tw6332208252483161673:0=0:=rfl
theorem tw15488344153233176233:0=0:=rfl
theorem tw952379855860692649:0=0:=rfl
theorem tw9620892525231360202:0=0:=rfl
theorem tw9257683660803455562:0=0:=rfl
theorem tw7926525342257034251:0=0:=rfl
theorem tw7959750148459881483:0=0:=rfl
theorem tw1550775610730907019:0=0:=rfl
theorem tw8596631124648202667:0=0:=rfl
theorem tw10477122279494403627:0=0:=rfl
theorem tw8165968060644872907:0=0:=rfl
theorem tw6230635124564108:0=0:=rfl
theorem tw13900654928308356460:0=0:=rfl
theorem tw1050804680940417133:0=0:=rfl
theorem tw14982651447733230797:0=0:=rfl
theorem tw18076859737441202637:0=0:=rfl
theorem tw13776245955601054253:0=0:=rfl
theorem tw10143842685562571854:0=0:=rfl
theorem tw11593140419203947662:0=0:=rfl
theorem tw10303900822133090734:0=0:=rfl
theorem tw4249000288023352846:0=0:=rfl
theorem tw6520253785017112078:0=0:=rfl
theorem tw13926827232221499950:0=0:=rfl
theorem tw10498403916806996686:0=0:=rfl
theorem tw15023632712482120686:0=0:=rfl
theorem tw13628971771005124655:0=0:=rfl
theorem tw2700711931080119407:0=0:=rfl
theorem tw5711353067410459311:0=0:=rfl
theorem tw9360003274852946703:0=0:=rfl
theorem tw2621178485766325712:0=0:=rfl
theorem tw4869577171339187056:0=0:=rfl
theorem tw6360381206760905905:0=0:=rfl
theorem tw5649174669539925201:0=0:=rfl
theorem tw12082834508164284690:0=0:=rfl
theorem tw12280085518827006706:0=0:=rfl
theorem tw12478615462523128883:0=0:=rfl
theorem tw17605667258969643059:0=0:=rfl
theorem tw8651973264860000403:0=0:=rfl
theorem tw15609900647881299187:0=0:=rfl
theorem tw13448081106389962099:0=0:=rfl
theorem tw4442277177354971795:0=0:=rfl
theorem tw15355723585115512691:0=0:=rfl
theorem tw5608576003912809620:0=0:=rfl
theorem tw8025177811269809684:0=0:=rfl
theorem tw14927384143346240533:0=0:=rfl
theorem tw6880679846573181141:0=0:=rfl
theorem tw4207373849243240693:0=0:=rfl
theorem tw16547679486433131189:0=0:=rfl
theorem tw5991065873295290165:0=0:=rfl
theorem tw13940546311536322838:0=0:=rfl
theorem tw13512335984418657782:0=0:=rfl
theorem tw9285871687633007094:0=0:=rfl
theorem tw18104815581648995222:0=0:=rfl
theorem tw6600463360720082487:0=0:=rfl
theorem tw6652792249662290775:0=0:=rfl
theorem tw12557347987576597656:0=0:=rfl
theorem tw4742397938804649304:0=0:=rfl
theorem tw1366846938375408088:0=0:=rfl
theorem tw1951461852359658008:0=0:=rfl
theorem tw2608430685456920152:0=0:=rfl
theorem tw4118202974042856280:0=0:=rfl
theorem tw16280332635153847192:0=0:=rfl
theorem tw14774697031718856664:0=0:=rfl
theorem tw13786523009055738169:0=0:=rfl
theorem tw9215412049276338105:0=0:=rfl
theorem tw9723326989297655386:0=0:=rfl
theorem tw16819662957527533274:0=0:=rfl
theorem tw16518980781189011290:0=0:=rfl
theorem tw3043239129346500699:0=0:=rfl
theorem tw14101004251283926427:0=0:=rfl
theorem tw2376051258987578843:0=0:=rfl
theorem tw16517258301135069019:0=0:=rfl
theorem tw5310122013020939227:0=0:=rfl
theorem tw13891769492732497181:0=0:=rfl
theorem tw16306486212371690205:0=0:=rfl
theorem tw11396331948053916477:0=0:=rfl
theorem tw14297093777413010301:0=0:=rfl
theorem tw15535474677110999965:0=0:=rfl
theorem tw16142716007713121630:0=0:=rfl
theorem tw2483859259659081054:0=0:=rfl
theorem tw13543702270606014942:0=0:=rfl
theorem tw16773739120460280318:0=0:=rfl
theorem tw12187813897235545630:0=0:=rfl
theorem tw1003050667323849246:0=0:=rfl
theorem tw10191138439203963838:0=0:=rfl
theorem tw2599958807738806367:0=0:=rfl
theorem tw13418198597732338847:0=0:=rfl
theorem tw12865953373707614623:0=0:=rfl
theorem tw4679171105405359839:0=0:=rfl
theorem tw18302826056599043999:0=0:=rfl
theorem tw6610860815780000703:0=0:=rfl
theorem tw13246259288247108581:0=0:=rfl
end PySem.W.Fast
open PySem PySem.W PyProof.Rows
set_option maxRecDepth 100000 in
set_option maxHeartbeats 0 in
theorem PySem.Challenge.cw_papercircle_k11_no_better_way_holds : PySem.Challenge.rw_papercircle_k11_no_better_way.Holds := by
  w_on;o_law;k_head;(case hw=>w_witness2)
  k_fill
  refine L2.ZaO (l:=PySem.Challenge.rw_papercircle_k11_no_better_way) (n:=63) (k:=30) (x := "_law_script") (CX:=fun w=>L2.CX1 PySem.Challenge.pw_papercircle_k11_no_better_way w) (sp:=fun w=>RM.spLaw _) rfl (by decide) rfl ⟨rfl,by decide,by decide,rfl⟩ (fun w h Y=>PySem.W.kIn_of Y) ?F (fun w H a ns hl hO hS=>RM.Z9d hl hS) (fun _ _ _ _ _ z=>L2.Z87 z)
  case F =>
    intro w mg fa h KX G hmg
    have T:∃ A,Pf.Txt (L2.KOf KX) mg A:=by
      dsimp only [L2.KOf]
      refine' Pf.ZbU KX G ?z_all ?z_bool ?z_dict ?z_int ?z_isinstance ?z_len ?z_list ?z_max ?z_min ?z_range ?z_str ?z_tuple ?X16 ?X13 ?X14 ?X15 ?X29 ?X26 ?X27 ?X28 ?X42 ?X39 ?X40 ?X41 ?X55 ?X52 ?X53 ?X54 ?X68 ?X65 ?X66 ?X67 ?X81 ?X78 ?X79 ?X80 ?X94 ?X91 ?X92 ?X93 ?X107 ?X104 ?X105 ?X106 ?X120 ?X117 ?X118 ?X119 ?X133 ?X130 ?X131 ?X132 ?X146 ?X143 ?X144 ?X145 ?X159 ?X156 ?X157 ?X158 ?X172 ?X169 ?X170 ?X171 ?X185 ?X182 ?X183 ?X184 ?X198 ?X195 ?X196 ?X197 ?X211 ?X208 ?X209 ?X210 ?X224 ?X221 ?X222 ?X223
      (case z_all=>k_is)
      (case z_bool=>k_is)
      (case z_dict=>k_is)
      (case z_int=>k_is)
      (case z_isinstance=>k_is)
      (case z_len=>k_is)
      (case z_list=>k_is)
      (case z_max=>k_is)
      (case z_min=>k_is)
      (case z_range=>k_is)
      (case z_str=>k_is)
      (case z_tuple=>k_is)
      (case X16=>k_is)
      (case X13=>k_is)
      (case X14=>k_is)
      (case X15=>k_is)
      (case X29=>k_is)
      (case X26=>k_is)
      (case X27=>k_is)
      (case X28=>k_is)
      (case X42=>k_is)
      (case X39=>k_is)
      (case X40=>k_is)
      (case X41=>k_is)
      (case X55=>k_is)
      (case X52=>k_is)
      (case X53=>k_is)
      (case X54=>k_is)
      (case X68=>k_is)
      (case X65=>k_is)
      (case X66=>k_is)
      (case X67=>k_is)
      (case X81=>k_is)
      (case X78=>k_is)
      (case X79=>k_is)
      (case X80=>k_is)
      (case X94=>k_is)
      (case X91=>k_is)
      (case X92=>k_is)
      (case X93=>k_is)
      (case X107=>k_is)
      (case X104=>k_is)
      (case X105=>k_is)
      (case X106=>k_is)
      (case X120=>k_is)
      (case X117=>k_is)
      (case X118=>k_is)
      (case X119=>k_is)
      (case X133=>k_is)
      (case X130=>k_is)
      (case X131=>k_is)
      (case X132=>k_is)
      (case X146=>k_is)
      (case X143=>k_is)
      (case X144=>k_is)
      (case X145=>k_is)
      (case X159=>k_is)
      (case X156=>k_is)
      (case X157=>k_is)
      (case X158=>k_is)
      (case X172=>k_is)
      (case X169=>k_is)
      (case X170=>k_is)
      (case X171=>k_is)
      (case X185=>k_is)
      (case X182=>k_is)
      (case X183=>k_is)
      (case X184=>k_is)
      (case X198=>k_is)
      (case X195=>k_is)
      (case X196=>k_is)
      (case X197=>k_is)
      (case X211=>k_is)
      (case X208=>k_is)
      (case X209=>k_is)
      (case X210=>k_is)
      (case X224=>k_is)
      (case X221=>k_is)
      (case X222=>k_is)
      (case X223=>k_is)
    obtain ⟨A,T⟩:=T
    exact L2.Zai T.X224 (fun base=>RM.DefX.imp (Pf.Zbu T) fun vs H Q E h=>RM.Zbp (fun k ns hk hl=>Pf.v_law k ns hk hl) h) hmg
