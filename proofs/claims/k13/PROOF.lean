import PyProof.Rows.All
import Wide.All
import OpenK.AllK
import Wide.FinOn
import Lean
import PyProof.EqAt
import PyProof.EqKinds
import PyProof.TupleCall
import PyProof.ListRange
import PyProof.ReprRoads
import PyProof.SeqI3
import PySem.Challenge.RW_papercircle_k13_joining

open PySem.W renaming Frag→Qa
open List renaming getElem?_map→Qc,mem_append_right→Qd,getElem?_eq_some_iff→Qe,mem_append→Qf,mem_of_getElem?→Qg,mem_append_left→Qh,map_cons→Qi,getElem?_eq_getElem→Qj,getElem?_append_left→Qk,nodup_append→Qm,getElem?_set→Qn,length_map→Qo,append_assoc→Qp,perm_iff_count→Qs,mem_cons_of_mem→Qt,getElem?_append_right→Qu,mem_cons→Qx,mem_cons_self→Qy,size_toArray→Qz,mem_iff_getElem?→Ja,count_append→Jd,mem_singleton→Je,map_map→Jf,append_nil→Jg,length_append→Jh,filterMap_cons→Ji,cons_append→Jj,map_append→Jk,map_nil→Jl,lookup_cons→Jm,length_cons→Jp,mem_filterMap→Jq,nodup_cons→Jr,nil_append→Js,cons→Jt,take_of_length_le→Ju,perm_append_comm→Jv,map_set→Jw,mem_map→Jx,getElem?_cons_zero→Jy,findIdx?_eq_some_iff_getElem→Jz,flatMap_cons→Wb,map_congr_left→Wc,length_replicate→Wd,getElem?_eq_none→We,ext_getElem?→Wf,length_take→Wg,getElem?_zipWith→Wh,getElem?_mapIdx→Wj,eq_nil_iff_forall_not_mem→Wl,zip_cons_cons→Wm,find?_cons→Wo,nodup_nil→Wr,mem_of_mem_drop→Ws,not_mem_nil→Wt,getElem_mem→Wu,all_cons→Wv,any_cons→Ww,set_cons_succ→Wx,length_mapIdx→Wy,lookup→Nf,getElem?_replicate→Ng,getElem?_cons_succ→Nh,getElem?_set_self→Ni,take_add_one→Nj,singleton_append→Nk,mem_of_mem_take→Np,dropLast_concat_getLast→Nq,length_zip→Nr,mem_range→Nx,findIdx?_cons→Ny,getElem?_take→Nz,getLast?_eq_some_iff→Ga,mem_or_eq_of_mem_set→Gb,drop_eq_getElem_cons→Gd,sublist_append_right→Ge,findIdx?_eq_none_iff→Gf,map_dropLast→Gg,getElem_inj→Gh,mem_flatMap→Gj,countP_cons→Gk,eraseIdx_cons_succ→Gm,filter_cons→Gn,zipWith→Gq,drop_eq_nil_of_le→Gr,drop_of_length_le→Gs,mem_filter→Gu,take_append_drop→Gv,getElem?_set_ne→Gx,count_nil→Gz,zip_eq_zipWith→Qab,map_take→Qac,set_cons_zero→Qad,take_sublist→Qae,findIdx_cons→Qaf
open Bool renaming false_ne_true→Ql,and_eq_true→Qw,not_eq_true'→Wi,eq_iff_iff→Wn,false_eq_true→Wz,beq_eq_decide_eq→Gw,and_false→Qaa
open Nat renaming le_refl→Qq,lt_of_lt_of_le→Qv,ne_of_lt→Jb,le_trans→Jc,lt_irrefl→Jo,lt_succ_of_lt→Wa,lt_succ_self→Wk,zero_le→Wq,le_of_not_lt→Nm,le_of_lt→Nu,lt_or_ge→Nv,succ_le_succ→Gi,sub_self→Gp,le_succ→Gy
open Int renaming emod_lt_of_pos→Nb,emod_nonneg→Nt
set_option Elab.async false
set_option bootstrap.genMatcherCode false
set_option maxHeartbeats 0
set_option linter.all false
set_option maxRecDepth 100000

namespace L2
open PySem PySem.Spec PyProof.Rows
noncomputable abbrev Key:=Sum Int Str
noncomputable def keyIs:Key→Value→Bool
 | .inl k,v=>Value.isInt k v
 | .inr x,v=>Value.isStrOf x v
noncomputable def keyH(w:World):Key→Int
 | .inl k=>hashInt k
 | .inr x=>hashStr w x
theorem Z0A:∀ {k:Key} {v:Value},keyIs k v=true→(∃ i t,k=Sum.inl i∧v=Value.int i t)∨(∃ x t,k=Sum.inr x∧v=Value.str x t)
 | .inl i,v,h=>by
  obtain ⟨t,e⟩:=Value.isInt_shape (k:=i) (v:=v) h
  exact .inl ⟨i,t,rfl,e⟩
 | .inr x,v,h=>by
  obtain ⟨t,e⟩:=Value.isStrOf_shape (x:=x) (v:=v) h
  exact .inr ⟨x,t,rfl,e⟩
theorem Zbi(i:Int)(t:Tok):keyIs (.inl i) (.int i t)=true:=by simp [keyIs,Value.isInt]
theorem Zbj(x:Str)(t:Tok):keyIs (.inr x) (.str x t)=true:=by simp [keyIs,Value.isStrOf]
theorem ZeQ(a b:Int):decide ((Sum.inl a:Key)=Sum.inl b)=(a == b):=by
 by_cases e:a=b
 ·subst e;simp
 ·have h:¬ (Sum.inl a:Key)=Sum.inl b:=fun q=>e (Sum.inl.inj q)
  rw [decide_eq_false h]
  exact (beq_eq_false_iff_ne.mpr e).symm
theorem ZeT(a b:Str):decide ((Sum.inr a:Key)=Sum.inr b)=decide (a=b):=by
 by_cases e:a=b
 ·subst e;simp
 ·have h:¬ (Sum.inr a:Key)=Sum.inr b:=fun q=>e (Sum.inr.inj q)
  rw [decide_eq_false h,decide_eq_false e]
theorem ZeR(a:Int)(b:Str):decide ((Sum.inl a:Key)=Sum.inr b)=false:=decide_eq_false (fun q=>nomatch q)
theorem ZeS(a:Str)(b:Int):decide ((Sum.inr a:Key)=Sum.inl b)=false:=decide_eq_false (fun q=>nomatch q)
noncomputable def Z0n(prog:Program)(w:World):PySem.KeyKind prog w Key where
 is:=keyIs
 hash:=keyH w
 inj:=fun v a b ha hb=>by
  rcases Z0A ha with ⟨i,t,rfl,rfl⟩ | ⟨x,t,rfl,rfl⟩
  ·rcases Z0A hb with ⟨j,u,rfl,e⟩ | ⟨y,u,rfl,e⟩
   ·injection e with e1 _;rw [e1]
   ·exact nomatch e
  ·rcases Z0A hb with ⟨j,u,rfl,e⟩ | ⟨y,u,rfl,e⟩
   ·exact nomatch e
   ·injection e with e1 _;rw [e1]
 byValue:=fun k v h=>by
  rcases Z0A h with ⟨i,t,rfl,rfl⟩ | ⟨x,t,rfl,rfl⟩ <;> rfl
 pyHash:=fun hv h=>by
  rcases Z0A hv with ⟨i,t,rfl,rfl⟩ | ⟨x,t,rfl,rfl⟩
  ·exact wpAny_pyHash_int h
  ·exact wpAny_pyHash_str h
 eqBool:=fun hu hv h=>by
  rcases Z0A hu with ⟨i,t,rfl,rfl⟩ | ⟨x,t,rfl,rfl⟩
  ·rcases Z0A hv with ⟨j,u,rfl,rfl⟩ | ⟨y,u,rfl,rfl⟩
   ·rw [ZeQ] at h;exact wpAny_eqBool_int h
   ·rw [ZeR] at h;exact SeqAt.EqAt.int_str i t y u _ _ _ _ h
  ·rcases Z0A hv with ⟨j,u,rfl,rfl⟩ | ⟨y,u,rfl,rfl⟩
   ·rw [ZeS] at h;exact SeqAt.EqAt.str_int x t j u _ _ _ _ h
   ·rw [ZeT] at h;exact wpAny_eqBool_str h
 «strs»:=fun k x t v h=>by
  rcases Z0A h with ⟨i,u,rfl,e⟩ | ⟨y,u,rfl,e⟩
  ·exact nomatch e
  ·injection e with e1 _
   subst e1
   cases v <;> rfl
theorem Z9U(prog:Program)(w:World)(i:Int)(t:Tok):(Z0n prog w).is (.inl i) (.int i t)=true:=Zbi i t
theorem Z9V(prog:Program)(w:World)(x:Str)(t:Tok):(Z0n prog w).is (.inr x) (.str x t)=true:=Zbj x t
end L2
namespace L2
open PySem PySem.Spec PyProof.Rows
inductive V where
 | non | bl (b:Bool) | int (i:Int) | str (x:Str) | byt (b:Array UInt8) | flt (b:UInt64) | ref (a:Addr) | ty (n:String)
 deriving DecidableEq
noncomputable def RelV:V→Value→Prop
 | .non,u=>u=Value.none
 | .bl b,u=>u=Value.bool b
 | .int i,u=>∃ t,u=Value.int i t
 | .str x,u=>∃ t,u=Value.str x t
 | .byt b,u=>∃ t,u=Value.bytes b t
 | .flt b,u=>∃ t,u=Value.float b t
 | .ref a,u=>u=Value.ref a
 | .ty n,u=>u=Value.type n
noncomputable abbrev Vals:List V→List Value→Prop:=Paired RelV
theorem Vals.length{xs:List V}{us:List Value}(r:Vals xs us):xs.length=us.length:=Paired.length r
theorem Vals.get:∀ {xs:List V} {us:List Value} {i:Nat} {x:V},Vals xs us→xs[i]?=some x→∃ u,us[i]?=some u∧RelV x u
 | _,_,_,_,.nil,e=>by simp at e
 | _,_,0,_,.cons r _,e=>by simp at e;subst e;exact ⟨_,rfl,r⟩
 | _,_,i + 1,x,.cons _ t,e=>by
  obtain ⟨u,h1,h2⟩:=Vals.get (i:=i) (x:=x) t (by simpa using e)
  exact ⟨u,by simpa using h1,h2⟩
theorem Vals.append:∀ {xs ys:List V} {us ws:List Value},Vals xs us→Vals ys ws→Vals (xs++ys) (us++ws)
 | _,_,_,_,.nil,s=>s
 | _,_,_,_,.cons r t,s=>.cons r (Vals.append t s)
theorem Vals.take:∀ {xs:List V} {us:List Value} (n:Nat),Vals xs us→Vals (xs.take n) (us.take n)
 | _,_,0,_=>.nil
 | _,_,_ + 1,.nil=>.nil
 | _,_,n + 1,.cons r t=>.cons r (Vals.take n t)
theorem Vals.drop:∀ {xs:List V} {us:List Value} (n:Nat),Vals xs us→Vals (xs.drop n) (us.drop n)
 | _,_,0,r=>r
 | _,_,_ + 1,.nil=>.nil
 | _,_,n + 1,.cons _ t=>Vals.drop n t
noncomputable def RelO:Option V→Option Value→Prop
 | some v,some u=>RelV v u
 | none,none=>True
 | _,_=>False
noncomputable def KV{κ:Type}:List (κ×V)→List (κ×Value)→Prop:=Paired fun (p:κ×V) (q:κ×Value)=>p.1=q.1∧RelV p.2 q.2
noncomputable def kV:Key→V
 | .inl i=>.int i
 | .inr x=>.str x
inductive HO where
 | lst (xs:List V)
 | tup (xs:List V)
 | dK (kvs:List (Key×V)) | dT (kvs:List (List Key×V))
 | set (S:Int→Bool) (n:Nat)
 | ins (C dx:Addr) (fs:List (Str×V))
 | own (x:Addr)
 | xd (fs:List (Str×V))
 | met (f x:Addr)
 | rng (lo hi:Int)
 | frz (o:Obj) (u:HO)
 | tbl (ps:Array Value)
 | ext (φ:Heap→Prop)
noncomputable abbrev Hp:=Addr→Option HO
noncomputable def upd(H:Hp)(a:Addr)(o:HO):Hp:=fun b=>if b=a then some o else H b
theorem Zm{H:Hp}{a:Addr}{o:HO}:upd H a o a=some o:=by unfold upd;rw [if_pos rfl]
theorem Zb{H:Hp}{a b:Addr}{o:HO}(h:b≠a):upd H a o b=H b:=by unfold upd;rw [if_neg h]
theorem ne_of{H:Hp}{a b:Addr}{o u:HO}(h:H a=some o)(h':H b=some u)(d:o≠u):a≠b:=by
 intro e;subst e;rw [h] at h';exact d (Option.some.inj h')
theorem Z0P{H:Hp}{a b:Addr}{o:HO}(h:H a=some o)(h':H b=none):a≠b:=by
 intro e;subst e;rw [h] at h';cases h'
section
variable (P:Program)(w:World)
noncomputable def Z06(H:Hp)(h:Heap)(a:Addr):HO→Prop
 | .lst xs=>xs.length≤sizeLine∧∃ (its:List Value) (n:Nat),Vals xs its∧h.get? a=some { cls:=.type "list",data:=.seq its.toArray n }
 | .tup xs=>xs.length≤sizeLine∧∃ its:List Value,Vals xs its∧IsTup h a its.toArray
 | .dK kvs=>kvs.length≤sizeLine∧(a == sysModules)=false∧∃ vs,KV kvs vs∧h.DictOf (Z0n P w) a vs
 | .dT kvs=>kvs.length≤sizeLine∧(a == sysModules)=false∧∃ xs:List (List Key×Addr×Value),
   Paired (fun (p:List Key×V) (q:List Key×Addr×Value)=>p.1=q.1∧H q.2.1=some (.tup (p.1.map kV))∧RelV p.2 q.2.2) kvs xs ∧
   ∃ o es ep,h.get? a=some o∧o.ExactDict∧o.data=.dict es ep∧es.toList=xs.map (entryOfKey (tupleKind (Z0n P w)))∧(xs.map (·.1)).Nodup
 | .set S n=>h.SetOf (intKind P w) a S n
 | .ins C dx fs=>H dx=some (.own a)∧fs.length≤1000∧dx≠a∧h.get? a=some (PySem.W.instObj C dx) ∧
   ∃ mA,h.Ns1 dx mA∧(∀ f,RelO (fs.lookup f) (mA f))∧PySem.Within mA (fs.map (·.1))
 | .own _=>∃ o,h.get? a=some o
 | .xd fs=>∃ mA,h.Ns1 a mA∧∀ f,RelO (fs.lookup f) (mA f)
 | .rng lo hi=>∃ t u v,h.get? a=some { cls:=.type "range",data:=.fields #[.int lo t,.int hi u,.int 1 v] }
 | .frz o u=>h.get? a=some o∧Z06 H h a u
 | .tbl ps=>h.get? a=some { cls:=.none,data:=.fields ps }
 | .met f x=>h.get? a=some (PySem.W.methodObj (.ref f) (.ref x))
 | .ext φ=>φ h∧(∃ o,h.get? a=some o)∧∀ h1 h2:Heap,φ h1→(∀ o,h1.get? a=some o→h2.get? a=some o)→φ h2
noncomputable def HOk(H:Hp)(h:Heap):Prop:=∀ a o,H a=some o→Z06 P w H h a o
end
section
variable {P:Program}{w:World}{H H':Hp}{h h':Heap}{a:Addr}{o:HO}
theorem Z06.lt(x:Z06 P w H h a o):a < h.objs.size:=by
 cases o with
 | lst xs=>obtain ⟨_,_,_,_,e⟩:=x;exact Heap.lt_size e
 | tup xs=>obtain ⟨_,_,_,p⟩:=x;exact p.lt
 | dK kvs=>obtain ⟨_,_,_,_,o,_,_,e,_⟩:=x;exact Heap.lt_size e
 | dT kvs=>obtain ⟨_,_,_,_,o,_,_,e,_⟩:=x;exact Heap.lt_size e
 | set S n=>obtain ⟨o,_,_,_,e,_⟩:=x;exact Heap.lt_size e
 | ins C dx fs=>obtain ⟨_,_,_,e,_⟩:=x;exact Heap.lt_size e
 | own y=>obtain ⟨_,e⟩:=x;exact Heap.lt_size e
 | xd fs=>obtain ⟨_,⟨_,_,_,e,_⟩,_⟩:=x;exact Heap.lt_size e
 | rng lo hi=>obtain ⟨_,_,_,e⟩:=x;exact Heap.lt_size e
 | frz ob u=>obtain ⟨e,_⟩:=x;exact Heap.lt_size e
 | tbl ps=>exact Heap.lt_size (show h.get? a=some _ from x)
 | met f y=>exact Heap.lt_size (show h.get? a=some _ from x)
 | ext φ=>obtain ⟨_,⟨_,e⟩,_⟩:=x;exact Heap.lt_size e
theorem Paired.mapP{α β:Type}{F G:α→β→Prop}:∀ {l₁:List α} {l₂:List β},Paired F l₁ l₂→(∀ a b,F a b→G a b)→Paired G l₁ l₂
 | _,_,.nil,_=>.nil
 | _,_,.cons r t,f=>.cons (f _ _ r) (Paired.mapP t f)
theorem Z06.stay(x:Z06 P w H h a o)(k:∀ b u,(b=a∨H b=some (.own a))→h.get? b=some u→h'.get? b=some u)
  (ho:∀ b,H b=some (.own a)→H' b=some (.own a)) (ht:∀ b xs,H b=some (.tup xs)→H' b=some (.tup xs)):Z06 P w H' h' a o:=by
 induction o with
 | lst xs=>obtain ⟨z,its,n,r,e⟩:=x;exact ⟨z,its,n,r,k _ _ (.inl rfl) e⟩
 | tup xs=>obtain ⟨z,its,r,ob,e,c⟩:=x;exact ⟨z,its,r,ob,k _ _ (.inl rfl) e,c⟩
 | dK kvs=>obtain ⟨z,y,vs,r,ob,es,ep,e,c⟩:=x;exact ⟨z,y,vs,r,ob,es,ep,k _ _ (.inl rfl) e,c⟩
 | dT kvs =>
  obtain ⟨z,y,xs,r,ob,es,ep,e,c⟩:=x
  exact ⟨z,y,xs,Paired.mapP r fun p q z=>⟨z.1,ht _ _ z.2.1,z.2.2⟩,ob,es,ep,k _ _ (.inl rfl) e,c⟩
 | set S n=>obtain ⟨ob,es,ep,t,e,c⟩:=x;exact ⟨ob,es,ep,t,k _ _ (.inl rfl) e,c⟩
 | ins C dx fs =>
  obtain ⟨d,z,ne,e,mA,⟨od,es,ep,e2,c⟩,r⟩:=x
  exact ⟨ho _ d,z,ne,k _ _ (.inl rfl) e,mA,⟨od,es,ep,k _ _ (.inr d) e2,c⟩,r⟩
 | own y=>obtain ⟨ob,e⟩:=x;exact ⟨ob,k _ _ (.inl rfl) e⟩
 | xd fs=>obtain ⟨mA,⟨od,es,ep,e,c⟩,r⟩:=x;exact ⟨mA,⟨od,es,ep,k _ _ (.inl rfl) e,c⟩,r⟩
 | rng lo hi=>obtain ⟨t,u,v,e⟩:=x;exact ⟨t,u,v,k _ _ (.inl rfl) e⟩
 | frz ob u ih=>obtain ⟨e,q⟩:=x;exact ⟨k _ _ (.inl rfl) e,ih q⟩
 | tbl ps =>
  have e:h.get? a=some { cls:=.none,data:=.fields ps }:=x
  show h'.get? a=some { cls:=.none,data:=.fields ps }
  exact k a _ (.inl rfl) e
 | met f y =>
  have e:h.get? a=some (PySem.W.methodObj (.ref f) (.ref y)):=x
  show h'.get? a=some (PySem.W.methodObj (.ref f) (.ref y))
  exact k a _ (.inl rfl) e
 | ext φ=>obtain ⟨p,⟨o,e⟩,st⟩:=x;exact ⟨st _ _ p fun o q=>k _ _ (.inl rfl) q,⟨o,k _ _ (.inl rfl) e⟩,st⟩
theorem HOk.lt(x:HOk P w H h)(e:H a=some o):a < h.objs.size:=(x a o e).lt
theorem HOk.fresh(x:HOk P w H h)(e:h.objs.size≤a):H a=none:=by
 cases q:H a with
 | none=>rfl
 | some u=>exact absurd (Qv (x.lt q) e) (Jo _)
theorem HOk.kept(x:HOk P w H h)(k:∀ b u,h.get? b=some u→h'.get? b=some u):HOk P w H h':=fun a o e =>
 (x a o e).stay (fun b u _ q=>k b u q) (fun _ q=>q) fun _ _ q=>q
theorem HOk.laid(x:HOk P w H h)(k:∀ b u,h.get? b=some u→h'.get? b=some u)(hp:h.objs.size≤a)(new:Z06 P w (upd H a o) h' a o):HOk P w (upd H a o) h':=fun b u e=>by
 have hn:=x.fresh hp
 by_cases hb:b=a
 ·subst hb;rw [Zm] at e;cases e;exact new
 ·rw [Zb hb] at e
  exact (x b u e).stay (fun c v _ q=>k c v q) (fun c q=>by rw [Zb (Z0P q hn)];exact q) fun c xs q=>by rw [Zb (Z0P q hn)];exact q
end
noncomputable def Rd(H:Hp)(a:Addr)(u:HO):Prop:=H a=some u∨∃ o,H a=some (.frz o u)
theorem Rd.ok{P:Program}{w:World}{H:Hp}{h:Heap}{a:Addr}{u:HO}(r:Rd H a u)(x:HOk P w H h):Z06 P w H h a u:=by
 rcases r with r | ⟨o,r⟩
 ·exact x a u r
 ·obtain ⟨_,q⟩:=x a _ r
  exact q
noncomputable def Mut:Option HO→Prop
 | some (.lst _)=>True
 | some (.dK _)=>True
 | some (.dT _)=>True
 | some (.set _ _)=>True
 | some (.ins _ _ _)=>True
 | some (.ext _)=>True
 | _=>False
section
variable {P:Program}{w:World}{H:Hp}{h h':Heap}{x e:Addr}{o':HO}
theorem HOk.write(ok:HOk P w H h)(mu:Mut (H x))(he:e=x∨H e=some (.own x))(k:∀ b u,b≠e→h.get? b=some u→h'.get? b=some u)(heo:∃ u,h'.get? e=some u)
  (new:Z06 P w (upd H x o') h' x o'):HOk P w (upd H x o') h':=fun b u q=>by
 have nown:∀ c y,H c=some (.own y)→c≠x:=fun c y r z=>by subst z;rw [r] at mu;exact mu
 have ntup:∀ c xs,H c=some (.tup xs)→c≠x:=fun c xs r z=>by subst z;rw [r] at mu;exact mu
 by_cases hb:b=x
 ·subst hb;rw [Zm] at q;cases q;exact new
 ·rw [Zb hb] at q
  by_cases hbe:b=e
  ·have q':H b=some (.own x):=by
    rcases he with z | z
    ·exact absurd (hbe.trans z) hb
    ·rw [hbe];exact z
   rw [q] at q';cases q'
   obtain ⟨v,hv⟩:=heo
   exact ⟨v,by rw [hbe];exact hv⟩
  ·refine (ok b u q).stay (fun c v hc r=>k c v ?_ r) (fun c r=>by rw [Zb (nown c b r)];exact r) fun c xs r=>by rw [Zb (ntup c xs r)];exact r
   rcases hc with rfl | hc
   ·exact hbe
   ·rintro rfl
    rcases he with z | z
    ·exact nown c b hc z
    ·rw [hc] at z;cases z;exact hb rfl
end

structure Un(fs ex:List Addr)(H H':Hp)(h h':Heap):Prop where
 keep:∀ b o,h.get? b=some o→H b=none→b∉fs→b∉ex→h'.get? b=some o
 slot:∀ b o,h.get? b=some o→H b=none→b∈fs→b∉ex→∃ sl,h'.get? b=some { o with slots:=sl }
 free:∀ b o,h.get? b=some o→H b=none→b∉ex→H' b=none
 there:∀ b o,h.get? b=some o→b∉ex→∃ o',h'.get? b=some o'
 tups:∀ b xs,H b=some (.tup xs)→H' b=some (.tup xs)
 frzs:∀ b o u,H b=some (.frz o u)→H' b=some (.frz o u)
 tbls:∀ b ps,H b=some (.tbl ps)→∃ more,H' b=some (.tbl (ps++more))
section
variable {fs fs' ex ex':List Addr}{H H1 H2:Hp}{h h1 h2 h':Heap}{a x e:Addr}{o:HO}
theorem Un.any(u:Un fs ex H H1 h h1){b:Addr}{ob:Obj}(q:h.get? b=some ob)(n:H b=none)(hx:b∉ex):∃ sl,h1.get? b=some { ob with slots:=sl }:=by
 by_cases hb:b∈fs
 ·exact u.slot b ob q n hb hx
 ·exact ⟨ob.slots,u.keep b ob q n hb hx⟩
theorem Un.kept(k:∀ b u,h.get? b=some u→h'.get? b=some u):Un fs ex H H h h' :=
 ⟨fun b ob q _ _ _=>k b ob q,fun b ob q _ _ _=>⟨ob.slots,k b ob q⟩,fun _ _ _ n _=>n,fun b ob q _=>⟨ob,k b ob q⟩,fun _ _ q=>q,fun _ _ _ q=>q,fun _ ps q=>⟨#[],by rw [q];simp⟩⟩
theorem Un.refl:Un fs ex H H h h:=Un.kept fun _ _ q=>q
theorem Un.laid(k:∀ b u,h.get? b=some u→h'.get? b=some u)(hp:h.objs.size≤a)(hn:H a=none):Un fs ex H (upd H a o) h h' where
 keep:=fun b u q _ _ _=>k b u q
 slot:=fun b u q _ _ _=>⟨u.slots,k b u q⟩
 free:=fun b u q n _=>by rw [Zb (Jb (Qv (Heap.lt_size q) hp))];exact n
 there:=fun b u q _=>⟨u,k b u q⟩
 tups:=fun b xs q=>by rw [Zb (Z0P q hn)];exact q
 frzs:=fun b u xs q=>by rw [Zb (Z0P q hn)];exact q
 tbls:=fun b ps q=>⟨#[],by rw [Zb (Z0P q hn),q];simp⟩
theorem Un.write(mu:Mut (H x))(he:e=x∨H e=some (.own x))(k:∀ b u,b≠e→h.get? b=some u→h'.get? b=some u)(heo:∃ u,h'.get? e=some u):Un fs ex H (upd H x o) h h':=by
 have hx:∀ b,H b=none→b≠x:=fun b n z=>by subst z;rw [n] at mu;exact mu
 have hb:∀ b,H b=none→b≠e:=fun b n z=>by
  subst z
  rcases he with r | r
  ·exact hx b n r
  ·rw [n] at r;cases r
 have hm:∀ b u,H b=some u→¬ Mut (some u)→b≠x:=fun b u q nm z=>by subst z;rw [q] at mu;exact nm mu
 refine ⟨fun b u q n _ _=>k b u (hb b n) q,fun b u q n _ _=>⟨u.slots,k b u (hb b n) q⟩,fun b u q n _=>by rw [Zb (hx b n)];exact n,fun b u q _=>?_,
  fun b xs q=>by rw [Zb (hm b _ q fun z=>z)];exact q,fun b u xs q=>by rw [Zb (hm b _ q fun z=>z)];exact q,fun b ps q=>⟨#[],by rw [Zb (hm b _ q fun z=>z),q];simp⟩⟩
 by_cases hbe:b=e
 ·subst hbe;exact heo
 ·exact ⟨u,k b u hbe q⟩
end

noncomputable def trk(h:Heap)(H:Hp):List Addr:=(List.range h.objs.size).filter fun a=>(H a).isSome
noncomputable def hidT(h:Heap)(H:Hp):Heap:=PySem.W.hideAll h (trk h H)
theorem Zbc(h:Heap)(H:Hp):(hidT h H).objs.size=h.objs.size:=PySem.W.hideAll_size _ _
theorem Zcu{h:Heap}{H:Hp}{b:Addr}{o:Obj}(e:h.get? b=some o)(n:H b=none):(hidT h H).get? b=some o :=
 PySem.W.hideAll_get _ e fun hm=>by
  have q:(H b).isSome=true:=(Gu.mp hm).2
  rw [n] at q;simp at q
theorem ZdE{h:Heap}{H:Hp}{b:Addr}{o:Obj}(e:(hidT h H).get? b=some o):h.get? b=some o∧H b=none:=by
 have e':h.get? b=some o:=PySem.W.of_hideAll (trk h H) e
 refine ⟨e',?_⟩
 cases q:H b with
 | none=>rfl
 | some x =>
  have hm:b∈trk h H:=Gu.mpr ⟨Nx.mpr (Heap.lt_size e'),by simp [q]⟩
  have z:(hidT h H).get? b=none:=PySem.W.hideAll_none (trk h H) hm
  rw [z] at e;cases e

noncomputable def allNews(g h:Heap)(L:Addr):List (Addr×Obj):=(List.range h.objs.size).filterMap fun a=>if a=L∨(g.get? a).isSome=true then none else (h.get? a).map fun o=>(a,o)
noncomputable def rest(g h:Heap)(L d:Addr):List (Addr×Obj):=(allNews g h L).filter fun p=>decide (p.1≠d)
end L2
namespace L2
open PySem PySem.Spec PyProof.Rows
structure Mod(K:Qa)(mg:Str→Option Value)(base:Heap):Prop where
 kin:K.In base
 glob:base.Ns mainGlobals mg
 blt:∃ mb,base.Ns builtinsNs mb∧∀ x:Str,x ≠ "__name__"→mb x=bootBuiltins x
 nolimit:base.NoLimit
structure Cx where
 prog:Program
 w:World
 K:Qa
 mg:Str→Option Value
 base:Heap
 A:Around
 N:List Str
 s₀:Shared
 H₀:Hp
 env:Env
 outer:List Env
 stack:List Env
 ex:List Addr
 fn:Str→Bool
 calm:Bool
 pn:List (Addr×Obj)
 xe:Value→Shared→Prop
noncomputable def frs(l:List Env):List Addr:=l.filterMap (·.frame)
noncomputable abbrev Cx.fs(X:Cx):List Addr:=frs X.outer
noncomputable def Vis(sc:Scope)(x:Str):Prop:=sc.names.lookup x=some .local∨sc.names.lookup x=some .cell∨sc.names.lookup x=some .free
noncomputable def Loc(sc:Scope)(x:Str):Prop:=sc.names.lookup x=some .local∨sc.names.lookup x=some .cell
noncomputable def Look(env:Env)(h:Heap)(m:Str→Option Value)(x:Str)(u:Value):Prop :=
 (env.kindOf x=some .local∧m x=some u)∨((env.kindOf x=some .cell∨env.kindOf x=some .free)∧∃ c,env.cells.lookup x=some c∧h.IsCell c (some u))
structure Cx.Ok(X:Cx):Prop where
 mod:Mod X.K X.mg X.base
 kind:X.env.scope.kind=.function
 glob:X.env.globals=mainGlobals
 blt:X.env.builtins=builtinsNs
 above:X.s₀.heap.objs.size≤X.env.locals
 inj:∀ x y c,X.env.cells.lookup x=some c→X.env.cells.lookup y=some c→x=y
 has:∀ x,(X.env.kindOf x=some .cell∨X.env.kindOf x=some .free)→∃ c,X.env.cells.lookup x=some c
 cab:∀ x c,X.fn x=true→X.env.cells.lookup x=some c→X.s₀.heap.objs.size≤c
 hd:X.calm=true→X.A.handled=none
 frames:X.A.frames=some X.stack
 stk:X.stack=X.outer∨(X.stack=X.env::X.outer∧X.env.frame=some X.env.locals)
 exf:∀ b∈X.ex,b≠X.env.locals∧∀ x c,X.env.cells.lookup x=some c→c≠b
 bs:∀ b o,X.base.get? b=some o→X.s₀.heap.get? b=some o∧X.H₀ b=none
 bsz:X.base.objs.size≤X.s₀.heap.objs.size
 noex:∀ b o,X.base.get? b=some o→b∉X.ex
 exfs:∀ b∈X.ex,b∉X.fs
 funs:X.s₀.heap.FunFrames X.base X.outer
 frf:∀ b∈X.fs,X.H₀ b=none
structure Inv(X:Cx)(pins:List (Addr×Obj))(σ:List (Option V))(H:Hp)(s:Shared):Prop where
 ok:X.Ok
 os:s.os=X.s₀.os
 bare:AllBare s.gens
 base:Un X.fs X.ex X.H₀ H X.s₀.heap s.heap
 loc:∃ m,s.heap.Ns X.env.locals m∧∀ (i:Nat) (x:Str) (v:V),X.N[i]?=some x→σ[i]?=some (some v)→Vis X.env.scope x→∃ u,RelV v u∧Look X.env s.heap m x u
 cell:∀ x c,X.env.cells.lookup x=some c→∃ v,s.heap.IsCell c v
 free:H X.env.locals=none
 freeC:∀ x c,X.env.cells.lookup x=some c→H c=none
 pin:∀ p∈X.pn++pins,s.heap.get? p.1=some p.2∧H p.1=none∧p.1≠X.env.locals∧p.1∉X.fs∧∀ v,p.2.data≠.cell v
 hok:HOk X.prog X.w H s.heap
 len:σ.length=X.N.length
section
variable {X:Cx}{pins:List (Addr×Obj)}{σ:List (Option V)}{H H':Hp}{s:Shared}{h':Heap}
theorem Cx.Ok.nofr(ok:X.Ok){b:Addr}{o:Obj}(e:X.base.get? b=some o):b∉X.fs:=fun hb=>by
 have:=(ok.funs.mem hb).1
 rw [e] at this;cases this
theorem Inv.bs(I:Inv X pins σ H s):∀ b o,X.base.get? b=some o→s.heap.get? b=some o∧H b=none:=fun b o e =>
 ⟨I.base.keep b o (I.ok.bs b o e).1 (I.ok.bs b o e).2 (I.ok.nofr e) (I.ok.noex b o e),I.base.free b o (I.ok.bs b o e).1 (I.ok.bs b o e).2 (I.ok.noex b o e)⟩
theorem Inv.bk(I:Inv X pins σ H s):∀ b o,X.base.get? b=some o→s.heap.get? b=some o:=fun b o e=>(I.bs b o e).1
theorem Inv.mod(I:Inv X pins σ H s):Mod X.K X.mg X.base:=I.ok.mod
theorem Inv.kIn(I:Inv X pins σ H s):X.K.In s.heap:=I.ok.mod.kin.keeps I.bk
theorem Inv.lt(I:Inv X pins σ H s):X.env.locals < s.heap.objs.size:=let ⟨_,hn,_⟩:=I.loc;hn.lt
theorem Inv.sz(I:Inv X pins σ H s):X.s₀.heap.objs.size≤s.heap.objs.size:=Jc I.ok.above (Nu I.lt)
theorem Inv.nofs(I:Inv X pins σ H s){a:Addr}(h:s.heap.objs.size≤a):a∉X.fs:=fun hb=>by
 obtain ⟨_,o,ho,_⟩:=I.ok.funs.mem hb
 exact absurd (Qv (Heap.lt_size ho) (Jc I.sz h)) (Jo _)
theorem Inv.cne(I:Inv X pins σ H s):∀ x c,X.env.cells.lookup x=some c→c≠X.env.locals:=fun x c e z=>by
 obtain ⟨v,o,ho,hd⟩:=I.cell x c e
 obtain ⟨m,⟨o',es,ep,ho',hd',_⟩,_⟩:=I.loc
 rw [z,ho'] at ho;cases ho;rw [hd'] at hd;cases hd
theorem Inv.funs(I:Inv X pins σ H s):s.heap.FunFrames X.base X.outer:=by
 have all:∀ (l:List Env),(∀ b∈frs l,b∈X.fs)→X.s₀.heap.FunFrames X.base l→s.heap.FunFrames X.base l:=by
  intro l
  induction l with
  | nil=>intro _ _;trivial
  | cons env r ih =>
   intro hs hl
   obtain ⟨hk,⟨L,o,hf,hn,ho,hd⟩,hr⟩:=hl
   have hL:L∈X.fs:=hs L (by unfold frs;rw [Ji,hf];exact Qy)
   obtain ⟨sl,e⟩:=I.base.slot L o ho (I.ok.frf L hL) hL fun z=>I.ok.exfs L z hL
   exact ⟨hk,⟨L,_,hf,hn,e,hd⟩,ih (fun b hb=>hs b (by unfold frs;rw [Ji,hf];exact Qt _ hb)) hr⟩
 exact all X.outer (fun _ hb=>hb) I.ok.funs
theorem Inv.stack(I:Inv X pins σ H s):s.heap.FunFrames X.base X.stack:=by
 rcases I.ok.stk with e | ⟨e,hf⟩
 ·rw [e];exact I.funs
 ·rw [e]
  obtain ⟨m,hn,_⟩:=I.loc
  refine .cons (by rw [I.ok.kind];decide) hf hn ?_ I.funs
  exact Heap.get?_none_of_le (Jc I.ok.bsz I.ok.above)
theorem Inv.stkSub(I:Inv X pins σ H s):∀ b∈frs X.stack,b∈X.env.locals::X.fs:=fun b hb=>by
 rcases I.ok.stk with e | ⟨e,hf⟩
 ·rw [e] at hb;exact Qt _ hb
 ·rw [e] at hb
  unfold frs at hb
  rw [Ji,hf] at hb
  exact hb
theorem Inv.stkFree(I:Inv X pins σ H s):∀ b∈frs X.stack,H b=none:=fun b hb=>by
 rcases Qx.mp (I.stkSub b hb) with e | hb
 ·rw [e];exact I.free
 ·obtain ⟨_,o,ho,_⟩:=I.ok.funs.mem hb
  exact I.base.free b o ho (I.ok.frf b hb) fun z=>I.ok.exfs b z hb
theorem Inv.step{g':Array GenState}{t':Nat}{d':Drawn}{ch:List Addr}(I:Inv X pins σ H s)
  (hch:∀ b∈ch,(b∈X.ex∨X.s₀.heap.objs.size≤b)∧b≠X.env.locals∧(∀ x c,X.env.cells.lookup x=some c→c≠b)∧∀ p∈X.pn++pins,p.1≠b)
  (keep:∀ b o,b≠X.env.locals→b∉X.fs→b∉ch→s.heap.get? b=some o→H b=none→h'.get? b=some o)
  (slot:∀ b o,b≠X.env.locals→b∈X.fs→b∉ch→s.heap.get? b=some o→H b=none→∃ sl,h'.get? b=some { o with slots:=sl }) (free:∀ b o,b∉ch→s.heap.get? b=some o→H b=none→H' b=none)
  (there:∀ b o,b∉ch→s.heap.get? b=some o→∃ o',h'.get? b=some o')
  (tups:∀ b xs,H b=some (.tup xs)→H' b=some (.tup xs)) (frzs:∀ b o u,H b=some (.frz o u)→H' b=some (.frz o u)) (tbls:∀ b ps,H b=some (.tbl ps)→∃ more,H' b=some (.tbl (ps++more)))
  (ns:∀ m,s.heap.Ns X.env.locals m→h'.Ns X.env.locals m) (hok:HOk X.prog X.w H' h') (hg:AllBare g') :
  Inv X pins σ H' { s with heap:=h',gens:=g',drawn:=d',toks:=t' }:=by
 have neL:∀ b o,X.s₀.heap.get? b=some o→b≠X.env.locals:=fun b o e=>Jb (Qv (Heap.lt_size e) I.ok.above)
 have neC:∀ b o,X.s₀.heap.get? b=some o→b∉X.ex→b∉ch:=fun b o e hx hb=>by
  rcases (hch b hb).1 with z | z
  ·exact hx z
  ·exact absurd (Qv (Heap.lt_size e) z) (Jo _)
 have cellK:∀ x c,X.env.cells.lookup x=some c→∀ v,s.heap.IsCell c v→h'.IsCell c v:=fun x c e v ⟨o,ho,hd⟩=>by
  have nch:c∉ch:=fun z=>(hch c z).2.2.1 x c e rfl
  by_cases hc:c∈X.fs
  ·obtain ⟨sl,q⟩:=slot c o (I.cne x c e) hc nch ho (I.freeC x c e)
   exact ⟨_,q,hd⟩
  ·exact ⟨o,keep c o (I.cne x c e) hc nch ho (I.freeC x c e),hd⟩
 refine ⟨I.ok,I.os,hg,⟨fun b o e n hb hx=>?_,fun b o e n hb hx=>?_,fun b o e n hx=>?_,fun b o e hx=>?_,fun b xs e=>tups b xs (I.base.tups b xs e),fun b o xs e=>frzs b o xs (I.base.frzs b o xs e),fun b ps e=>?_⟩,?_,fun x c e=>?_,?_,fun x c e=>?_,fun p hp=>?_,hok,I.len⟩
 ·exact keep b o (neL b o e) hb (neC b o e hx) (I.base.keep b o e n hb hx) (I.base.free b o e n hx)
 ·obtain ⟨sl,e1⟩:=I.base.slot b o e n hb hx
  obtain ⟨sl',e2⟩:=slot b _ (neL b o e) hb (neC b o e hx) e1 (I.base.free b o e n hx)
  exact ⟨sl',e2⟩
 ·obtain ⟨o',e1⟩:=I.base.there b o e hx
  exact free b o' (neC b o e hx) e1 (I.base.free b o e n hx)
 ·obtain ⟨o',e1⟩:=I.base.there b o e hx
  exact there b o' (neC b o e hx) e1
 ·obtain ⟨m1,e1⟩:=I.base.tbls b ps e
  obtain ⟨m2,e2⟩:=tbls b _ e1
  exact ⟨m1++m2,by rw [e2,Array.append_assoc]⟩
 ·obtain ⟨m,hn,hl⟩:=I.loc
  refine ⟨m,ns m hn,fun i x v e1 e2 e3=>?_⟩
  obtain ⟨u,r,l⟩:=hl i x v e1 e2 e3
  refine ⟨u,r,?_⟩
  rcases l with l | ⟨k,c,e,z⟩
  ·exact .inl l
  ·exact .inr ⟨k,c,e,cellK x c e _ z⟩
 ·obtain ⟨v,z⟩:=I.cell x c e
  exact ⟨v,cellK x c e v z⟩
 ·obtain ⟨m,⟨o,_,_,ho,_⟩,_⟩:=I.loc
  exact free _ o (fun z=>(hch _ z).2.1 rfl) ho I.free
 ·obtain ⟨v,o,ho,hd⟩:=I.cell x c e
  exact free c o (fun z=>(hch c z).2.2.1 x c e rfl) ho (I.freeC x c e)
 ·obtain ⟨e,n,ne,nf,d⟩:=I.pin p hp
  have nch:p.1∉ch:=fun z=>(hch p.1 z).2.2.2 p hp rfl
  exact ⟨keep p.1 p.2 ne nf nch e n,free p.1 p.2 nch e n,ne,nf,d⟩
theorem Inv.un{t':Nat}(I:Inv X pins σ H s)(u:Un X.fs [] H H' s.heap h')(hok:HOk X.prog X.w H' h'):Inv X pins σ H' { s with heap:=h',toks:=t' }:=by
 obtain ⟨m,⟨o,es,ep,ho,r⟩,_⟩:=id I.loc
 obtain ⟨sl,hL⟩:=u.any ho I.free (by simp)
 exact I.step (g':=s.gens) (d':=s.drawn) (ch:=[]) (fun _ z=>nomatch z) (fun b o _ hb _ e n=>u.keep b o e n hb (by simp)) (fun b o _ hb _ e n=>u.slot b o e n hb (by simp)) (fun b o _ e n=>u.free b o e n (by simp)) (fun b o _ e=>u.there b o e (by simp)) u.tups u.frzs u.tbls (fun m' hm=>by
  obtain ⟨o',es',ep',ho',r'⟩:=hm
  rw [ho] at ho';cases ho'
  exact ⟨_,es',ep',hL,r'⟩) hok I.bare
theorem Inv.call{g':Array GenState}{t':Nat}{d':Drawn}{ch:List Addr}(I:Inv X pins σ H s)(u:Un (frs X.stack) ch H H' s.heap h')(hok:HOk X.prog X.w H' h')(hg:AllBare g')
  (hch:∀ b∈ch,(b∈X.ex∨X.s₀.heap.objs.size≤b)∧b≠X.env.locals∧(∀ x c,X.env.cells.lookup x=some c→c≠b)∧∀ p∈X.pn++pins,p.1≠b) :
  Inv X pins σ H' { s with heap:=h',gens:=g',drawn:=d',toks:=t' }:=by
 obtain ⟨m,⟨o,es,ep,ho,r⟩,_⟩:=id I.loc
 obtain ⟨sl,hL⟩:=u.any ho I.free fun z=>(hch _ z).2.1 rfl
 exact I.step (ch:=ch) hch (fun b o hL hb hc e n=>u.keep b o e n (fun z=>(Qx.mp (I.stkSub b z)).elim hL hb) hc) (fun b o _ _ hc e n=>u.any e n hc) (fun b o hc e n=>u.free b o e n hc) (fun b o hc e=>u.there b o e hc) u.tups u.frzs u.tbls (fun m' hm=>by
  obtain ⟨o',es',ep',ho',r'⟩:=hm
  rw [ho] at ho';cases ho'
  exact ⟨_,es',ep',hL,r'⟩) hok hg
theorem Inv.turned{t':Nat}{it:Addr}(I:Inv X pins σ H s)(k:∀ b o,b≠it→s.heap.get? b=some o→h'.get? b=some o)(hn:H it=none)(hL:it≠X.env.locals)
  (h1:it∈X.ex∨X.s₀.heap.objs.size≤it) (h2:∀ x c,X.env.cells.lookup x=some c→c≠it) (h3:∀ p∈X.pn++pins,p.1≠it):Inv X pins σ H { s with heap:=h',toks:=t' }:=by
 have nit:∀ b u,H b=some u→b≠it:=fun b u e z=>by rw [z,hn] at e;cases e
 refine I.step (g':=s.gens) (d':=s.drawn) (ch:=[it]) (fun b hb=>?_) (fun b o _ _ hc e _=>k b o (fun z=>hc (by simp [z])) e) (fun b o _ _ hc e _=>⟨o.slots,k b o (fun z=>hc (by simp [z])) e⟩) (fun _ _ _ _ n=>n)
  (fun b o hc e=>⟨o,k b o (fun z=>hc (by simp [z])) e⟩) (fun _ _ e=>e) (fun _ _ _ e=>e) (fun b ps e=>⟨#[],by rw [e];simp⟩) (fun m hm=>?_) (fun b u e=>?_) I.bare
 ·have e:b=it:=by simpa using hb
  subst e
  exact ⟨h1,hL,h2,h3⟩
 ·obtain ⟨o,es,ep,ho,r⟩:=hm
  exact ⟨o,es,ep,k _ o (Ne.symm hL) ho,r⟩
 ·refine (I.hok b u e).stay (fun c v hc q=>k c v ?_ q) (fun _ q=>q) fun _ _ q=>q
  rcases hc with z | z
  ·rw [z];exact nit b u e
  ·exact nit c _ z
theorem Inv.tok(I:Inv X pins σ H s)(t:Nat):Inv X pins σ H { s with toks:=t }:=I.un (h':=s.heap) (t':=t) Un.refl I.hok
theorem Inv.kept{t':Nat}(I:Inv X pins σ H s)(k:∀ b u,s.heap.get? b=some u→h'.get? b=some u):Inv X pins σ H { s with heap:=h',toks:=t' }:=I.un (Un.kept k) (I.hok.kept k)
theorem Inv.laid{a:Addr}{o:HO}{t':Nat}(I:Inv X pins σ H s)(k:∀ b u,s.heap.get? b=some u→h'.get? b=some u)(hp:s.heap.objs.size≤a)(new:Z06 X.prog X.w (upd H a o) h' a o) :
  Inv X pins σ (upd H a o) { s with heap:=h',toks:=t' }:=I.un (Un.laid k hp (I.hok.fresh hp)) (I.hok.laid k hp new)
theorem Inv.write{x e:Addr}{o:HO}{t':Nat}(I:Inv X pins σ H s)(mu:Mut (H x))(he:e=x∨H e=some (.own x))(k:∀ b u,b≠e→s.heap.get? b=some u→h'.get? b=some u)(heo:∃ u,h'.get? e=some u)
  (new:Z06 X.prog X.w (upd H x o) h' x o):Inv X pins σ (upd H x o) { s with heap:=h',toks:=t' }:=I.un (Un.write mu he k heo) (I.hok.write mu he k heo new)
theorem Inv.pins_of{pins':List (Addr×Obj)}(I:Inv X pins σ H s)(h:∀ p∈pins',s.heap.get? p.1=some p.2∧H p.1=none∧p.1≠X.env.locals∧p.1∉X.fs∧∀ v,p.2.data≠.cell v):Inv X pins' σ H s :=
 ⟨I.ok,I.os,I.bare,I.base,I.loc,I.cell,I.free,I.freeC,fun p hp=>(Qf.mp hp).elim (fun z=>I.pin p (Qh _ z)) (h p),I.hok,I.len⟩
theorem Z9q{N:List Str}(hN:N.Nodup){i j:Nat}{x:Str}(a:N[i]?=some x)(b:N[j]?=some x):i=j:=by
 obtain ⟨h1,e1⟩:=Qe.mp a
 obtain ⟨h2,e2⟩:=Qe.mp b
 exact (Gh hN).mp (e1.trans e2.symm)
theorem ZbM{M:Model}{A:Around}{E:Value→Shared→Prop}{i:Nat}{x:Str}{v:V}{u:Value}{Q:Unit→Shared→Prop}(I:Inv X pins σ H s)(hN:X.N.Nodup)(hi:X.N[i]?=some x)(hx:Loc X.env.scope x)(r:RelV v u)
  (h:∀ s',Inv X pins (σ.set i (some v)) H s'→(∃ a,Heap.SameBut a s.heap s'.heap∧(a=X.env.locals∨X.env.cells.lookup x=some a))→Q () s') (hf:X.fn x=true∨X.env.scope.names.lookup x=some .local:=by first | exact .inl rfl | exact .inr rfl | assumption):wpAny M A (storeName X.env x u) Q E s:=by
 obtain ⟨m,hn,hl⟩:=id I.loc
 have hcls:(X.env.scope.kind == .class || (X.env.scope.kind == .module && X.env.locals != X.env.globals))=false:=by rw [I.ok.kind];rfl
 have hiσ:i < σ.length:=by rw [I.len];exact (Qe.mp hi).1
 have cne:=I.cne
 have tracked:∀ {a:Addr} {h':Heap},(∃ o,s.heap.get? a=some o∧H a=none)→Heap.SameBut a s.heap h'→HOk X.prog X.w H h':=fun {a h'} ha hs b ob e=>by
  obtain ⟨_,_,hfree⟩:=ha
  refine (I.hok b ob e).stay (fun c w' hc q=>(hs.2 c ?_).trans q) (fun _ q=>q) fun _ _ q=>q
  rintro rfl
  rcases hc with rfl | hc
  ·rw [hfree] at e;cases e
  ·rw [hfree] at hc;cases hc
 rcases hx with hk | hk
 ·refine wpAny_storeName_local hk hn (fun h' hn' hs=>?_) hcls
  obtain ⟨oL,_,_,hoL,_⟩:=id hn
  refine h _ ⟨I.ok,I.os,I.bare,⟨fun b o e n hb hx=>?_,fun b o e n hb hx=>?_,I.base.free,fun b o e hx=>?_,I.base.tups,I.base.frzs,I.base.tbls⟩,⟨_,hn',fun j y v' e1 e2 e3=>?_⟩,fun y c e=>?_,I.free,I.freeC,fun p hp=>?_,tracked ⟨oL,hoL,I.free⟩ hs,by simpa using I.len⟩ ⟨_,hs,.inl rfl⟩
  ·exact (hs.2 b (Jb (Qv (Heap.lt_size e) I.ok.above))).trans (I.base.keep b o e n hb hx)
  ·obtain ⟨sl,e1⟩:=I.base.slot b o e n hb hx
   exact ⟨sl,(hs.2 b (Jb (Qv (Heap.lt_size e) I.ok.above))).trans e1⟩
  ·obtain ⟨o',e1⟩:=I.base.there b o e hx
   exact ⟨o',(hs.2 b (Jb (Qv (Heap.lt_size e) I.ok.above))).trans e1⟩
  ·by_cases hj:j=i
   ·subst hj
    rw [hi] at e1;cases e1
    rw [Ni hiσ] at e2
    cases e2
    exact ⟨u,r,.inl ⟨hk,by simp⟩⟩
   ·rw [Gx (Ne.symm hj)] at e2
    obtain ⟨u',r',q⟩:=hl j y v' e1 e2 e3
    refine ⟨u',r',?_⟩
    rcases q with ⟨k,e⟩ | ⟨k,c,e,z⟩
    ·refine .inl ⟨k,?_⟩
     have:y≠x:=fun e=>hj (Z9q hN e1 (e ▸ hi))
     simp [this,e]
    ·exact .inr ⟨k,c,e,z.sameBut hs (cne y c e)⟩
  ·obtain ⟨w',z⟩:=I.cell y c e
   exact ⟨w',z.sameBut hs (cne y c e)⟩
  ·obtain ⟨e,n,ne,nf,d⟩:=I.pin p hp
   exact ⟨(hs.2 p.1 ne).trans e,n,ne,nf,d⟩
 ·have hfn:X.fn x=true:=by
   rcases hf with z | z
   ·exact z
   ·rw [z] at hk;cases hk
  obtain ⟨c,hc⟩:=I.ok.has x (.inl hk)
  obtain ⟨w',z⟩:=I.cell x c hc
  refine wpAny_storeName_cell I.ok.kind hk hc z (fun h' hc' hs=>?_)
  obtain ⟨oc,hoc,hocd⟩:=id z
  refine h { s with heap:=h' } ⟨I.ok,I.os,I.bare,⟨fun b o e n hb hx=>?_,fun b o e n hb hx=>?_,I.base.free,fun b o e hx=>?_,I.base.tups,I.base.frzs,I.base.tbls⟩,⟨m,hn.sameBut hs (Ne.symm (cne x c hc)),fun j y v' e1 e2 e3=>?_⟩,fun y c' e=>?_,I.free,I.freeC,fun p hp=>?_,tracked ⟨oc,hoc,I.freeC x c hc⟩ hs,by simpa using I.len⟩ ⟨c,hs,.inr hc⟩
  ·exact (hs.2 b (Jb (Qv (Heap.lt_size e) (I.ok.cab x c hfn hc)))).trans (I.base.keep b o e n hb hx)
  ·obtain ⟨sl,e1⟩:=I.base.slot b o e n hb hx
   exact ⟨sl,(hs.2 b (Jb (Qv (Heap.lt_size e) (I.ok.cab x c hfn hc)))).trans e1⟩
  ·obtain ⟨o',e1⟩:=I.base.there b o e hx
   exact ⟨o',(hs.2 b (Jb (Qv (Heap.lt_size e) (I.ok.cab x c hfn hc)))).trans e1⟩
  ·by_cases hj:j=i
   ·subst hj
    rw [hi] at e1;cases e1
    rw [Ni hiσ] at e2
    cases e2
    exact ⟨u,r,.inr ⟨.inl hk,c,hc,hc'⟩⟩
   ·rw [Gx (Ne.symm hj)] at e2
    obtain ⟨u',r',q⟩:=hl j y v' e1 e2 e3
    refine ⟨u',r',?_⟩
    rcases q with q | ⟨k,c',e,z'⟩
    ·exact .inl q
    ·refine .inr ⟨k,c',e,z'.sameBut hs ?_⟩
     rintro rfl
     exact hj (Z9q hN e1 (I.ok.inj _ _ _ e hc ▸ hi))
  ·by_cases hcc:c'=c
   ·subst hcc;exact ⟨_,hc'⟩
   ·obtain ⟨w2,z2⟩:=I.cell y c' e
    exact ⟨w2,z2.sameBut hs hcc⟩
  ·obtain ⟨e,n,ne,nf,d⟩:=I.pin p hp
   refine ⟨(hs.2 p.1 ?_).trans e,n,ne,nf,d⟩
   intro q
   rw [q,hoc] at e
   have q':oc=p.2:=Option.some.inj e
   exact d w' (by rw [← q'];exact hocd)
theorem ZcT{M:Model}{A:Around}{E:Value→Shared→Prop}{i:Nat}{x:Str}{v:V}{u:Value}{Q:Unit→Shared→Prop}(I:Inv X pins σ H s)(hN:X.N.Nodup)(hi:X.N[i]?=some x)(hx:Loc X.env.scope x)(r:RelV v u)
  (h:∀ s',Inv X pins (σ.set i (some v)) H s'→Q () s') (hf:X.fn x=true∨X.env.scope.names.lookup x=some .local:=by first | exact .inl rfl | exact .inr rfl | assumption):wpAny M A (storeName X.env x u) Q E s :=
 ZbM I hN hi hx r (fun s' I' _=>h s' I') hf
theorem Inv.call'{s':Shared}{ch:List Addr}(I:Inv X pins σ H s)(ho:s'.os=s.os)(u:Un (frs X.stack) ch H H' s.heap s'.heap)(hok:HOk X.prog X.w H' s'.heap)(hg:AllBare s'.gens)
  (hch:∀ b∈ch,(b∈X.ex∨X.s₀.heap.objs.size≤b)∧b≠X.env.locals∧(∀ x c,X.env.cells.lookup x=some c→c≠b)∧∀ p∈X.pn++pins,p.1≠b):Inv X pins σ H' s':=by
 obtain ⟨h',g',d',t',o'⟩:=s'
 have e:o'=s.os:=ho
 subst e
 exact I.call (g':=g') (t':=t') (d':=d') u hok hg hch
end

noncomputable abbrev XK:=Value→Option Addr→Hp→Prop
noncomputable abbrev St:=List (Option V)
noncomputable abbrev VK:=V→Hp→Prop
noncomputable abbrev TE:=St→Hp→VK→Prop
noncomputable abbrev TT:=St→Hp→(Bool→Hp→Prop)→Prop
noncomputable abbrev TA:=St→Hp→(List V→Hp→Prop)→Prop
structure Ends where
 nx:St→Hp→Prop
 rt:VK
 bk:St→Hp→Prop:=fun _ _=>False
 ct:St→Hp→Prop:=fun _ _=>False
noncomputable abbrev TS:=Ends→St→Hp→Prop
noncomputable def EP(X:Cx)(pins:List (Addr×Obj))(σ:St)(Q:VK)(u:Value)(s':Shared):Prop:=∃ v H',Inv X pins σ H' s'∧RelV v u∧Q v H'
noncomputable def TP(X:Cx)(pins:List (Addr×Obj))(σ:St)(Q:Bool→Hp→Prop)(b:Bool)(s':Shared):Prop:=∃ H',Inv X pins σ H' s'∧Q b H'
noncomputable def AP(X:Cx)(pins:List (Addr×Obj))(σ:St)(Q:List V→Hp→Prop)(us:List Value)(s':Shared):Prop:=∃ vs H',Inv X pins σ H' s'∧Vals vs us∧Q vs H'
noncomputable def SP(X:Cx)(pins:List (Addr×Obj))(D:Ends)(f:Flow)(s':Shared):Prop :=
 match f with
 | .next=>∃ σ' H',Inv X pins σ' H' s'∧D.nx σ' H'
 | .brk=>∃ σ' H',Inv X pins σ' H' s'∧D.bk σ' H'
 | .cont=>∃ σ' H',Inv X pins σ' H' s'∧D.ct σ' H'
 | .ret u=>∃ v σ' H',Inv X pins σ' H' s'∧RelV v u∧D.rt v H'
noncomputable def PE(X:Cx)(e:Expr)(t:TE):Prop :=
 ∀ (pins:List (Addr×Obj)) (s:Shared) (σ:St) (H:Hp) (Q:VK),Inv X pins σ H s→t σ H Q→wpAny (model X.prog X.w) X.A (eval e X.env) (EP X pins σ Q) X.xe s
noncomputable def PT(X:Cx)(e:Expr)(t:TT):Prop :=
 ∀ (pins:List (Addr×Obj)) (s:Shared) (σ:St) (H:Hp) (Q:Bool→Hp→Prop),Inv X pins σ H s→t σ H Q→wpAny (model X.prog X.w) X.A (isTrue e X.env (eval e X.env)) (TP X pins σ Q) X.xe s
noncomputable def PW(X:Cx)(e:Expr)(t:TT):Prop :=
 ∀ (whole:Sem Value) (pins:List (Addr×Obj)) (s:Shared) (σ:St) (H:Hp) (Q:Bool→Hp→Prop),Inv X pins σ H s→t σ H Q→wpAny (model X.prog X.w) X.A (isTrue e X.env whole) (TP X pins σ Q) X.xe s
theorem PW.pt{X:Cx}{e:Expr}{t:TT}(h:PW X e t):PT X e t:=h _
noncomputable def PA(X:Cx)(es:List Expr)(t:TA):Prop :=
 ∀ (pos:Pos) (pins:List (Addr×Obj)) (s:Shared) (σ:St) (H:Hp) (Q:List V→Hp→Prop),Inv X pins σ H s→t σ H Q→wpAny (model X.prog X.w) X.A (spliced (backTo pos (starEach es X.env))) (AP X pins σ Q) X.xe s
noncomputable def PS(X:Cx)(st:Stmt)(t:TS):Prop :=
 ∀ (pins:List (Addr×Obj)) (s:Shared) (σ:St) (H:Hp) (D:Ends),Inv X pins σ H s→t D σ H→wpAny (model X.prog X.w) X.A (exec st X.env) (SP X pins D) X.xe s
noncomputable def PSs(X:Cx)(st:List Stmt)(t:TS):Prop :=
 ∀ (pins:List (Addr×Obj)) (s:Shared) (σ:St) (H:Hp) (D:Ends),Inv X pins σ H s→t D σ H→wpAny (model X.prog X.w) X.A (execs st X.env) (SP X pins D) X.xe s
theorem thn{α:Type}{t:Sem α}{Q Q':α→Shared→Prop}{M:Model}{A:Around}{E:Value→Shared→Prop}{s:Shared}(h:wpAny M A t Q E s)(hQ:∀ a s,Q a s→Q' a s):wpAny M A t Q' E s:=wpAny_mono h hQ fun _ _ x=>x
end L2
namespace L2
open PySem PySem.Spec PyProof.Rows
section
variable {X:Cx}

noncomputable def tVar(i:Nat):TE:=fun σ H Q=>∃ v,σ[i]?=some (some v)∧Q v H
noncomputable def tC(v:V):TE:=fun _ H Q=>Q v H
theorem Zff{i:Nat}{x:Str}{pos:Pos}(hN:X.N[i]?=some x)(hv:Vis X.env.scope x)(hd:(x == ("__debug__":Str))=false:=by decide)(hcd:(x == ("__classdict__":Str))=false:=by decide):PE X (.Name x pos) (tVar i):=by
 intro pins s σ H Q I h
 obtain ⟨v,e,h⟩:=h
 obtain ⟨m,hn,hl⟩:=I.loc
 obtain ⟨u,r,l⟩:=hl i x v hN e hv
 have fin:EP X pins σ Q u s:=⟨v,H,I,r,h⟩
 rcases l with ⟨hk,hm⟩ | ⟨hk,c,hc,hcell⟩
 ·exact wpAny_Name (wpAny_loadName_local I.ok.kind hk hn hm fin) hd
 ·rcases hk with hk | hk
  ·exact wpAny_Name (wpAny_loadName_cell I.ok.kind hk hc hcell fin) hd
  ·exact wpAny_Name (wpAny_loadName_free I.ok.kind hk hc hcell fin hcd) hd
theorem Z7{i j pos}:PE X (.Constant (.int i) j pos) (tC (.int i)):=fun _ _ _ H _ I h=>wpAny_Constant_int ⟨.int i,H,I.tok _,⟨_,rfl⟩,h⟩
theorem Z1M{b j pos}:PE X (.Constant (.bool b) j pos) (tC (.bl b)):=fun _ _ _ H _ I h=>Constant_bool ⟨.bl b,H,I,rfl,h⟩
theorem Z3G{j pos}:PE X (.Constant .none j pos) (tC .non):=fun _ _ _ H _ I h=>Constant_none ⟨.non,H,I,rfl,h⟩
theorem Zu{x j pos}:PE X (.Constant (.str x) j pos) (tC (.str x)):=fun _ _ _ H _ I h=>Calls.Constant_str ⟨.str x,H,I.tok _,⟨_,rfl⟩,h⟩
noncomputable def Gl(X:Cx)(x:Str):Prop:=X.env.kindOf x=some .globalImplicit
theorem Z3u{E:Value→Shared→Prop}{pins:List (Addr×Obj)}{s:Shared}{σ:St}{H:Hp}{x:Str}{u:Value}{pos:Pos}{Q:Value→Shared→Prop}(I:Inv X pins σ H s)(hg:Gl X x)(hm:X.mg x=some u)(h:Q u s)
  (hd:(x == ("__debug__":Str))=false:=by decide):wpAny (model X.prog X.w) X.A (eval (.Name x pos) X.env) Q E s :=
 Calls.Name_function_global I.ok.kind hg (Calls.loadGlobal_global (by rw [I.ok.glob];exact I.mod.glob.keeps I.bk) hm h) hd
theorem Z5y{E:Value→Shared→Prop}{pins:List (Addr×Obj)}{s:Shared}{σ:St}{H:Hp}{x:Str}{u:Value}{pos:Pos}{Q:Value→Shared→Prop}(I:Inv X pins σ H s)(hg:Gl X x)(hm:X.mg x=none)(hv:bootBuiltins x=some u)(h:Q u s)
  (hn:x ≠ "__name__":=by decide) (hd:(x == ("__debug__":Str))=false:=by decide):wpAny (model X.prog X.w) X.A (eval (.Name x pos) X.env) Q E s:=by
 obtain ⟨mb,h1,h2⟩:=I.mod.blt
 exact Calls.Name_function_global I.ok.kind hg (Calls.loadGlobal_builtin (by rw [I.ok.glob];exact I.mod.glob.keeps I.bk) hm (by rw [I.ok.blt];exact h1.keeps I.bk) ((h2 x hn).trans hv) h) hd
theorem ZdJ{x:Str}{v:V}{u:Value}{pos:Pos}(hg:Gl X x)(hm:X.mg x=some u)(r:RelV v u)(hd:(x == ("__debug__":Str))=false:=by decide):PE X (.Name x pos) (tC v) :=
 fun _ _ _ H _ I h=>Z3u I hg hm ⟨v,H,I,r,h⟩ hd
theorem Z0Q{x:Str}{v:V}{u:Value}{pos:Pos}(hg:Gl X x)(hm:X.mg x=none)(hv:bootBuiltins x=some u)(r:RelV v u)(hn:x ≠ "__name__":=by decide)(hd:(x == ("__debug__":Str))=false:=by decide):PE X (.Name x pos) (tC v) :=
 fun _ _ _ H _ I h=>Z5y I hg hm hv ⟨v,H,I,r,h⟩ hn hd

variable {a b:Expr}{ta tb:TE}{pos:Pos}

noncomputable def PC(X:Cx)(op:CmpOp)(a b:Expr)(t:TE):Prop :=
 ∀ (pins:List (Addr×Obj)) (s:Shared) (σ:St) (H:Hp) (Q:VK),Inv X pins σ H s→t σ H Q →
  wpAny (model X.prog X.w) X.A (eval a X.env) (fun v s₁=>wpAny (model X.prog X.w) X.A (eval b X.env) (fun u s₂=>wpAny (model X.prog X.w) X.A (compareOp op v u) (EP X pins σ Q) X.xe s₂) X.xe s₁) X.xe s
theorem nobehind(b:Expr){op:CmpOp}(h:op≠.In)(h2:op≠.NotIn):behindInMarks op b=false:=by
 have e1:(op == CmpOp.In)=false:=by cases op <;> first | rfl | exact absurd rfl h
 have e2:(op == CmpOp.NotIn)=false:=by cases op <;> first | rfl | exact absurd rfl h2
 cases b <;> simp [behindInMarks,e1,e2]
noncomputable def tB(t:TE):TT:=fun σ H Q=>t σ H fun x H1=>∃ c,x=.bl c∧Q c H1
theorem Zfm{op:CmpOp}{t:TE}(h:PC X op a b t)(h1:behindInMarks op b=false:=by first | exact nobehind _ (by decide) (by decide) | rfl):PT X (.Compare a [op] [b] pos) (tB t):=by
 intro pins s σ H Q I hw
 refine wpAny_isTrue_Compare1 (thn (h pins s σ H _ I hw) fun v s1 h1=>thn h1 fun u s2 h2=>thn h2 fun c s3 ⟨x,H1,I1,r1,q1⟩=>?_) h1
 obtain ⟨d,rfl,q⟩:=q1
 cases r1
 exact wpAny_truthy_bool ⟨H1,I1,q⟩
theorem Z9B{e:Expr}{t:TE}(h:PE X e t)(he:∀ whole,isTrue e X.env whole=(do let v ← whole;standAt e.pos;holding [v] (truthy v)):=by intro _;rfl):PT X e (tB t):=by
 intro pins s σ H Q I hw
 refine isTrue_plain (thn (h pins s σ H _ I hw) fun v s1 ⟨x,H1,I1,r1,q1⟩=>?_) (he _)
 obtain ⟨d,rfl,q⟩:=q1
 cases r1
 exact wpAny_truthy_bool ⟨H1,I1,q⟩

variable {tA tB':TT}{rest:List Expr}
noncomputable def tAnd(t u:TT):TT:=fun σ H Q=>t σ H fun c H1=>if c=true then u σ H1 Q else Q false H1
noncomputable def tOr(t u:TT):TT:=fun σ H Q=>t σ H fun c H1=>if c=true then Q true H1 else u σ H1 Q
noncomputable def tNot(t:TT):TT:=fun σ H Q=>t σ H fun c H1=>Q (!c) H1
theorem ZdR(ha:PT X a tA):PW X (.BoolOp .And [a] pos) tA:=by
 intro wh pins s σ H Q I h
 refine isTrue_and (thn (ha pins s σ H Q I h) fun c s1 e=>?_)
 cases c with
 | true=>exact isTrue_and_nil e
 | false=>exact e
theorem Z7z(ha:PT X a tA):PW X (.BoolOp .Or [a] pos) tA:=by
 intro wh pins s σ H Q I h
 refine isTrue_or (thn (ha pins s σ H Q I h) fun c s1 e=>?_)
 cases c with
 | false=>exact isTrue_or_nil e
 | true=>exact e
theorem Zfp(ha:PT X a tA)(hb:PW X (.BoolOp .And (b::rest) pos) tB'):PW X (.BoolOp .And (a::b::rest) pos) (tAnd tA tB'):=by
 intro wh pins s σ H Q I h
 refine isTrue_and (thn (ha pins s σ H _ I h) fun c s1 ⟨H1,I1,q1⟩=>?_)
 cases c with
 | true=>exact hb wh pins s1 σ H1 Q I1 q1
 | false=>exact ⟨H1,I1,q1⟩
theorem pw_or(ha:PT X a tA)(hb:PW X (.BoolOp .Or (b::rest) pos) tB'):PW X (.BoolOp .Or (a::b::rest) pos) (tOr tA tB'):=by
 intro wh pins s σ H Q I h
 refine isTrue_or (thn (ha pins s σ H _ I h) fun c s1 ⟨H1,I1,q1⟩=>?_)
 cases c with
 | true=>exact ⟨H1,I1,q1⟩
 | false=>exact hb wh pins s1 σ H1 Q I1 q1
theorem Zfn(ha:PT X a tA):PT X (.UnaryOp .Not a pos) (tNot tA):=by
 intro pins s σ H Q I h
 exact isTrue_not (ha pins s σ H (fun c H1=>Q (!c) H1) I h)
noncomputable def tAndV(ta tb:TE):TE:=fun σ H Q=>ta σ H fun x H1=>∃ c,x=.bl c∧if c=true then tb σ H1 Q else Q (.bl false) H1
noncomputable def tOrV(ta tb:TE):TE:=fun σ H Q=>ta σ H fun x H1=>∃ c,x=.bl c∧if c=true then Q (.bl true) H1 else tb σ H1 Q
noncomputable def tNotV(ta:TE):TE:=fun σ H Q=>ta σ H fun x H1=>∃ c,x=.bl c∧Q (.bl (!c)) H1
theorem Z7x{op}{t:TE}(h:PE X a t):PE X (.BoolOp op [a] pos) t:=fun pins s σ H Q I hw=>BoolOp_one (h pins s σ H Q I hw)
theorem Z7w(ha:PE X a ta)(hb:PE X (.BoolOp .And (b::rest) pos) tb):PE X (.BoolOp .And (a::b::rest) pos) (tAndV ta tb):=by
 intro pins s σ H Q I h
 refine BoolOp_and (thn (ha pins s σ H _ I h) fun v s1 ⟨x,H1,I1,r1,q1⟩=>?_)
 obtain ⟨c,rfl,q1⟩:=q1
 cases r1
 refine wpAny_truthy_bool ?_
 cases c with
 | true=>exact hb pins s1 σ H1 Q I1 q1
 | false=>exact ⟨.bl false,H1,I1,rfl,q1⟩
noncomputable def tIf(t:TT)(ta tb:TE):TE:=fun σ H Q=>t σ H fun c H1=>if c=true then ta σ H1 Q else tb σ H1 Q
end
end L2
namespace L2
open PySem PySem.Spec PyProof.Rows

noncomputable def SqL(K:Qa)(H:Hp)(a:Addr)(xs:List V):Prop :=
 Rd H a (.lst xs) ∨
  ∃ (o:Obj) (its:Array Value) (n:Nat),K.lookup a=some o∧o.cls=.type "list"∧o.dict=none∧o.data=.seq its n∧its.size≤sizeLine∧Vals xs its.toList
noncomputable def SqT(K:Qa)(H:Hp)(a:Addr)(xs:List V):Prop :=
 Rd H a (.tup xs) ∨
  ∃ (o:Obj) (its:Array Value) (n:Nat),K.lookup a=some o∧o.cls=.type "tuple"∧o.data=.seq its n∧its.size≤sizeLine∧Vals xs its.toList
noncomputable def absV:Value→Option V
 | .none=>some .non
 | .bool b=>some (.bl b)
 | .int i _=>some (.int i)
 | .str x _=>some (.str x)
 | .bytes b _=>some (.byt b)
 | .float b _=>some (.flt b)
 | .ref a=>some (.ref a)
 | .type n=>some (.ty n)
 | _=>none
theorem RelV.abs{x:V}{u:Value}(r:RelV x u):absV u=some x:=by
 cases x with
 | non=>cases r;rfl
 | bl _=>cases r;rfl
 | int _=>obtain ⟨t,rfl⟩:=r;rfl
 | str _=>obtain ⟨t,rfl⟩:=r;rfl
 | byt _=>obtain ⟨t,rfl⟩:=r;rfl
 | flt _=>obtain ⟨t,rfl⟩:=r;rfl
 | ref _=>cases r;rfl
 | ty _=>cases r;rfl
theorem RelV.inj{x y:V}{u:Value}(r:RelV x u)(q:RelV y u):x=y:=Option.some.inj (r.abs.symm.trans q.abs)
theorem Vals.inj:∀ {xs ys:List V} {us:List Value},Vals xs us→Vals ys us→xs=ys
 | _,_,_,.nil,.nil=>rfl
 | _,_,_,.cons r t,.cons r' t'=>by rw [r.inj r',Vals.inj t t']
section
variable {X:Cx}{pins:List (Addr×Obj)}{σ:St}{H:Hp}{s:Shared}{a:Addr}{xs ys:List V}
theorem SqL.of{K:Qa}(h:H a=some (.lst xs)):SqL K H a xs:=.inl (.inl h)
theorem SqT.of{K:Qa}(h:H a=some (.tup xs)):SqT K H a xs:=.inl (.inl h)
theorem Inv.list(I:Inv X pins σ H s)(h:SqL X.K H a xs):∃ its:List Value,Vals xs its∧PlainL s.heap a its.toArray∧xs.length≤sizeLine:=by
 rcases h with h | ⟨o,its,n,hk,hc,hd,hs,hz,r⟩
 ·obtain ⟨z,its,n,r,e⟩:=h.ok I.hok
  exact ⟨its,r,⟨_,n,e,rfl,rfl,rfl⟩,z⟩
 ·refine ⟨its.toList,r,⟨o,n,I.kIn a o hk,hc,hd,by simpa using hs⟩,?_⟩
  have e:=r.length
  simp only [Array.length_toList] at e
  omega
theorem Inv.tuple(I:Inv X pins σ H s)(h:SqT X.K H a xs):∃ its:List Value,Vals xs its∧IsTup s.heap a its.toArray∧xs.length≤sizeLine:=by
 rcases h with h | ⟨o,its,n,hk,hc,hs,hz,r⟩
 ·obtain ⟨z,its,r,p⟩:=h.ok I.hok
  exact ⟨its,r,p,z⟩
 ·refine ⟨its.toList,r,⟨o,I.kIn a o hk,hc,n,by simpa using hs⟩,?_⟩
  have e:=r.length
  simp only [Array.length_toList] at e
  omega
theorem Inv.list_inj(I:Inv X pins σ H s)(h:SqL X.K H a xs)(h':SqL X.K H a ys):xs=ys:=by
 obtain ⟨its,r,⟨o,n,e,_,_,d⟩,_⟩:=I.list h
 obtain ⟨its',r',⟨o',n',e',_,_,d'⟩,_⟩:=I.list h'
 rw [e] at e';cases e'
 rw [d] at d'
 injection d' with d1 _
 have:its=its':=by simpa using congrArg Array.toList d1
 subst this
 exact r.inj r'
theorem Inv.tuple_inj(I:Inv X pins σ H s)(h:SqT X.K H a xs)(h':SqT X.K H a ys):xs=ys:=by
 obtain ⟨its,r,⟨o,e,_,n,d⟩,_⟩:=I.tuple h
 obtain ⟨its',r',⟨o',e',_,n',d'⟩,_⟩:=I.tuple h'
 rw [e] at e';cases e'
 rw [d] at d'
 injection d' with d1 _
 have:its=its':=by simpa using congrArg Array.toList d1
 subst this
 exact r.inj r'
end

section
variable {X:Cx}{pins:List (Addr×Obj)}{σ:St}{H:Hp}{s:Shared}{E:Value→Shared→Prop}
end

section
variable {X:Cx}{st:Stmt}{rest:List Stmt}{t u:TS}{e:Expr}{te:TE}{pos:Pos}
noncomputable def tNext:TS:=fun D σ H=>D.nx σ H
noncomputable def tSeq(t u:TS):TS:=fun D σ H=>t { D with nx:=u D } σ H
theorem Z4w:PSs X [] tNext:=fun _ _ σ H _ I h=>wpAny_execs_nil ⟨σ,H,I,h⟩
theorem Z3I(h1:PS X st t)(h2:PSs X rest u):PSs X (st::rest) (tSeq t u):=by
 intro pins s σ H D I h
 refine wpAny_execs_cons (thn (h1 pins s σ H { D with nx:=u D } I h) fun f s1 q=>?_)
 cases f with
 | next =>
  obtain ⟨σ',H',I',q⟩:=q
  exact h2 pins s1 σ' H' D I' q
 | ret v=>exact q
 | brk=>exact q
 | cont=>exact q
theorem Z2V(h1:PS X st t):PSs X [st] t:=by
 intro pins s σ H D I h
 refine wpAny_execs_cons (thn (h1 pins s σ H D I h) fun f s1 q=>?_)
 cases f with
 | next=>exact wpAny_execs_nil q
 | ret v=>exact q
 | brk=>exact q
 | cont=>exact q
noncomputable def tBreak:TS:=fun D σ H=>D.bk σ H
noncomputable def tCont:TS:=fun D σ H=>D.ct σ H
theorem Inv.quiet{pins:List (Addr×Obj)}{σ:St}{H:Hp}{s:Shared}(I:Inv X pins σ H s):interactive X.env=false:=by simp [interactive,I.ok.kind]
noncomputable def tDrop(te:TE):TS:=fun D σ H=>te σ H fun _ H1=>D.nx σ H1
theorem ZdP(he:PE X e te)(hs:swapsWith e none pos.line X.env=pure false:=by rfl):PS X (.Expr e pos) (tDrop te):=by
 intro pins s σ H D I h
 exact wpAny_Expr_any (thn (he pins s σ H _ I h) fun v s1 ⟨x,H1,I1,r1,q1⟩=>⟨σ,H1,I1,q1⟩) I.quiet hs
noncomputable def tRet(te:TE):TS:=fun D σ H=>te σ H D.rt
theorem Z3H(he:PE X e te):PS X (.Return (some e) pos) (tRet te):=by
 intro pins s σ H D I h
 exact wpAny_Return_some (thn (he pins s σ H _ I h) fun v s1 ⟨x,H1,I1,r1,q1⟩=>⟨x,σ,H1,I1,r1,q1⟩)
noncomputable def tRetN:TS:=fun D _ H=>D.rt .non H
noncomputable def tIfS(c:TT)(t u:TS):TS:=fun D σ H=>c σ H fun b H1=>if b=true then t D σ H1 else u D σ H1
theorem ps_if{c:Expr}{a b:List Stmt}{tc:TT}(hc:PT X c tc)(ha:PSs X a t)(hb:PSs X b u):PS X (.If c a b pos) (tIfS tc t u):=by
 intro pins s σ H D I h
 refine wpAny_If (thn (hc pins s σ H _ I h) fun d s1 ⟨H1,I1,q1⟩=>?_)
 cases d with
 | true=>exact ha pins s1 σ H1 D I1 q1
 | false=>exact hb pins s1 σ H1 D I1 q1
end

noncomputable abbrev TG:=V→St→Hp→(St→Hp→Prop)→Prop
noncomputable def PG(X:Cx)(target:Expr)(t:TG):Prop :=
 ∀ (pins:List (Addr×Obj)) (s:Shared) (σ:St) (H:Hp) (v:V) (u:Value) (Q:St→Hp→Prop),Inv X pins σ H s→RelV v u→t v σ H Q →
  wpAny (model X.prog X.w) X.A (assign target X.env u) (fun _ s'=>∃ σ' H',Inv X pins σ' H' s'∧Q σ' H') X.xe s
section
variable {X:Cx}{pos:Pos}
noncomputable def Z1I(i:Nat):TG:=fun v σ H Q=>Q (σ.set i (some v)) H
theorem Z4u{i:Nat}{x:Str}(hN:X.N.Nodup)(hi:X.N[i]?=some x)(hx:Loc X.env.scope x)(hf:X.fn x=true∨X.env.scope.names.lookup x=some .local:=by first | exact .inl rfl | exact .inr rfl | assumption):PG X (.Name x pos) (Z1I i):=by
 intro pins s σ H v u Q I r h
 exact wpAny_assign_Name (ZcT I hN hi hx r (fun s' I'=>⟨_,H,I',h⟩) hf)
noncomputable def tAsg(te:TE)(g:TG):TS:=fun D σ H=>te σ H fun x H1=>g x σ H1 D.nx
theorem Zfk{tg e:Expr}{te:TE}{g:TG}(he:PE X e te)(hg:PG X tg g)(hs:swapsWithSole [tg] e pos.line X.env=pure false:=by rfl)(hw:swappedStores [tg] e X.env=pure none:=by rfl)
  (h1:(assignEach [tg] X.env).map (·.2)=[assign tg X.env]:=by rfl):PS X (.Assign [tg] e pos) (tAsg te g):=by
 intro pins s σ H D I h
 refine wpAny_Assign_stores (thn (he pins s σ H _ I h) fun v s1 ⟨x,H1,I1,r1,q1⟩=>?_) hs hw
 rw [h1]
 exact thn (hg pins s1 σ H1 x v _ I1 r1 q1) fun _ s2 q=>q
end

section
variable {X:Cx}{pos:Pos}
end

structure It where
 go:Nat→Hp→Prop
 yld:Nat→Hp→V→Hp→Prop
 stop:Nat→Hp→Prop
noncomputable def FpOk(X:Cx)(pins:List (Addr×Obj))(H:Hp)(b:Addr):Prop :=
 H b=none∧b≠X.env.locals∧b∉X.fs∧(b∈X.ex∨X.s₀.heap.objs.size≤b)∧(∀ x c,X.env.cells.lookup x=some c→c≠b)∧∀ p∈X.pn++pins,p.1≠b
theorem Inv.fpOk{X:Cx}{pins:List (Addr×Obj)}{σ:St}{H H':Hp}{s:Shared}{b:Addr}(I:Inv X pins σ H s)(hb:s.heap.objs.size≤b)(hn:H' b=none):FpOk X pins H' b:=by
 refine ⟨hn,Nat.ne_of_gt (Qv I.lt hb),I.nofs hb,.inr (Jc I.sz hb),fun x c e z=>?_,fun p hp z=>?_⟩
 ·obtain ⟨v,q⟩:=I.cell x c e
  exact absurd (Qv q.lt (by rw [z];exact hb)) (Jo _)
 ·exact absurd (Qv (Heap.lt_size (I.pin p hp).1) (by rw [z];exact hb)) (Jo _)
structure Turn(P:Program)(w:World)(K:Qa)(tg:Expr)(J:It)(fp:List Addr)(it:Addr)(tn:Nat→Heap→Prop):Prop where
 mem:it∈fp
 obj:∀ i h,tn i h→∀ b∈fp,∃ o,h.get? b=some o∧∀ v,o.data≠.cell v
 keep:∀ i h h',tn i h→(∀ b∈fp,∀ o,h.get? b=some o→h'.get? b=some o)→tn i h'
 item:∀ (X:Cx),X.prog=P→X.w=w→X.K=K→X.calm=true→∀ (i:Nat) (pins:List (Addr×Obj)) (s:Shared) (σ:St) (H:Hp) (E:Value→Shared→Prop),Inv X pins σ H s→(∀ b∈fp,FpOk X pins H b)→tn i s.heap→J.go i H →
  wpAny (model P w) X.A (pyNext (.ref it)) (fun r s1=>∃ u,r=some u ∧
   wpAny (model P w) X.A (letOwnedTupleGo tg (.ref it) u) (fun _ s2=>∃ x H',Inv X pins σ H' s2∧RelV x u∧J.yld i H x H'∧tn (i + 1) s2.heap∧∀ b∈fp,H' b=none) E s1) E s
 done:∀ (X:Cx),X.prog=P→X.w=w→X.K=K→X.calm=true→∀ (i:Nat) (pins:List (Addr×Obj)) (s:Shared) (σ:St) (H:Hp) (E:Value→Shared→Prop),Inv X pins σ H s→(∀ b∈fp,FpOk X pins H b)→tn i s.heap→J.stop i H →
  wpAny (model P w) X.A (pyNext (.ref it)) (fun r s1=>r=none∧Inv X pins σ H s1) E s
 self:∀ (A:Around) (i:Nat) (s:Shared) (Q:Value→Shared→Prop) (E:Value→Shared→Prop),tn i s.heap→Q (.ref it) s→wpAny (model P w) A (pyIter (.ref it)) Q E s
noncomputable abbrev TI:=St→Hp→(It→Hp→Prop)→Prop
noncomputable def PIE(X:Cx)(pins:List (Addr×Obj))(σ:St)(tg:Expr)(R:It→Hp→Prop)(itv:Value)(s2:Shared):Prop :=
 ∃ (it:Addr) (fp:List Addr) (tn:Nat→Heap→Prop) (J:It) (H':Hp),itv=.ref it∧Inv X pins σ H' s2∧Turn X.prog X.w X.K tg J fp it tn∧tn 0 s2.heap∧(∀ b∈fp,FpOk X pins H' b)∧R J H'
noncomputable def PI(X:Cx)(tg iter:Expr)(wi:TI):Prop :=
 ∀ (pins:List (Addr×Obj)) (s:Shared) (σ:St) (H:Hp) (R:It→Hp→Prop),Inv X pins σ H s→wi σ H R →
  wpAny (model X.prog X.w) X.A (eval iter X.env) (fun v s1=>wpAny (model X.prog X.w) X.A (pyIter v) (PIE X pins σ tg R) X.xe s1) X.xe s
theorem go_of{M:Model}{A:Around}{E:Value→Shared→Prop}{s:Shared}{tg:Expr}{it:Addr}{u:Value}{o:Obj}{n:String}{vs:Array Value}{Q:Unit→Shared→Prop}(ho:s.heap.get? it=some o)(hc:o.cls=.type n)(hd:o.data=.fields vs)
    (hn:["enumerate", "zip", "dict_itemiterator", "dict_reverseitemiterator", "odict_iterator", "itertools.zip_longest", "itertools.pairwise"].contains n=false) (hQ:Q () s):wpAny M A (letOwnedTupleGo tg (.ref it) u) Q E s:=by
  unfold letOwnedTupleGo
  cases tg <;> first
    | exact wpAny_pure hQ
    | (cases u <;> first
        | exact wpAny_pure hQ
        | (refine wpAny_bind (wpAny_load ho ?_)
           rw [hc,hd]
           show wpAny M A (if (["enumerate", "zip", "dict_itemiterator", "dict_reverseitemiterator", "odict_iterator", "itertools.zip_longest", "itertools.pairwise"].contains n && vs[0]? == some (rawInt _))=true then _ else _) Q E s
           rw [if_neg (by intro h;rw [hn,Bool.false_and] at h;cases h)]
           exact wpAny_pure hQ))
noncomputable def Itl(K:Qa)(a:Addr):It :=
 ⟨fun i H=>∃ xs x,SqL K H a xs∧xs[i]?=some x,fun i H x H'=>H'=H∧∀ xs,SqL K H a xs→xs[i]?=some x,fun i H=>∃ xs,SqL K H a xs∧xs.length≤i⟩
noncomputable def Itt(K:Qa)(a:Addr):It :=
 ⟨fun i H=>∃ xs x,SqT K H a xs∧xs[i]?=some x,fun i H x H'=>H'=H∧∀ xs,SqT K H a xs→xs[i]?=some x,fun i H=>∃ xs,SqT K H a xs∧xs.length≤i⟩
noncomputable def Itr(lo:Int)(n:Nat):It:=⟨fun i _=>i < n,fun i H x H'=>H'=H∧x=.int (lo + i),fun i _=>n≤i⟩
theorem Z8D{P:Program}{w:World}{K:Qa}{tg:Expr}(a it:Addr):Turn P w K tg (Itl K a) [it] it (fun i h=>h.IsListIter it a i) where
 mem:=by simp
 obj:=fun i h st b hb=>by
  have e:b=it:=by simpa using hb
  subst e
  obtain ⟨o,e,c,d⟩:=st
  exact ⟨o,e,fun v z=>by rw [d] at z;cases z⟩
 keep:=fun i h h' st k=>st.at fun o e=>k it (by simp) o e
 item:=by
  intro X hP hw hK hc i pins s σ H E I hf st hg
  subst hP hw hK
  obtain ⟨xs,x,hq,hx⟩:=hg
  obtain ⟨its,rv,p,hz⟩:=I.list hq
  obtain ⟨u,hu,ru⟩:=rv.get hx
  obtain ⟨f0,f1,f2,f3,f4,f5⟩:=hf it (by simp)
  refine wpAny_pyNext_list_item st p.isList (x:=u) (by simpa using hu) fun h' st' sb=>?_
  have I1:Inv X pins σ H { s with heap:=h' }:=I.turned (t':=s.toks) (fun b o hb e=>(sb.2 b hb).trans e) f0 f1 f3 f4 f5
  obtain ⟨o,e,c,d⟩:=id st'
  exact ⟨u,rfl,go_of (s:={ s with heap:=h' }) e c d (by decide) ⟨x,H,I1,ru,⟨rfl,fun ys hy=>by rw [I.list_inj hy hq];exact hx⟩,st',fun b hb=>(hf b hb).1⟩⟩
 done:=by
  intro X hP hw hK hc i pins s σ H E I hf st hg
  subst hP hw hK
  obtain ⟨xs,hq,hx⟩:=hg
  obtain ⟨its,rv,p,hz⟩:=I.list hq
  obtain ⟨f0,f1,f2,f3,f4,f5⟩:=hf it (by simp)
  have hl:=rv.length
  exact wpAny_pyNext_list_end (I.ok.hd hc) st p.isList (by simp;omega) fun h' eb=>⟨rfl,I.turned (t':=s.toks) (fun b o hb e=>eb b o hb e) f0 f1 f3 f4 f5⟩
 self:=fun _ _ _ _ _ st h=>wpAny_pyIter_listiter st h
theorem ZaU{P:Program}{w:World}{K:Qa}{tg:Expr}(a it:Addr):Turn P w K tg (Itt K a) [it] it (fun i h=>h.IsTupleIter it a i) where
 mem:=by simp
 obj:=fun i h st b hb=>by
  have e:b=it:=by simpa using hb
  subst e
  obtain ⟨o,e,c,d⟩:=st
  exact ⟨o,e,fun v z=>by rw [d] at z;cases z⟩
 keep:=fun i h h' st k=>st.at fun o e=>k it (by simp) o e
 item:=by
  intro X hP hw hK hc i pins s σ H E I hf st hg
  subst hP hw hK
  obtain ⟨xs,x,hq,hx⟩:=hg
  obtain ⟨its,rv,p,hz⟩:=I.tuple hq
  obtain ⟨u,hu,ru⟩:=rv.get hx
  obtain ⟨f0,f1,f2,f3,f4,f5⟩:=hf it (by simp)
  refine wpAny_pyNext_tuple_item st (show s.heap.IsTuple a its.toArray from p) (x:=u) (by simpa using hu) fun h' st' sb=>?_
  have I1:Inv X pins σ H { s with heap:=h' }:=I.turned (t':=s.toks) (fun b o hb e=>(sb.2 b hb).trans e) f0 f1 f3 f4 f5
  obtain ⟨o,e,c,d⟩:=id st'
  exact ⟨u,rfl,go_of (s:={ s with heap:=h' }) e c d (by decide) ⟨x,H,I1,ru,⟨rfl,fun ys hy=>by rw [I.tuple_inj hy hq];exact hx⟩,st',fun b hb=>(hf b hb).1⟩⟩
 done:=by
  intro X hP hw hK hc i pins s σ H E I hf st hg
  subst hP hw hK
  obtain ⟨xs,hq,hx⟩:=hg
  obtain ⟨its,rv,p,hz⟩:=I.tuple hq
  obtain ⟨f0,f1,f2,f3,f4,f5⟩:=hf it (by simp)
  have hl:=rv.length
  exact wpAny_pyNext_tuple_end (I.ok.hd hc) st (show s.heap.IsTuple a its.toArray from p) (by simp;omega) fun h' eb=>⟨rfl,I.turned (t':=s.toks) (fun b o hb e=>eb b o hb e) f0 f1 f3 f4 f5⟩
 self:=fun _ _ _ _ _ st h=>wpAny_pyIter_tupleiter st h
theorem ZaT{P:Program}{w:World}{K:Qa}{tg:Expr}(it:Addr)(lo:Int)(n:Nat):Turn P w K tg (Itr lo n) [it] it (fun i h=>IsRangeIter h it (lo + (i:Nat) * 1) ((n:Int) - (i:Nat)) 1) where
 mem:=by simp
 obj:=fun i h st b hb=>by
  have e:b=it:=by simpa using hb
  subst e
  exact ⟨_,st,fun v z=>by
   have z':Data.fields _=Data.cell v:=z
   cases z'⟩
 keep:=fun i h h' st k=>k it (by simp) _ st
 item:=by
  intro X hP hw hK hc i pins s σ H E I hf st hg
  subst hP hw hK
  obtain ⟨f0,f1,f2,f3,f4,f5⟩:=hf it (by simp)
  have W:=Walks.range (prog:=X.prog) (w:=X.w) (I.ok.hd hc) it lo 1 n
  refine W.item i s _ _ hg st fun v h' tk hv st' kk=>?_
  obtain ⟨t,rfl⟩:=hv
  have I1:Inv X pins σ H { s with heap:=h',toks:=tk }:=I.turned (fun b o hb e=>kk b o (by simpa using hb) e) f0 f1 f3 f4 f5
  refine ⟨_,rfl,go_of (s:={ s with heap:=h',toks:=tk }) (n := "range_iterator") st' rfl rfl (by decide) ⟨.int (lo + i),H,I1,⟨t,?_⟩,⟨rfl,rfl⟩,st',fun b hb=>(hf b hb).1⟩⟩
  rw [Int.mul_one]
 done:=by
  intro X hP hw hK hc i pins s σ H E I hf st hg
  subst hP hw hK
  obtain ⟨f0,f1,f2,f3,f4,f5⟩:=hf it (by simp)
  exact wpAny_pyNext_range_end (I.ok.hd hc) st (by have:n≤i:=hg;omega) fun h' eb=>⟨rfl,I.turned (t':=s.toks) (fun b o hb e=>eb b o hb e) f0 f1 f3 f4 f5⟩
 self:=fun _ _ _ _ _ st h=>wpAny_pyIter_rangeiter st h
end L2
namespace L2
open PySem PySem.Spec PyProof.Rows
section
variable {X:Cx}{tg:Expr}
noncomputable def iList(K:Qa)(tl:TE):TI:=fun σ H R=>tl σ H fun x H1=>∃ a,x=.ref a∧(∃ xs,SqL K H1 a xs)∧R (Itl K a) H1
theorem ZdN{l:Expr}{tl:TE}(hl:PE X l tl):PI X tg l (iList X.K tl):=by
 intro pins s σ H R I h
 refine thn (hl pins s σ H _ I h) fun v s1 ⟨x,H1,I1,r1,q1⟩=>?_
 obtain ⟨a,e,⟨xs,hq⟩,q⟩:=q1
 subst e
 cases r1
 obtain ⟨its,rv,p,hz⟩:=I1.list hq
 refine wpAny_pyIter_list p.isList ?_
 refine ⟨s1.heap.objs.size,[s1.heap.objs.size],_,_,H1,rfl,I1.kept (t':=s1.toks) fun b o e=>Heap.get?_push_of_some _ e,Z8D a _,⟨_,Heap.get?_push_size _ rfl,rfl,rfl⟩,fun b hb=>?_,q⟩
 have e:b=s1.heap.objs.size:=by simpa using hb
 subst e
 exact I1.fpOk (Qq _) (I1.hok.fresh (Qq _))
theorem Z9E{pins:List (Addr×Obj)}{σ:St}{H:Hp}{s:Shared}{R:It→Hp→Prop}{E:Value→Shared→Prop}{lo hi:Int}{t u v:Tok}{tk:Nat}(I:Inv X pins σ H s)(h1:-(2 ^ 62)≤lo)(h2:lo < 2 ^ 62)(h3:-(2 ^ 62)≤hi)(h4:hi < 2 ^ 62)
  (q:R (Itr lo (hi - lo).toNat) H):wpAny (model X.prog X.w) X.A (pyIter (.ref s.heap.objs.size)) (PIE X pins σ tg R) E { s with heap:=s.heap.push { cls:=.type "range",data:=.fields #[.int lo t,.int hi u,.int 1 v] },toks:=tk }:=by
 refine wpAny_pyIter_range (IsRange.new ..) (small_one h1 h2 h3 h4) ?_
 have I1:Inv X pins σ H { s with heap:=s.heap.push { cls:=.type "range",data:=.fields #[.int lo t,.int hi u,.int 1 v] },toks:=tk }:=I.kept fun b o e=>Heap.get?_push_of_some _ e
 refine ⟨(s.heap.push { cls:=.type "range",data:=.fields #[.int lo t,.int hi u,.int 1 v] }).objs.size,[(s.heap.push { cls:=.type "range",data:=.fields #[.int lo t,.int hi u,.int 1 v] }).objs.size],_,_,H,rfl,
  I1.kept (t':=tk) fun b o e=>Heap.get?_push_of_some _ e,ZaT _ lo (hi - lo).toNat,?_,fun b hb=>?_,q⟩
 ·have e1:lo + ((0:Nat):Int) * 1=lo:=by simp
  have e2:(((hi - lo).toNat:Nat):Int) - ((0:Nat):Int)=Builtin.Range.rangeSize lo hi 1:=by rw [rangeSize_one];split <;> omega
  show IsRangeIter _ _ (lo + ((0:Nat):Int) * 1) ((((hi - lo).toNat:Nat):Int) - ((0:Nat):Int)) 1
  rw [e1,e2]
  exact Heap.get?_push_size _ rfl
 ·have e:b=(s.heap.push { cls:=.type "range",data:=.fields #[.int lo t,.int hi u,.int 1 v] }).objs.size:=by simpa using hb
  subst e
  exact I1.fpOk (Qq _) (I1.hok.fresh (Qq _))
noncomputable def iRng1(ta:TA):TI:=fun σ H R=>ta σ H fun vs H1=>∃ j:Int,vs=[.int j]∧-(2 ^ 62)≤j∧j < 2 ^ 62∧R (Itr 0 j.toNat) H1
noncomputable def iRng2(ta:TA):TI:=fun σ H R=>ta σ H fun vs H1=>∃ i j:Int,vs=[.int i,.int j]∧(-(2 ^ 62)≤i∧i < 2 ^ 62∧-(2 ^ 62)≤j∧j < 2 ^ 62)∧R (Itr i (j - i).toNat) H1
theorem Z5I{a:Expr}{ta:TA}{p pos:Pos}(hg:Gl X "range")(hm:X.mg "range"=none)(ha:PA X [a] ta)(hs:starEach [a] X.env=[(false,eval a X.env)]:=by rfl):PI X tg (.Call (.Name "range" p) [a] [] pos) (iRng1 ta):=by
 intro pins s σ H R I h
 refine Call_ (Z5y I hg hm boot_range (PyProof.Rows.callWith_type1 (thn (ha pos pins s σ H _ I h) fun us s1 ⟨vs,H1,I1,r1,q1⟩=>?_) hs rfl))
 obtain ⟨j,e,q1,q2,q⟩:=q1
 subst e
 cases r1 with
 | cons r rr =>
  cases rr
  obtain ⟨t,rfl⟩:=r
  exact call_range_1 (Z9E I1 (by omega) (by omega) q1 q2 (by simpa using q))
theorem ZbC{a b:Expr}{ta:TA}{p pos:Pos}(hg:Gl X "range")(hm:X.mg "range"=none)(ha:PA X [a,b] ta)(hs:starEach [a,b] X.env=[(false,eval a X.env),(false,eval b X.env)]:=by rfl)(hs2:starEach [b] X.env=[(false,eval b X.env)]:=by rfl) :
  PI X tg (.Call (.Name "range" p) [a,b] [] pos) (iRng2 ta):=by
 intro pins s σ H R I h
 refine Call_ (Z5y I hg hm boot_range (PyProof.Rows.callWith_type1 (thn (ha pos pins s σ H _ I h) fun us s1 ⟨vs,H1,I1,r1,q1⟩=>?_) (by rw [hs,hs2]) (by rw [hs2];rfl)))
 obtain ⟨i,j,e,⟨q1,q2,q3,q4⟩,q⟩:=q1
 subst e
 cases r1 with
 | cons r rr =>
  cases rr with
  | cons r' rr =>
   cases rr
   obtain ⟨t,rfl⟩:=r
   obtain ⟨t',rfl⟩:=r'
   exact call_range_2 (Z9E I1 q1 q2 q3 q4 q)

noncomputable def tFor(wi:TI)(g:TG)(tb:TS):TS:=fun D σ H=>wi σ H fun J H1=>∃ W:Nat→Nat→St→Hp→Prop,(∃ m,W 0 m σ H1)∧∀ i m σ H,W i m σ H →
 (J.stop i H∧D.nx σ H)∨(J.go i H∧∃ N:St→Hp→Prop,(∀ σ' H',N σ' H'→∃ m',m' < m∧W (i + 1) m' σ' H')∧∀ x H',J.yld i H x H'→g x σ H' fun σ2 H2=>tb { D with nx:=N,ct:=N,bk:=D.nx } σ2 H2)
noncomputable def Z4v(fp:List Addr)(h:Heap):List (Addr×Obj):=fp.filterMap fun b=>(h.get? b).map fun o=>(b,o)
theorem Z1Z{fp:List Addr}{h:Heap}{b:Addr}{o:Obj}(hb:b∈fp)(e:h.get? b=some o):(b,o)∈Z4v fp h:=Jq.mpr ⟨b,hb,by rw [e];rfl⟩
theorem Zbv{fp:List Addr}{h:Heap}{p:Addr×Obj}(hp:p∈Z4v fp h):p.1∈fp∧h.get? p.1=some p.2:=by
 obtain ⟨b,hb,e⟩:=Jq.mp hp
 cases q:h.get? b with
 | none=>rw [q] at e;cases e
 | some o =>
  rw [q] at e
  have e':(b,o)=p:=Option.some.inj e
  subst e'
  exact ⟨hb,q⟩
theorem Inv.pinned{pins:List (Addr×Obj)}{σ:St}{H:Hp}{s:Shared}{fp:List Addr}(I:Inv X pins σ H s)(hf:∀ b∈fp,FpOk X pins H b)(ho:∀ b∈fp,∃ o,s.heap.get? b=some o∧∀ v,o.data≠.cell v):Inv X (pins++Z4v fp s.heap) σ H s :=
 I.pins_of fun p hp=>(Qf.mp hp).elim (fun z=>I.pin p (Qd _ z)) fun z=>by
  obtain ⟨hb,e⟩:=Zbv z
  obtain ⟨f0,f1,f2,_⟩:=hf p.1 hb
  obtain ⟨o,e',d⟩:=ho p.1 hb
  rw [e] at e';cases e'
  exact ⟨e,f0,f1,f2,d⟩
theorem Inv.unpinned{pins pl:List (Addr×Obj)}{σ:St}{H:Hp}{s:Shared}(I:Inv X (pins++pl) σ H s):Inv X pins σ H s:=I.pins_of fun p hp=>I.pin p (Qd _ (Qh _ hp))
theorem Z7y{iter:Expr}{body:List Stmt}{wi:TI}{g:TG}{tb:TS}{pos:Pos}(hp:PassesOwn (model X.prog X.w) X.A X.env X.xe)(hc:X.calm=true)(hi:PI X tg iter wi)(hg:PG X tg g)(hb:PSs X body tb)
  (hs:∀ x,foldedSetIterable iter X.env x=pure x:=by intro _;rfl):PS X (.For tg iter body [] pos) (tFor wi g tb):=by
 intro pins s σ H D I h
 refine wpAny_For (thn (hi pins s σ H _ I h) fun v s1 h1=>thn h1 fun itv s2 h2=>?_) hs
 obtain ⟨it,fp,tn,J,H2,e,I2,T,st2,f2,W,⟨m0,w0⟩,turn⟩:=h2
 subst e
 have stat:∀ {H':Hp},(∀ b∈fp,H' b=none)→∀ b∈fp,FpOk X pins H' b:=fun hn b hb=>⟨hn b hb,(f2 b hb).2⟩
 refine codeAny_forLoop_any (fun n s'=>∃ i σ' H',Inv X pins σ' H' s'∧tn i s'.heap∧(∀ b∈fp,H' b=none)∧W i n σ' H') ?_ m0 ⟨0,σ,H2,I2,st2,fun b hb=>(f2 b hb).1,w0⟩
 rintro n s3 ⟨i,σ3,H3,I3,st3,fr3,w3⟩
 rcases turn i n σ3 H3 w3 with ⟨stop,qn⟩ | ⟨go,N,hN,step⟩
 ·refine wpAny_passesOwn hp (thn (T.done X rfl rfl rfl hc i pins s3 σ3 H3 X.xe I3 (stat fr3) st3 stop) fun r s4 ⟨hr,I4⟩=>?_)
  subst hr
  exact wpAny_execs_nil ⟨σ3,H3,I4,qn⟩
 ·refine wpAny_passesOwn hp (thn (T.item X rfl rfl rfl hc i pins s3 σ3 H3 X.xe I3 (stat fr3) st3 go) fun r s4 ⟨u,hr,h4⟩=>?_)
  subst hr
  refine wpAny_passesOwn hp (thn h4 fun _ s5 ⟨x,H5,I5,r5,y5,st5,fr5⟩=>?_)
  have I5':=I5.pinned (stat fr5) (T.obj _ _ st5)
  refine wpAny_passesOwn hp (thn (hg _ s5 σ3 H5 x u _ I5' r5 (step x H5 y5)) fun _ s6 ⟨σ6,H6,I6,q6⟩=>?_)
  refine wpAny_passesOwn hp (thn (hb _ s6 σ6 H6 _ I6 q6) fun f s7 q7=>?_)
  have again:∀ {σ7:St} {H7:Hp},Inv X (pins++Z4v fp s5.heap) σ7 H7 s7→N σ7 H7→∃ m,m < n∧∃ i σ' H',Inv X pins σ' H' s7∧tn i s7.heap∧(∀ b∈fp,H' b=none)∧W i m σ' H':=fun {σ7 H7} I7 n7=>by
   obtain ⟨m',hm,w7⟩:=hN σ7 H7 n7
   refine ⟨m',hm,i + 1,σ7,H7,I7.unpinned,T.keep _ _ _ st5 fun b hb o e=>(I7.pin (b,o) (Qd _ (Qd _ (Z1Z hb e)))).1,fun b hb=>?_,w7⟩
   obtain ⟨o,e,d⟩:=T.obj _ _ st5 b hb
   exact (I7.pin (b,o) (Qd _ (Qd _ (Z1Z hb e)))).2.1
  cases f with
  | next=>obtain ⟨σ7,H7,I7,n7⟩:=q7;exact again I7 n7
  | cont=>obtain ⟨σ7,H7,I7,n7⟩:=q7;exact again I7 n7
  | brk=>obtain ⟨σ7,H7,I7,q7⟩:=q7;exact ⟨σ7,H7,I7.unpinned,q7⟩
  | ret v=>obtain ⟨x7,σ7,H7,I7,r7,q7⟩:=q7;exact ⟨x7,σ7,H7,I7.unpinned,r7,q7⟩
end

end L2
namespace L2
open PySem PySem.Spec PyProof.Rows
noncomputable abbrev R2:=V→V→Hp→VK→Prop
noncomputable def OpR(X:Cx)(f:Value→Value→Sem Value)(r:R2):Prop :=
 ∀ (pins:List (Addr×Obj)) (s:Shared) (σ:St) (H:Hp) (x y:V) (v u:Value) (Q:VK),Inv X pins σ H s→RelV x v→RelV y u→r x y H Q →
  wpAny (model X.prog X.w) X.A (f v u) (EP X pins σ Q) X.xe s
noncomputable def Z0o(X:Cx)(f:Value)(r:List V→Hp→VK→Prop):Prop :=
 ∀ (pins:List (Addr×Obj)) (s:Shared) (σ:St) (H:Hp) (xs:List V) (us:List Value) (Q:VK),Inv X pins σ H s→Vals xs us→r xs H Q →
  wpAny (model X.prog X.w) X.A (call f us) (EP X pins σ Q) X.xe s
noncomputable def tOp(r:R2)(ta tb:TE):TE:=fun σ H Q=>ta σ H fun x H1=>tb σ H1 fun y H2=>r x y H2 Q
noncomputable def tUn(r:V→Hp→VK→Prop)(ta:TE):TE:=fun σ H Q=>ta σ H fun x H1=>r x H1 Q
noncomputable def rI(C:Int→Int→Prop)(g:Int→Int→V):R2:=fun x y H Q=>∃ i j,x=.int i∧y=.int j∧C i j∧Q (g i j) H
noncomputable def rI0(g:Int→Int→V):R2:=fun x y H Q=>∃ i j,x=.int i∧y=.int j∧Q (g i j) H
noncomputable def rU(g:Int→V):V→Hp→VK→Prop:=fun x H Q=>∃ i,x=.int i∧Q (g i) H
section
variable {X:Cx}{a b c:Expr}{ta tb tc:TE}{pos:Pos}
theorem binT(ha:PE X a ta)(hb:PE X b tb){pins:List (Addr×Obj)}{s:Shared}{σ:St}{H:Hp}{R:V→V→Hp→Prop}(I:Inv X pins σ H s)
  (h:ta σ H fun x H1=>tb σ H1 fun y H2=>R x y H2) {Q:Value→Shared→Prop} {f:Value→Value→Sem Value}
  (hf:∀ v u s2 x y H2,Inv X pins σ H2 s2→RelV x v→RelV y u→R x y H2→wpAny (model X.prog X.w) X.A (f v u) Q X.xe s2) :
  wpAny (model X.prog X.w) X.A (eval a X.env) (fun v s₁=>wpAny (model X.prog X.w) X.A (eval b X.env) (fun u s₂=>wpAny (model X.prog X.w) X.A (f v u) Q X.xe s₂) X.xe s₁) X.xe s:=by
 refine thn (ha pins s σ H _ I h) fun v s1 ⟨x,H1,I1,r1,q1⟩=>?_
 refine thn (hb pins s1 σ H1 _ I1 q1) fun u s2 ⟨y,H2,I2,r2,q2⟩=>?_
 exact hf v u s2 x y H2 I2 r1 r2 q2
theorem pe_op{op:Operator}{r:R2}(ho:OpR X (binaryOp op) r)(ha:PE X a ta)(hb:PE X b tb):PE X (.BinOp a op b pos) (tOp r ta tb):=by
 intro pins s σ H Q I h
 exact wpAny_BinOp (binT ha hb I h fun v u s2 x y H2 I2 rx ry q=>ho pins s2 σ H2 x y v u Q I2 rx ry q)

theorem opI{f:Value→Value→Sem Value}{C:Int→Int→Prop}{g:Int→Int→Int}
  (rule:∀ (i j:Int) (t u:Tok) (s:Shared) (Q:Value→Shared→Prop) (E:Value→Shared→Prop),C i j→Q (.int (g i j) s.toks) { s with toks:=s.toks + 1 }→wpAny (model X.prog X.w) X.A (f (.int i t) (.int j u)) Q E s) :
  OpR X f (rI C fun i j=>.int (g i j)):=by
 intro pins s σ H x y v u Q I rx ry h
 obtain ⟨i,j,rfl,rfl,hc,q⟩:=h
 obtain ⟨t,rfl⟩:=rx
 obtain ⟨t',rfl⟩:=ry
 exact rule i j t t' s _ _ hc ⟨.int (g i j),H,I.tok _,⟨_,rfl⟩,q⟩
theorem opI0{f:Value→Value→Sem Value}{g:Int→Int→Int}
  (rule:∀ (i j:Int) (t u:Tok) (s:Shared) (Q:Value→Shared→Prop) (E:Value→Shared→Prop),Q (.int (g i j) s.toks) { s with toks:=s.toks + 1 }→wpAny (model X.prog X.w) X.A (f (.int i t) (.int j u)) Q E s) :
  OpR X f (rI0 fun i j=>.int (g i j)):=by
 intro pins s σ H x y v u Q I rx ry h
 obtain ⟨i,j,rfl,rfl,q⟩:=h
 obtain ⟨t,rfl⟩:=rx
 obtain ⟨t',rfl⟩:=ry
 exact rule i j t t' s _ _ ⟨.int (g i j),H,I.tok _,⟨_,rfl⟩,q⟩
theorem opB0{f:Value→Value→Sem Value}{g:Int→Int→Bool}
  (rule:∀ (i j:Int) (t u:Tok) (s:Shared) (Q:Value→Shared→Prop) (E:Value→Shared→Prop),Q (.bool (g i j)) s→wpAny (model X.prog X.w) X.A (f (.int i t) (.int j u)) Q E s) :
  OpR X f (rI0 fun i j=>.bl (g i j)):=by
 intro pins s σ H x y v u Q I rx ry h
 obtain ⟨i,j,rfl,rfl,q⟩:=h
 obtain ⟨t,rfl⟩:=rx
 obtain ⟨t',rfl⟩:=ry
 exact rule i j t t' s _ _ ⟨.bl (g i j),H,I,rfl,q⟩
noncomputable def CDiv(i j:Int):Prop:=0 < j∧j < 1073741824
noncomputable def CMul(i j:Int):Prop:=(-(2 ^ 64) < i∧i < 2 ^ 64)∨(-(2 ^ 64) < j∧j < 2 ^ 64)
theorem CMul.ok{i j:Int}(h:CMul i j):IntMulOk i j:=by
 rcases h with ⟨h1,h2⟩ | ⟨h1,h2⟩
 ·exact .of_left (intBits_le_64 h1 h2)
 ·exact .of_right (intBits_le_64 h1 h2)
theorem Zf7:OpR X (binaryOp .Add) (rI0 fun i j=>.int (i + j)):=opI0 fun _ _ _ _ _ _ _ q=>add_int q
theorem Zfa:OpR X (binaryOp .Sub) (rI0 fun i j=>.int (i - j)):=opI0 fun _ _ _ _ _ _ _ q=>sub_int q
theorem Zf9:OpR X (binaryOp .Mult) (rI CMul fun i j=>.int (i * j)):=opI fun _ _ _ _ _ _ _ hc q=>mul_int q hc.ok
theorem ZdG:OpR X (binaryOp .FloorDiv) (rI CDiv fun i j=>.int (i / j)):=opI fun i j _ _ _ _ _ hc q=>by
 have h1:(0:Int) < j:=hc.1
 have h2:j < 1073741824:=hc.2
 exact floordiv_int (by omega) (by rw [Int.fdiv_eq_ediv_of_nonneg i (by omega)];exact q) (.inl (PyProof.noPylong_small (by omega)))
theorem Zf8:OpR X (binaryOp .Mod) (rI (fun _ j=>0 < j) fun i j=>.int (i % j)):=opI fun i j _ _ _ _ _ hc q=>by
 have h1:(0:Int) < j:=hc
 exact mod_int' (by omega) (by rw [Int.fmod_eq_emod_of_nonneg i (by omega)];exact q)

end

noncomputable def scal:V→V→Bool
 | .non,.non=>true | .non,.int _=>true | .int _,.non=>true | .non,.bl _=>true | .bl _,.non=>true | .non,.str _=>true | .str _,.non=>true
 | .int _,.int _=>true | .bl _,.bl _=>true | .str _,.str _=>true | .byt _,.byt _=>true
 | .int _,.str _=>true | .str _,.int _=>true | .bl _,.str _=>true | .str _,.bl _=>true
 | _,_=>false
noncomputable def rEq:R2:=fun x y H Q=>scal x y=true∧Q (.bl (decide (x=y))) H
noncomputable def rNe:R2:=fun x y H Q=>scal x y=true∧Q (.bl (!decide (x=y))) H
theorem Za6{i j:Int}:decide (V.int i=V.int j)=(i == j):=by
 rw [Wn]
 simp
theorem Zb3{i j:Bool}:decide (V.bl i=V.bl j)=(i == j):=by
 rw [Wn]
 simp
theorem Za7{i j:Str}:decide (V.str i=V.str j)=(i == j):=by
 rw [Wn]
 simp
theorem Za5{i j:Array UInt8}:decide (V.byt i=V.byt j)=(i.toList == j.toList):=by
 rw [Wn]
 cases i
 cases j
 simp
section
variable {X:Cx}{a b c:Expr}{ta tb tc:TE}{pos:Pos}
theorem ZG{pins:List (Addr×Obj)}{σ:St}{H:Hp}{s:Shared}{Q:VK}{k k':Bool}(I:Inv X pins σ H s)(q:Q (.bl k) H)(e:k=k'):EP X pins σ Q (.bool k') s:=by
 subst e
 exact ⟨.bl k,H,I,rfl,q⟩
theorem op_eq:OpR X (compareOp .Eq) rEq:=by
 intro pins s σ H x y v u Q I rx ry h
 obtain ⟨hs,q⟩:=h
 cases x with
 | non =>
  cases rx
  cases y with
  | non=>cases ry;exact PySem.EqNone.eq_none_none (ZG I q (by simp))
  | bl j=>cases ry;exact PySem.EqNone.eq_none_bool (ZG I q (by simp))
  | int j=>obtain ⟨t',rfl⟩:=ry;exact PySem.EqNone.eq_none_int (ZG I q (by simp))
  | str j=>obtain ⟨t',rfl⟩:=ry;exact PySem.EqNone.eq_none_str (ZG I q (by simp))
  | _=>exact absurd (show false=true from hs) Ql
 | bl i =>
  cases rx
  cases y with
  | non=>cases ry;exact PySem.EqNone.eq_bool_none (ZG I q (by simp))
  | bl j=>cases ry;exact eq_bool (ZG I q Zb3)
  | str j=>obtain ⟨t',rfl⟩:=ry;exact PySem.EqMixed.eq_bool_str (ZG I q (by simp))
  | _=>exact absurd (show false=true from hs) Ql
 | int i =>
  obtain ⟨t,rfl⟩:=rx
  cases y with
  | non=>cases ry;exact PySem.EqNone.eq_int_none (ZG I q (by simp))
  | int j=>obtain ⟨t',rfl⟩:=ry;exact eq_int (ZG I q Za6)
  | str j=>obtain ⟨t',rfl⟩:=ry;exact PySem.EqMixed.eq_int_str (ZG I q (by simp))
  | _=>exact absurd (show false=true from hs) Ql
 | str i =>
  obtain ⟨t,rfl⟩:=rx
  cases y with
  | non=>cases ry;exact PySem.EqNone.eq_str_none (ZG I q (by simp))
  | bl j=>cases ry;exact PySem.EqMixed.eq_str_bool (ZG I q (by simp))
  | int j=>obtain ⟨t',rfl⟩:=ry;exact PySem.EqMixed.eq_str_int (ZG I q (by simp))
  | str j=>obtain ⟨t',rfl⟩:=ry;exact eq_str (ZG I q Za7)
  | _=>exact absurd (show false=true from hs) Ql
 | byt i =>
  obtain ⟨t,rfl⟩:=rx
  cases y with
  | byt j=>obtain ⟨t',rfl⟩:=ry;exact PySem.W.eq_bytes (ZG I q Za5)
  | _=>exact absurd (show false=true from hs) Ql
 | _=>cases y <;> exact absurd (show false=true from hs) Ql
theorem op_ne:OpR X (compareOp .NotEq) rNe:=by
 intro pins s σ H x y v u Q I rx ry h
 obtain ⟨hs,q⟩:=h
 cases x with
 | non =>
  cases rx
  cases y with
  | non=>cases ry;exact PySem.EqNone.ne_none_none (ZG I q (by simp))
  | bl j=>cases ry;exact PySem.EqNone.ne_none_bool (ZG I q (by simp))
  | int j=>obtain ⟨t',rfl⟩:=ry;exact PySem.EqNone.ne_none_int (ZG I q (by simp))
  | str j=>obtain ⟨t',rfl⟩:=ry;exact PySem.EqNone.ne_none_str (ZG I q (by simp))
  | _=>exact absurd (show false=true from hs) Ql
 | bl i =>
  cases rx
  cases y with
  | non=>cases ry;exact PySem.EqNone.ne_bool_none (ZG I q (by simp))
  | bl j=>cases ry;exact ne_bool (ZG I q (congrArg not Zb3))
  | str j=>obtain ⟨t',rfl⟩:=ry;exact PySem.EqMixed.ne_bool_str (ZG I q (by simp))
  | _=>exact absurd (show false=true from hs) Ql
 | int i =>
  obtain ⟨t,rfl⟩:=rx
  cases y with
  | non=>cases ry;exact PySem.EqNone.ne_int_none (ZG I q (by simp))
  | int j=>obtain ⟨t',rfl⟩:=ry;exact ne_int (ZG I q (congrArg not Za6))
  | str j=>obtain ⟨t',rfl⟩:=ry;exact PySem.EqMixed.ne_int_str (ZG I q (by simp))
  | _=>exact absurd (show false=true from hs) Ql
 | str i =>
  obtain ⟨t,rfl⟩:=rx
  cases y with
  | non=>cases ry;exact PySem.EqNone.ne_str_none (ZG I q (by simp))
  | bl j=>cases ry;exact PySem.EqMixed.ne_str_bool (ZG I q (by simp))
  | int j=>obtain ⟨t',rfl⟩:=ry;exact PySem.EqMixed.ne_str_int (ZG I q (by simp))
  | str j=>obtain ⟨t',rfl⟩:=ry;exact ne_str (ZG I q (congrArg not Za7))
  | _=>exact absurd (show false=true from hs) Ql
 | byt i =>
  obtain ⟨t,rfl⟩:=rx
  cases y with
  | byt j=>obtain ⟨t',rfl⟩:=ry;exact PySem.W.ne_bytes (ZG I q (congrArg not Za5))
  | _=>exact absurd (show false=true from hs) Ql
 | _=>cases y <;> exact absurd (show false=true from hs) Ql
theorem op_lt:OpR X (compareOp .Lt) (rI0 fun i j=>.bl (decide (i < j))):=opB0 fun _ _ _ _ _ _ _ q=>lt_int q
theorem op_gt:OpR X (compareOp .Gt) (rI0 fun i j=>.bl (decide (j < i))):=opB0 fun _ _ _ _ _ _ _ q=>gt_int q
theorem op_ge:OpR X (compareOp .GtE) (rI0 fun i j=>.bl (decide (j≤i))):=opB0 fun _ _ _ _ _ _ _ q=>ge_int q
theorem Z7u:OpR X (compareOp .Is) (fun x y H Q=>y=.non∧Q (.bl (decide (x=.non))) H):=by
 intro pins s σ H x y v u Q I rx ry h
 obtain ⟨rfl,q⟩:=h
 cases ry
 refine is_none_gen (ZG I q ?_)
 cases x <;> first
  | (cases rx;rfl)
  | (obtain ⟨t,rfl⟩:=rx;rfl)
theorem Z9w:OpR X (compareOp .NotIn) (fun x y H Q=>∃ i j,x=.str i∧y=.str j∧Q (.bl (!(!(Builtin.Str.occurrences j i 0 j.length 1).isEmpty))) H):=by
 intro pins s σ H x y v u Q I rx ry h
 obtain ⟨i,j,rfl,rfl,q⟩:=h
 obtain ⟨t,rfl⟩:=rx
 obtain ⟨t',rfl⟩:=ry
 exact notIn_str (ZG I q rfl)
theorem ZJ(b:Expr){op:CmpOp}(h:op≠.In:=by decide)(h2:op≠.NotIn:=by decide):behindInMarks op b=false:=by
 have e1:(op == CmpOp.In)=false:=by cases op <;> first | rfl | exact absurd rfl h
 have e2:(op == CmpOp.NotIn)=false:=by cases op <;> first | rfl | exact absurd rfl h2
 cases b <;> simp [behindInMarks,e1,e2]
theorem Z63{op:CmpOp}{r:R2}(ho:OpR X (compareOp op) r)(ha:PE X a ta)(hb:PE X b tb)(hm:behindInMarks op b=false):PE X (.Compare a [op] [b] pos) (tOp r ta tb):=by
 intro pins s σ H Q I h
 exact wpAny_Compare1 (binT ha hb I h fun v u s2 x y H2 I2 rx ry q=>ho pins s2 σ H2 x y v u Q I2 rx ry q) hm
noncomputable def tTest(t:TE):TT:=fun σ H Q=>t σ H fun x H'=>∃ k,x=.bl k∧Q k H'
theorem Z2W{op:CmpOp}{r:R2}(ho:OpR X (compareOp op) r)(ha:PE X a ta)(hb:PE X b tb)(hm:behindInMarks op b=false):PT X (.Compare a [op] [b] pos) (tTest (tOp r ta tb)):=by
 intro pins s σ H Q I h
 refine wpAny_isTrue_Compare1 (thn (ha pins s σ H _ I h) fun v s1 ⟨x,H1,I1,r1,q1⟩=>thn (hb pins s1 σ H1 _ I1 q1) fun u s2 ⟨y,H2,I2,r2,q2⟩ =>
  thn (ho pins s2 σ H2 x y v u _ I2 r1 r2 q2) fun c s3 ⟨z,H3,I3,r3,k,e,q3⟩=>?_) hm
 subst e
 cases r3
 exact wpAny_truthy_bool ⟨H3,I3,q3⟩

theorem line63:(sizeLine:Nat) < 2 ^ 63:=by rw [sizeLine_eq];decide

theorem ZaN:OpR X (binaryOp .Add) (fun x y H Q=>∃ i j,x=.str i∧y=.str j∧i.length + j.length≤sizeLine∧Q (.str (i++j)) H):=by
 intro pins s σ H x y v u Q I rx ry h
 obtain ⟨i,j,rfl,rfl,hz,q⟩:=h
 obtain ⟨t,rfl⟩:=rx
 obtain ⟨t',rfl⟩:=ry
 exact add_str (fun t' tk=>⟨.str (i++j),H,I.tok _,⟨_,rfl⟩,q⟩) hz

theorem vals1{x:V}{us:List Value}(r:Vals [x] us):∃ u,us=[u]∧RelV x u:=by
 cases r with
 | cons r1 r2=>cases r2;exact ⟨_,rfl,r1⟩
theorem vals2{x y:V}{us:List Value}(r:Vals [x,y] us):∃ u w',us=[u,w']∧RelV x u∧RelV y w':=by
 cases r with
 | cons r1 r2 =>
  cases r2 with
  | cons r3 r4=>cases r4;exact ⟨_,_,rfl,r1,r3⟩
noncomputable def LenV(K:Qa)(x:V)(H:Hp)(n:Nat):Prop :=
 match x with
 | .str y=>y.length≤sizeLine∧n=y.length
 | .byt y=>y.size≤sizeLine∧n=y.size
 | .ref p=>(∃ xs,SqL K H p xs∧n=xs.length)∨∃ xs,SqT K H p xs∧n=xs.length
 | _=>False
theorem call_len:Z0o X (.builtin "len") (fun xs H Q=>∃ x n,xs=[x]∧LenV X.K x H n∧Q (.int n) H):=by
 intro pins s σ H xs us Q I r h
 obtain ⟨x,n,rfl,e,q⟩:=h
 obtain ⟨u,rfl,rx⟩:=vals1 r
 have hl:=line63
 have hs:sizeLine=16777216:=sizeLine_eq
 cases x with
 | str y =>
  obtain ⟨t,rfl⟩:=rx
  obtain ⟨hy,e'⟩:y.length≤sizeLine∧n=y.length:=e
  subst e'
  exact len_str (by omega) ⟨.int _,H,I.tok _,⟨_,rfl⟩,q⟩
 | byt y =>
  obtain ⟨t,rfl⟩:=rx
  obtain ⟨hy,e'⟩:y.size≤sizeLine∧n=y.size:=e
  subst e'
  exact PySem.W.len_bytes (by omega) ⟨.int _,H,I.tok _,⟨_,rfl⟩,q⟩
 | ref p =>
  cases rx
  have e':(∃ xs,SqL X.K H p xs∧n=xs.length)∨∃ xs,SqT X.K H p xs∧n=xs.length:=e
  rcases e' with ⟨xs,hx,e'⟩ | ⟨xs,hx,e'⟩
  ·subst e'
   obtain ⟨its,r',pl,hz⟩:=I.list hx
   have hlen:=r'.length
   exact Calls.call_len_list pl.isList (by simp only [Qz];omega) ⟨.int xs.length,H,I.tok _,⟨_,by simp only [Qz];rw [hlen]⟩,q⟩
  ·subst e'
   obtain ⟨its,r',pl,hz⟩:=I.tuple hx
   have hlen:=r'.length
   exact len_tuple pl (by simp only [Qz];omega) ⟨.int xs.length,H,I.tok _,⟨_,by simp only [Qz];rw [hlen]⟩,q⟩
 | _=>exact (show False from e).elim
end
end L2
namespace L2
open PySem PySem.Spec PyProof.Rows

structure ObjM(h:Heap)(x dx C:Addr)(mA:Str→Option Value):Prop where
 obj:h.get? x=some (PySem.W.instObj C dx)
 ns:h.Ns1 dx mA
 ne:dx≠x
theorem Zbn{h:Heap}{dx:Addr}{mA:Str→Option Value}(n:h.Ns1 dx mA):∃ od,h.get? dx=some od∧∀ name,PySem.W.lookIn name od=some (mA name):=by
 obtain ⟨o,es,ep,ho,hd,hk,_,hm⟩:=n
 refine ⟨o,ho,fun name=>?_⟩
 have e:=hm name
 unfold nsFind findBy at e
 rw [← Array.find?_toList] at e
 unfold PySem.W.lookIn
 rw [hd]
 dsimp only
 split
 ·rename_i y q
  rw [q] at e
  exact congrArg some e
 ·rename_i q
  rw [q] at e
  have a:es.toList.any (·.refKey)=false:=by
   rw [List.any_eq_false]
   intro y hy
   obtain ⟨z,t,hkey⟩:=hk y (Array.mem_toList_iff.mp hy)
   simp [DictEntry.refKey,hkey]
  have a':¬ es.toList.any (·.refKey)=true:=by rw [a];exact Ql
  rw [if_neg a']
  exact congrArg some e
theorem ObjM.look{h:Heap}{x dx C:Addr}{mA:Str→Option Value}(I:ObjM h x dx C mA):∃ od,PySem.W.InstAt h x (PySem.W.instObj C dx) C (some od)∧∀ name,PySem.W.lookIn name od=some (mA name) :=
 let ⟨od,ho,hl⟩:=Zbn I.ns
 ⟨od,⟨I.obj,rfl,rfl,ho⟩,hl⟩
section
variable {prog:Program}{w:World}{A:Around}{E:Value→Shared→Prop}{s:Shared}{K:Qa}{x dx C f:Addr}{mA:Str→Option Value}{name:Str}{v:Value}
theorem get_map{expr:Bool}{Q:Value→Shared→Prop}(X:K.In s.heap)(I:ObjM s.heap x dx C mA)(hg:PySem.W.plainGet K C name=true)(hh:PySem.W.hasDictIn K C=true)
  (ha:PySem.W.findIn K (.ref C) name=some none) (hv:mA name=some v) (hv':PySem.W.handedIn v=true) (h:Q v { s with toks:=s.toks + 1 }) :
  wpAny (model prog w) A (getAttr (.ref x) name expr) Q E s:=by
 obtain ⟨od,J,hl⟩:=I.look
 exact PySem.W.get_value X J (PySem.W.plainGet_of hg).1 (PySem.W.findObj_own hh ha rfl (by rw [hl,hv])) hv' h
theorem Zcl{pl:Sem Bool}{Q:Value×List Value→Shared→Prop}(X:K.In s.heap)(I:ObjM s.heap x dx C mA)(hg:PySem.W.plainGet K C name=true)
  (hf:PySem.W.findIn K (.ref C) name=some (some (.ref f))) (ht:PySem.W.isFn K (.ref f)=true) (hv:mA name=none) (h:Q (.ref f,[.ref x]) s) :
  wpAny (model prog w) A (getMethod (.ref x) name pl) Q E s:=by
 obtain ⟨od,J,hl⟩:=I.look
 exact PySem.W.method_fn X J (PySem.W.plainGet_of hg).1 (PySem.W.plainGet_of hg).2 hf (beq_iff_eq.mp ht) (by show (PySem.W.lookIn name od).map (·.isSome)=some false;rw [hl,hv];rfl) h
theorem ZdZ{ns:List Str}{Q:Unit→Shared→Prop}(X:K.In s.heap)(I:ObjM s.heap x dx C mA)
  (hs:PySem.W.findIn K (.ref C) "__setattr__"=some (some (.builtin "object.__setattr__"))) (hp:PySem.W.plainOver K C=true) (ht:PySem.W.takerIn K C name=some none) (hh:PySem.W.hasDictIn K C=true)
  (hw:PySem.Within mA ns) (hsz:ns.length≤sizeLine)
  (h:∀ h',ObjM h' x dx C (fun y=>if y=name then some v else mA y)→Heap.SameBut dx s.heap h'→Q () { s with heap:=h',toks:=s.toks + 2 }) :
  wpAny (model prog w) A (setAttr (.ref x) name v) Q E s:=by
 obtain ⟨od,J,hl⟩:=I.look
 refine PySem.W.set_plain X J hs (PySem.W.osa_open (s:={ s with toks:=s.toks + 1 }) (r:=none) X J hp ht fun b=>?_)
 obtain ⟨cd,hc,hd'⟩:=PySem.W.any_some hh
 have hx:s.heap.get? x=some ⟨.ref C,some dx,.plain,#[]⟩:=I.obj
 refine wpAny_bind (wpAny_pure (wpAny_bind (wpAny_bind (wpAny_loadPart hx (wpAny_bind (PySem.W.Looks.here (s:={ s with toks:=s.toks + 1 }) (PySem.W.looks_clsIn X hc) ?_))))))
 rw [hd']
 refine wpAny_pure (a:=some dx) (wpAny_bind (wpAny_pure (wpAny_bind ?_)))
 refine wpAny_nsSet1 (s:={ s with toks:=s.toks + 1 }) I.ns fun h' hn2 hs2=>?_
 obtain ⟨oD,esD,epD,hoD,hdD,hcD⟩:=hn2.count (PySem.Within.cons name v hw)
 refine wpAny_bind (wpAny_lookBehind hoD (by rw [hdD];exact pastItsLine_dict (Jc hcD (by rw [Jp];omega))) ?_)
 exact wpAny_pure (h _ ⟨(hs2.2 _ (Ne.symm I.ne)).trans I.obj,hn2,I.ne⟩ hs2)
theorem ZcD{R:Result→Shared→Prop}{vs:List Value}{kw:List (Str×Value)}(X:K.In s.heap)(hm:PySem.W.makesIn K C=true)
  (hi:PySem.W.findIn K (.ref C) "__init__"=some (some (.ref f))) (hf:PySem.W.typeIn K (.ref f)=some (.type "function"))
  (h:codeAny (model prog w) (A.under (.builtin "type.__call__" ⟨.ref C::vs,kw⟩)) (.call (.ref f) ⟨.ref (s.heap.objs.size + 1)::vs,kw⟩) (PySem.W.InitBack (s.heap.objs.size + 1) R)
   { s with heap:=(s.heap.push PySem.W.emptyDict).push (PySem.W.instObj C s.heap.objs.size) }) :
  codeAny (model prog w) A (.call (.ref C) ⟨vs,kw⟩) R s:=by
 obtain ⟨hh,g,d,t,os⟩:=s
 exact PySem.W.make_core (PySem.W.makes_of X hm) (PySem.W.looks_findIn X hi) (fun self=>PySem.W.bind_fn X self hf) (.inl rfl) h
end

noncomputable def Z19(f:Str)(v:V):List (Str×V)→List (Str×V)
 | []=>[(f,v)]
 | (g,x)::r=>if g=f then (g,v)::r else (g,x)::Z19 f v r
theorem Z6p(f g:Str)(v:V):∀ fs:List (Str×V),(Z19 f v fs).lookup g=if g=f then some v else fs.lookup g
 | []=>by
  show Nf g [(f,v)]=_
  by_cases h:g=f
  ·have hb:(g == f)=true:=beq_iff_eq.mpr h
   simp only [Nf,hb,if_pos h]
  ·have hb:(g == f)=false:=beq_eq_false_iff_ne.mpr h
   simp only [Nf,hb,if_neg h]
 | (k,x)::r=>by
  have ih:=Z6p f g v r
  rw [show Z19 f v ((k,x)::r)=(if k=f then (k,v)::r else (k,x)::Z19 f v r) from rfl]
  by_cases hk:k=f
  ·rw [if_pos hk]
   by_cases h:g=k
   ·have hb:(g == k)=true:=beq_iff_eq.mpr h
    simp only [Nf,hb,if_pos (h.trans hk)]
   ·have hb:(g == k)=false:=beq_eq_false_iff_ne.mpr h
    simp only [Nf,hb,if_neg (fun e:g=f=>h (e.trans hk.symm))]
  ·rw [if_neg hk]
   by_cases h:g=k
   ·have hb:(g == k)=true:=beq_iff_eq.mpr h
    simp only [Nf,hb,if_neg (fun e:g=f=>hk (h.symm.trans e))]
   ·have hb:(g == k)=false:=beq_eq_false_iff_ne.mpr h
    simp only [Nf,hb]
    exact ih
theorem Z5x(f:Str)(v:V):∀ fs:List (Str×V),f∈(Z19 f v fs).map (·.1)∧∀ g,g∈fs.map (·.1)→g∈(Z19 f v fs).map (·.1)
 | []=>⟨by simp [Z19],fun g h=>by simp at h⟩
 | (k,x)::r=>by
  obtain ⟨i1,i2⟩:=Z5x f v r
  rw [show Z19 f v ((k,x)::r)=(if k=f then (k,v)::r else (k,x)::Z19 f v r) from rfl]
  by_cases hk:k=f
  ·rw [if_pos hk]
   subst hk
   exact ⟨by simp,fun g h=>by simpa using h⟩
  ·rw [if_neg hk]
   refine ⟨?_,fun g h=>?_⟩
   ·rw [Qi]
    exact Qt _ i1
   ·rw [Qi] at h ⊢
    rcases Qx.mp h with e | e
    ·exact Qx.mpr (.inl e)
    ·exact Qt _ (i2 g e)
theorem Z6n(f:Str)(v:V):∀ fs:List (Str×V),(Z19 f v fs).length≤fs.length + 1
 | []=>by simp [Z19]
 | (k,x)::r=>by
  have ih:=Z6n f v r
  rw [show Z19 f v ((k,x)::r)=(if k=f then (k,v)::r else (k,x)::Z19 f v r) from rfl]
  by_cases hk:k=f
  ·rw [if_pos hk,Jp,Jp];omega
  ·rw [if_neg hk,Jp,Jp];omega
theorem RelO.some_of{v:V}{o:Option Value}(r:RelO (some v) o):∃ u,o=some u∧RelV v u:=by
 cases o with
 | none=>exact (show False from r).elim
 | some u=>exact ⟨u,rfl,r⟩
theorem RelO.none_of{o:Option Value}(r:RelO none o):o=none:=by
 cases o with
 | none=>rfl
 | some u=>exact (show False from r).elim
theorem Zbb{v:V}{u:Value}(r:RelV v u):PySem.W.handedIn u=true:=by
 cases v with
 | non=>cases (show u=Value.none from r);rfl
 | bl b=>cases (show u=Value.bool b from r);rfl
 | int i=>obtain ⟨t,e⟩:=(show ∃ t,u=Value.int i t from r);cases e;rfl
 | str x=>obtain ⟨t,e⟩:=(show ∃ t,u=Value.str x t from r);cases e;rfl
 | byt b=>obtain ⟨t,e⟩:=(show ∃ t,u=Value.bytes b t from r);cases e;rfl
 | flt b=>obtain ⟨t,e⟩:=(show ∃ t,u=Value.float b t from r);cases e;rfl
 | ref a=>cases (show u=Value.ref a from r);rfl
 | ty n=>cases (show u=Value.type n from r);rfl
section
variable {P:Program}{w:World}{H H':Hp}{h h':Heap}{a C dx:Addr}{fs fs':List (Str×V)}
theorem Z7X(hok:HOk P w H h)(e:H a=some (.ins C dx fs)):∃ mA,ObjM h a dx C mA∧(∀ f,RelO (fs.lookup f) (mA f))∧PySem.Within mA (fs.map (·.1))∧fs.length≤1000∧H dx=some (.own a):=by
 obtain ⟨d,z,ne,ob,mA,n,r,q⟩:=(show Z06 P w H h a (.ins C dx fs) from hok a _ e)
 exact ⟨mA,⟨ob,n,ne⟩,r,q,z,d⟩
end

structure Cls(K:Qa)(C:Addr):Prop where
 pg:PySem.W.plainGet K C Str.empty=true
 hd:PySem.W.hasDictIn K C=true
 po:PySem.W.plainOver K C=true
 sa:PySem.W.findIn K (.ref C) "__setattr__"=some (some (.builtin "object.__setattr__"))
theorem Cls.get{K:Qa}{C:Addr}(c:Cls K C)(f:Str):PySem.W.plainGet K C f=true:=c.pg
noncomputable def Zy(K:Qa)(C:Addr)(f:Str):Prop:=PySem.W.findIn K (.ref C) f=some none
theorem Zy.taker{K:Qa}{C:Addr}{f:Str}(n:Zy K C f):PySem.W.takerIn K C f=some none:=by
 unfold PySem.W.takerIn
 rw [show PySem.W.findIn K (.ref C) f=some none from n]
 rfl
structure Con(K:Qa)(C:Addr)(f:Str)(v:V)(u:Value):Prop where
 at_:PySem.W.findIn K (.ref C) f=some (some u)
 rel:RelV v u
 get:PySem.W.specialIn K u "__get__"=some none
 cp:PySem.W.copiedNames.contains f=false
structure Meth(K:Qa)(C:Addr)(m:Str)(f:Addr):Prop where
 at_:PySem.W.findIn K (.ref C) m=some (some (.ref f))
 fn:PySem.W.isFn K (.ref f)=true
 kp:PySem.W.keepIn K (.ref f)=true
section
variable {X:Cx}{pins:List (Addr×Obj)}{σ:St}{H:Hp}{s:Shared}{a C dx:Addr}{fs:List (Str×V)}{f:Str}{v:V}{A:Around}{E:Value→Shared→Prop}
theorem ZaI{b:Bool}{Q:Value→Shared→Prop}(I:Inv X pins σ H s)(e:H a=some (.ins C dx fs))(c:Cls X.K C)(n:Zy X.K C f)(l:fs.lookup f=some v)
  (h:∀ u s',Inv X pins σ H s'→RelV v u→Q u s'):wpAny (model X.prog X.w) A (getAttr (.ref a) f b) Q E s:=by
 obtain ⟨mA,O,r,_,_,_⟩:=Z7X I.hok e
 obtain ⟨u,hu,ru⟩:=RelO.some_of (v:=v) (o:=mA f) (by rw [← l];exact r f)
 exact get_map I.kIn O (c.get f) c.hd n hu (Zbb ru) (h u _ (I.tok _) ru)
theorem Z6X{m:Str}{g:Addr}{pl:Sem Bool}{Q:Value×List Value→Shared→Prop}(I:Inv X pins σ H s)(e:H a=some (.ins C dx fs))(c:Cls X.K C)(k:Meth X.K C m g)(l:fs.lookup m=none)
  (h:Q (.ref g,[.ref a]) s):wpAny (model X.prog X.w) A (getMethod (.ref a) m pl) Q E s:=by
 obtain ⟨mA,O,r,_,_,_⟩:=Z7X I.hok e
 have hn:mA m=none:=RelO.none_of (by rw [← l];exact r m)
 exact Zcl I.kIn O (c.get m) k.at_ k.fn hn h
theorem ZaR{y:V}{u:Value}{Q:Unit→Shared→Prop}(I:Inv X pins σ H s)(e:H a=some (.ins C dx fs))(c:Cls X.K C)(n:Zy X.K C f)(hl:fs.length < 1000)(ry:RelV y u)
  (h:∀ s',Inv X pins σ (upd H a (.ins C dx (Z19 f y fs))) s'→Q () s'):wpAny (model X.prog X.w) A (setAttr (.ref a) f u) Q E s:=by
 obtain ⟨mA,O,r,wi,_,ho⟩:=Z7X I.hok e
 have hz:(fs.map (·.1)).length≤sizeLine:=by rw [Qo,sizeLine_eq];omega
 refine ZdZ I.kIn O c.sa c.po n.taker c.hd wi hz fun h' O' sb=>h _ ?_
 have hd:∃ o,h'.get? dx=some o:=let ⟨o,_,_,e',_⟩:=O'.ns;⟨o,e'⟩
 refine I.write (x:=a) (e:=dx) (by rw [e];exact True.intro) (.inr ho) (fun b q hb z=>(sb.2 b hb).trans z) hd ?_
 refine ⟨by rw [Zb O.ne];exact ho,?_,O.ne,O'.obj,_,O'.ns,fun g=>?_,fun g hg=>?_⟩
 ·have:=Z6n f y fs;omega
 ·show RelO ((Z19 f y fs).lookup g) (if g=f then some u else mA g)
  rw [Z6p]
  by_cases q:g=f
  ·rw [if_pos q,if_pos q];exact ry
  ·rw [if_neg q,if_neg q];exact r g
 ·by_cases q:g=f
  ·rw [q];exact (Z5x f y fs).1
  ·refine (Z5x f y fs).2 g (wi g fun z=>hg ?_)
   show (if g=f then some u else mA g)=none
   rw [if_neg q];exact z
theorem Inv.made(I:Inv X pins σ H s):Inv X pins σ (upd (upd H s.heap.objs.size (.own (s.heap.objs.size + 1))) (s.heap.objs.size + 1) (.ins C s.heap.objs.size []))
  { s with heap:=(s.heap.push PySem.W.emptyDict).push (PySem.W.instObj C s.heap.objs.size) }:=by
 have e1:(s.heap.push PySem.W.emptyDict).get? s.heap.objs.size=some PySem.W.emptyDict:=Heap.get?_push_size s.heap rfl
 have e2:((s.heap.push PySem.W.emptyDict).push (PySem.W.instObj C s.heap.objs.size)).get? (s.heap.objs.size + 1)=some (PySem.W.instObj C s.heap.objs.size):=by
  have:=Heap.get?_push_size (s.heap.push PySem.W.emptyDict) (o:=PySem.W.instObj C s.heap.objs.size) rfl
  rwa [Heap.size_push] at this
 have e3:(s.heap.push PySem.W.emptyDict).Ns s.heap.objs.size (fun _=>none):=⟨PySem.W.emptyDict,#[],_,e1,rfl,(fun e he=>absurd he (by simp)),fun _=>rfl⟩
 have I1:=I.laid (a:=s.heap.objs.size) (o:=.own (s.heap.objs.size + 1)) (h':=s.heap.push PySem.W.emptyDict) (t':=s.toks) (fun b u q=>Heap.get?_push_of_some _ q) (Qq _) ⟨_,e1⟩
 refine I1.laid (a:=s.heap.objs.size + 1) (o:=.ins C s.heap.objs.size []) (t':=s.toks) (fun b u q=>Heap.get?_push_of_some _ q) (Nat.le_of_eq (Heap.size_push _ _)) ?_
 have ne:s.heap.objs.size≠s.heap.objs.size + 1:=Jb (Wk _)
 refine ⟨by rw [Zb ne,Zm],Wq _,ne,e2,fun _=>none,(Heap.Ns1.of_empty e3).at fun o q=>Heap.get?_push_of_some _ q,fun _=>True.intro,fun y hy=>absurd rfl hy⟩
theorem Zd2{prog:Program}{w:World}{env:Env}{e:Expr}{f:Str}{pos:Pos}{s:Shared}{Q:Value→Shared→Prop}(hb:attributeBase e f env (eval e env)=eval e env)
  (h:wpAny (model prog w) A (eval e env) (fun o s₁=>wpAny (model prog w) A (getAttr o f true) Q E s₁) E s):wpAny (model prog w) A (eval (.Attribute e f pos) env) Q E s :=
 Attribute_any_ h (by rw [arm_eval_Attribute,hb])
end

section
variable {X:Cx}{o e value:Expr}{f:Str}{pos pos' tpos:Pos}{ta tv:TE}
end

section
variable {X:Cx}{pins:List (Addr×Obj)}{σ:St}{H:Hp}{s:Shared}{A:Around}{E:Value→Shared→Prop}{Q:Value→Shared→Prop}{c:Value}{b:Bool}
inductive TyOf(K:Qa)(H:Hp):V→Value→Prop where
 | non:TyOf K H .non (.type "NoneType")
 | bl (x:Bool):TyOf K H (.bl x) (.type "bool")
 | int (i:Int):TyOf K H (.int i) (.type "int")
 | str (x:Str):TyOf K H (.str x) (.type "str")
 | flt (x:UInt64):TyOf K H (.flt x) (.type "float")
 | lst {a:Addr} {xs:List V} (e:H a=some (.lst xs)):TyOf K H (.ref a) (.type "list")
 | frz {a:Addr} {o:Obj} {xs:List V} (e:H a=some (.frz o (.lst xs))):TyOf K H (.ref a) (.type "list")
 | tup {a:Addr} {xs:List V} (e:H a=some (.tup xs)):TyOf K H (.ref a) (.type "tuple")
 | dK {a:Addr} {kvs:List (Key×V)} (e:H a=some (.dK kvs)):TyOf K H (.ref a) (.type "dict")
 | dT {a:Addr} {kvs:List (List Key×V)} (e:H a=some (.dT kvs)):TyOf K H (.ref a) (.type "dict")
 | ins {a C dx:Addr} {fs:List (Str×V)} (e:H a=some (.ins C dx fs)) (cl:Cls K C) (ha:PySem.W.findIn K (.ref C) "__class__"=some (some (.builtin "object.__class__")))
   (hn:PySem.W.specialIn K (.builtin "object.__class__") "__get__"=some (some (.builtin "getset_descriptor.__get__"))) (htk:PySem.W.takesIn K (.builtin "object.__class__")=some true)
   (hm:PySem.W.mroIn K C (.type "object")=some true):TyOf K H (.ref a) (.ref C)
end
end L2
namespace L2
open PySem PySem.Spec PyProof.Rows

structure Room(k:Nat)(A:Around):Prop where
 hd:A.handled=none
 dp:A.depth + 3 * k + 5 < recursionLimit
 un:A.units + 16 * k + 200 < cLine
 gd:A.guards=some []
theorem Room.mono{j k:Nat}{A:Around}(r:Room k A)(h:j≤k):Room j A:=⟨r.hd,by have:=r.dp;omega,by have:=r.un;omega,r.gd⟩
theorem Room.deeper{k:Nat}{A:Around}(r:Room (k + 1) A)(env:Env):Room k (A.deeper env) :=
 ⟨r.hd,by have:=r.dp;show A.depth + 1 + 3 * k + 5 < _;omega,by have:=r.un;show A.units + 3 + 16 * k + 200 < _;omega,r.gd⟩
theorem ZaJ{A:Around}{C:Addr}{us:List Value}{kw:List (Str×Value)}:(A.under (.builtin "type.__call__" ⟨.ref C::us,kw⟩)).depth=A.depth + 1:=by
 first | rfl | simp [Around.under,Code.weight,Code.isCreation,Code.isGuard,Code.isCaller,Code.frames,Code.isFrame,guardIds]
theorem ZaK{A:Around}{C:Addr}{us:List Value}{kw:List (Str×Value)}:(A.under (.builtin "type.__call__" ⟨.ref C::us,kw⟩)).units=A.units + 1:=by
 first | rfl | simp [Around.under,Code.cUnits,Code.frames,Code.isFrame]
theorem Room.make{k:Nat}{A:Around}(r:Room (k + 1) A)(C:Addr)(us:List Value)(kw:List (Str×Value)):Room k (A.under (.builtin "type.__call__" ⟨.ref C::us,kw⟩)) :=
 ⟨r.hd,by have:=r.dp;rw [ZaJ];omega,by have:=r.un;rw [ZaK];omega,by show pushGuards [] A.guards=_;rw [r.gd];rfl⟩
theorem Room.depth{k:Nat}{A:Around}(r:Room k A):A.depth < recursionLimit:=by have:=r.dp;omega
theorem Room.units{k:Nat}{A:Around}(r:Room k A):A.units + 64 < cLine:=by have:=r.un;omega

noncomputable def tNil:TA:=fun _ H Q=>Q [] H
noncomputable def Z2J(ta:TE)(tr:TA):TA:=fun σ H Q=>ta σ H fun x H1=>tr σ H1 fun xs H2=>Q (x::xs) H2
section
variable {X:Cx}{e:Expr}{es:List Expr}{te:TE}{t:TA}{pos:Pos}
theorem Z01:PA X [] tNil:=fun _ _ _ _ H Q I h=>Calls.spliced_nil ⟨[],H,I,.nil,h⟩
theorem Zk(ha:PE X e te)(hr:PA X es t)(hs:starEach (e::es) X.env=(false,eval e X.env)::starEach es X.env:=by rfl):PA X (e::es) (Z2J te t):=by
 intro pos pins s σ H Q I h
 rw [hs]
 show wpAny _ _ (spliced ((false,eval e X.env)::backTo pos (starEach es X.env))) _ _ s
 refine Calls.spliced_cons (thn (ha pins s σ H _ I h) fun u s1 ⟨x,H1,I1,r1,q1⟩=>?_)
 exact thn (hr pos pins s1 σ H1 _ I1 q1) fun us s2 ⟨xs,H2,I2,r2,q2⟩=>⟨x::xs,H2,I2,.cons r1 r2,q2⟩
noncomputable def tTup(t:TA):TE:=fun σ H Q=>t σ H fun xs H1=>xs.length≤sizeLine∧∀ p,H1 p=none→Q (.ref p) (upd H1 p (.tup xs))
noncomputable def tLst(t:TA):TE:=fun σ H Q=>t σ H fun xs H1=>xs.length≤sizeLine∧∀ p,H1 p=none→Q (.ref p) (upd H1 p (.lst xs))
theorem Z9y{x1}(h:PA X es t):PE X (.Tuple es x1 pos) (tTup t):=by
 intro pins s σ H Q I hq
 refine wpAny_Tuple_spliced (thn (h pos pins s σ H _ I hq) fun us s1 ⟨xs,H1,I1,r,z,q⟩=>⟨by rw [← r.length];exact z,?_⟩)
 have hf:H1 s1.heap.objs.size=none:=I1.hok.fresh (Qq _)
 refine ⟨.ref s1.heap.objs.size,upd H1 s1.heap.objs.size (.tup xs),I1.laid (t':=s1.toks) (fun b u e=>Heap.get?_push_of_some _ e) (Qq _) ?_,rfl,q _ hf⟩
 exact ⟨z,us,r,⟨_,Heap.get?_push_size _ rfl,rfl,_,rfl⟩⟩
theorem Zfd(h:PA X es t):PE X (.List es pos) (tLst t):=by
 intro pins s σ H Q I hq
 refine wpAny_List_spliced (thn (h pos pins s σ H _ I hq) fun us s1 ⟨xs,H1,I1,r,z,q⟩=>⟨by rw [← r.length];exact z,?_⟩)
 have hf:H1 s1.heap.objs.size=none:=I1.hok.fresh (Qq _)
 refine ⟨.ref s1.heap.objs.size,upd H1 s1.heap.objs.size (.lst xs),I1.laid (t':=s1.toks) (fun b u e=>Heap.get?_push_of_some _ e) (Qq _) ?_,rfl,q _ hf⟩
 exact ⟨z,us,0,r,Heap.get?_push_size _ rfl⟩
end

noncomputable abbrev Sp:=List V→Hp→VK→XK→Prop
noncomputable abbrev CXT:=List Env→Hp→Shared→XK→Value→Shared→Prop
structure Env0(P:Program)(w:World)(K:Qa)(mg:Str→Option Value)(base:Heap)(A:Around)(outer:List Env)(s:Shared)(H:Hp):Prop where
 frames:A.frames=some outer
 mod:Mod K mg base
 bs:∀ b o,base.get? b=some o→s.heap.get? b=some o∧H b=none
 bsz:base.objs.size≤s.heap.objs.size
 funs:s.heap.FunFrames base outer
 frf:∀ b∈frs outer,H b=none
 hok:HOk P w H s.heap
 bare:AllBare s.gens
noncomputable def CE(outer:List Env)(P:Program)(w:World)(H:Hp)(s:Shared)(Q:VK)(u:Value)(s':Shared):Prop :=
 ∃ v H',s'.os=s.os∧AllBare s'.gens∧Un (frs outer) [] H H' s.heap s'.heap∧HOk P w H' s'.heap∧RelV v u∧Q v H'
noncomputable def CR(CX:CXT)(outer:List Env)(P:Program)(w:World)(H:Hp)(s:Shared)(Q:VK)(E:XK)(r:Result)(s':Shared):Prop :=
 match r with
 | .ok (.ret u)=>CE outer P w H s Q u s'
 | .ok _=>False
 | .error e=>CX outer H s E e s'
structure FnOk(P:Program)(w:World)(K:Qa)(mg:Str→Option Value)(base:Heap)(CX:CXT)(k:Nat)(f:Addr)(fd:FuncData)(ps:List Str)(sp:Sp):Prop where
 len:∀ vs H Q E,sp vs H Q E→vs.length=ps.length
 run:∀ (A:Around) (outer:List Env) (s:Shared) (H:Hp) (args:Args) (us:List Value) (vs:List V) (Q:VK) (E:XK),Room k A→Env0 P w K mg base A outer s H→BindsTo s fd args (ps.zip us)→Vals vs us→sp vs H Q E →
  codeAny (model P w) A (.call (.ref f) args) (CR CX outer P w H s Q E) s
theorem FnOk.imp{P:Program}{w:World}{K:Qa}{mg:Str→Option Value}{base:Heap}{CX:CXT}{k:Nat}{f:Addr}{fd:FuncData}{ps:List Str}{sp sp':Sp}(F:FnOk P w K mg base CX k f fd ps sp)
  (h:∀ vs H Q E,sp' vs H Q E→sp vs H Q E):FnOk P w K mg base CX k f fd ps sp' :=
 ⟨fun vs H Q E q=>F.len vs H Q E (h _ _ _ _ q),fun A outer s H args us vs Q E hr he hb hv hs=>F.run A outer s H args us vs Q E hr he hb hv (h _ _ _ _ hs)⟩
theorem Env0.make{P:Program}{w:World}{K:Qa}{mg:Str→Option Value}{base:Heap}{A:Around}{outer:List Env}{s:Shared}{H:Hp}(e:Env0 P w K mg base A outer s H)(C:Addr)(us:List Value)(kw:List (Str×Value)) :
  Env0 P w K mg base (A.under (.builtin "type.__call__" ⟨.ref C::us,kw⟩)) outer s H:=⟨by first | exact e.frames | (simpa [Around.under,Code.envs,Code.isFrame,pushEnvs] using e.frames),e.mod,e.bs,e.bsz,e.funs,e.frf,e.hok,e.bare⟩
section
variable {X:Cx}{pins:List (Addr×Obj)}{σ:St}{H:Hp}{s s':Shared}
theorem Inv.env0(I:Inv X pins σ H s):Env0 X.prog X.w X.K X.mg X.base X.A X.stack s H :=
 ⟨I.ok.frames,I.ok.mod,I.bs,Jc I.ok.bsz I.sz,I.stack,I.stkFree,I.hok,I.bare⟩
theorem Inv.after{Q:VK}{u:Value}(I:Inv X pins σ H s)(h:CE X.stack X.prog X.w H s Q u s'):EP X pins σ Q u s':=by
 obtain ⟨v,H',os,bare,un,hok,r,q⟩:=h
 obtain ⟨hh,g,d,t,os'⟩:=s'
 obtain rfl:os'=s.os:=os
 exact ⟨v,H',I.call (h':=hh) (g':=g) (d':=d) (t':=t) (ch:=[]) un hok bare (fun b z=>absurd z (by simp)),r,q⟩
end

noncomputable def tCall(sp:Sp)(dvs:List V)(E:XK)(t:TA):TE:=fun σ H Q=>t σ H fun vs H1=>sp (vs++dvs) H1 Q E
noncomputable def Binds(K:Qa)(fd:FuncData)(ps:List Str)(ds:List Value):Prop :=
 ∀ (s:Shared) (us:List Value),K.In s.heap→(us++ds).length=ps.length→BindsTo s fd ⟨us,[]⟩ (ps.zip (us++ds))
theorem Binds.all{K:Qa}{fd:FuncData}{ps:List Str}(h:∀ us:List Value,us.length=ps.length→bindArgs fd ⟨us,[]⟩=pure (ps.zip us)):Binds K fd ps []:=fun s us _ hl=>by
 rw [Jg] at hl ⊢
 exact .of_eq (h us hl)
noncomputable def Passes(CX:CXT)(X:Cx)(E:XK):Prop:=∀ (pins:List (Addr×Obj)) (σ:St) (H:Hp) (s:Shared) (e:Value) (s':Shared),Inv X pins σ H s→CX X.stack H s E e s'→X.xe e s'
section
variable {X:Cx}{CX:CXT}{k:Nat}{f C:Addr}{fd:FuncData}{ps:List Str}{sp:Sp}{dvs:List V}{ds:List Value}{E:XK}{x m:Str}{p pos apos:Pos}{e o:Expr}{es:List Expr}{ta:TE}{t:TA}
structure Mk(K:Qa)(C f:Addr):Prop where
 makes:PySem.W.makesIn K C=true
 init:PySem.W.findIn K (.ref C) "__init__"=some (some (.ref f))
 fn:PySem.W.isFn K (.ref f)=true
 kp:PySem.W.keepIn K (.ref C)=true
theorem ZcP{pins:List (Addr×Obj)}{σ:St}{H:Hp}{s:Shared}{Q:VK}{us:List Value}{vs:List V}(M:Mk X.K C f)(F:FnOk X.prog X.w X.K X.mg X.base CX k f fd ps sp)(hr:Room (k + 1) X.A)(hb:Binds X.K fd ps ds)(hd:Vals dvs ds)
  (hx:Passes CX X E) (I:Inv X pins σ H s) (r:Vals vs us)
  (h:∀ x dx,H x=none→H dx=none→dx≠x→sp (.ref x::(vs++dvs)) (upd (upd H dx (.own x)) x (.ins C dx [])) (fun v H2=>v=.non∧Q (.ref x) H2) E) :
  wpAny (model X.prog X.w) X.A (call (.ref C) us) (EP X pins σ Q) X.xe s:=by
 have hq:=h (s.heap.objs.size + 1) s.heap.objs.size (I.hok.fresh (Gy _)) (I.hok.fresh (Qq _)) (Jb (Wk _))
 have I2:=Inv.made (C:=C) I
 have r2:Vals (V.ref (s.heap.objs.size + 1)::(vs++dvs)) (Value.ref (s.heap.objs.size + 1)::(us++ds)):=.cons rfl (r.append hd)
 have hl:(Value.ref (s.heap.objs.size + 1)::us++ds).length=ps.length:=by
  have e:=r2.length
  rw [F.len _ _ _ _ hq] at e
  exact e.symm
 refine wpAny_call (ZcD (f:=f) I.kIn M.makes M.init (beq_iff_eq.mp M.fn) (codeAny_mono (F.run _ X.stack _ _ ⟨Value.ref (s.heap.objs.size + 1)::us,[]⟩ (Value.ref (s.heap.objs.size + 1)::(us++ds)) _ _ E (hr.make C us [])
  (I2.env0.make C us []) (hb _ (Value.ref (s.heap.objs.size + 1)::us) I2.kIn hl) r2 hq) fun r s' hq'=>?_))
 cases r with
 | error e=>exact hx pins σ _ _ e s' I2 hq'
 | ok fl =>
  cases fl with
  | ret u =>
   obtain ⟨v,H',I3,rv,ev,q3⟩:=I2.after hq'
   subst ev
   exact ⟨rv,⟨V.ref (s.heap.objs.size + 1),H',I3,rfl,q3⟩⟩
  | next=>exact False.elim hq'
  | brk=>exact False.elim hq'
  | cont=>exact False.elim hq'
end

section
variable {X:Cx}{CX:CXT}{k:Nat}{f C:Addr}{fd:FuncData}{ps ks:List Str}{sp:Sp}{E:XK}{x m:Str}{p pos apos kpos:Pos}{e o:Expr}{es:List Expr}{kws:List Keyword}{te ta:TE}{t tk:TA}{nm:Option Str}
structure KBinds(K:Qa)(fd:FuncData)(ps ks:List Str)(g:List Value→List Value→List Value)(gV:List V→List V→List V):Prop where
 to:∀ (s:Shared) (us ws:List Value),K.In s.heap→(g us ws).length=ps.length→BindsTo s fd ⟨us,ks.zip ws⟩ (ps.zip (g us ws))
 rel:∀ {vs:List V} {us:List Value} {zs:List V} {ws:List Value},Vals vs us→Vals zs ws→Vals (gV vs zs) (g us ws)
variable {g:List Value→List Value→List Value}{gV:List V→List V→List V}
end

structure FnScope(N P:List Str)(sc:Scope):Prop where
 kind:sc.kind=.function
 co:sc.isCoroutine=false
 gen:sc.isGenerator=false
 nd:N.Nodup
 pre:N.take P.length=P
 par:∀ x∈P,sc.names.lookup x=some .local∨sc.names.lookup x=some .cell
 nofree:∀ y∈sc.names,y.2≠.free
theorem Z8q{kindOf:Str→Option NameKind}{x:Str}:∀ {binds:List (Str×Value)} {m:Str→Option Value},(∀ v,(x,v)∉binds)→bindL kindOf binds m x=m x
 | [],_,_=>rfl
 | (n,v)::r,m,h=>by
  unfold bindL
  rw [Z8q fun w hw=>h w (Qt _ hw)]
  split
  ·have:x≠n:=by rintro rfl;exact h v Qy
   simp [this]
  ·rfl
theorem Z8o{kindOf:Str→Option NameKind}{x:Str}:∀ {binds:List (Str×Value)} {m:Str→Option Value},(∀ v,(x,v)∉binds)→bindC kindOf binds m x=m x
 | [],_,_=>rfl
 | (n,v)::r,m,h=>by
  unfold bindC
  rw [Z8o fun w hw=>h w (Qt _ hw)]
  split
  ·rfl
  ·have:x≠n:=by rintro rfl;exact h v Qy
   simp [this]
theorem Z8p{kindOf:Str→Option NameKind}{x:Str}{v:Value}:∀ {P:List Str} {vs:List Value} {i:Nat} {m:Str→Option Value},P.Nodup→P[i]?=some x→vs[i]?=some v→kindOf x=some .local →
  bindL kindOf (P.zip vs) m x=some v
 | [],_,_,_,_,h,_,_=>by simp at h
 | _::_,[],_,_,_,_,h,_=>by simp at h
 | p::P,w::vs,0,m,nd,h1,h2,hk=>by
  simp at h1 h2;subst h1;subst h2
  show bindL kindOf ((p,w)::P.zip vs) m p=_
  unfold bindL
  rw [Z8q fun v hv=>(Jr.mp nd).1 (List.of_mem_zip hv).1,if_pos hk]
  simp
 | p::P,w::vs,i + 1,m,nd,h1,h2,hk=>by
  show bindL kindOf ((p,w)::P.zip vs) m x=_
  unfold bindL
  exact Z8p (i:=i) (Jr.mp nd).2 (by simpa using h1) (by simpa using h2) hk
theorem Z8n{kindOf:Str→Option NameKind}{x:Str}{v:Value}:∀ {P:List Str} {vs:List Value} {i:Nat} {m:Str→Option Value},P.Nodup→P[i]?=some x→vs[i]?=some v→kindOf x≠some .local →
  bindC kindOf (P.zip vs) m x=some v
 | [],_,_,_,_,h,_,_=>by simp at h
 | _::_,[],_,_,_,_,h,_=>by simp at h
 | p::P,w::vs,0,m,nd,h1,h2,hk=>by
  simp at h1 h2;subst h1;subst h2
  show bindC kindOf ((p,w)::P.zip vs) m p=_
  unfold bindC
  rw [Z8o fun v hv=>(Jr.mp nd).1 (List.of_mem_zip hv).1,if_neg hk]
  simp
 | p::P,w::vs,i + 1,m,nd,h1,h2,hk=>by
  show bindC kindOf ((p,w)::P.zip vs) m x=_
  unfold bindC
  exact Z8n (i:=i) (Jr.mp nd).2 (by simpa using h1) (by simpa using h2) hk
noncomputable def start(N:List Str)(vs:List V):St:=vs.map some++List.replicate (N.length - vs.length) none
noncomputable def ZL(CX:CXT)(P:Program)(w:World)(K:Qa)(mg:Str→Option Value)(base:Heap)(N:List Str)(qual:Str)(scope:Scope)(f:Addr)(cd:Value)(A:Around)(outer:List Env)(s:Shared)(H:Hp)(E:XK):Cx where
 prog:=P
 w:=w
 K:=K
 mg:=mg
 base:=base
 A:=A.deeper (envOfC qual scope s.heap.objs.size f cd)
 N:=N
 s₀:=s
 H₀:=H
 env:=envOfC qual scope s.heap.objs.size f cd
 outer:=outer
 stack:=envOfC qual scope s.heap.objs.size f cd::outer
 ex:=[]
 calm:=true
 fn:=fun _=>true
 pn:=[]
 xe:=fun e s'=>wpAny (model P w) (A.deeper (envOfC qual scope s.heap.objs.size f cd)) (leaving (envOfC qual scope s.heap.objs.size f cd) e) (fun _ s''=>CX outer H s E e s'') (fun e' s''=>CX outer H s E e' s'') s'
theorem Z96{sc:Scope}{n:Nat}{x:Str}(h:sc.names.lookup x=some .cell):∃ c,(cellsFrom n sc.names []).lookup x=some c:=by
 have q:=PySem.W.cellsFrom_some sc.names n [] (.inl h)
 exact Option.isSome_iff_exists.mp q
theorem Zbe{CX:CXT}{P:Program}{w:World}{K:Qa}{mg:Str→Option Value}{base:Heap}{N ps:List Str}{qual:Str}{scope:Scope}{f:Addr}{cd:Value}{A:Around}{outer:List Env}{s s1:Shared}{H:Hp}{E:XK}{us:List Value}{vs:List V}
  (S:FnScope N ps scope) (hd:A.handled=none) (e0:Env0 P w K mg base A outer s H) (hl:vs.length=ps.length) (r:Vals vs us)
  (x:InCallC s s.heap.objs.size (bindL (envOfC qual scope s.heap.objs.size f cd).kindOf (ps.zip us) fun _=>none) (cellsFrom (s.heap.objs.size + 1) scope.names []) (bindC (envOfC qual scope s.heap.objs.size f cd).kindOf (ps.zip us) fun _=>none) s1) :
  Inv (ZL CX P w K mg base N qual scope f cd A outer s H E) [] (start N vs) H s1:=by
 have hpl:ps.length≤N.length:=by have:=congrArg List.length S.pre;rw [Wg] at this;omega
 obtain ⟨h1,tk,rfl,hk⟩:=x.done
 have noA:∀ b:Addr,b∉(ZL CX P w K mg base N qual scope f cd A outer s H E).ex:=fun b z=>absurd (show b∈([]:List Addr) from z) (by simp)
 refine ⟨⟨e0.mod,S.kind,rfl,rfl,Qq _,fun y z c h1 h2=>?_,fun y hy=>?_,fun y c _ h=>?_,fun _=>hd,Around.frames_deeper e0.frames,.inr ⟨rfl,rfl⟩,fun b z=>absurd z (noA b),e0.bs,e0.bsz,fun b _ _=>noA b,fun b z=>absurd z (noA b),e0.funs,e0.frf⟩,
  rfl,e0.bare,Un.kept hk,⟨_,x.toInCall.ns,fun i y v h1 h2 h3=>?_⟩,fun y c h=>⟨_,x.cell y c h⟩,e0.hok.fresh (Qq _),fun y c h=>?_,fun p hp=>absurd (show p∈([]:List (Addr×Obj)) from hp) (by simp),e0.hok.kept hk,?_⟩
 ·exact name_of_addr x.apart (PySem.mem_of_lookup h1) (PySem.mem_of_lookup h2)
 ·have hy:scope.names.lookup y=some .cell∨scope.names.lookup y=some .free:=hy
  rcases hy with hy | hy
  ·exact Z96 hy
  ·exact absurd rfl (S.nofree _ (PySem.mem_of_lookup hy))
 ·exact Nu (x.above y c (PySem.mem_of_lookup h))
 ·have hi:i < vs.length:=by
   unfold start at h2
   by_cases hi:i < vs.length
   ·exact hi
   ·rw [Qu (by simpa using hi)] at h2
    rw [Ng] at h2
    split at h2 <;> cases h2
  have ha:vs[i]?=some v:=by
   unfold start at h2
   rw [Qk (by simpa using hi),Qc] at h2
   cases e:vs[i]? with
   | none=>rw [e] at h2;cases h2
   | some a=>rw [e] at h2;cases h2;rfl
  obtain ⟨u,hu,rv⟩:=r.get ha
  have hp:ps[i]?=some y:=by
   rw [← S.pre,List.getElem?_take_of_lt (by omega)];exact h1
  have ndP:ps.Nodup:=by rw [← S.pre];exact S.nd.sublist (Qae _ _)
  refine ⟨u,rv,?_⟩
  rcases S.par y (Qg hp) with k | k
  ·exact .inl ⟨k,Z8p ndP hp hu k⟩
  ·obtain ⟨c,e⟩:=Z96 (n:=s.heap.objs.size + 1) k
   refine .inr ⟨.inl k,c,e,?_⟩
   have q:=x.cell y c e
   rw [Z8n ndP hp hu (by show scope.names.lookup y≠_;rw [k];decide)] at q
   exact q
 ·exact e0.hok.fresh (Nu (x.above y c (PySem.mem_of_lookup h)))
 ·unfold start
  show _=N.length
  rw [Jh,Qo,Wd]
  omega
theorem fn_of{CX:CXT}{P:Program}{w:World}{K:Qa}{mg:Str→Option Value}{base:Heap}{k:Nat}{f:Addr}{name qual:Str}{params:Arguments}{body:List Stmt}{scope:Scope}{dV kV doc pm cdv ct oc:Value}{an od:Option Addr}
  {osl:Array (Option Value)} {N ps:List Str} {sp:Sp} (lk:K.lookup f=some ⟨oc,od,.func (PySem.W.fnOf name qual params body scope dV kV doc pm an cdv ct),osl⟩) (hcd:PySem.W.codeIn K cdv qual=true) (S:FnScope N ps scope)
  (len:∀ vs H Q E,sp vs H Q E→vs.length=ps.length)
  (hbody:∀ (A:Around) (outer:List Env) (s:Shared) (H:Hp) (vs:List V) (Q:VK) (E:XK),Room k (A.deeper (envOfC qual scope s.heap.objs.size f cdv))→sp vs H Q E →
   ∃ t,PSs (ZL CX P w K mg base N qual scope f cdv A outer s H E) body t∧t { nx:=fun _ H'=>Q .non H',rt:=Q } (start N vs) H) :
  FnOk P w K mg base CX (k + 1) f (PySem.W.fnOf name qual params body scope dV kV doc pm an cdv ct) ps sp:=by
 refine ⟨len,fun A outer s H args us vs Q E hr e0 hb r hsp=>?_⟩
 have hl:=len _ _ _ _ hsp
 have KX:K.In s.heap:=e0.mod.kin.keeps fun b o e=>(e0.bs b o e).1
 have lim:s.heap.NoLimit:=e0.mod.nolimit.keeps fun b o e=>(e0.bs b o e).1
 have hkind:∀ y∈ps.zip us,scope.names.lookup y.1=some .local∨(scope.names.lookup y.1=some .cell∧((cellsFrom (s.heap.objs.size + 1) scope.names []).lookup y.1).isSome=true):=fun ⟨n,v⟩ hy=>by
  rcases S.par n (List.of_mem_zip hy).1 with q | q
  ·exact .inl q
  ·exact .inr ⟨q,PySem.W.cellsFrom_some _ _ _ (.inl q)⟩
 refine codeAny_call_function hr.depth (KX _ _ lk) rfl S.co S.gen rfl (PySem.W.codeRec_of KX hcd) (hb _ _ _ _ ?_)
 refine wpAny_newFunctionEnv_cells S.kind hkind fun env he s1 x=>?_
 subst he
 refine ⟨lim.keeps x.toInCall.keep,codeAny_func ?_⟩
 obtain ⟨t,ht,hq⟩:=hbody A outer s H vs Q E (hr.deeper _) hsp
 have I:Inv (ZL CX P w K mg base N qual scope f cdv A outer s H E) [] (start N vs) H s1:=Zbe S hr.hd e0 hl r x
 refine wpAny_mono (ht [] s1 (start N vs) H _ I hq) (fun fl s' hs=>?_) fun e s' hs=>hs
 have fin:∀ {σ':St} {H':Hp} {v:V} {u:Value},Inv (ZL CX P w K mg base N qual scope f cdv A outer s H E) [] σ' H' s'→RelV v u→Q v H'→CE outer P w H s Q u s' :=
  fun {σ' H' v u} J rv q=>⟨v,H',J.os,J.bare,J.base,J.hok,rv,q⟩
 cases fl with
 | ret u =>
  obtain ⟨v,σ',H',J,rv,q⟩:=hs
  exact fin J rv q
 | next =>
  obtain ⟨σ',H',J,q⟩:=hs
  exact fin (v:=V.non) (u:=Value.none) J rfl q
 | brk =>
  obtain ⟨_,_,_,q⟩:=hs
  exact False.elim q
 | cont =>
  obtain ⟨_,_,_,q⟩:=hs
  exact False.elim q
end L2
namespace L2
open PySem PySem.Spec PyProof.Rows
section
variable {X:Cx}{x:Str}{p pos:Pos}{e:Expr}{es:List Expr}{t:TA}{id T:String}{r:List V→Hp→VK→Prop}
noncomputable def tCB(r:List V→Hp→VK→Prop)(t:TA):TE:=fun σ H Q=>t σ H fun vs H1=>r vs H1 Q
theorem Z0h(hc:Z0o X (.builtin id) r)(hg:Gl X x)(hm:X.mg x=none)(hv:bootBuiltins x=some (.builtin id))(ha:PA X (e::es) t)(hn:x ≠ "__name__":=by decide)(hdb:(x == ("__debug__":Str))=false:=by decide)
  (he:starEach (e::es) X.env=(false,eval e X.env)::starEach es X.env:=by rfl) (hpl:(backTo pos (starEach es X.env)).any (·.1)=false:=by rfl):PE X (.Call (.Name x p) (e::es) [] pos) (tCB r t):=by
 intro pins s σ H Q I h
 refine wpAny_Call_Name_kw (Z5y I hg hm hv ?_ hn hdb)
 exact PyProof.Rows.callWith_builtin1 (thn (ha pos pins s σ H _ I h) fun us s1 ⟨vs,H1,I1,r1,q1⟩=>hc pins s1 σ H1 vs us Q I1 r1 q1) he hpl
theorem Zbz(hc:Z0o X (.type T) r)(hg:Gl X x)(hm:X.mg x=none)(hv:bootBuiltins x=some (.type T))(ha:PA X (e::es) t)(hn:x ≠ "__name__":=by decide)(hdb:(x == ("__debug__":Str))=false:=by decide)
  (he:starEach (e::es) X.env=(false,eval e X.env)::starEach es X.env:=by rfl) (hpl:(backTo pos (starEach es X.env)).any (·.1)=false:=by rfl):PE X (.Call (.Name x p) (e::es) [] pos) (tCB r t):=by
 intro pins s σ H Q I h
 refine wpAny_Call_Name_kw (Z5y I hg hm hv ?_ hn hdb)
 exact PyProof.Rows.callWith_type1 (thn (ha pos pins s σ H _ I h) fun us s1 ⟨vs,H1,I1,r1,q1⟩=>hc pins s1 σ H1 vs us Q I1 r1 q1) he hpl
end
end L2
namespace HT
open PySem PyProof.Rows
section
open PySem.SeqAt
open PySem.AutoSeq1 (wpAny_loadPart')
open PySem.MeetsSeq PySem.MeetsSeq2 PySem.MeetsSeq3
end
section
variable {prog:Program}{w:World}{A:Around}{E:Value→Shared→Prop}{s:Shared}
theorem ZfY{t b:Addr}{vs ws:List Value}{Q:Value→Shared→Prop}(ht:IsTup s.heap t vs.toArray)(hb:IsTup s.heap b ws.toArray)(hv:vs≠[])
  (h1:ws=[]→Q (.ref t) s) (h2:ws≠[]→Q (.ref s.heap.objs.size) { s with heap:=s.heap.push { cls:=.type "tuple",data:=.seq (vs++ws).toArray } })
  (hsz:vs.length + ws.length≤sizeLine):wpAny (model prog w) A (binaryOp .Add (.ref t) (.ref b)) Q E s:=by
 obtain ⟨⟨cls,dd,data,sl⟩,ho,hc,n,hd⟩:=id ht
 obtain ⟨⟨cls2,dd2,data2,sl2⟩,ho2,hc2,n2,hd2⟩:=id hb
 simp only at hc hd hc2 hd2
 subst hc hd hc2 hd2
 have e:vs.toArray++ws.toArray=(vs++ws).toArray:=by simp
 by_cases hw:ws=[]
 ·exact concat_meets ⟨_,ho,rfl⟩ ⟨_,ho2,rfl⟩ noFill_tuple_add seq_tuple_add PySem.F.slot_tuple_add PySem.F.entry_tuple_add (PySem.F.args_tuple_add_2 _ _)
   (tuple_addW1 t b vs.toArray ws.toArray n n2 dd dd2 sl sl2 (by simpa using hv) (by simp [hw])) ⟨ho,ho2,h1 hw⟩
 ·refine concat_meets ⟨_,ho,rfl⟩ ⟨_,ho2,rfl⟩ noFill_tuple_add seq_tuple_add PySem.F.slot_tuple_add PySem.F.entry_tuple_add (PySem.F.args_tuple_add_2 _ _)
   (tuple_addW2 t b vs.toArray ws.toArray n n2 dd dd2 sl sl2 (by simpa using hv) (by simpa using hw) (by rw [Qz,Qz];exact hsz)) ⟨ho,ho2,?_⟩
  rw [e]
  exact h2 hw

noncomputable def sIx(n d:Nat):Option Int→Nat
 | none=>d
 | some v=>if v < 0 then (v + (n:Int)).toNat else min v.toNat n
theorem Zfy(n d:Nat)(hd:d≤n)(o:Option Int):sIx n d o≤n:=by
 cases o with
 | none=>exact hd
 | some v =>
  show (if v < 0 then (v + (n:Int)).toNat else min v.toNat n)≤n
  by_cases hv:v < 0
  ·rw [if_pos hv];omega
  ·rw [if_neg hv];exact Nat.min_le_right _ _
theorem Za1(v:Int)(n d:Nat):(if v < 0 then max (v + (n:Int)) 0 else min v (n:Int))=((sIx n d (some v):Nat):Int):=by
 show (if v < 0 then max (v + (n:Int)) 0 else min v (n:Int))=(((if v < 0 then (v + (n:Int)).toNat else min v.toNat n):Nat):Int)
 by_cases hv:v < 0
 ·simp only [if_pos hv];omega
 ·simp only [if_neg hv];omega
theorem ZaD(lo hi:Option Int)(n:Nat):Builtin.Slice.sliceAdjust lo hi 1 (n:Int)=(((sIx n 0 lo:Nat):Int),((sIx n n hi:Nat):Int)):=by
 have h1:¬ ((1:Int) < 0):=by omega
 unfold Builtin.Slice.sliceAdjust
 simp only [h1,if_false]
 refine Prod.ext ?_ ?_
 ·cases lo with
  | none=>rfl
  | some v=>exact Za1 v n 0
 ·cases hi with
  | none=>rfl
  | some v=>exact Za1 v n n
theorem ZaO(i j:Nat):Builtin.Slice.slicePlaces (i:Int) (j:Int) 1=j - i:=by
 unfold Builtin.Slice.slicePlaces
 have h1:(1:Int) > 0:=by omega
 simp only [h1,if_true,Int.ediv_one]
 split <;> omega
theorem Z7E{v:Value}{o:Option Int}{Q:Option Int→Shared→Prop}(p:IsPart v o)(h:Q o s):wpAny (model prog w) A (Builtin.Slice.slicePartIndex v) Q E s:=by
 cases p with
 | none=>exact slicePart_none h
 | int i t=>exact slicePart_int h
theorem Z6P{sl:Addr}{vl vu:Value}{lo hi:Option Int}{n:Nat}{Q:Int×Int×Nat→Shared→Prop}(hs:s.heap.IsSliceOf sl vl vu .none)(pl:IsPart vl lo)(pu:IsPart vu hi)
  (h:Q (((sIx n 0 lo:Nat):Int),1,sIx n n hi - sIx n 0 lo) s):wpAny (model prog w) A (Builtin.Slice.sliceApplied (.ref sl) (pure (n:Int))) Q E s:=by
 obtain ⟨os,hos,hcs,hds⟩:=id hs
 unfold Builtin.Slice.sliceApplied Builtin.Slice.sliceFields
 refine wpAny_bind (wpAny_bind (wpAny_field hos hds (x:=vl) rfl (wpAny_bind (wpAny_field hos hds (x:=vu) rfl (wpAny_bind (wpAny_field hos hds (x:=.none) rfl (wpAny_pure ?_)))))))
 refine wpAny_bind (slicePart_none ?_)
 show wpAny _ _ (if ((1:Int) == 0)=true then _ else _) _ _ s
 rw [if_neg (by decide)]
 refine wpAny_bind (Z7E pl (wpAny_bind (Z7E pu (wpAny_bind (wpAny_pure ?_)))))
 show wpAny _ _ (match Builtin.Slice.sliceAdjust lo hi 1 (n:Int) with | (lo,hi)=>pure (lo,(1:Int),Builtin.Slice.slicePlaces lo hi 1)) _ _ s
 rw [ZaD lo hi n]
 show wpAny _ _ (pure (((sIx n 0 lo:Nat):Int),(1:Int),Builtin.Slice.slicePlaces ((sIx n 0 lo:Nat):Int) ((sIx n n hi:Nat):Int) 1)) _ _ s
 rw [ZaO]
 exact wpAny_pure h
theorem ZcK(xs:Array Value)(i k:Nat):((List.range k).filterMap fun (m:Nat)=>xs[((i:Int) + (m:Int) * 1).toNat]?).toArray=((xs.toList.drop i).take k).toArray:=by
 have e:(fun (m:Nat)=>xs[((i:Int) + (m:Int) * 1).toNat]?)=fun m=>xs[i + m]?:=by
  funext m
  have:((i:Int) + (m:Int) * 1).toNat=i + m:=by omega
  rw [this]
 rw [e]
 have:=pick_run xs i k
 rw [List.filterMap_map] at this
 have e2:((fun x=>xs[x]?) ∘ fun x=>i + x)=fun m=>xs[i + m]?:=rfl
 rw [e2] at this
 rw [this]
theorem Z69{t sl:Addr}{items:Array Value}{vl vu:Value}{lo hi:Option Int}{Q:Value→Shared→Prop}(ht:IsTup s.heap t items)(hs:s.heap.IsSliceOf sl vl vu .none)(pl:IsPart vl lo)(pu:IsPart vu hi)
  (hw:¬ (sIx items.size 0 lo=0∧sIx items.size items.size hi=items.size))
  (h:Q (.ref s.heap.objs.size) { s with heap:=s.heap.push { cls:=.type "tuple",data:=.seq ((items.toList.drop (sIx items.size 0 lo)).take (sIx items.size items.size hi - sIx items.size 0 lo)).toArray } })
  (hsz:items.size≤sizeLine):wpAny (model prog w) A (getItem (.ref t) (.ref sl)) Q E s:=by
 have htake:sizeOk (.seq ((items.toList.drop (sIx items.size 0 lo)).take (sIx items.size items.size hi - sIx items.size 0 lo)).toArray):=by
  show ((items.toList.drop (sIx items.size 0 lo)).take (sIx items.size items.size hi - sIx items.size 0 lo)).toArray.size≤sizeLine
  rw [Qz,Wg,List.length_drop,Array.length_toList]
  omega
 have hj:sIx items.size items.size hi≤items.size:=Zfy _ _ (Qq _) hi
 obtain ⟨os,hos,hcs,hds⟩:=id hs
 have hTs:s.TypeIs (.ref sl) "slice":=⟨os,hos,hcs⟩
 unfold getItem
 try with_reducible refine wpAny_holding ?_
 first | refine wpAny_bind (wpAny_pure ?_) | skip
 refine wpAny_bind (wpAny_sequenceKey ht.typeIs (by decide) ?_)
 refine wpAny_bind (wpAny_callSpecial?_slot (name:=Str.ofString "__getitem__") ht.typeIs PyProof.Rows.slot_tuple_getitem
  (wpAny_call_entry PyProof.Rows.slot_tuple_getitem ht.typeIs entry_tuple_getitem ?_ (args_tuple_getitem _ _)))
 show wpAny _ _ (Builtin.Tuple.tupleItemsOf (.ref t) >>= _) _ _ s
 refine wpAny_bind (tupleItemsOf_ ht ?_)
 refine wpAny_bind (wpAny_typeOf hTs ?_)
 rw [if_pos (by decide)]
 refine wpAny_bind (Z6P hs pl pu ?_)
 have hno:¬ ((((sIx items.size 0 lo:Nat):Int) == 0 && (1:Int) == 1 && (sIx items.size items.size hi - sIx items.size 0 lo) == items.size)=true):=by
  intro q
  rw [Qw,Qw] at q
  have q1:((sIx items.size 0 lo:Nat):Int)=0:=eq_of_beq q.1.1
  have q2:sIx items.size items.size hi - sIx items.size 0 lo=items.size:=eq_of_beq q.2
  exact hw ⟨by omega,by omega⟩
 show wpAny _ _ (if (((sIx items.size 0 lo:Nat):Int) == 0 && (1:Int) == 1 && (sIx items.size items.size hi - sIx items.size 0 lo) == items.size)=true then _ else _) _ _ s
 rw [if_neg hno,ZcK]
 first
  | exact wpAny_bind (m:=Builtin.Tuple.tupleExact _) (wpAny_newObj_type (wpAny_pure ⟨_,rfl,wpAny_pure h⟩) htake)
  | exact wpAny_bind (m:=Builtin.Tuple.tupleExact _) (wpAny_newObj_type (wpAny_bind (wpAny_pure (wpAny_pure ⟨_,rfl,wpAny_pure h⟩))) htake)
  | exact wpAny_bind (wpAny_bind (m:=Builtin.Tuple.tupleExact _) (wpAny_newObj_type (wpAny_pure (wpAny_pure ⟨_,rfl,wpAny_pure h⟩)) htake))
  | exact wpAny_bind (wpAny_bind (m:=Builtin.Tuple.tupleExact _) (wpAny_newObj_type (wpAny_pure ⟨_,rfl,wpAny_pure h⟩) htake))
end
end HT
namespace L2
open PySem PySem.Spec PyProof.Rows

noncomputable abbrev TO:=St→Hp→(Option Int→Hp→Prop)→Prop
noncomputable def PO(X:Cx)(e:Option Expr)(t:TO):Prop :=
 ∀ (pins:List (Addr×Obj)) (s:Shared) (σ:St) (H:Hp) (Q:Option Int→Hp→Prop),Inv X pins σ H s→t σ H Q →
  wpAny (model X.prog X.w) X.A (evalPart e X.env) (fun u s'=>∃ o H',Inv X pins σ H' s'∧IsPart u o∧Q o H') X.xe s
noncomputable def tNoPart:TO:=fun _ H Q=>Q none H
noncomputable def tPart(t:TE):TO:=fun σ H Q=>t σ H fun x H1=>∃ i,x=.int i∧Q (some i) H1
section
variable {X:Cx}{e:Expr}{te:TE}{lo hi:Option Expr}{tl th:TO}{pos p2:Pos}
theorem Z65:PO X none tNoPart:=by
 intro pins s σ H Q I h
 rw [evalPart_none]
 exact wpAny_pure ⟨none,H,I,.none,h⟩
theorem Z66(h:PE X e te):PO X (some e) (tPart te):=by
 intro pins s σ H Q I hw
 rw [evalPart_some]
 refine thn (h pins s σ H _ I hw) fun u s1 ⟨x,H1,I1,r1,q1⟩=>?_
 obtain ⟨i,rfl,q⟩:=q1
 obtain ⟨t,rfl⟩:=r1
 exact ⟨some i,H1,I1,.int i t,q⟩
noncomputable def SlR(X:Cx)(r:V→Option Int→Option Int→Hp→VK→Prop):Prop :=
 ∀ (pins:List (Addr×Obj)) (s:Shared) (σ:St) (H:Hp) (x:V) (v vl vu:Value) (lo hi:Option Int) (sl:Addr) (Q:VK),Inv X pins σ H s→RelV x v→s.heap.IsSliceOf sl vl vu .none→IsPart vl lo→IsPart vu hi→r x lo hi H Q →
  ∃ T id,typeLookup (.type T) "__getitem__"=pure (some (.builtin id))∧s.TypeIs v T∧wpAny (model X.prog X.w) X.A (getItem v (.ref sl)) (EP X pins σ Q) X.xe s
noncomputable def tSl(r:V→Option Int→Option Int→Hp→VK→Prop)(te:TE)(tl th:TO):TE:=fun σ H Q=>te σ H fun x H1=>tl σ H1 fun l H2=>th σ H2 fun u H3=>r x l u H3 Q
theorem Z4Z{r:V→Option Int→Option Int→Hp→VK→Prop}(hr:SlR X r)(he:PE X e te)(hl:PO X lo tl)(hu:PO X hi th):PE X (.Subscript e (.Slice lo hi none p2) pos) (tSl r te tl th):=by
 intro pins s σ H Q I h
 refine Subscript_ (thn (he pins s σ H _ I h) fun v s1 ⟨x,H1,I1,r1,q1⟩=>?_)
 refine wpAny_Slice (thn (hl pins s1 σ H1 _ I1 q1) fun vl s2 ⟨l,H2,I2,pl,q2⟩=>thn (hu pins s2 σ H2 _ I2 q2) fun vu s3 ⟨u,H3,I3,pu,q3⟩=>?_)
 rw [evalPart_none]
 refine wpAny_pure ?_
 have I4:Inv X pins σ H3 { s3 with heap:=s3.heap.push { cls:=.type "slice",data:=.fields #[vl,vu,.none] } }:=I3.kept (t':=s3.toks) fun b ob q=>Heap.get?_push_of_some _ q
 obtain ⟨T,id,hT,ht,hg⟩:=hr pins { s3 with heap:=s3.heap.push { cls:=.type "slice",data:=.fields #[vl,vu,.none] } } σ H3 x v vl vu l u s3.heap.objs.size Q I4 r1 (Heap.IsSliceOf.new ..) pl pu q3
 show wpAny (model X.prog X.w) X.A (subscriptTail e (.Slice lo hi none p2) v (.ref s3.heap.objs.size)) (EP X pins σ Q) X.xe { s3 with heap:=s3.heap.push { cls:=.type "slice",data:=.fields #[vl,vu,.none] } }
 exact tail_any (ops:=[.ref s3.heap.objs.size,v]) ht hT hg (by with_unfolding_all rfl)
noncomputable def cutV(xs:List V)(lo hi:Option Int):List V:=(xs.drop (HT.sIx xs.length 0 lo)).take (HT.sIx xs.length xs.length hi - HT.sIx xs.length 0 lo)
theorem Z6l(xs:List V)(lo hi:Option Int):(cutV xs lo hi).length≤xs.length:=by
 unfold cutV
 rw [Wg,List.length_drop]
 omega
noncomputable def rSlT(K:Qa):V→Option Int→Option Int→Hp→VK→Prop:=fun x lo hi H Q=>∃ a xs,x=.ref a∧SqT K H a xs ∧
 ¬ (HT.sIx xs.length 0 lo=0∧HT.sIx xs.length xs.length hi=xs.length)∧∀ p,H p=none→Q (.ref p) (upd H p (.tup (cutV xs lo hi)))
theorem ZfA:SlR X (rSlT X.K):=by
 intro pins s σ H x v vl vu lo hi sl Q I rx hs pl pu h
 obtain ⟨a,xs,rfl,hx,hw,q⟩:=h
 cases rx
 obtain ⟨its,r,ht,hz⟩:=I.tuple hx
 have hlen:its.toArray.size=xs.length:=by rw [Qz];exact r.length.symm
 refine ⟨"tuple",_,PyProof.Rows.slot_tuple_getitem.lookup,ht.typeIs,?_⟩
 refine HT.Z69 ht hs pl pu (by rw [hlen];exact hw) ?_ (by rw [hlen];exact hz)
 rw [hlen]
 refine ⟨.ref s.heap.objs.size,_,I.laid (t':=s.toks) (o:=.tup (cutV xs lo hi)) (fun b ob q=>Heap.get?_push_of_some _ q) (Qq _) ?_,rfl,q _ (I.hok.fresh (Qq _))⟩
 exact ⟨Jc (Z6l xs lo hi) hz,_,(r.drop (HT.sIx xs.length 0 lo)).take (HT.sIx xs.length xs.length hi - HT.sIx xs.length 0 lo),IsTup.new _ _⟩

end
end L2
namespace L2
open PySem PySem.Spec PyProof.Rows

noncomputable def ixN(n:Nat)(i:Int):Option Nat:=if 0≤i then (if i < n then some i.toNat else none) else if -(n:Int)≤i then some (i + n).toNat else none
noncomputable def atI{α:Type}(xs:List α)(i:Int):Option α:=(ixN xs.length i).bind fun j=>xs[j]?
theorem Zds{n:Nat}{i:Int}{j:Nat}(h:ixN n i=some j):seqIndex? i n=some j∧j < n∧-(n:Int)≤i∧i < n:=by
 unfold ixN at h
 by_cases h0:0≤i
 ·rw [if_pos h0] at h
  by_cases h1:i < n
  ·rw [if_pos h1] at h
   have e:i.toNat=j:=Option.some.inj h
   exact ⟨by rw [seqIndex_of h0 h1,e],by omega,by omega,h1⟩
  ·rw [if_neg h1] at h;cases h
 ·rw [if_neg h0] at h
  by_cases h1:-(n:Int)≤i
  ·rw [if_pos h1] at h
   have e:(i + n).toNat=j:=Option.some.inj h
   exact ⟨by rw [seqIndex_neg (by omega) h1,e],by omega,h1,by omega⟩
  ·rw [if_neg h1] at h;cases h
theorem Z7I{α:Type}{xs:List α}{i:Int}{v:α}(h:atI xs i=some v):∃ j,seqIndex? i xs.length=some j∧xs[j]?=some v∧j < xs.length∧-(xs.length:Int)≤i∧i < xs.length:=by
 unfold atI at h
 cases e:ixN xs.length i with
 | none=>rw [e] at h;cases h
 | some j =>
  rw [e] at h
  obtain ⟨h1,h2,h3,h4⟩:=Zds e
  exact ⟨j,h1,h,h2,h3,h4⟩
theorem Z9Z{α:Type}{xs:List α}{j:Nat}{v:α}(h:xs[j]?=some v):atI xs (j:Int)=some v:=by
 have hj:j < xs.length:=(Qe.mp h).1
 have e:ixN xs.length (j:Int)=some j:=by
  unfold ixN
  rw [if_pos (by omega),if_pos (by omega)];simp
 unfold atI;rw [e];exact h

noncomputable def PlainIx(b:Expr):Prop:=∀ o i,subscripted b false o i=operate [o,i] (getItem o i)
noncomputable def IxR(X:Cx)(r:R2):Prop :=
 ∀ (value slice:Expr) (pins:List (Addr×Obj)) (s:Shared) (σ:St) (H:Hp) (x y:V) (v u:Value) (Q:VK),Inv X pins σ H s→RelV x v→RelV y u→r x y H Q →
  subscripted slice false v u=operate [v,u] (getItem v u)→wpAny (model X.prog X.w) X.A (subscriptTail value slice v u) (EP X pins σ Q) X.xe s
noncomputable def MtR(X:Cx)(id:String)(r:V→List V→Hp→VK→Prop):Prop :=
 ∀ (pins:List (Addr×Obj)) (s:Shared) (σ:St) (H:Hp) (x:V) (xs:List V) (v:Value) (us:List Value) (Q:VK),Inv X pins σ H s→RelV x v→Vals xs us→r x xs H Q →
  wpAny (model X.prog X.w) X.A (call (.builtin id) (v::us)) (EP X pins σ Q) X.xe s
section
variable {X:Cx}{a b:Expr}{ta tb:TE}{pos:Pos}
theorem IxR.or{r r':R2}(h:IxR X r)(h':IxR X r'):IxR X (fun x y H Q=>r x y H Q∨r' x y H Q):=by
 intro value slice pins s σ H x y v u Q I rx ry q hs
 rcases q with q | q
 ·exact h value slice pins s σ H x y v u Q I rx ry q hs
 ·exact h' value slice pins s σ H x y v u Q I rx ry q hs
theorem pe_ix{r:R2}(hr:IxR X r)(ha:PE X a ta)(hb:PE X b tb)(hs:PlainIx b):PE X (.Subscript a b pos) (tOp r ta tb):=by
 intro pins s σ H Q I h
 exact Subscript_ (binT ha hb I h fun v u s2 x y H2 I2 rx ry q=>hr a b pins s2 σ H2 x y v u Q I2 rx ry q (hs _ _))
noncomputable def rIxL(K:Qa):R2:=fun x y H Q=>∃ p xs i v,x=.ref p∧y=.int i∧SqL K H p xs∧atI xs i=some v∧Q v H
noncomputable def rIxT(K:Qa):R2:=fun x y H Q=>∃ p xs i v,x=.ref p∧y=.int i∧SqT K H p xs∧atI xs i=some v∧Q v H
noncomputable def rIxS:R2:=fun x y H Q=>∃ z i c,x=.str z∧y=.int i∧z.length≤sizeLine∧atI z.cps.toList i=some c∧Q (.str ⟨#[c]⟩) H
theorem Zdt:IxR X (rIxL X.K):=by
 intro value slice pins s σ H x y v u Q I rx ry h hs
 obtain ⟨p,xs,i,z,rfl,rfl,hq,he,q⟩:=h
 cases rx
 obtain ⟨t,rfl⟩:=ry
 obtain ⟨its,r,pl,hz⟩:=I.list hq
 obtain ⟨j,h1,h2,h3,h4,h5⟩:=Z7I he
 obtain ⟨w,ew,rw'⟩:=r.get h2
 have hl:=r.length
 have hn:=line63
 have fin:EP X pins σ Q w s:=⟨z,H,I,rw',q⟩
 by_cases h0:0≤i
 ·have hj:i.toNat=j:=by
   rw [seqIndex_of h0 h5] at h1
   exact Option.some.inj h1
  exact item_listR pl.isList h0 (by omega) (by rw [hj];simpa using ew) fin hs
 ·have hj:(i + (its.toArray.size:Int)).toNat=j:=by
   rw [seqIndex_neg (by omega) h4] at h1
   rw [Qz,← hl]
   exact Option.some.inj h1
  exact subscriptTail_builtinR (x:=w) pl.isList.typeIs slot_list_getitem.lookup
   (wpAny_getItem_list_neg (Q:=fun r s'=>r=w∧EP X pins σ Q r s') pl.isList (by omega) (by rw [Qz] <;> omega) (by omega) (by rw [hj];simpa using ew) ⟨rfl,fin⟩) hs
theorem ZeM:IxR X (rIxT X.K):=by
 intro value slice pins s σ H x y v u Q I rx ry h hs
 obtain ⟨p,xs,i,z,rfl,rfl,hq,he,q⟩:=h
 cases rx
 obtain ⟨t,rfl⟩:=ry
 obtain ⟨its,r,pl,hz⟩:=I.tuple hq
 obtain ⟨j,h1,h2,h3,h4,h5⟩:=Z7I he
 obtain ⟨w,ew,rw'⟩:=r.get h2
 have hl:=r.length
 have hn:=line63
 have fin:EP X pins σ Q w s:=⟨z,H,I,rw',q⟩
 exact subscriptTail_builtinR (x:=w) pl.typeIs slot_tuple_getitem.lookup
  (getItem_tuple (j:=j) (Q:=fun r s'=>r=w∧EP X pins σ Q r s') pl (by omega) (by omega) (by rw [Qz,← hl];exact h1) (by simpa using ew) ⟨rfl,fin⟩) hs
theorem ZeL:IxR X rIxS:=by
 intro value slice pins s σ H x y v u Q I rx ry h hs
 obtain ⟨z,i,c,rfl,rfl,hz,he,q⟩:=h
 obtain ⟨t,rfl⟩:=rx
 obtain ⟨t',rfl⟩:=ry
 obtain ⟨j,h1,h2,h3,h4,h5⟩:=Z7I he
 have hl:z.cps.toList.length=z.length:=by simp [Str.length]
 rw [hl] at h1 h4 h5
 have hn:=line63
 exact tail_any (typeIs_str s z t) slot_str_getitem.lookup (getItem_str (c:=c) (by
  have e1:decide (i < -(2 ^ 63:Int))=false:=decide_eq_false (by omega)
  have e2:decide (i≥2 ^ 63)=false:=decide_eq_false (by omega)
  rw [e1,e2,Bool.or_false]) (by rw [h1];simpa using h2) ⟨.str ⟨#[c]⟩,H,I.tok _,⟨_,rfl⟩,q⟩) hs
noncomputable def rIx(K:Qa):R2:=fun x y H Q=>rIxL K x y H Q∨rIxT K x y H Q∨rIxS x y H Q
theorem ix_seq:IxR X (rIx X.K):=Zdt.or (ZeM.or ZeL)


theorem Z9K(lo hi:Option Int)(n:Nat):(sliceBounds lo hi none n).1=((HT.sIx n 0 lo:Nat):Int)∧(sliceBounds lo hi none n).2.1=((HT.sIx n n hi:Nat):Int)∧(sliceBounds lo hi none n).2.2=1:=by
 refine ⟨?_,?_,rfl⟩
 ·cases lo with
  | none=>simp [sliceBounds,HT.sIx]
  | some i =>
   simp only [sliceBounds,HT.sIx,Option.getD_none,show (1:Int) > 0 by decide,if_true]
   by_cases h:i < 0
   ·simp only [h,if_true] <;> omega
   ·simp only [h,if_false] <;> omega
 ·cases hi with
  | none=>simp [sliceBounds,HT.sIx]
  | some i =>
   simp only [sliceBounds,HT.sIx,Option.getD_none,show (1:Int) > 0 by decide,if_true]
   by_cases h:i < 0
   ·simp only [h,if_true] <;> omega
   ·simp only [h,if_false] <;> omega
theorem Z92(its:List Value)(lo hi:Option Int):slicePick its.toArray lo hi none=((its.drop (HT.sIx its.length 0 lo)).take (HT.sIx its.length its.length hi - HT.sIx its.length 0 lo)).toArray:=by
 obtain ⟨h1,h2,h3⟩:=Z9K lo hi its.toArray.size
 unfold slicePick
 rw [h1,h2,h3]
 simp only [sliceRange_one,pick_run,Qz] <;> rfl
noncomputable def rSlL(K:Qa):V→Option Int→Option Int→Hp→VK→Prop:=fun x lo hi H Q=>∃ a xs,x=.ref a∧SqL K H a xs∧∀ p,H p=none→Q (.ref p) (upd H p (.lst (cutV xs lo hi)))
theorem Ze1:SlR X (rSlL X.K):=by
 intro pins s σ H x v vl vu lo hi sl Q I rx hs pl pu h
 obtain ⟨a,xs,rfl,hx,q⟩:=h
 cases rx
 obtain ⟨its,r,ht,hz⟩:=I.list hx
 have hlen:=r.length
 refine ⟨"list",_,slot_list_getitem.lookup,ht.isList.typeIs,?_⟩
 refine wpAny_getItem_list_slice ht.isList hs pl pu .none (by simp) ?_ (by rw [Qz] <;> omega)
 rw [Z92,← hlen]
 refine ⟨.ref s.heap.objs.size,_,I.laid (t':=s.toks) (o:=.lst (cutV xs lo hi)) (fun b ob q=>Heap.get?_push_of_some _ q) (Qq _) ?_,rfl,q _ (I.hok.fresh (Qq _))⟩
 exact ⟨Jc (Z6l xs lo hi) hz,_,0,(r.drop (HT.sIx xs.length 0 lo)).take (HT.sIx xs.length xs.length hi - HT.sIx xs.length 0 lo),Heap.get?_push_size _ rfl⟩

noncomputable def Z07:V→Bool
 | .non=>true
 | .bl _=>true
 | .int _=>true
 | .str _=>true
 | _=>false
noncomputable def eqV:V→V→Bool
 | .non,.non=>true
 | .bl a,.bl b=>a == b
 | .bl a,.int b=>(if a then 1 else 0) == b
 | .int a,.bl b=>a == (if b then 1 else 0)
 | .int a,.int b=>a == b
 | .str a,.str b=>a == b
 | _,_=>false
theorem Zep{A:Around}{s:Shared}{y x:V}{u v:Value}(ry:RelV y u)(rx:RelV x v)(fy:Z07 y=true)(fx:Z07 x=true):SeqAt.EqAt A s u v (eqV y x):=by
 cases y with
 | non =>
  cases ry
  cases x with
  | non=>cases rx;exact SeqAt.EqAt.same _
  | bl b=>cases rx;exact SeqAt.EqAt.none_bool b
  | int b=>obtain ⟨t,rfl⟩:=rx;exact SeqAt.EqAt.none_int b t
  | str b=>obtain ⟨t,rfl⟩:=rx;exact SeqAt.EqAt.none_str b t
  | _=>exact absurd (show false=true from fx) Ql
 | bl a =>
  cases ry
  cases x with
  | non=>cases rx;exact SeqAt.EqAt.bool_none a
  | bl b=>cases rx;exact SeqAt.EqAt.bool_bool a b
  | int b=>obtain ⟨t,rfl⟩:=rx;exact SeqAt.EqAt.bool_int a b t
  | str b=>obtain ⟨t,rfl⟩:=rx;exact SeqAt.EqAt.bool_str a b t
  | _=>exact absurd (show false=true from fx) Ql
 | int a =>
  obtain ⟨t',rfl⟩:=ry
  cases x with
  | non=>cases rx;exact SeqAt.EqAt.int_none a t'
  | bl b=>cases rx;exact SeqAt.EqAt.int_bool a t' b
  | int b=>obtain ⟨t,rfl⟩:=rx;exact SeqAt.EqAt.int_int a t' b t
  | str b=>obtain ⟨t,rfl⟩:=rx;exact SeqAt.EqAt.int_str a t' b t
  | _=>exact absurd (show false=true from fx) Ql
 | str a =>
  obtain ⟨t',rfl⟩:=ry
  cases x with
  | non=>cases rx;exact SeqAt.EqAt.str_none a t'
  | bl b=>cases rx;exact SeqAt.EqAt.str_bool a t' b
  | int b=>obtain ⟨t,rfl⟩:=rx;exact SeqAt.EqAt.str_int a t' b t
  | str b=>obtain ⟨t,rfl⟩:=rx;exact SeqAt.EqAt.str_str a t' b t
  | _=>exact absurd (show false=true from fx) Ql
 | _=>exact absurd (show false=true from fy) Ql
noncomputable def eqU(x:V)(u:Value):Bool:=match u with
 | .none=>eqV .non x
 | .bool b=>eqV (.bl b) x
 | .int i _=>eqV (.int i) x
 | .str z _=>eqV (.str z) x
 | _=>false
theorem Z9c{x y:V}{u:Value}(r:RelV y u)(f:Z07 y=true):eqU x u=eqV y x:=by
 cases y with
 | non=>cases r;rfl
 | bl b=>cases r;rfl
 | int i=>obtain ⟨t,rfl⟩:=r;rfl
 | str z=>obtain ⟨t,rfl⟩:=r;rfl
 | _=>exact absurd (show false=true from f) Ql
theorem Z4j{x:V}:∀ {xs:List V} {us:List Value},Vals xs us→xs.all Z07=true→us.any (eqU x)=xs.any fun y=>eqV y x
 | _,_,.nil,_=>rfl
 | y::xs,u::us,.cons r t,f=>by
  rw [Wv,Qw] at f
  rw [Ww,Ww,Z9c r f.1,Z4j t f.2]
theorem Z2U{A:Around}{s:Shared}{x:V}{v:Value}(rx:RelV x v)(fx:Z07 x=true):∀ {xs:List V} {us:List Value},Vals xs us→xs.all Z07=true→∀ u∈us,SeqAt.EqAt A s u v (eqU x u)
 | _,_,.nil,_=>fun u hu=>by cases hu
 | y::xs,u::us,.cons r t,f=>fun u' hu=>by
  rw [Wv,Qw] at f
  rcases Qx.mp hu with rfl | hu
  ·rw [Z9c r f.1];exact Zep r rx f.1 fx
  ·exact Z2U rx fx t f.2 u' hu
noncomputable def inV(x:V)(xs:List V):Bool:=xs.any fun y=>eqV y x
noncomputable def rIn(K:Qa)(neg:Bool):R2:=fun x y H Q=>∃ p xs,y=.ref p∧(SqL K H p xs∨SqT K H p xs)∧Z07 x=true∧xs.all Z07=true∧Q (.bl (if neg then !inV x xs else inV x xs)) H
theorem Zbw:OpR X (compareOp .In) (rIn X.K false):=by
 intro pins s σ H x y v u Q I rx ry h
 obtain ⟨p,xs,rfl,hq,fx,fs,q⟩:=h
 cases ry
 rcases hq with hq | hq
 ·obtain ⟨its,r,pl,hz⟩:=I.list hq
  refine SeqAt.in_listAt (eqU x) pl.isList (fun w hw=>Z2U rx fx r fs w (by simpa using hw)) ⟨.bl _,H,I,rfl,?_⟩
  rw [show its.toArray.any (eqU x)=its.any (eqU x) by simp,Z4j r fs]
  exact q
 ·obtain ⟨its,r,pl,hz⟩:=I.tuple hq
  refine SeqAt.in_tupleAt (eqU x) pl (fun w hw=>Z2U rx fx r fs w (by simpa using hw)) ⟨.bl _,H,I,rfl,?_⟩
  rw [show its.toArray.any (eqU x)=its.any (eqU x) by simp,Z4j r fs]
  exact q
theorem Z9v:OpR X (compareOp .NotIn) (rIn X.K true):=by
 intro pins s σ H x y v u Q I rx ry h
 obtain ⟨p,xs,rfl,hq,fx,fs,q⟩:=h
 cases ry
 rcases hq with hq | hq
 ·obtain ⟨its,r,pl,hz⟩:=I.list hq
  refine SeqAt.notIn_listAt (eqU x) pl.isList (fun w hw=>Z2U rx fx r fs w (by simpa using hw)) ⟨.bl _,H,I,rfl,?_⟩
  rw [show its.toArray.any (eqU x)=its.any (eqU x) by simp,Z4j r fs]
  exact q
 ·obtain ⟨its,r,pl,hz⟩:=I.tuple hq
  refine SeqAt.notIn_tupleAt (eqU x) pl (fun w hw=>Z2U rx fx r fs w (by simpa using hw)) ⟨.bl _,H,I,rfl,?_⟩
  rw [show its.toArray.any (eqU x)=its.any (eqU x) by simp,Z4j r fs]
  exact q

theorem Z95:Z0o X (.type "list") (fun xs H Q=>∃ p ys,xs=[.ref p]∧(SqL X.K H p ys∨SqT X.K H p ys)∧∀ l,H l=none→Q (.ref l) (upd H l (.lst ys))):=by
 intro pins s σ H xs us Q I r h
 obtain ⟨p,ys,rfl,hq,q⟩:=h
 obtain ⟨u,rfl,rx⟩:=vals1 r
 cases rx
 have fin:∀ (its:List Value),Vals ys its→ys.length≤sizeLine→∀ (h':Heap) (c':Nat),(∀ b o',s.heap.get? b=some o'→h'.get? b=some o') →
   h'.get? s.heap.objs.size=some { cls:=.type "list",dict:=none,data:=.seq its.toArray c',slots:=#[] }→EP X pins σ Q (.ref s.heap.objs.size) { s with heap:=h' }:=fun its r' hz h' c' kp e =>
  ⟨.ref s.heap.objs.size,_,I.laid (t':=s.toks) kp (Qq _) (show Z06 X.prog X.w _ h' _ (.lst ys) from ⟨hz,its,c',r',e⟩),rfl,q _ (I.hok.fresh (Qq _))⟩
 rcases hq with hq | hq
 ·obtain ⟨its,r',pl,hz⟩:=I.list hq
  have hlen:=r'.length
  obtain ⟨o,ho,hc,n,hd⟩:=pl.isList
  exact call_list_seq p (.inl rfl) ho hc hd (fun h' c' kp e=>fin its r' hz h' c' kp e) (by simp only [Qz] <;> omega)
 ·obtain ⟨its,r',pl,hz⟩:=I.tuple hq
  have hlen:=r'.length
  obtain ⟨o,ho,hc,n,hd⟩:=pl
  exact call_list_seq p (.inr rfl) ho hc hd (fun h' c' kp e=>fin its r' hz h' c' kp e) (by simp only [Qz] <;> omega)

noncomputable def tyV(K:Qa)(T:String)(x:V)(H:Hp):Prop:=match x with
 | .str _=>T = "str"
 | .int _=>T = "int"
 | .ref p=>(T = "list"∧∃ xs,SqL K H p xs)∨(T = "tuple"∧∃ o,K.lookup p=some o∧o.cls=.type "tuple"∧o.dict=none) ∨
   (T = "dict"∧((∃ kvs,H p=some (.dK kvs))∨∃ kvs,H p=some (.dT kvs)))∨(T = "set"∧∃ S n,H p=some (.set S n))
 | _=>False
theorem ZbR{pins:List (Addr×Obj)}{σ:St}{H:Hp}{s:Shared}{T:String}{x:V}{v:Value}(I:Inv X pins σ H s)(r:RelV x v)(ty:tyV X.K T x H) :
  s.TypeIs v T∧∀ a,v=.ref a→∃ ob,s.heap.get? a=some ob∧ob.dict=none:=by
 cases x with
 | str z =>
  obtain ⟨t,rfl⟩:=r
  cases (show T = "str" from ty)
  exact ⟨typeIs_str s z t,fun _ e=>nomatch e⟩
 | int i =>
  obtain ⟨t,rfl⟩:=r
  cases (show T = "int" from ty)
  exact ⟨typeIs_int s i t,fun _ e=>nomatch e⟩
 | ref p =>
  cases r
  rcases ty with ⟨rfl,xs,hq⟩ | ⟨rfl,o,hk,hc,hd⟩ | ⟨rfl,hk⟩ | ⟨rfl,S,n,hk⟩
  ·obtain ⟨its,_,pl,_⟩:=I.list hq
   refine ⟨pl.isList.typeIs,fun a e=>?_⟩
   cases e
   obtain ⟨o,n,e,c,hd,_⟩:=pl
   exact ⟨o,e,hd⟩
  ·refine ⟨⟨o,I.kIn p o hk,hc⟩,fun a e=>?_⟩
   cases e
   exact ⟨o,I.kIn _ o hk,hd⟩
  ·have z:∃ o,s.heap.get? p=some o∧o.ExactDict:=by
    rcases hk with ⟨kvs,hk⟩ | ⟨kvs,hk⟩
    ·obtain ⟨_,_,_,_,o,_,_,e,ex,_⟩:=I.hok p _ hk
     exact ⟨o,e,ex⟩
    ·obtain ⟨_,_,_,_,o,_,_,e,ex,_⟩:=I.hok p _ hk
     exact ⟨o,e,ex⟩
   obtain ⟨o,e,ex⟩:=z
   refine ⟨⟨o,e,ex.1⟩,fun a e2=>?_⟩
   cases e2
   exact ⟨o,e,ex.2.1⟩
  ·obtain ⟨o,_,_,_,e,ex,_⟩:=I.hok p _ hk
   refine ⟨⟨o,e,ex.1⟩,fun a e2=>?_⟩
   cases e2
   exact ⟨o,e,ex.2.1⟩
 | _=>exact False.elim ty
noncomputable def tBM0(K:Qa)(T:String)(r:V→List V→Hp→VK→Prop)(to:TE):TE:=fun σ H Q=>to σ H fun x H1=>tyV K T x H1∧r x [] H1 Q
noncomputable def tBM(K:Qa)(T:String)(r:V→List V→Hp→VK→Prop)(to:TE)(t:TA):TE:=fun σ H Q=>to σ H fun x H1=>tyV K T x H1∧t σ H1 fun xs H2=>r x xs H2 Q
variable {o e:Expr}{es:List Expr}{to:TE}{t:TA}{name:Str}{apos cpos:Pos}{T id:String}{r:V→List V→Hp→VK→Prop}
theorem Zfc(pa:PlainAttrs T)(slot:Slot T name id)(hty:typeOf (.builtin id)=pure (.type "method_descriptor"))(hm:MtR X id r)(ho:PE X o to)
  (hbase:attributeBase o name X.env (eval o X.env)=eval o X.env:=by rfl) (hline:(apos.endLine == cpos.line)=true:=by rfl):PE X (.Call (.Attribute o name apos) [] [] cpos) (tBM0 X.K T r to):=by
 intro pins s σ H Q I h
 refine wpAny_Call_method0_late hbase hline (thn (ho pins s σ H _ I h) fun v s1 ⟨x,H1,I1,r1,ty,q1⟩=>?_)
 obtain ⟨h1,h2⟩:=ZbR I1 r1 ty
 exact ⟨T,id,pa,slot,hty,h1,h2,Calls.callWith_builtin rfl (PySem.evalArgs_none (hm pins s1 σ H1 x [] v [] Q I1 r1 .nil q1))⟩
theorem pe_bm(pa:PlainAttrs T)(slot:Slot T name id)(hty:typeOf (.builtin id)=pure (.type "method_descriptor"))(hm:MtR X id r)(ho:PE X o to)(ha:PA X (e::es) t)
  (hbase:attributeBase o name X.env (eval o X.env)=eval o X.env:=by rfl)
  (hfew:((backTo cpos (starEach (e::es) X.env)).all (fun x=>!x.1) && (backToKw cpos (keywordEach [] X.env)).all (fun x=>x.1.isSome)
   && decide ((e::es).length + ([]:List Keyword).length + (if ([]:List Keyword).isEmpty then 0 else 1) < 30))=true:=by rfl)
  (hline:(apos.endLine == cpos.line)=true:=by rfl) (hs:starEach (e::es) X.env=(false,eval e X.env)::starEach es X.env:=by rfl) (hplain:(backTo cpos (starEach es X.env)).any (·.1)=false:=by rfl) :
  PE X (.Call (.Attribute o name apos) (e::es) [] cpos) (tBM X.K T r to t):=by
 intro pins s σ H Q I h
 refine wpAny_Call_method_late hbase hfew hline rfl (thn (ho pins s σ H _ I h) fun v s1 ⟨x,H1,I1,r1,ty,q1⟩=>?_)
 obtain ⟨h1,h2⟩:=ZbR I1 r1 ty
 refine ⟨T,id,pa,slot,hty,h1,h2,?_⟩
 have hA:=ha cpos pins s1 σ H1 _ I1 q1
 rw [hs] at hA ⊢
 refine Calls.callWith_builtin (by show (false || (backTo cpos (starEach es X.env)).any (·.1))=false;rw [hplain] <;> rfl) (Calls.evalArgs_plain ?_)
 exact thn hA fun us s2 ⟨vs,H2,I2,r2,q2⟩=>hm pins s2 σ H2 x vs v us Q I2 r1 r2 q2

end
end L2
namespace L2
open PySem PySem.Spec PyProof.Rows
noncomputable def MtM(X:Cx)(id:String)(r:V→List V→Hp→VK→Prop):Prop :=
 ∀ (pins:List (Addr×Obj)) (s:Shared) (σ:St) (H:Hp) (x:V) (xs:List V) (v:Value) (us:List Value) (Q:VK),Inv X pins σ H s→RelV x v→Vals xs us→r x xs H Q →
  wpAny (model X.prog X.w) X.A (call (.builtin id) (v::us)) (EP X pins σ Q) X.xe s

theorem Vals.one:∀ {x:V} {us:List Value},Vals [x] us→∃ u,us=[u]∧RelV x u
 | _,_,.cons r .nil=>⟨_,rfl,r⟩
theorem Vals.eraseIdx:∀ {xs:List V} {us:List Value} (i:Nat),Vals xs us→Vals (xs.eraseIdx i) (us.eraseIdx i)
 | _,_,_,.nil=>.nil
 | _,_,0,.cons _ t=>t
 | _,_,i + 1,.cons r t=>.cons r (Vals.eraseIdx i t)
theorem Z8x{α:Type}:∀ (l:List α) (i:Nat),(l.eraseIdx i).length≤l.length
 | [],_=>Qq _
 | _::_,0=>Gy _
 | _::r,i + 1=>Gi (Z8x r i)
section
variable {X:Cx}{pins:List (Addr×Obj)}{σ:St}{H:Hp}{s:Shared}{l b:Addr}{xs ys zs:List V}

theorem Inv.lset{its its':List Value}{n:Nat}{f:Array Value→Array Value}{t':Nat}(I:Inv X pins σ H s)(hH:H l=some (.lst xs))
  (e:s.heap.get? l=some { cls:=.type "list",data:=.seq its.toArray n }) (hf:f its.toArray=its'.toArray) (hv:Vals ys its') (hz:ys.length≤sizeLine) :
  Inv X pins σ (upd H l (.lst ys)) { s with heap:=s.heap.update l (Obj.mapSeq f),toks:=t' }:=by
 have q:=PySem.IsL.update e f
 rw [hf] at q
 refine I.write (x:=l) (e:=l) (by rw [hH];exact trivial) (.inl rfl) (fun b' u hb hu=>(Heap.get?_update_other s.heap (Obj.mapSeq f) (Ne.symm hb)).trans hu) ⟨_,q⟩ ?_
 exact ⟨hz,its',_,hv,q⟩
theorem Inv.lnew{its:List Value}{t':Nat}(I:Inv X pins σ H s)(hv:Vals ys its)(hz:ys.length≤sizeLine) :
  Inv X pins σ (upd H s.heap.objs.size (.lst ys)) { s with heap:=s.heap.push { cls:=.type "list",data:=.seq its.toArray },toks:=t' } :=
 I.laid (fun _ _ q=>Heap.get?_push_of_some _ q) (Qq _) ⟨hz,its,0,hv,Heap.get?_push_size _ rfl⟩
theorem Inv.fresh(I:Inv X pins σ H s):H s.heap.objs.size=none:=I.hok.fresh (Qq _)
theorem Inv.lstM(I:Inv X pins σ H s)(hH:H l=some (.lst xs)):xs.length≤sizeLine∧∃ (its:List Value) (n:Nat),Vals xs its∧xs.length=its.length∧s.heap.get? l=some { cls:=.type "list",data:=.seq its.toArray n }:=by
 obtain ⟨z,its,n,r,e⟩:=I.hok l _ hH
 exact ⟨z,its,n,r,r.length,e⟩
end
section
variable {X:Cx}

noncomputable def rAppend:V→List V→Hp→VK→Prop:=fun x vs H Q=>∃ l xs y,x=.ref l∧vs=[y]∧H l=some (.lst xs)∧xs.length < sizeLine∧Q .non (upd H l (.lst (xs++[y])))
theorem Z5A:MtM X "list.append" rAppend:=by
 intro pins s σ H x vs v us Q I rx rv h
 obtain ⟨l,xs,y,rfl,rfl,hH,hz,q⟩:=h
 cases rx
 obtain ⟨u,rfl,ru⟩:=rv.one
 obtain ⟨z,its,n,r,hl,e⟩:=I.lstM hH
 refine call_meets F.slot_list_append ⟨_,e,rfl⟩ F.entry_list_append (F.args_list_append_2 _ _) (PySem.list_append l its.toArray n u (by rw [Qz];omega)) ⟨e,?_⟩
 refine ⟨.non,_,I.lset (its':=its++[u]) hH e (by simp) (r.append (.cons ru .nil)) ?_,rfl,q⟩
 rw [Jh,List.length_singleton]
 omega


end

section
variable {prog:Program}{w:World}{A:Around}{E:Value→Shared→Prop}{s:Shared}
end
section
variable {X:Cx}
end
end L2
namespace Att
open PySem PySem.W PySem.Calls PyProof.Rows

theorem Z77{P:Params}{h:Heap}:∀ (ns:List Int) (vs:List Value),WellAll P h vs (ns.map WData.int)→IntsAre vs ns:=by
 intro ns
 induction ns with
 | nil =>
  intro vs w
  rw [Jl] at w
  cases w
  exact .nil
 | cons n ns ih =>
  intro vs w
  rw [Qi] at w
  cases w with
  | cons a b =>
   cases a
   exact .cons _ _ (ih _ b)
theorem ZbI{l:OpenLaw}{n:Nat}(hn:l.most=some n){P:Params}{h:Heap}{args:List WData}{vals:List Value}
  (hpre:l.row.toRowW.claim.pre args=true) (hwl:WellAll P h vals args) :
  ∃ a vs ns,vals=[Value.ref a]∧args=[WData.list (ns.map WData.int)]∧h.get? a=some { cls:=.type "list",data:=.seq vs.toArray }∧IntsAre vs ns∧ns.length≤n:=by
 have hsh:WShape.hasAll [] args [.list .int]=true:=(pre_splitW hpre).1
 have hc:l.pre.holds [] { args:=args }=true:=(pre_splitW hpre).2
 obtain ⟨d,r,rfl,h1,h2⟩:=hasAllW_cons hsh
 obtain rfl:=hasAllW_nil h2
 obtain ⟨xs,rfl,h3⟩:=hasW_list h1
 obtain ⟨ns,rfl⟩:=items_int h3
 have hlen:ns.length≤n:=by
  unfold OpenLaw.pre at hc
  have h4:(WTm.not (.lt (.lit (.int (n:Int))) (.len (.arg 0)))).holds [] { args:=[.list (ns.map .int)] }=true:=by
   have h4:=(holds_andW hc).1
   rw [hn] at h4
   exact h4
  have h5:=condW_of h4 (w_not (w_lt w_lit (w_len_list (w_arg rfl))))
  rw [Qo] at h5
  refine Nm fun q=>?_
  have q':(n:Int) < ((ns.length:Nat):Int):=by omega
  first
   | (rw [decide_eq_true q'] at h5;exact absurd h5 (by decide))
   | (simp at h5;omega)
 cases hwl with
 | cons w1 w2 =>
  cases w2
  cases w1 with
  | list ho hall=>exact ⟨_,_,ns,rfl,rfl,ho,Z77 ns _ hall,hlen⟩
theorem ZbD(l:OpenLaw)(args:List WData):l.row.toRowW.claim.post args (.bool true) args=true :=
 postW_of (r:=l.row.toRowW) (X:=(true == true))
  (show WShape.has [] (.bool true) .bool=true by first | rfl | decide | simp [WShape.has,WShape.arms,WShape.armsAll])
  (show (WTm.eq .res (.lit (.bool true))).value [] { args:=args,res:=some (.bool true),after:=args }=some (.bool (true == true)) from w_eq_bool (w_res rfl) w_lit) rfl

theorem Z9P{l:OpenLaw}{n:Nat}{q:Program}{loose:List Str}{XP:(Str→Option Value)→Heap→Prop}{YP:World→Heap→Prop}{d:DefRec}
  (hn:l.most=some n) (hdf:d.params.defaults=[])
  (call:∀ (w:World) (s₀ s₁:Shared) (mg mb:Str→Option Value) (fa:Addr) (o:Obj) (pm cd doc:Value) (a:Addr) (vs:List Value) (ns:List Int),
   Ground q loose [] XP w s₀ mg mb s₁.heap→YP w s₁.heap →
   s₁.heap.get? fa=some o→o.data=.func (docDef d.name d.params d.body d.scope pm cd doc)→s₁.heap.CodeRec cd d.name→mg d.name=some (.ref fa) →
   s₁.heap.get? a=some { cls:=.type "list",data:=.seq vs.toArray }→IntsAre vs ns→ns.length≤n→s₁.gens=#[] →
   codeAny (model l.prog w) callerA (.call (.ref fa) ⟨[.ref a],[]⟩) (fun r s'=>r=.ok (.ret (.bool true))∧OldK s₁.heap s'.heap∧s'.os=s₁.os∧AllBare s'.gens) s₁) :
  WalkO q loose XP YP l.row.toRowW d [] (fun f vs=>PySem.call f vs):=by
 intro w s₀ s₁ mg mb G Y fa o pm cd doc dV kV ho hd hcd hD hmg hg args vals as hpre hlay hrd hwl hlo
 obtain rfl:dV=.none:=Dflts.none hD hdf
 obtain rfl:kV=.none:=Dflts.noKw hD
 obtain ⟨a,vs,ns,rfl,rfl,hobj,hints,hlen⟩:=ZbI hn hpre hwl
 refine enter_call (codeAny_mono (call w s₀ s₁ mg mb fa o pm cd doc a vs ns G Y ho (fd_plain hd) hcd hmg hobj hints hlen hg) fun r s' hq=>?_)
 obtain ⟨rfl,h2,h3,h4⟩:=hq
 exact ⟨.inl ⟨.bool true,.bool true,[],rfl,fun _=>rfl,.bool true,ZbD l _,fun _=>⟨List.Pairwise.nil,fun _ hm=>(nomatch hm)⟩⟩,h2,h3,h4⟩

section
variable {prog:Program}{w:World}{A:Around}{E:Value→Shared→Prop}{s:Shared}{K:Frag}

noncomputable def ledger(h:Heap)(L d:Addr):List (Addr×Obj):=(List.range h.objs.size).filterMap fun a=>if a=L∨a=d then none else (h.get? a).map fun o=>(a,o)
end
end Att
namespace L2
open PySem PySem.Spec PyProof.Rows
theorem vals_ints:∀ {vs:List Value} {ns:List Int},IntsAre vs ns→Vals (ns.map V.int) vs
 | _,_,.nil=>.nil
 | _,_,.cons n t h=>.cons ⟨t,rfl⟩ (vals_ints h)
noncomputable def Only(H:Hp):Prop:=∀ b,H b=none∨∃ o xs,H b=some (.frz o (.lst xs))
theorem ZcA{P:Program}{w:World}{K:Qa}{mg mb:Str→Option Value}{CX:CXT}{k:Nat}{fa a:Addr}{fd:FuncData}{x:Str}{sp:Sp}{s₁:Shared}{vs:List Value}{ns:List Int}
  (KX:K.In s₁.heap) (hns:s₁.heap.Ns mainGlobals mg) (hb:s₁.heap.Ns builtinsNs mb) (hbb:∀ x:Str,x ≠ "__name__"→mb x=bootBuiltins x) (hlim:s₁.heap.NoLimit) (hg:s₁.gens=#[])
  (ha:s₁.heap.get? a=some { cls:=.type "list",data:=.seq vs.toArray }) (hi:IntsAre vs ns) (hl:ns.length≤sizeLine) (hr:Room k callerA)
  (F:∀ base:Heap,K.In base→base.Ns mainGlobals mg→FnOk P w K mg base CX k fa fd [x] sp) (hbind:∀ (s:Shared) (u:Value),BindsTo s fd ⟨[u],[]⟩ [(x,u)])
  (hsp:∀ H:Hp,Only H→SqL K H a (ns.map V.int)→sp [.ref a] H (fun v _=>v=.bl true) fun _ _ _=>False)
  (hCX:∀ H e s',CX [] H s₁ (fun _ _ _=>False) e s'→False) :
  codeAny (model P w) callerA (.call (.ref fa) ⟨[.ref a],[]⟩) (fun r s'=>r=.ok (.ret (.bool true))∧OldK s₁.heap s'.heap∧s'.os=s₁.os∧AllBare s'.gens) s₁:=by
 have rv:=vals_ints hi
 have lenV:=hi.length
 have core:∀ H:Hp,Only H→SqL K H a (ns.map V.int)→HOk P w H s₁.heap→(∀ b,H b≠none→b=a)→(H a≠none→K.lookup a=none) →
   codeAny (model P w) callerA (.call (.ref fa) ⟨[.ref a],[]⟩) (fun r s'=>r=.ok (.ret (.bool true))∧OldK s₁.heap s'.heap∧s'.os=s₁.os∧AllBare s'.gens) s₁:=by
  intro H hO hS hok hA hK
  have base_of:∀ {b:Addr} {o:Obj},s₁.heap.get? b=some o→H b=none→(hidT s₁.heap H).get? b=some o:=fun e n=>Zcu e n
  have noA:∀ {b:Addr} {o:Obj} {es:Array DictEntry} {ep:Nat},s₁.heap.get? b=some o→o.data=.dict es ep→H b=none:=fun {b o es ep} e d=>by
   cases q:H b with
   | none=>rfl
   | some u =>
    have e':b=a:=hA b (by rw [q];simp)
    subst e'
    rw [ha] at e;cases e
    have d':Data.seq vs.toArray _=Data.dict es ep:=d
    cases d'
  have nsK:∀ {b:Addr} {m:Str→Option Value},s₁.heap.Ns b m→(hidT s₁.heap H).Ns b m:=fun {b m} ⟨o,es,ep,e,d,r⟩=>⟨o,es,ep,base_of e (noA e d),d,r⟩
  have hKb:K.In (hidT s₁.heap H):=fun b o e=>base_of (KX b o e) (by
   cases q:H b with
   | none=>rfl
   | some u =>
    have e':b=a:=hA b (by rw [q];simp)
    subst e'
    rw [hK (by rw [q];simp)] at e;cases e)
  have hM:Mod K mg (hidT s₁.heap H):=⟨hKb,nsK hns,⟨mb,nsK hb,hbb⟩,let ⟨mc,h1,h2⟩:=hlim;⟨mc,nsK h1,h2⟩⟩
  have e0:Env0 P w K mg (hidT s₁.heap H) callerA [] s₁ H:=⟨rfl,hM,fun b o e=>ZdE e,Nat.le_of_eq (Zbc _ _),trivial,fun b hb=>absurd (show b∈([]:List Addr) from hb) (by simp),hok,.of_eq hg⟩
  refine codeAny_mono ((F _ hKb (nsK hns)).run callerA [] s₁ H ⟨[.ref a],[]⟩ [.ref a] [.ref a] _ _ hr e0 (hbind s₁ (.ref a)) (.cons rfl .nil) (hsp H hO hS)) fun r s' h=>?_
  cases r with
  | error e=>exact (hCX H e s' h).elim
  | ok fl =>
   cases fl with
   | next=>exact False.elim h
   | brk=>exact False.elim h
   | cont=>exact False.elim h
   | ret u =>
    obtain ⟨v,H',os,bare,un,hok',r',q⟩:=h
    have q':v=.bl true:=q
    subst q'
    obtain rfl:u=Value.bool true:=r'
    refine ⟨rfl,OldK.of_keep fun b o e=>?_,os,bare⟩
    cases q:H b with
    | none=>exact un.keep b o e q (by intro z;exact absurd (show b∈([]:List Addr) from z) (by simp)) (by simp)
    | some u =>
     rcases hO b with z | ⟨ob,xs,z⟩
     ·rw [q] at z;cases z
     ·have z2:=un.frzs b ob _ z
      obtain ⟨e1,_⟩:=hok b _ z
      obtain ⟨e2,_⟩:=hok' b _ z2
      rw [e] at e1;cases e1
      exact e2
 cases hk:K.lookup a with
 | some o =>
  have e:=KX a o hk
  rw [ha] at e
  cases e
  refine core (fun _=>none) (fun _=>.inl rfl) (.inr ⟨_,vs.toArray,_,hk,rfl,rfl,rfl,by rw [Qz,lenV];exact hl,by simpa using rv⟩) (fun b u z=>by have z':(none:Option HO)=some u:=z;cases z') (fun b z=>absurd rfl z) fun z=>absurd rfl z
 | none =>
  refine core (fun b=>if b=a then some (.frz { cls:=.type "list",data:=.seq vs.toArray } (.lst (ns.map V.int))) else none) (fun b=>?_) (.inl (.inr ⟨{ cls:=.type "list",data:=.seq vs.toArray },if_pos rfl⟩)) (fun b u z=>?_) (fun b z=>?_) fun _=>hk
  ·by_cases hb:b=a
   ·exact .inr ⟨_,_,if_pos hb⟩
   ·exact .inl (if_neg hb)
  ·by_cases hb:b=a
   ·have z':=(if_pos hb).symm.trans z
    cases z'
    subst hb
    exact ⟨ha,by rw [Qo];exact hl,vs,_,rv,ha⟩
   ·have z':=(if_neg hb).symm.trans z
    cases z'
  ·by_cases hb:b=a
   ·exact hb
   ·exact absurd (if_neg hb) z
end L2
namespace L2
open PySem PySem.Spec PyProof.Rows
noncomputable abbrev KOf{K:Qa}{h:Heap}(_:K.In h):Qa:=K
theorem Zef{l:PySem.W.OpenLaw}{n k:Nat}{q:Program}{loose:List Str}{XP:(Str→Option Value)→Heap→Prop}{YP:World→Heap→Prop}{d:DefRec}{K:Params→Qa}{CX:World→CXT}{sp:World→Sp}{x:Str}
  (hn:l.most=some n) (hn2:n≤sizeLine) (hdf:d.params.defaults=[]) (hr:Room k callerA)
  (hY:∀ (w:World) (h:Heap),YP w h→(K w.params).In h)
  (F:∀ (w:World) (mg:Str→Option Value) (fa:Addr) (h:Heap),(K w.params).In h→h.Ns mainGlobals mg→mg d.name=some (.ref fa) →
   ∃ fd:FuncData,(∀ (s:Shared) (u:Value),BindsTo s fd ⟨[u],[]⟩ [(x,u)]) ∧
    ∀ base:Heap,(K w.params).In base→base.Ns mainGlobals mg→FnOk l.prog w (K w.params) mg base (CX w) k fa fd [x] (sp w))
  (hsp:∀ (w:World) (H:Hp) (a:Addr) (ns:List Int),ns.length≤n→Only H→SqL (K w.params) H a (ns.map V.int)→sp w [.ref a] H (fun v _=>v=.bl true) fun _ _ _=>False)
  (hCX:∀ (w:World) (H:Hp) (s:Shared) (e:Value) (s':Shared),CX w [] H s (fun _ _ _=>False) e s'→False) :
  PySem.W.WalkO q loose XP YP l.row.toRowW d [] (fun f vs=>PySem.call f vs):=by
 refine Att.Z9P hn hdf fun w s₀ s₁ mg mb fa o pm cd doc a vs ns G Y ho hd hcd hmg hobj hints hlen hg=>?_
 have KX:=hY w _ Y
 obtain ⟨fd,hb,hF⟩:=F w mg fa _ KX G.T.g hmg
 exact ZcA KX G.T.g G.T.b G.T.builtins G.T.nolimit hg hobj hints (Jc hlen hn2) hr hF hb (fun H hO hS=>hsp w H a ns hlen hO hS) fun H e s'=>hCX w H s₁ e s'
end L2


namespace L2
open PySem PySem.Spec PyProof.Rows

noncomputable def inClass(s:Stmt)(j:Nat):Stmt:=match s with
 | .ClassDef _ _ _ body _ _ _ _ _ _ _=>body.getD j (.Pass ⟨0,0,0,0⟩)
 | _=>.Pass ⟨0,0,0,0⟩
noncomputable def Z1W(s:Stmt):Arguments:=match s with
 | .FunctionDef _ a _ _ _ _ _ _ _ _=>a
 | _=>{ posonlyargs:=[],args:=[],vararg:=none,kwonlyargs:=[],kw_defaults:=[],kwarg:=none,defaults:=[] }
noncomputable def Z0e(s:Stmt):List Stmt:=match s with
 | .FunctionDef _ _ b _ _ _ _ _ _ _=>b
 | _=>[]
noncomputable def Z8(s:Stmt):Scope:=match s with
 | .FunctionDef _ _ _ _ _ _ sc _ _ _=>sc
 | _=>{ kind:=.function,names:=[],isGenerator:=false,isCoroutine:=false }

noncomputable abbrev CX0:CXT:=fun _ _ _ _ _ _=>False
noncomputable abbrev E0:XK:=fun _ _ _=>False

structure Fun(K:Qa)(x qual:Str)(st:Stmt)(f:Addr)(fd:FuncData):Prop where
 ex:∃ (oc:Value) (od:Option Addr) (kV doc pm:Value) (an:Option Addr) (cdv ct:Value) (osl:Array (Option Value)),
  fd=PySem.W.fnOf x qual (Z1W st) (Z0e st) (Z8 st) .none kV doc pm an cdv ct∧K.lookup f=some ⟨oc,od,.func fd,osl⟩∧PySem.W.codeIn K cdv qual=true
 kp:PySem.W.keepIn K (.ref f)=true
section
variable {P:Program}{w:World}{K:Qa}{mg:Str→Option Value}{base:Heap}
theorem Z9f{x qual:Str}{st:Stmt}{f:Addr}{oc:Value}{od an:Option Addr}{osl:Array (Option Value)}{kV doc pm cdv ct:Value}(l:K.lookup f=some ⟨oc,od,.func (PySem.W.fnOf x qual (Z1W st) (Z0e st) (Z8 st) .none kV doc pm an cdv ct),osl⟩)
  (c:PySem.W.codeIn K cdv qual=true) (k:PySem.W.keepIn K (.ref f)=true):Fun K x qual st f (PySem.W.fnOf x qual (Z1W st) (Z0e st) (Z8 st) .none kV doc pm an cdv ct):=⟨⟨oc,od,kV,doc,pm,an,cdv,ct,osl,rfl,l,c⟩,k⟩
end
theorem ZR{A:Around}{k:Nat}(hr:Room k A):A.units + 1 < cLine:=Nat.lt_of_le_of_lt (Nat.add_le_add_left (by decide:1≤64) _) hr.units

section
variable {X:Cx}
theorem pv(i:Nat){x:Str}{pos:Pos}(hN:X.N[i]?=some x:=by rfl)(hv:Vis X.env.scope x:=by first | exact Or.inl rfl | exact Or.inr (Or.inl rfl) | exact Or.inr (Or.inr rfl))(hd:(x == ("__debug__":Str))=false:=by decide)
  (hcd:(x == ("__classdict__":Str))=false:=by decide):PE X (.Name x pos) (tVar i):=Zff hN hv hd hcd
end

theorem iteF{A B:Prop}(h:B):if false=true then A else B:=by
 rw [if_neg Ql]
 exact h
theorem iteT{A B:Prop}(h:A):if true=true then A else B:=by
 rw [if_pos rfl]
 exact h

noncomputable def Z0V(H H':Hp):Prop:=∀ b o,H b=some o→H' b=some o
theorem Z0V.trans{H H1 H2:Hp}(a:Z0V H H1)(b:Z0V H1 H2):Z0V H H2:=fun c o h=>b c o (a c o h)
theorem Z0V.seq{K:Qa}{H H':Hp}{a:Addr}{xs:List V}(e:Z0V H H')(h:SqL K H a xs):SqL K H' a xs:=by
 rcases h with (h | ⟨o,h⟩) | h
 ·exact .inl (.inl (e _ _ h))
 ·exact .inl (.inr ⟨o,e _ _ h⟩)
 ·exact .inr h
end L2
namespace L2
open PySem PySem.Spec PyProof.Rows

section
variable {κ:Type}[DecidableEq κ]
noncomputable def valV(kvs:List (κ×V))(k:κ):Option V:=(kvs.find? fun kv=>decide (kv.1=k)).map (·.2)
noncomputable def putK(kvs:List (κ×V))(k:κ)(v:V):List (κ×V) :=
 if (kvs.any fun kv=>decide (kv.1=k))=true then kvs.map (fun kv=>if kv.1=k then (kv.1,v) else kv) else kvs++[(k,v)]
theorem Z5a{p:κ×V}{r:List (κ×V)}{k:κ}(e:p.1=k):valV (p::r) k=some p.2:=by simp [valV,Wo,e]
theorem Z59{p:κ×V}{r:List (κ×V)}{k:κ}(e:¬ p.1=k):valV (p::r) k=valV r k:=by simp [valV,Wo,e]
theorem Z58(k:κ):∀ kvs:List (κ×V),(kvs.any fun kv=>decide (kv.1=k))=(valV kvs k).isSome
 | []=>rfl
 | p::r=>by
  rw [Ww]
  by_cases e:p.1=k
  ·simp only [Z5a e,decide_eq_true e,Bool.true_or,Option.isSome_some]
  ·rw [Z59 e,decide_eq_false e,Bool.false_or];exact Z58 k r
theorem Z6o(kvs:List (κ×V))(k:κ)(v:V):(putK kvs k v).length≤kvs.length + 1:=by
 unfold putK
 split
 ·rw [Qo];omega
 ·rw [Jh,Jp,List.length_nil];omega
theorem ZcL{kvs:List (κ×V)}{k:κ}(v:V)(h:valV kvs k=none):putK kvs k v=kvs++[(k,v)]:=by
 unfold putK
 rw [Z58,h]
 exact if_neg (by decide)
theorem RelO.isSome_eq{o:Option V}{u:Option Value}(r:RelO o u):o.isSome=u.isSome:=by
 cases o with
 | none=>cases u with
  | none=>rfl
  | some _=>exact (show False from r).elim
 | some _=>cases u with
  | none=>exact (show False from r).elim
  | some _=>rfl
theorem KV.val{kvs:List (κ×V)}{vs:List (κ×Value)}(r:KV kvs vs)(k:κ):RelO (valV kvs k) (valueAt vs k):=by
 unfold KV at r
 induction r with
 | nil=>exact True.intro
 | @cons p q ps qs h t ih =>
  obtain ⟨h1,h2⟩:=h
  by_cases e:p.1=k
  ·have e':q.1=k:=h1.symm.trans e
   have b:valueAt (q::qs) k=some q.2:=by simp [valueAt,Wo,e']
   rw [Z5a e,b];exact h2
  ·have e':¬ q.1=k:=fun z=>e (h1.trans z)
   have b:valueAt (q::qs) k=valueAt qs k:=by simp [valueAt,Wo,e']
   rw [Z59 e,b];exact ih
theorem KV.any{kvs:List (κ×V)}{vs:List (κ×Value)}(r:KV kvs vs)(k:κ):(kvs.any fun kv=>decide (kv.1=k))=vs.any fun kv=>decide (kv.1=k):=by
 unfold KV at r
 induction r with
 | nil=>rfl
 | cons h t ih=>rw [Ww,Ww,ih,h.1]
theorem KV.repl{kvs:List (κ×V)}{vs:List (κ×Value)}(r:KV kvs vs)(k:κ){y:V}{u:Value}(ry:RelV y u) :
  KV (kvs.map fun kv=>if kv.1=k then (kv.1,y) else kv) (vs.map fun kv=>if kv.1=k then (kv.1,u) else kv):=by
 unfold KV at r ⊢
 induction r with
 | nil=>exact .nil
 | @cons p q ps qs h t ih =>
  rw [Qi,Qi]
  refine .cons ?_ ih
  obtain ⟨h1,h2⟩:=h
  by_cases e:p.1=k
  ·rw [if_pos e,if_pos (h1.symm.trans e)];exact ⟨h1,ry⟩
  ·rw [if_neg e,if_neg (fun z=>e (h1.trans z))];exact ⟨h1,h2⟩
theorem KV.put{kvs:List (κ×V)}{vs:List (κ×Value)}(r:KV kvs vs)(k:κ){y:V}{u:Value}(ry:RelV y u):KV (putK kvs k y) (stored vs k u):=by
 unfold putK stored
 rw [r.any k]
 by_cases e:(vs.any fun kv=>decide (kv.1=k))=true
 ·rw [if_pos e,if_pos e];exact r.repl k ry
 ·rw [if_neg e,if_neg e];exact Paired.snoc r ⟨rfl,ry⟩
theorem KV.length{kvs:List (κ×V)}{vs:List (κ×Value)}(r:KV kvs vs):kvs.length=vs.length:=Paired.length r
end

theorem kV_is{P:Program}{w:World}{k:Key}{u:Value}(r:RelV (kV k) u):(Z0n P w).is k u=true:=by
 cases k with
 | inl i=>obtain ⟨t,e⟩:=(show ∃ t,u=Value.int i t from r);subst e;exact Z9U P w i t
 | inr x=>obtain ⟨t,e⟩:=(show ∃ t,u=Value.str x t from r);subst e;exact Z9V P w x t
theorem Z8w{P:Program}{w:World}:∀ {ks:List Key} {us:List Value},Vals (ks.map kV) us→ItemsAre (Z0n P w) ks us
 | [],_,r=>by rw [Jl] at r;cases r;exact .nil
 | k::ks,_,r=>by
  rw [Qi] at r
  cases r with
  | cons h t=>exact .cons (kV_is h) (Z8w t)
noncomputable abbrev KT(H:Hp):List (List Key×V)→List (List Key×Addr×Value)→Prop:=Paired fun p q=>p.1=q.1∧H q.2.1=some (.tup (p.1.map kV))∧RelV p.2 q.2.2
theorem KT.val{H:Hp}{kvs:List (List Key×V)}{xs:List (List Key×Addr×Value)}(r:KT H kvs xs)(k:List Key):RelO (valV kvs k) ((atKey xs k).map (·.2)):=by
 induction r with
 | nil=>exact True.intro
 | @cons p q ps qs h t ih =>
  obtain ⟨h1,_,h2⟩:=h
  by_cases e:p.1=k
  ·have e':q.1=k:=h1.symm.trans e
   have b:atKey (q::qs) k=some q.2:=by simp [atKey,Wo,e']
   rw [Z5a e,b];exact h2
  ·have e':¬ q.1=k:=fun z=>e (h1.trans z)
   have b:atKey (q::qs) k=atKey qs k:=by simp [atKey,Wo,e']
   rw [Z59 e,b];exact ih
theorem KT.repl{H:Hp}{kvs:List (List Key×V)}{xs:List (List Key×Addr×Value)}(r:KT H kvs xs)(k:List Key){y:V}{u:Value}(ry:RelV y u) :
  KT H (kvs.map fun kv=>if kv.1=k then (kv.1,y) else kv) (xs.map (putAt k u)):=by
 induction r with
 | nil=>exact .nil
 | @cons p q ps qs h t ih =>
  rw [Qi,Qi]
  refine .cons ?_ ih
  obtain ⟨h1,h2,h3⟩:=h
  unfold putAt
  by_cases e:p.1=k
  ·rw [if_pos e,if_pos (h1.symm.trans e)];exact ⟨h1,h2,ry⟩
  ·rw [if_neg e,if_neg (fun z=>e (h1.trans z))];exact ⟨h1,h2,h3⟩
theorem KT.put{H:Hp}{kvs:List (List Key×V)}{xs:List (List Key×Addr×Value)}(r:KT H kvs xs)(k:List Key){b:Addr}{y:V}{u:Value}(hb:H b=some (.tup (k.map kV)))(ry:RelV y u) :
  KT H (putK kvs k y) (storedH xs k b u):=by
 have e:(kvs.any fun kv=>decide (kv.1=k))=(atKey xs k).isSome:=by
  rw [Z58,(r.val k).isSome_eq,Option.isSome_map]
 unfold putK storedH
 rw [e]
 by_cases q:(atKey xs k).isSome=true
 ·rw [if_pos q,if_pos q];exact r.repl k ry
 ·rw [if_neg q,if_neg q];exact Paired.snoc r ⟨rfl,hb,ry⟩
theorem KT.keeps{H H':Hp}{kvs:List (List Key×V)}{xs:List (List Key×Addr×Value)}(r:KT H kvs xs)(ht:∀ b ys,H b=some (.tup ys)→H' b=some (.tup ys)):KT H' kvs xs :=
 Paired.mapP r fun _ _ z=>⟨z.1,ht _ _ z.2.1,z.2.2⟩
section
variable {P:Program}{w:World}{H:Hp}{h:Heap}{a:Addr}
theorem rd_of{u:HO}(ok:HOk P w H h)(e:Rd H a u):Z06 P w H h a u:=e.ok ok
theorem dk_rd{kvs:List (Key×V)}(ok:HOk P w H h)(e:Rd H a (.dK kvs)):kvs.length≤sizeLine∧(a == sysModules)=false∧∃ vs,KV kvs vs∧h.DictOf (Z0n P w) a vs :=
 show Z06 P w H h a (.dK kvs) from rd_of ok e
theorem dk_of{kvs:List (Key×V)}(ok:HOk P w H h)(e:H a=some (.dK kvs)):kvs.length≤sizeLine∧(a == sysModules)=false∧∃ vs,KV kvs vs∧h.DictOf (Z0n P w) a vs:=dk_rd ok (.inl e)
theorem Z5w{ks:List Key}(ok:HOk P w H h)(e:H a=some (.tup (ks.map kV))):(tupleKind (Z0n P w)).is h ks a:=by
 obtain ⟨_,its,r,o,h1,h2,n,h3⟩:=(show Z06 P w H h a (.tup (ks.map kV)) from ok a _ e)
 exact ⟨o,its.toArray,n,h1,h2,h3,by simpa using Z8w r⟩
theorem dt_rd{kvs:List (List Key×V)}(ok:HOk P w H h)(e:Rd H a (.dT kvs)):kvs.length≤sizeLine∧(a == sysModules)=false ∧
  ∃ xs,KT H kvs xs∧h.DictOfH (tupleKind (Z0n P w)) a xs:=by
 obtain ⟨z,y,xs,r,o,es,ep,h1,h2,h3,h4,h5⟩:=(show Z06 P w H h a (.dT kvs) from rd_of ok e)
 refine ⟨z,y,xs,r,o,es,ep,h1,h2,h3,h4,fun x hx=>?_,h5⟩
 have all:∀ {l:List (List Key×V)} {m:List (List Key×Addr×Value)},KT H l m→∀ x∈m,(tupleKind (Z0n P w)).is h x.1 x.2.1:=by
  intro l m q
  induction q with
  | nil=>intro x hx;exact nomatch hx
  | @cons p q ps qs hq t ih =>
   intro x hx
   rcases Qx.mp hx with e | hx
   ·subst e
    exact Z5w ok (by rw [← hq.1];exact hq.2.1)
   ·exact ih x hx
 exact all r x hx
theorem dt_of{kvs:List (List Key×V)}(ok:HOk P w H h)(e:H a=some (.dT kvs)):kvs.length≤sizeLine∧(a == sysModules)=false ∧
  ∃ xs,KT H kvs xs∧h.DictOfH (tupleKind (Z0n P w)) a xs:=dt_rd ok (.inl e)
end
noncomputable def DGet(H:Hp)(a:Addr)(y:V)(r:Option V):Prop :=
 (∃ kvs k,Rd H a (.dK kvs)∧y=kV k∧r=valV kvs k)∨∃ kvs k b,Rd H a (.dT kvs)∧y=.ref b∧H b=some (.tup (k.map kV))∧r=valV kvs k
noncomputable def DPut(H:Hp)(a:Addr)(y v:V)(H':Hp):Prop :=
 (∃ kvs k,H a=some (.dK kvs)∧y=kV k∧kvs.length < sizeLine∧H'=upd H a (.dK (putK kvs k v))) ∨
 ∃ kvs k b,H a=some (.dT kvs)∧y=.ref b∧H b=some (.tup (k.map kV))∧kvs.length < sizeLine∧H'=upd H a (.dT (putK kvs k v))
theorem DGet.k{H:Hp}{a:Addr}{kvs:List (Key×V)}{k:Key}(e:H a=some (.dK kvs)):DGet H a (kV k) (valV kvs k):=.inl ⟨kvs,k,.inl e,rfl,rfl⟩
theorem DGet.t{H:Hp}{a b:Addr}{kvs:List (List Key×V)}{k:List Key}(e:H a=some (.dT kvs))(eb:H b=some (.tup (k.map kV))):DGet H a (.ref b) (valV kvs k):=.inr ⟨kvs,k,b,.inl e,rfl,eb,rfl⟩
theorem DPut.k{H:Hp}{a:Addr}{kvs:List (Key×V)}{k:Key}{v:V}(e:H a=some (.dK kvs))(hl:kvs.length < sizeLine):DPut H a (kV k) v (upd H a (.dK (putK kvs k v))):=.inl ⟨kvs,k,e,rfl,hl,rfl⟩
theorem DPut.t{H:Hp}{a b:Addr}{kvs:List (List Key×V)}{k:List Key}{v:V}(e:H a=some (.dT kvs))(eb:H b=some (.tup (k.map kV)))(hl:kvs.length < sizeLine) :
  DPut H a (.ref b) v (upd H a (.dT (putK kvs k v))):=.inr ⟨kvs,k,b,e,rfl,eb,hl,rfl⟩
section
variable {X:Cx}{pins:List (Addr×Obj)}{σ:St}{H:Hp}{s:Shared}{a:Addr}{y v:V}{u r:Value}{o:Option V}{A:Around}{E:Value→Shared→Prop}
theorem Inv.big(I:Inv X pins σ H s):sysModules < s.heap.objs.size:=by
 have h:mainGlobals < s.heap.objs.size:=(I.mod.glob.keeps I.bk).lt
 exact Nat.lt_trans (by decide) h
theorem Zb1{Q:Value→Shared→Prop}(hu:A.units + 1 < cLine)(I:Inv X pins σ H s)(g:DGet H a y (some v))(ry:RelV y u)(h:∀ w' s',Inv X pins σ H s'→RelV v w'→Q w' s') :
  wpAny (model X.prog X.w) A (getItem (.ref a) u) Q E s:=by
 rcases g with ⟨kvs,k,e,ey,l⟩ | ⟨kvs,k,b,e,ey,eb,l⟩
 ·subst ey
  obtain ⟨z,hd,vs,rel,dd⟩:=dk_rd I.hok e
  obtain ⟨w',hw,rw'⟩:=RelO.some_of (v:=v) (o:=valueAt vs k) (by rw [l];exact rel.val k)
  exact wpAny_getItem_of (kV_is ry) dd.mapOf hw (h w' _ (I.tok _) rw')
 ·subst ey
  cases (show u=Value.ref b from ry)
  obtain ⟨z,hd,xs,rel,dd⟩:=dt_rd I.hok e
  obtain ⟨w',hw,rw'⟩:=RelO.some_of (v:=v) (o:=(atKey xs k).map (·.2)) (by rw [l];exact rel.val k)
  obtain ⟨p,hp,hp2⟩:=Option.map_eq_some_iff.mp hw
  refine wpAny_getItem_heap (tupleKind_room_in1 hu) (Z5w I.hok eb) dd hp ?_
  rw [hp2]
  exact h w' _ (I.tok _) rw'
theorem d_in{Q:Value→Shared→Prop}(hu:A.units + 1 < cLine)(I:Inv X pins σ H s)(g:DGet H a y o)(ry:RelV y u)(h:∀ s',Inv X pins σ H s'→Q (.bool o.isSome) s') :
  wpAny (model X.prog X.w) A (compareOp .In u (.ref a)) Q E s:=by
 rcases g with ⟨kvs,k,e,ey,l⟩ | ⟨kvs,k,b,e,ey,eb,l⟩
 ·subst ey
  obtain ⟨z,hd,vs,rel,dd⟩:=dk_rd I.hok e
  refine wpAny_in_of (kV_is ry) hd dd.mapOf ?_
  rw [← (rel.val k).isSome_eq,← l]
  exact h _ (I.tok _)
 ·subst ey
  cases (show u=Value.ref b from ry)
  obtain ⟨z,hd,xs,rel,dd⟩:=dt_rd I.hok e
  refine wpAny_in_heap (tupleKind_room_in1 hu) (Z5w I.hok eb) hd dd ?_
  have q:=(rel.val k).isSome_eq
  rw [Option.isSome_map] at q
  rw [← q,← l]
  exact h _ (I.tok _)
theorem Zd6{Q:Value→Shared→Prop}(hu:A.units + 1 < cLine)(I:Inv X pins σ H s)(g:DGet H a y o)(ry:RelV y u)(h:∀ s',Inv X pins σ H s'→Q (.bool (!o.isSome)) s') :
  wpAny (model X.prog X.w) A (compareOp .NotIn u (.ref a)) Q E s:=by
 rcases g with ⟨kvs,k,e,ey,l⟩ | ⟨kvs,k,b,e,ey,eb,l⟩
 ·subst ey
  obtain ⟨z,hd,vs,rel,dd⟩:=dk_rd I.hok e
  refine wpAny_notIn_of (kV_is ry) hd dd.mapOf ?_
  rw [← (rel.val k).isSome_eq,← l]
  exact h _ (I.tok _)
 ·subst ey
  cases (show u=Value.ref b from ry)
  obtain ⟨z,hd,xs,rel,dd⟩:=dt_rd I.hok e
  refine wpAny_notIn_heap (tupleKind_room_in1 hu) (Z5w I.hok eb) hd dd ?_
  have q:=(rel.val k).isSome_eq
  rw [Option.isSome_map] at q
  rw [← q,← l]
  exact h _ (I.tok _)
theorem Za4{h':Heap}{t':Nat}{ob:HO}(I:Inv X pins σ H s)(mu:Mut (H a))(hs:Heap.SameBut a s.heap h')(he:∃ q,h'.get? a=some q)(new:Z06 X.prog X.w (upd H a ob) h' a ob) :
  Inv X pins σ (upd H a ob) { s with heap:=h',toks:=t' } :=
 I.write (x:=a) (e:=a) mu (.inl rfl) (fun b q hb z=>(hs.2 b hb).trans z) he new
theorem Zem{P:Program}{w:World}{H':Hp}{h':Heap}{kvs:List (Key×V)}{vs:List (Key×Value)}(z:kvs.length≤sizeLine)(hd:(a == sysModules)=false)(rel:KV kvs vs)(dd:h'.DictOf (Z0n P w) a vs) :
  Z06 P w H' h' a (.dK kvs):=⟨z,hd,vs,rel,dd⟩
theorem Zb2{H':Hp}{Q:Unit→Shared→Prop}(hu:A.units + 1 < cLine)(I:Inv X pins σ H s)(g:DPut H a y v H')(ry:RelV y u)(rv:RelV v r)(h:∀ s',Inv X pins σ H' s'→Q () s') :
  wpAny (model X.prog X.w) A (setItem (.ref a) u r) Q E s:=by
 rcases g with ⟨kvs,k,e,ey,l,eH⟩ | ⟨kvs,k,b,e,ey,eb,l,eH⟩
 ·subst ey eH
  obtain ⟨z,hd,vs,rel,dd⟩:=dk_of I.hok e
  have hz:vs.length≤sizeLine:=by rw [← rel.length];exact z
  have hl:(putK kvs k v).length≤sizeLine:=by have:=Z6o kvs k v;omega
  refine wpAny_setItem_pairs (hsz:=hz) (kV_is ry) dd fun h' dd' hs=>h _ ?_
  have he:∃ q,h'.get? a=some q:=let ⟨q,_,_,hq,_⟩:=dd';⟨q,hq⟩
  exact Za4 I (by rw [e];exact True.intro) hs he (Zem hl hd (rel.put k rv) dd')
 ·subst ey eH
  cases (show u=Value.ref b from ry)
  obtain ⟨z,hd,xs,rel,dd⟩:=dt_of I.hok e
  have hz:xs.length≤sizeLine:=by rw [← Paired.length rel];exact z
  have hl:(putK kvs k v).length≤sizeLine:=by have:=Z6o kvs k v;omega
  refine wpAny_setItem_heap (hsz:=hz) (tupleKind_room_in1 hu) (Z5w I.hok eb) dd fun h' dd' hs=>h _ ?_
  obtain ⟨q,es,ep,hq,h2,h3,h4,_,h5⟩:=dd'
  refine Za4 I (by rw [e];exact True.intro) hs ⟨q,hq⟩ ⟨hl,hd,_,(rel.put k eb rv).keeps fun c ys ec=>?_,q,es,ep,hq,h2,h3,h4,h5⟩
  rw [Zb (ne_of ec e (fun z=>nomatch z))]
  exact ec
end
section
variable {X:Cx}{pins:List (Addr×Obj)}{σ:St}{H:Hp}{s:Shared}{a:Addr}{kvs:List (Key×V)}{k:Key}{u:Value}{A:Around}{E:Value→Shared→Prop}
theorem d_len{Q:Value→Shared→Prop}(I:Inv X pins σ H s)(e:Rd H a (.dK kvs))(h:∀ t s',Inv X pins σ H s'→Q (.int kvs.length t) s'):wpAny (model X.prog X.w) A (call (.builtin "len") [.ref a]) Q E s:=by
 obtain ⟨z,hd,vs,rel,dd⟩:=dk_rd I.hok e
 refine call_len_dict hd dd (by rw [← rel.length];rw [sizeLine_eq] at z;omega) ?_
 rw [← rel.length]
 exact h _ _ (I.tok _)
end

noncomputable def NoSl(i:Expr):Prop:=∀ ov iv,subscripted i false ov iv=operate [ov,iv] (getItem ov iv)
theorem Ze6{prog:Program}{w:World}{A:Around}{E:Value→Shared→Prop}{s:Shared}{env:Env}{value slice:Expr}{pos:Pos}{T id:String}{Q:Value→Shared→Prop}
  (hl:typeLookup (.type T) "__getitem__"=pure (some (.builtin id))) (hs:NoSl slice)
  (h:wpAny (model prog w) A (eval value env) (fun o s₁=>wpAny (model prog w) A (eval slice env) (fun i s₂=>s₂.TypeIs o T∧wpAny (model prog w) A (getItem o i) Q E s₂) E s₁) E s) :
  wpAny (model prog w) A (eval (.Subscript value slice pos) env) Q E s:=by
 refine Subscript_ (wpAny_mono h (fun o s₁ h₁=>wpAny_mono h₁ (fun i s₂ h₂=>?_) fun _ _ x=>x) fun _ _ x=>x)
 obtain ⟨hT,h₂⟩:=h₂
 unfold subscriptTail
 refine wpAny_bind ?_
 rw [getitemInPython_of_ne hT.not_modules]
 refine wpAny_bind (wpAny_specialOf hT hl ?_)
 have fin:wpAny (model prog w) A (subscripted slice false o i) (fun r s₃=>wpAny (model prog w) A (letTemporaryGo value o r >>= fun _=>pure r) Q E s₃) E s₂:=by
  rw [hs o i]
  exact wpAny_operating (wpAny_mono h₂ (fun r s₃ h₃=>wpAny_bind (wpAny_letTemporaryGo (wpAny_pure h₃))) fun _ _ x=>x)
 first
  | exact wpAny_pure (wpAny_bind fin)
  | exact wpAny_bind (wpAny_pure (wpAny_bind fin))
  | exact wpAny_bind fin
theorem Z9T{X:Cx}{pins:List (Addr×Obj)}{σ:St}{H:Hp}{s:Shared}{a:Addr}{y:V}{o:Option V}(I:Inv X pins σ H s)(g:DGet H a y o):s.TypeIs (.ref a) "dict":=by
 rcases g with ⟨kvs,k,e,_,_⟩ | ⟨kvs,k,b,e,_,_,_⟩
 ·obtain ⟨_,_,vs,_,dd⟩:=dk_rd I.hok e
  exact dd.typeIs
 ·obtain ⟨_,_,xs,_,dd⟩:=dt_rd I.hok e
  exact dd.typeIs
noncomputable def tDGet(td ty:TE):TE:=fun σ H Q=>td σ H fun x H1=>ty σ H1 fun y H2=>∃ a v,x=.ref a∧DGet H2 a y (some v)∧Q v H2
noncomputable def tDIn(ty td:TE):TE:=fun σ H Q=>ty σ H fun y H1=>td σ H1 fun x H2=>∃ a o,x=.ref a∧DGet H2 a y o∧Q (.bl o.isSome) H2
noncomputable def tDNotIn(ty td:TE):TE:=fun σ H Q=>ty σ H fun y H1=>td σ H1 fun x H2=>∃ a o,x=.ref a∧DGet H2 a y o∧Q (.bl (!o.isSome)) H2
noncomputable def sDPut(td ty tv:TE):TS:=fun D σ H=>tv σ H fun v H1=>td σ H1 fun x H2=>ty σ H2 fun y H3=>∃ a H4,x=.ref a∧DPut H3 a y v H4∧D.nx σ H4
section
variable {X:Cx}{o i e value:Expr}{pos pos' tpos:Pos}{td ty tv:TE}
theorem ZdH(hu:X.A.units + 1 < cLine)(ho:PE X o td)(hi:PE X i ty)(hs:NoSl i):PE X (.Subscript o i pos) (tDGet td ty):=by
 intro pins s σ H Q I h
 refine Ze6 PySem.F.slot_dict_getitem.lookup hs (thn (ho pins s σ H _ I h) fun u s1 ⟨x,H1,I1,rx,q1⟩=>thn (hi pins s1 σ H1 _ I1 q1) fun iv s2 ⟨y,H2,I2,ry,a,v,ex,g,q2⟩=>?_)
 subst ex
 obtain rfl:u=Value.ref a:=rx
 exact ⟨Z9T I2 g,Zb1 hu I2 g ry fun w' s3 I3 rw'=>⟨v,H2,I3,rw',q2⟩⟩
theorem Zfb(hu:X.A.units + 1 < cLine)(hi:PE X i ty)(ho:PE X o td):PC X .In i o (tDIn ty td):=by
 intro pins s σ H Q I h
 refine thn (hi pins s σ H _ I h) fun iv s1 ⟨y,H1,I1,ry,q1⟩=>thn (ho pins s1 σ H1 _ I1 q1) fun u s2 ⟨x,H2,I2,rx,a,ov,ex,g,q2⟩=>?_
 subst ex
 obtain rfl:u=Value.ref a:=rx
 exact d_in hu I2 g ry fun s3 I3=>⟨.bl ov.isSome,H2,I3,rfl,q2⟩
theorem Zby(hu:X.A.units + 1 < cLine)(hi:PE X i ty)(ho:PE X o td):PC X .NotIn i o (tDNotIn ty td):=by
 intro pins s σ H Q I h
 refine thn (hi pins s σ H _ I h) fun iv s1 ⟨y,H1,I1,ry,q1⟩=>thn (ho pins s1 σ H1 _ I1 q1) fun u s2 ⟨x,H2,I2,rx,a,ov,ex,g,q2⟩=>?_
 subst ex
 obtain rfl:u=Value.ref a:=rx
 exact Zd6 hu I2 g ry fun s3 I3=>⟨.bl (!ov.isSome),H2,I3,rfl,q2⟩
theorem ZdO(hu:X.A.units + 1 < cLine)(ho:PE X o td)(hi:PE X i ty)(hv:PE X value tv)(hs:swapsWith value (some (.Subscript o i pos')) pos.line X.env=pure false) :
  PS X (.Assign [.Subscript o i pos'] value pos) (sDPut td ty tv):=by
 intro pins s σ H D I h
 refine wpAny_Assign_Subscript (thn (hv pins s σ H _ I h) fun r s1 ⟨v,H1,I1,rv,q1⟩=>thn (ho pins s1 σ H1 _ I1 q1) fun u s2 ⟨x,H2,I2,rx,q2⟩=>thn (hi pins s2 σ H2 _ I2 q2) fun iv s3 ⟨y,H3,I3,ry,a,H4,ex,g,q3⟩=>?_) hs
 subst ex
 obtain rfl:u=Value.ref a:=rx
 exact Zb2 hu I3 g ry rv fun s4 I4=>⟨σ,H4,I4,q3⟩
end

theorem Zc9{P:Program}{w:World}{H:Hp}(h:Heap)(hb:sysModules < h.objs.size):Z06 P w H (h.push { cls:=.type "dict",data:=.dict #[] }) h.objs.size (.dK []) :=
 ⟨Wq _,beq_eq_false_iff_ne.mpr (Ne.symm (Jb hb)),[],.nil,Heap.DictOf.new h⟩
theorem Zca{P:Program}{w:World}{H:Hp}(h:Heap)(hb:sysModules < h.objs.size):Z06 P w H (h.push { cls:=.type "dict",data:=.dict #[] }) h.objs.size (.dT []) :=
 ⟨Wq _,beq_eq_false_iff_ne.mpr (Ne.symm (Jb hb)),[],.nil,_,#[],0,Heap.get?_push_size _ rfl,⟨rfl,rfl,rfl⟩,rfl,rfl,Wr⟩
noncomputable def tDNewK:TE:=fun _ H Q=>∀ p,H p=none→Q (.ref p) (upd H p (.dK []))
noncomputable def tDNewT:TE:=fun _ H Q=>∀ p,H p=none→Q (.ref p) (upd H p (.dT []))
section
variable {X:Cx}{pos:Pos}
theorem ZcH:PE X (.Dict [] [] pos) tDNewK:=fun pins s σ H Q I h =>
 wpAny_Dict_empty ⟨.ref s.heap.objs.size,_,I.laid (a:=s.heap.objs.size) (o:=.dK []) (t':=s.toks) (fun _ _ q=>Heap.get?_push_of_some _ q) (Qq _) (Zc9 s.heap I.big),rfl,h _ (I.hok.fresh (Qq _))⟩
theorem ZcI:PE X (.Dict [] [] pos) tDNewT:=fun pins s σ H Q I h =>
 wpAny_Dict_empty ⟨.ref s.heap.objs.size,_,I.laid (a:=s.heap.objs.size) (o:=.dT []) (t':=s.toks) (fun _ _ q=>Heap.get?_push_of_some _ q) (Qq _) (Zca s.heap I.big),rfl,h _ (I.hok.fresh (Qq _))⟩
end

structure M1(X:Cx)(o:Expr)(m:Str)(apos:Pos)(e:Expr)(cpos:Pos):Prop where
 base:attributeBase o m X.env (eval o X.env)=eval o X.env
 few:((backTo cpos (starEach [e] X.env)).all (fun x=>!x.1) && (backToKw cpos (keywordEach [] X.env)).all (fun x=>x.1.isSome)
  && decide (([e]:List Expr).length + ([]:List Keyword).length + (if ([]:List Keyword).isEmpty then 0 else 1) < 30))=true
 line:(apos.endLine == cpos.line)=true
 trees:backTo cpos (starEach [e] X.env)=[(false,eval e X.env)]
structure M2(X:Cx)(o:Expr)(m:Str)(apos:Pos)(e f:Expr)(cpos:Pos):Prop where
 base:attributeBase o m X.env (eval o X.env)=eval o X.env
 few:((backTo cpos (starEach [e,f] X.env)).all (fun x=>!x.1) && (backToKw cpos (keywordEach [] X.env)).all (fun x=>x.1.isSome)
  && decide (([e,f]:List Expr).length + ([]:List Keyword).length + (if ([]:List Keyword).isEmpty then 0 else 1) < 30))=true
 line:(apos.endLine == cpos.line)=true
 trees:backTo cpos (starEach [e,f] X.env)=[(false,eval e X.env),(false,eval f X.env)]
section
variable {X:Cx}{pins:List (Addr×Obj)}{σ:St}{H:Hp}{s:Shared}{a:Addr}{y d:V}{u r:Value}{o:Option V}{A:Around}{E:Value→Shared→Prop}
end
section
variable {X:Cx}{o e f:Expr}{apos cpos:Pos}{td ty tx:TE}
end

section
variable {X:Cx}{pins:List (Addr×Obj)}{σ:St}{H:Hp}{s:Shared}{a:Addr}{kvs:List (Key×V)}{A:Around}{E:Value→Shared→Prop}
end
section
variable {X:Cx}{pins:List (Addr×Obj)}{σ:St}{H:Hp}{s:Shared}{a:Addr}{y:V}{u:Value}{A:Around}{E:Value→Shared→Prop}
end
end L2
namespace L2
open PySem PySem.Spec PyProof.Rows
section
variable {X:Cx}
theorem ZaX:Z0o X (.builtin "len") (fun xs H Q=>∃ a kvs,xs=[V.ref a]∧H a=some (.dK kvs)∧Q (.int kvs.length) H):=by
 intro pins s σ H xs us Q I r h
 obtain ⟨a,kvs,rfl,ha,q⟩:=h
 obtain ⟨u,rfl,ru⟩:=vals1 r
 cases ru
 exact d_len I (.inl ha) fun t s' I'=>⟨.int kvs.length,H,I',⟨t,rfl⟩,q⟩
end

section
variable {κ:Type}[DecidableEq κ]
theorem Z86:∀ {l:List κ} {k:κ},l.Nodup→¬ k∈l→(l++[k]).Nodup
 | [],k,_,_=>by simp
 | a::r,k,h,hk=>by
  obtain ⟨h1,h2⟩:=Jr.mp h
  show (a::(r++[k])).Nodup
  refine Jr.mpr ⟨fun m=>?_,Z86 h2 fun m=>hk (Qx.mpr (Or.inr m))⟩
  rcases Qf.mp m with q | q
  ·exact h1 q
  ·exact hk (Qx.mpr (Or.inl (Je.mp q).symm))
end
end L2

namespace L2
open PySem PySem.Spec PyProof.Rows
theorem Z5t{prog:Program}{w:World}{A:Around}{R:Result→Shared→Prop}{s:Shared}{elt target iter:Expr}{ifs:List Expr}{scope:Scope}{pos:Pos}{it acc:Value}{env:Env}(I:Nat→Shared→Prop)
  (turn:∀ n s,I n s→wpAny (model prog w) A (pyNext it) (fun r s₁=>match r with
   | none=>R (.ok .next) s₁
   | some v=>wpAny (model prog w) A (letOwnedTupleGo target it v) (fun _ s₀=>wpAny (model prog w) A (assign target env v) (fun _ s₂ =>
     wpAny (model prog w) A (forIn ifs true fun c r=>if r=true then do let ok ← isTrue c env (eval c env);pure (ForInStep.yield ok) else pure (ForInStep.yield r)) (fun ok s₃ =>
      if ok=true then wpAny (model prog w) A (eval elt env) (fun x s₄ =>
       wpAny (model prog w) A (call (.builtin "list.append") [acc,x]) (fun _ s₅=>∃ m,m < n∧I m s₅) (fun _ _=>False) s₄) (fun _ _=>False) s₃
      else ∃ m,m < n∧I m s₃) (fun _ _=>False) s₂) (fun _ _=>False) s₀) (fun _ _=>False) s₁) (fun _ _=>False) s)
  (n:Nat) (h:I n s) :
  codeAny (model prog w) A (.compLoop (.ListComp elt [⟨target,iter,ifs,0⟩] scope pos) 0 it acc env) R s:=by
 refine codeAny_loop rfl I (fun n s hI=>?_) n h
 show wpAny _ A ((compTurn (.ListComp elt [⟨target,iter,ifs,0⟩] scope pos) 0 it acc env).onRaise (fun x=>do noteFrame x env;theTreesLotGoes x)) _ _ s
 refine wpAny_noted ?_
 rw [compTurn_list]
 have no:∀ (M:Model) (e:Value) (s':Shared),False→notedBy M A env (fun e s'=>R (.error e) s') e s':=fun _ _ _ z=>z.elim
 refine wpAny_bind (wpAny_standAt (wpAny_bind (wpAny_mono (turn n s hI) (fun r s₁ h₁=>?_) (fun _ _ z=>z.elim))))
 cases r with
 | none=>exact wpAny_pure h₁
 | some v =>
  refine wpAny_bind (wpAny_mono h₁ (fun _ s₀ h₀=>?_) (fun _ _ z=>z.elim))
  refine wpAny_bind (wpAny_mono h₀ (fun _ s₂ h₂=>wpAny_bind (wpAny_mono h₂ (fun ok s₃ h₃=>?_) (fun _ _ z=>z.elim))) (fun _ _ z=>z.elim))
  cases ok with
  | false=>exact wpAny_pure ⟨rfl,h₃⟩
  | true =>
   exact wpAny_bind (wpAny_bind (wpAny_mono h₃ (fun x s₄ h₄=>wpAny_bind (wpAny_mono h₄ (fun _ s₅ h₅=>wpAny_pure (wpAny_pure ⟨rfl,h₅⟩)) (fun _ _ z=>z.elim))) (fun _ _ z=>z.elim)))
theorem Z4b{env:Env}:∀ {names:List (Str×NameKind)} (cs0:List (Str×Addr)),(∀ p∈names,p.2=.free→∃ c,env.cells.lookup p.1=some c) →
  (∀ n c,cs0.lookup n=some c→env.cells.lookup n=some c) →
  ∃ cl:List (Str×Addr),(forIn names cs0 fun (x:Str×NameKind) (cs:List (Str×Addr))=>(if (x.2 == NameKind.free)=true then (do let a ← cellOf env x.1;pure (ForInStep.yield ((x.1,a)::cs))) else pure (ForInStep.yield cs):Sem (ForInStep (List (Str×Addr)))))=pure cl ∧
   (∀ n c,cl.lookup n=some c→env.cells.lookup n=some c)∧(∀ n,(n∈cs0.map (·.1)∨(n,NameKind.free)∈names)→∃ c,cl.lookup n=some c)
 | [],cs0,_,h2=>⟨cs0,rfl,h2,fun n hn=>by
   rcases hn with hn | hn
   ·have:(cs0.lookup n).isSome=true:=by
     clear h2
     induction cs0 with
     | nil=>simp at hn
     | cons p r ih =>
      obtain ⟨a,b⟩:=p
      rw [Jm]
      cases e:n == a with
      | true=>rfl
      | false =>
       have:n≠a:=by intro z;subst z;simp at e
       refine ih ?_
       simpa [this] using hn
    exact Option.isSome_iff_exists.mp this
   ·cases hn⟩
 | (n,k)::r,cs0,h1,h2=>by
  rw [List.forIn_cons]
  by_cases hk:k=.free
  ·subst hk
   obtain ⟨c,hc⟩:=h1 (n,.free) Qy rfl
   have e1:cellOf env n=pure c:=by unfold cellOf;rw [hc]
   have h2':∀ m d,((n,c)::cs0).lookup m=some d→env.cells.lookup m=some d:=fun m d e=>by
    rw [Jm] at e
    cases q:m == n with
    | true =>
     rw [q] at e
     have:m=n:=by simpa using q
     subst this
     rw [hc];exact e
    | false=>rw [q] at e;exact h2 m d e
   obtain ⟨cl,e,q1,q2⟩:=Z4b (names:=r) ((n,c)::cs0) (fun p hp=>h1 p (Qt _ hp)) h2'
   refine ⟨cl,?_,q1,fun m hm=>q2 m ?_⟩
   ·rw [if_pos (by rfl),e1]
    exact e
   ·rcases hm with hm | hm
    ·exact .inl (Qt _ hm)
    ·rcases Qx.mp hm with z | z
     ·cases z;exact .inl Qy
     ·exact .inr z
  ·obtain ⟨cl,e,q1,q2⟩:=Z4b (names:=r) cs0 (fun p hp=>h1 p (Qt _ hp)) h2
   refine ⟨cl,?_,q1,fun m hm=>q2 m ?_⟩
   ·rw [if_neg (by simpa using hk)]
    exact e
   ·rcases hm with hm | hm
    ·exact .inl hm
    ·rcases Qx.mp hm with z | z
     ·cases z;exact absurd rfl hk
     ·exact .inr z
theorem Z4l{env:Env}{scope:Scope}(h:∀ p∈scope.names,p.2=.free→∃ c,env.cells.lookup p.1=some c) :
  ∃ cl:List (Str×Addr),closureFor scope env=pure cl∧(∀ n c,cl.lookup n=some c→env.cells.lookup n=some c)∧∀ n,(n,NameKind.free)∈scope.names→∃ c,cl.lookup n=some c:=by
 obtain ⟨cl,e,q1,q2⟩:=Z4b (env:=env) (names:=scope.names) [] h (fun n c e=>by simp at e)
 refine ⟨cl,?_,q1,fun n hn=>q2 n (.inr hn)⟩
 unfold closureFor
 simp only []
 refine Eq.trans ?_ (congrArg (fun m=>m >>= fun r=>pure r) e)
 rfl
noncomputable def cxC(X:Cx)(N:List Str)(scope:Scope)(cl:List (Str×Addr))(C:Addr)(s:Shared)(H:Hp)(fp:List Addr):Cx where
 prog:=X.prog
 w:=X.w
 K:=X.K
 mg:=X.mg
 base:=X.base
 A:=X.A
 N:=N
 s₀:=s
 H₀:=H
 env:=compEnvC scope cl C X.env
 outer:=X.stack
 stack:=X.stack
 ex:=fp
 fn:=fun _=>false
 calm:=X.calm
 pn:=X.pn
 xe:=fun _ _=>False
structure CompSc(X:Cx)(t:Nat)(N:List Str)(scope:Scope):Prop where
 kind:scope.kind=.function
 nocell:∀ y∈scope.names,y.2≠.cell
 names:∀ y∈scope.names,y.2=.local→scope.names.lookup y.1=some .local
 free:∀ y∈scope.names,y.2=.free→X.env.scope.names.lookup y.1=some .cell∨X.env.scope.names.lookup y.1=some .free
 len:N.length=X.N.length + t
 rest:∀ p∈(N.drop t).zip X.N,p.1=p.2∨scope.names.lookup p.1=none
 own:∀ y∈X.N,scope.names.lookup y≠some .local∨y∉N.drop t
theorem Z0b{scope:Scope}{env:Env}{x:Str}{k:NameKind}:(relabel scope env).names.lookup x=some k→∃ k0,scope.names.lookup x=some k0∧(k=k0∨(k0=.free∧k=.cell)):=by
 show (scope.names.map _).lookup x=some k→_
 induction scope.names with
 | nil=>intro h;simp at h
 | cons p r ih =>
  obtain ⟨n,kk⟩:=p
  intro h
  simp only [Qi] at h
  by_cases hx:x=n
  ·subst hx
   by_cases hc:(kk == NameKind.free && env.scope.kind == .function && env.kindOf x == some .cell)=true
   ·rw [if_pos hc] at h
    rw [Jm,beq_self_eq_true] at h
    refine ⟨kk,by rw [Jm,beq_self_eq_true],.inr ⟨?_,(Option.some.inj h).symm⟩⟩
    simp only [Qw,beq_iff_eq] at hc
    exact hc.1.1
   ·rw [if_neg hc] at h
    rw [Jm,beq_self_eq_true] at h
    exact ⟨kk,by rw [Jm,beq_self_eq_true],.inl (Option.some.inj h).symm⟩
  ·have hb:(x == n)=false:=by simpa using hx
   have h':(r.map fun (x:Str×NameKind)=>match x with | (n,k)=>if (k == NameKind.free && env.scope.kind == .function && env.kindOf n == some .cell)=true then (n,NameKind.cell) else (n,k)).lookup x=some k:=by
    by_cases hc:(kk == NameKind.free && env.scope.kind == .function && env.kindOf n == some .cell)=true
    ·rw [if_pos hc,Jm,hb] at h;exact h
    ·rw [if_neg hc,Jm,hb] at h;exact h
   obtain ⟨k0,q1,q2⟩:=ih h'
   exact ⟨k0,by rw [Jm,hb];exact q1,q2⟩
section
variable {X:Cx}{pins:List (Addr×Obj)}{σ:St}{H:Hp}{s:Shared}
theorem Zd4{t:Nat}{N:List Str}{scope:Scope}{cl:List (Str×Addr)}{C:Addr}{fp:List Addr}(I:Inv X pins σ H s)(S:CompSc X t N scope)(hC:s.heap.objs.size≤C)(hfp:∀ b∈fp,FpOk X pins H b∧b < s.heap.objs.size)
  (q1:∀ n c,cl.lookup n=some c→X.env.cells.lookup n=some c) (q2:∀ n,(n,NameKind.free)∈scope.names→∃ c,cl.lookup n=some c):(cxC X N scope cl C s H fp).Ok where
 mod:=I.ok.mod
 kind:=S.kind
 glob:=I.ok.glob
 blt:=I.ok.blt
 above:=hC
 inj:=fun x y c h1 h2=>I.ok.inj x y c (q1 x c h1) (q1 y c h2)
 has:=fun x hx=>by
  have hx:(relabel scope X.env).names.lookup x=some .cell∨(relabel scope X.env).names.lookup x=some .free:=hx
  rcases hx with hx | hx
  ·obtain ⟨k0,e,z⟩:=Z0b hx
   rcases z with z | ⟨z,_⟩
   ·subst z;exact absurd rfl (S.nocell _ (PySem.mem_of_lookup e))
   ·subst z;exact q2 x (PySem.mem_of_lookup e)
  ·obtain ⟨k0,e,z⟩:=Z0b hx
   rcases z with z | ⟨z,z'⟩
   ·subst z;exact q2 x (PySem.mem_of_lookup e)
   ·cases z'
 cab:=fun x c h _=>by cases h
 hd:=I.ok.hd
 frames:=I.ok.frames
 stk:=.inl rfl
 exf:=fun b hb=>⟨Jb (Qv (hfp b hb).2 hC),fun x c e=>(hfp b hb).1.2.2.2.2.1 x c (q1 x c e)⟩
 bs:=I.bs
 bsz:=Jc I.ok.bsz I.sz
 noex:=fun b o e hb=>by
  obtain ⟨_,_,_,h,_⟩:=(hfp b hb).1
  rcases h with h | h
  ·exact I.ok.noex b o e h
  ·exact absurd (Qv (Heap.lt_size e) (Jc I.ok.bsz h)) (Jo _)
 exfs:=fun b hb z=>by
  obtain ⟨_,h1,h2,_⟩:=(hfp b hb).1
  rcases Qx.mp (I.stkSub b z) with e | e
  ·exact h1 e
  ·exact h2 e
 funs:=I.stack
 frf:=I.stkFree
theorem Z6R{t:Nat}{N:List Str}{scope:Scope}{cl:List (Str×Addr)}{C:Addr}{fp:List Addr}{h1:Heap}{tk:Nat}{D:Addr}(I:Inv X pins σ H s)(S:CompSc X t N scope)(hC:s.heap.objs.size≤C)(hD:s.heap.objs.size≤D)(hDC:D≠C)(hfp:∀ b∈fp,FpOk X pins H b∧b < s.heap.objs.size)
  (q1:∀ n c,cl.lookup n=some c→X.env.cells.lookup n=some c) (q2:∀ n,(n,NameKind.free)∈scope.names→∃ c,cl.lookup n=some c)
  (hn:h1.Ns C fun _=>none) (hk:∀ b o,s.heap.get? b=some o→h1.get? b=some o) (hd:h1.get? D=some { cls:=.type "list",data:=.seq ([]:List Value).toArray }) :
  Inv (cxC X N scope cl C s H fp) pins (List.replicate t none++σ) (upd H D (.lst [])) { s with heap:=h1,toks:=tk }:=by
 have lt:∀ b o,s.heap.get? b=some o→b < s.heap.objs.size:=fun b o e=>Heap.lt_size e
 have fC:H C=none:=I.hok.fresh hC
 have fD:H D=none:=I.hok.fresh hD
 refine ⟨Zd4 I S hC hfp q1 q2,rfl,I.bare,Un.laid hk hD fD,⟨_,hn,fun i x v e1 e2 e3=>?_⟩,fun x c e=>?_,?_,fun x c e=>?_,fun p hp=>?_,I.hok.laid hk hD ⟨by simp,[],0,.nil,hd⟩,?_⟩
 ·
  have hi:t≤i:=by
   by_cases z:t≤i
   ·exact z
   ·rw [Qk (by simpa using z),Ng] at e2
    split at e2 <;> cases e2
  obtain ⟨j,rfl⟩:∃ j,i=t + j:=⟨i - t,by omega⟩
  rw [Qu (by simp)] at e2
  simp only [Wd,Nat.add_sub_cancel_left] at e2
  have e1:N[t + j]?=some x:=e1
  have hN:(N.drop t)[j]?=some x:=by rw [List.getElem?_drop];exact e1
  have hj:j < X.N.length:=by rw [← I.len];exact (Qe.mp e2).1
  obtain ⟨y,hy⟩:∃ y,X.N[j]?=some y:=⟨_,Qj hj⟩
  have hm:(x,y)∈(N.drop t).zip X.N:=by
   have:((N.drop t).zip X.N)[j]?=some (x,y):=by rw [List.getElem?_zip_eq_some];exact ⟨hN,hy⟩
   exact Qg this
  have vis:∃ k0,scope.names.lookup x=some k0:=by
   rcases e3 with e3 | e3 | e3
   ·obtain ⟨k0,e,_⟩:=Z0b (scope:=scope) (env:=X.env) e3;exact ⟨k0,e⟩
   ·obtain ⟨k0,e,_⟩:=Z0b (scope:=scope) (env:=X.env) e3;exact ⟨k0,e⟩
   ·obtain ⟨k0,e,_⟩:=Z0b (scope:=scope) (env:=X.env) e3;exact ⟨k0,e⟩
  obtain ⟨k0,hk0⟩:=vis
  have exy:x=y:=by
   rcases S.rest _ hm with z | z
   ·exact z
   ·rw [hk0] at z;cases z
  subst exy
  have hfree:k0=.free:=by
   rcases S.own x (Qg hy) with z | z
   ·
    rcases e3 with e3 | e3 | e3
    ·obtain ⟨k1,e,w⟩:=Z0b (scope:=scope) (env:=X.env) e3
     rw [hk0] at e;cases e
     rcases w with w | ⟨_,w⟩
     ·subst w;exact absurd hk0 z
     ·cases w
    ·obtain ⟨k1,e,w⟩:=Z0b (scope:=scope) (env:=X.env) e3
     rw [hk0] at e;cases e
     rcases w with w | ⟨w,_⟩
     ·subst w;exact absurd rfl (S.nocell _ (PySem.mem_of_lookup hk0))
     ·exact w
    ·obtain ⟨k1,e,w⟩:=Z0b (scope:=scope) (env:=X.env) e3
     rw [hk0] at e;cases e
     rcases w with w | ⟨_,w⟩
     ·exact w.symm
     ·cases w
   ·exact absurd (Qg hN) z
  subst hfree
  obtain ⟨c,hc⟩:=q2 x (PySem.mem_of_lookup hk0)
  have hcX:=q1 x c hc
  obtain ⟨m,_,hl⟩:=I.loc
  have vX:Vis X.env.scope x:=by
   rcases S.free _ (PySem.mem_of_lookup hk0) rfl with z | z
   ·exact .inr (.inl z)
   ·exact .inr (.inr z)
  obtain ⟨u,r,l⟩:=hl j x v hy e2 vX
  refine ⟨u,r,.inr ⟨?_,c,hc,?_⟩⟩
  ·rcases e3 with e3 | e3 | e3
   ·obtain ⟨k1,e,w⟩:=Z0b (scope:=scope) (env:=X.env) e3
    rw [hk0] at e;cases e
    rcases w with w | ⟨_,w⟩ <;> cases w
   ·exact .inl e3
   ·exact .inr e3
  ·rcases l with ⟨k,_⟩ | ⟨_,c',hc',z⟩
   ·rcases S.free _ (PySem.mem_of_lookup hk0) rfl with z | z
    ·have k':X.env.scope.names.lookup x=some .local:=k
     rw [show X.env.scope.names.lookup x=some .cell from z] at k';cases k'
    ·have k':X.env.scope.names.lookup x=some .local:=k
     rw [show X.env.scope.names.lookup x=some .free from z] at k';cases k'
   ·rw [hcX] at hc';cases hc'
    obtain ⟨o,ho,hd⟩:=z
    exact ⟨o,hk _ _ ho,hd⟩
 ·obtain ⟨v,o,ho,hd⟩:=I.cell x c (q1 x c e)
  exact ⟨v,o,hk _ _ ho,hd⟩
 ·show upd H D (.lst []) C=none
  rw [Zb (Ne.symm hDC)];exact fC
 ·obtain ⟨v,o,ho,_⟩:=I.cell x c (q1 x c e)
  rw [Zb (Jb (Qv (lt _ _ ho) hD))]
  exact I.freeC x c (q1 x c e)
 ·obtain ⟨e,n,ne,nf,d⟩:=I.pin p hp
  refine ⟨hk _ _ e,?_,Jb (Qv (lt _ _ e) hC),fun z=>?_,d⟩
  ·rw [Zb (Jb (Qv (lt _ _ e) hD))];exact n
  ·rcases Qx.mp (I.stkSub p.1 z) with w | w
   ·exact ne w
   ·exact nf w
 ·show (List.replicate t none++σ).length=N.length
  rw [Jh,Wd,S.len,I.len];omega
theorem Z97{t:Nat}{N:List Str}{scope:Scope}{cl:List (Str×Addr)}{C:Addr}{fp:List Addr}{s':Shared}{H':Hp}{σ':St}(I:Inv X pins σ H s)(hC:s.heap.objs.size≤C)(hfp:∀ b∈fp,FpOk X pins H b∧b < s.heap.objs.size)
  (J:Inv (cxC X N scope cl C s H fp) pins σ' H' s'):Inv X pins σ H' s' :=
 I.call' (ch:=fp) J.os J.base J.hok J.bare fun b hb=>by
  obtain ⟨_,h1,h2,h3,h4,h5⟩:=(hfp b hb).1
  exact ⟨h3,h1,h4,h5⟩
theorem Z98{C:Addr}{h':Heap}{s0 s':Shared}{H0:Hp}{σ0:St}(I0:Inv X pins σ0 H0 s0)(hC:s0.heap.objs.size≤C)(J:Inv X pins σ H s')(hn:H C=none)(hs:Heap.SameBut C s'.heap h'):Inv X pins σ H { s' with heap:=h' }:=by
 obtain ⟨f0,f1,f2,f3,f4,f5⟩:=I0.fpOk hC (I0.hok.fresh hC)
 exact J.turned (t':=s'.toks) (fun b o hb e=>(hs.2 b hb).trans e) hn f1 f3 f4 f5
end
section
variable {X:Cx}
noncomputable def PF(X:Cx)(ifs:List Expr)(t:TT):Prop :=
 ∀ (pins:List (Addr×Obj)) (s:Shared) (σ:St) (H:Hp) (Q:Bool→Hp→Prop),Inv X pins σ H s→t σ H Q →
  wpAny (model X.prog X.w) X.A (forIn ifs true fun c r=>if r=true then do let ok ← isTrue c X.env (eval c X.env);pure (ForInStep.yield ok) else pure (ForInStep.yield r)) (TP X pins σ Q) X.xe s
noncomputable def tYes:TT:=fun _ H Q=>Q true H
theorem Z9z:PF X [] tYes:=fun _ _ _ H _ I h=>wpAny_tests_nil ⟨H,I,h⟩
theorem Zfg{c:Expr}{t:TT}(h:PT X c t):PF X [c] t:=fun pins s σ H Q I q=>wpAny_tests_one (h pins s σ H Q I q)
noncomputable def Z31(J:It)(t:Nat)(g:TG)(tt:TT)(te:TE)(σ:St)(H1:Hp)(Q:VK):Prop:=∀ D,H1 D=none→∃ W:Nat→Nat→List V→St→Hp→Prop,(∃ m,W 0 m [] (List.replicate t none++σ) (upd H1 D (.lst [])))∧∀ i m ys τ H,W i m ys τ H →
 (J.stop i H∧Q (.ref D) H)∨(J.go i H∧∃ N:List V→St→Hp→Prop,(∀ zs τ' H',N zs τ' H'→∃ m',m' < m∧W (i + 1) m' zs τ' H')∧∀ x H',J.yld i H x H'→g x τ H' fun τ2 H2=>tt τ2 H2 fun b H3 =>
  if b=true then te τ2 H3 fun y H4=>H4 D=some (.lst ys)∧ys.length < sizeLine∧N (ys++[y]) τ2 (upd H4 D (.lst (ys++[y]))) else N ys τ2 H3)
noncomputable def tComp(t:Nat)(wi:TI)(g:TG)(tt:TT)(te:TE):TE:=fun σ H Q=>wi σ H fun J H1=>Z31 J t g tt te σ H1 Q
theorem ZaE{t:Nat}{N:List Str}{scope:Scope}{tg iter elt:Expr}{ifs:List Expr}{cl:List (Str×Addr)}{pos:Pos}{g:TG}{tt:TT}{te:TE}{pins:List (Addr×Obj)}{σ:St}{H1:Hp}{s2:Shared}{E:Value→Shared→Prop}
  {it:Addr} {fp:List Addr} {tn:Nat→Heap→Prop} {J:It} {Q:VK} {RR:Value→Addr→Result→Shared→Prop}
  (hc:X.calm=true) (S:CompSc X t N scope) (q1:∀ n c,cl.lookup n=some c→X.env.cells.lookup n=some c) (q2:∀ n,(n,NameKind.free)∈scope.names→∃ c,cl.lookup n=some c)
  (hg:∀ C s H fp,PG (cxC X N scope cl C s H fp) tg g) (hf:∀ C s H fp,PF (cxC X N scope cl C s H fp) ifs tt) (he:∀ C s H fp,PE (cxC X N scope cl C s H fp) elt te)
  (I:Inv X pins σ H1 s2) (T:Turn X.prog X.w X.K tg J fp it tn) (st:tn 0 s2.heap) (f2:∀ b∈fp,FpOk X pins H1 b)
  (h:∀ D,H1 D=none→∃ W:Nat→Nat→List V→St→Hp→Prop,(∃ m,W 0 m [] (List.replicate t none++σ) (upd H1 D (.lst [])))∧∀ i m ys τ H,W i m ys τ H →
   (J.stop i H∧Q (.ref D) H)∨(J.go i H∧∃ N:List V→St→Hp→Prop,(∀ zs τ' H',N zs τ' H'→∃ m',m' < m∧W (i + 1) m' zs τ' H')∧∀ x H',J.yld i H x H'→g x τ H' fun τ2 H2=>tt τ2 H2 fun b H3 =>
    if b=true then te τ2 H3 fun y H4=>H4 D=some (.lst ys)∧ys.length < sizeLine∧N (ys++[y]) τ2 (upd H4 D (.lst (ys++[y]))) else N ys τ2 H3))
  (hR:∀ D C s' H',s2.heap.objs.size≤C→D≠C→Inv X pins σ H' s'→H' C=none→(∃ m,s'.heap.Ns C m)→Q (.ref D) H'→RR (.ref D) C (.ok .next) s') :
  wpAny (model X.prog X.w) X.A (newList []) (fun acc s₃=>wpAny (model X.prog X.w) X.A (newFunctionEnv scope X.env.globals cl [] X.env.qual none .none (some X.env)) (fun cenv s₄ =>
   codeAny (model X.prog X.w) X.A (.compStart (.ListComp elt [⟨tg,iter,ifs,0⟩] scope pos) 0 (.ref it) acc { cenv with scope:=relabel scope X.env }) (RR acc cenv.locals) s₄) E s₃) E s2:=by
 refine wpAny_newObj_type (wpAny_newFunctionEnv S.nocell (by intro y hy;simp at hy) (fun h₁ hns₁ hsb₁=>?_) S.kind)
 dsimp only at hns₁ hsb₁ ⊢
 generalize hH2:s2.heap.push { cls:=.type "list",dict:=none,data:=.seq ([]:List Value).toArray }=H2 at hns₁ hsb₁ ⊢
 have hCs:H2.objs.size=s2.heap.objs.size + 1:=by rw [← hH2,Heap.size_push]
 have hDC:s2.heap.objs.size≠H2.objs.size:=by rw [hCs];exact Jb (Wk _)
 have hCle:s2.heap.objs.size≤H2.objs.size:=by rw [hCs];exact Gy _
 have old:∀ b o,s2.heap.get? b=some o→h₁.get? b=some o:=fun b o e =>
  hsb₁.extBut b o (by rw [hCs];exact Jb (Wa (Heap.lt_size e))) (Heap.get?_push_of_some _ (hH2 ▸ Heap.get?_push_of_some _ e))
 have hacc:h₁.get? s2.heap.objs.size=some { cls:=.type "list",data:=.seq ([]:List Value).toArray }:=hsb₁.extBut _ _ hDC (Heap.get?_push_of_some _ (hH2 ▸ Heap.get?_push_size _ rfl))
 have hfp:∀ b∈fp,FpOk X pins H1 b∧b < s2.heap.objs.size:=fun b hb=>⟨f2 b hb,by obtain ⟨o,e,_⟩:=T.obj _ _ st b hb;exact Heap.lt_size e⟩
 have hns:h₁.Ns H2.objs.size fun _=>none:=hns₁
 have I4:=Z6R (tk:=s2.toks + ([]:List (Str×Value)).length) I S hCle (Qq _) hDC hfp q1 q2 hns old hacc
 have st1:tn 0 h₁:=T.keep _ _ _ st fun b _ o e=>old b o e
 obtain ⟨W,⟨m0,w0⟩,turn⟩:=h s2.heap.objs.size (I.hok.fresh (Qq _))
 generalize hY:cxC X N scope cl H2.objs.size s2 H1 fp=Y at I4
 have yfp:∀ {H':Hp},(∀ b∈fp,H' b=none)→∀ b∈fp,FpOk Y pins H' b:=fun hn b hb=>by
  obtain ⟨⟨_,g1,g2,g3,g4,g5⟩,gl⟩:=hfp b hb
  subst hY
  refine ⟨hn b hb,Jb (Qv gl hCle),fun z=>?_,.inl hb,fun x c e=>g4 x c (q1 x c e),g5⟩
  rcases Qx.mp (I.stkSub b z) with w | w
  ·exact g1 w
  ·exact g2 w
 have eP:Y.prog=X.prog:=by subst hY;rfl
 have ew:Y.w=X.w:=by subst hY;rfl
 have eK:Y.K=X.K:=by subst hY;rfl
 have eA:Y.A=X.A:=by subst hY;rfl
 have ecalm:Y.calm=true:=by subst hY;exact hc
 have loop:codeAny (model X.prog X.w) X.A (.compLoop (.ListComp elt [⟨tg,iter,ifs,0⟩] scope pos) 0 (.ref it) (.ref s2.heap.objs.size) (compEnvC scope cl H2.objs.size X.env))
    (RR (.ref s2.heap.objs.size) H2.objs.size) { s2 with heap:=h₁,toks:=s2.toks + ([]:List (Str×Value)).length }:=by
  refine Z5t (fun n s'=>∃ i ys τ H',Inv Y pins τ H' s'∧tn i s'.heap∧(∀ b∈fp,H' b=none)∧W i n ys τ H') ?_ m0 ⟨0,[],_,_,I4,st1,fun b hb=>?_,w0⟩
  ·rintro n s3 ⟨i,ys,τ,H3,I3,st3,fr3,w3⟩
   rcases turn i n ys τ H3 w3 with ⟨stop,qn⟩ | ⟨go,NN,hNN,step⟩
   ·have d:=T.done Y eP ew eK ecalm i pins s3 τ H3 (fun _ _=>False) I3 (yfp fr3) st3 stop
    rw [eA] at d
    refine thn d fun r s4 ⟨hr,I5⟩=>?_
    subst hr
    subst hY
    have J5:=Z97 (t:=t) I hCle hfp I5
    obtain ⟨m,hn,_⟩:=I5.loc
    exact hR _ _ s4 H3 hCle hDC J5 I5.free ⟨m,hn⟩ qn
   ·have d:=T.item Y eP ew eK ecalm i pins s3 τ H3 (fun _ _=>False) I3 (yfp fr3) st3 go
    rw [eA] at d
    refine thn d fun r s4 ⟨u,hr,h4⟩=>?_
    subst hr
    refine thn h4 fun _ s5 ⟨x,H5,I5,r5,y5,st5,fr5⟩=>?_
    have I5':=I5.pinned (yfp fr5) (T.obj _ _ st5)
    subst hY
    refine thn (hg _ _ _ _ _ s5 τ H5 x u _ I5' r5 (step x H5 y5)) fun _ s6 ⟨τ6,H6,I6,q6⟩=>?_
    refine thn (hf _ _ _ _ _ s6 τ6 H6 _ I6 q6) fun b s7 ⟨H7,I7,q7⟩=>?_
    have again:∀ {zs:List V} {σ7:St} {H7:Hp} {s7:Shared},Inv (cxC X N scope cl H2.objs.size s2 H1 fp) (pins++Z4v fp s5.heap) σ7 H7 s7→(∃ m',m' < n∧W (i + 1) m' zs σ7 H7) →
      ∃ m,m < n∧∃ i ys τ H',Inv (cxC X N scope cl H2.objs.size s2 H1 fp) pins τ H' s7∧tn i s7.heap∧(∀ b∈fp,H' b=none)∧W i m ys τ H':=fun {zs σ7 H7 s7} I7 ⟨m',hm,w7⟩=>by
     refine ⟨m',hm,i + 1,zs,σ7,H7,I7.unpinned,T.keep _ _ _ st5 fun b hb o e=>(I7.pin (b,o) (Qd _ (Qd _ (Z1Z hb e)))).1,fun b hb=>?_,w7⟩
     obtain ⟨o,e,d⟩:=T.obj _ _ st5 b hb
     exact (I7.pin (b,o) (Qd _ (Qd _ (Z1Z hb e)))).2.1
    cases b with
    | false=>exact again I7 (hNN _ _ _ q7)
    | true =>
     have q7':=q7
     rw [if_pos rfl] at q7' ⊢
     refine thn (he _ _ _ _ _ s7 τ6 H7 _ I7 q7') fun v s8 ⟨y,H8,I8,r8,hl,hz,q8⟩=>?_
     refine thn (Z5A (X:=cxC X N scope cl H2.objs.size s2 H1 fp) _ s8 τ6 H8 (.ref s2.heap.objs.size) [y] (.ref s2.heap.objs.size) [v] (fun _ H9=>NN (ys++[y]) τ6 H9) I8 rfl (.cons r8 .nil) ⟨_,ys,y,rfl,rfl,hl,hz,q8⟩) fun _ s9 ⟨_,H9,I9,_,q9⟩=>?_
     exact again I9 (hNN _ _ _ q9)
  ·have z:=(hfp b hb).2
   rw [Zb (Jb z)]
   exact (f2 b hb).1
 exact codeAny_compStart_list loop (T.self _ 0 _ _ _ st1 loop)
theorem Z8e{t:Nat}{N:List Str}{scope:Scope}{tg iter elt:Expr}{ifs:List Expr}{pos:Pos}{wi:TI}{g:TG}{tt:TT}{te:TE}(hc:X.calm=true)(hi:PI X tg iter wi)(S:CompSc X t N scope)
  (hg:∀ cl C s H fp,PG (cxC X N scope cl C s H fp) tg g) (hf:∀ cl C s H fp,PF (cxC X N scope cl C s H fp) ifs tt) (he:∀ cl C s H fp,PE (cxC X N scope cl C s H fp) elt te)
  (hs:∀ x,foldedSetIterable iter X.env x=pure x:=by intro _;rfl):PE X (.ListComp elt [⟨tg,iter,ifs,0⟩] scope pos) (tComp t wi g tt te):=by
 intro pins s σ H Q I h
 obtain ⟨cl,e,q1,q2⟩:=Z4l (env:=X.env) (scope:=scope) fun p hp hk=>I.ok.has p.1 (S.free p hp hk)
 rw [eval_ListComp]
 refine wpAny_comprehension_free (use:=none) rfl hs e S.kind S.names (thn (hi pins s σ H _ I h) fun v s1 h1=>thn h1 fun itv s2 h2=>?_)
 obtain ⟨it,fp,tn,J,H2,e2,I2,T,st2,f2,hW⟩:=h2
 subst e2
 refine ZaE (Q:=Q) (RR:=fun acc C=>compPost (model X.prog X.w) X.A X.xe none (EP X pins σ Q) acc C) hc S q1 q2 (hg cl) (hf cl) (he cl) I2 T st2 f2 hW ?_
 intro D C s' H' hC hDC J1 hn hm q
 obtain ⟨m,hm⟩:=hm
 exact ⟨m,hm,fun h' hs'=>⟨.ref D,H',Z98 I2 hC J1 hn hs',rfl,q⟩⟩
end
end L2
namespace L2
open PySem PySem.Spec PyProof.Rows

noncomputable def Its(x:Str):It:=⟨fun i _=>i < x.cps.size,fun i H v H'=>H'=H∧∃ c,x.cps[i]?=some c∧v=.str ⟨#[c]⟩,fun i _=>x.cps.size≤i⟩
theorem ZaS{P:Program}{w:World}{K:Qa}{tg:Expr}(it:Addr)(y:Str)(t:Tok):Turn P w K tg (Its y) [it] it (fun i h=>h.IsStrIter it "str_ascii_iterator" y t i) where
 mem:=by simp
 obj:=fun i h st b hb=>by
  have e:b=it:=by simpa using hb
  subst e
  obtain ⟨o,e,c,d⟩:=st
  exact ⟨o,e,fun v z=>by rw [d] at z;cases z⟩
 keep:=fun i h h' st k=>by
  obtain ⟨o,e,r⟩:=st
  exact ⟨o,k it (by simp) o e,r⟩
 item:=by
  intro X hP hw hK hc i pins s σ H E I hf st hg
  subst hP hw hK
  obtain ⟨f0,f1,f2,f3,f4,f5⟩:=hf it (by simp)
  have hg:i < y.cps.size:=hg
  refine wpAny_pyNext_ascii_item st (c:=y.cps[i]) (by simp [hg]) fun h' st' sb=>?_
  have I1:Inv X pins σ H { s with heap:=h',toks:=s.toks + 1 }:=I.turned (fun b o hb e=>(sb.2 b hb).trans e) f0 f1 f3 f4 f5
  obtain ⟨o,e,c,d⟩:=id st'
  exact ⟨_,rfl,go_of (s:={ s with heap:=h',toks:=s.toks + 1 }) e c d (by decide) ⟨.str ⟨#[y.cps[i]]⟩,H,I1,⟨_,rfl⟩,⟨rfl,_,by simp [hg],rfl⟩,st',fun b hb=>(hf b hb).1⟩⟩
 done:=by
  intro X hP hw hK hc i pins s σ H E I hf st hg
  subst hP hw hK
  obtain ⟨f0,f1,f2,f3,f4,f5⟩:=hf it (by simp)
  have hg:y.cps.size≤i:=hg
  exact wpAny_pyNext_ascii_end (I.ok.hd hc) st (by simp [hg]) fun h' eb=>⟨rfl,I.turned (t':=s.toks) (fun b o hb e=>eb b o hb e) f0 f1 f3 f4 f5⟩
 self:=fun _ _ _ _ _ st h=>wpAny_pyIter_striter_ascii st h
theorem ZbQ{P:Program}{w:World}{K:Qa}{tg:Expr}(it:Addr)(y:Str)(t:Tok):Turn P w K tg (Its y) [it] it (fun i h=>h.IsStrIter it "str_iterator" y t i) where
 mem:=by simp
 obj:=fun i h st b hb=>by
  have e:b=it:=by simpa using hb
  subst e
  obtain ⟨o,e,c,d⟩:=st
  exact ⟨o,e,fun v z=>by rw [d] at z;cases z⟩
 keep:=fun i h h' st k=>by
  obtain ⟨o,e,r⟩:=st
  exact ⟨o,k it (by simp) o e,r⟩
 item:=by
  intro X hP hw hK hc i pins s σ H E I hf st hg
  subst hP hw hK
  obtain ⟨f0,f1,f2,f3,f4,f5⟩:=hf it (by simp)
  have hg:i < y.cps.size:=hg
  refine wpAny_pyNext_wide_item st (c:=y.cps[i]) (by simp [hg]) fun h' st' sb=>?_
  have I1:Inv X pins σ H { s with heap:=h',toks:=s.toks + 1 }:=I.turned (fun b o hb e=>(sb.2 b hb).trans e) f0 f1 f3 f4 f5
  obtain ⟨o,e,c,d⟩:=id st'
  exact ⟨_,rfl,go_of (s:={ s with heap:=h',toks:=s.toks + 1 }) e c d (by decide) ⟨.str ⟨#[y.cps[i]]⟩,H,I1,⟨_,rfl⟩,⟨rfl,_,by simp [hg],rfl⟩,st',fun b hb=>(hf b hb).1⟩⟩
 done:=by
  intro X hP hw hK hc i pins s σ H E I hf st hg
  subst hP hw hK
  obtain ⟨f0,f1,f2,f3,f4,f5⟩:=hf it (by simp)
  have hg:y.cps.size≤i:=hg
  exact wpAny_pyNext_wide_end (I.ok.hd hc) st (by simp [hg]) fun h' eb=>⟨rfl,I.turned (t':=s.toks) (fun b o hb e=>eb b o hb e) f0 f1 f3 f4 f5⟩
 self:=fun _ _ _ _ _ st h=>wpAny_pyIter_striter_wide st h
section
variable {X:Cx}{tg:Expr}
noncomputable def iStr(tl:TE):TI:=fun σ H R=>tl σ H fun x H1=>∃ y,x=.str y∧R (Its y) H1
theorem Zfj{l:Expr}{tl:TE}(hl:PE X l tl):PI X tg l (iStr tl):=by
 intro pins s σ H R I h
 refine thn (hl pins s σ H _ I h) fun v s1 ⟨x,H1,I1,r1,q1⟩=>?_
 obtain ⟨y,e,q⟩:=q1
 subst e
 obtain ⟨t,rfl⟩:=r1
 have fin:∀ b∈[s1.heap.objs.size],FpOk X pins H1 b:=fun b hb=>by
  have e:b=s1.heap.objs.size:=by simpa using hb
  subst e
  exact I1.fpOk (Qq _) (I1.hok.fresh (Qq _))
 cases ha:y.cps.all (· < 128) with
 | true =>
  refine wpAny_pyIter_ascii ha ?_
  exact ⟨s1.heap.objs.size,[s1.heap.objs.size],_,_,H1,rfl,I1.kept (t':=s1.toks) fun b o e=>Heap.get?_push_of_some _ e,ZaS _ y t,⟨_,Heap.get?_push_size _ rfl,rfl,rfl⟩,fin,q⟩
 | false =>
  refine wpAny_pyIter_wide ha ?_
  exact ⟨s1.heap.objs.size,[s1.heap.objs.size],_,_,H1,rfl,I1.kept (t':=s1.toks) fun b o e=>Heap.get?_push_of_some _ e,ZbQ _ y t,⟨_,Heap.get?_push_size _ rfl,rfl,rfl⟩,fin,q⟩
end

theorem ZaF{t:Nat}{lo:Int}{n:Nat}{g:TG}{tt:TT}{te:TE}{Q:VK}{σ:St}{H1:Hp}(P:Addr→Nat→List V→St→Hp→Prop)(h0:∀ D,H1 D=none→P D 0 [] (List.replicate t none++σ) (upd H1 D (.lst [])))
  (hs:∀ D i ys τ H,H1 D=none→i < n→P D i ys τ H→g (.int (lo + i)) τ H fun τ2 H2=>tt τ2 H2 fun b H3 =>
   if b=true then te τ2 H3 fun y H4=>H4 D=some (.lst ys)∧ys.length < sizeLine∧P D (i + 1) (ys++[y]) τ2 (upd H4 D (.lst (ys++[y]))) else P D (i + 1) ys τ2 H3)
  (hd:∀ D ys τ H,H1 D=none→P D n ys τ H→Q (.ref D) H):Z31 (Itr lo n) t g tt te σ H1 Q:=by
 intro D hD
 refine ⟨fun i m ys τ H=>m=n - i∧i≤n∧P D i ys τ H,⟨n,by simp,Wq _,h0 D hD⟩,?_⟩
 rintro i m ys τ H ⟨rfl,hi,p⟩
 by_cases hlt:i < n
 ·refine .inr ⟨hlt,P D (i + 1),fun zs τ' H' p'=>⟨n - (i + 1),by omega,rfl,hlt,p'⟩,fun x H' y=>?_⟩
  obtain ⟨e,y⟩:=y
  subst e y
  exact hs D i ys τ _ hD hlt p
 ·have e:i=n:=by omega
  subst e
  exact .inl ⟨Qq _,hd D ys τ H hD p⟩
theorem ZaY{t:Nat}{K:Qa}{a:Addr}{xs:List V}{g:TG}{tt:TT}{te:TE}{Q:VK}{σ:St}{H1:Hp}(P:Addr→Nat→List V→St→Hp→Prop)(h0:∀ D,H1 D=none→P D 0 [] (List.replicate t none++σ) (upd H1 D (.lst [])))
  (hl:∀ D i ys τ H,H1 D=none→i≤xs.length→P D i ys τ H→SqL K H a xs)
  (hs:∀ D i x ys τ H,H1 D=none→xs[i]?=some x→P D i ys τ H→g x τ H fun τ2 H2=>tt τ2 H2 fun b H3 =>
   if b=true then te τ2 H3 fun y H4=>H4 D=some (.lst ys)∧ys.length < sizeLine∧P D (i + 1) (ys++[y]) τ2 (upd H4 D (.lst (ys++[y]))) else P D (i + 1) ys τ2 H3)
  (hd:∀ D ys τ H,H1 D=none→P D xs.length ys τ H→Q (.ref D) H):Z31 (Itl K a) t g tt te σ H1 Q:=by
 intro D hD
 refine ⟨fun i m ys τ H=>m=xs.length - i∧i≤xs.length∧P D i ys τ H,⟨xs.length,by simp,Wq _,h0 D hD⟩,?_⟩
 rintro i m ys τ H ⟨rfl,hi,p⟩
 have q:=hl D i ys τ H hD hi p
 by_cases hlt:i < xs.length
 ·refine .inr ⟨⟨xs,xs[i],q,by simp [hlt]⟩,P D (i + 1),fun zs τ' H' p'=>⟨xs.length - (i + 1),by omega,rfl,hlt,p'⟩,fun x H' y=>?_⟩
  obtain ⟨e,y⟩:=y
  subst e
  exact hs D i x ys τ _ hD (y xs q) p
 ·have e:i=xs.length:=by omega
  subst e
  exact .inl ⟨⟨xs,q,Qq _⟩,hd D ys τ H hD p⟩
theorem Z9S{lo:Int}{n:Nat}{te:TE}{Q:VK}{σ:St}{H1:Hp}(hn:n≤sizeLine)(R:Nat→V→Prop)
  (hs:∀ i H (Q':VK),i < n→Z0V H1 H→(∀ y H4,Z0V H H4→R i y→Q' y H4)→te (some (.int (lo + i))::σ) H Q')
  (hd:∀ D ys H,H1 D=none→Z0V H1 H→H D=some (.lst ys)→ys.length=n→(∀ i y,ys[i]?=some y→R i y)→Q (.ref D) H):Z31 (Itr lo n) 1 (Z1I 0) tYes te σ H1 Q:=by
 refine ZaF (fun D i ys τ H=>(∃ v0,τ=v0::σ)∧Z0V H1 H∧H D=some (.lst ys)∧ys.length=i∧∀ j y,ys[j]?=some y→R j y) (fun D hD=>⟨⟨none,rfl⟩,fun b o e=>by rw [Zb (Z0P e hD)];exact e,Zm,rfl,fun j y e=>by simp at e⟩) ?_ ?_
 ·rintro D i ys τ H hD hi ⟨⟨v0,rfl⟩,sm,hl,hlen,hR⟩
  unfold Z1I tYes
  refine iteT ?_
  refine hs i H _ hi sm fun y H4 s4 ry=>⟨s4 _ _ hl,by omega,⟨_,rfl⟩,fun b o e=>?_,Zm,by simp [hlen],fun j z e=>?_⟩
  ·rw [Zb (Z0P e hD)]
   exact s4 _ _ (sm _ _ e)
  ·by_cases hj:j < ys.length
   ·rw [Qk hj] at e
    exact hR j z e
   ·rw [Qu (by omega)] at e
    have:j - ys.length=0:=by
     have:=(Qe.mp e).1
     simp at this
     omega
    rw [this] at e
    have e':y=z:=by simpa using e
    subst e'
    have:j=i:=by omega
    subst this
    exact ry
 ·rintro D ys τ H hD ⟨_,sm,hl,hlen,hR⟩
  exact hd D ys H hD sm hl hlen hR
theorem Z9R{lo:Int}{n:Nat}{te:TE}{Q:VK}{σ:St}{H1:Hp}(hn:n≤sizeLine)(f:Nat→V)
  (hs:∀ i H (Q':VK),i < n→Z0V H1 H→(∀ H4,Z0V H H4→Q' (f i) H4)→te (some (.int (lo + i))::σ) H Q')
  (hd:∀ D H,H1 D=none→Z0V H1 H→H D=some (.lst ((List.range n).map f))→Q (.ref D) H):Z31 (Itr lo n) 1 (Z1I 0) tYes te σ H1 Q:=by
 refine Z9S hn (fun i v=>v=f i) (fun i H Q' hi sm k=>hs i H Q' hi sm fun H4 s4=>k _ H4 s4 rfl) fun D ys H hD sm hl hlen hR=>hd D H hD sm ?_
 have:ys=(List.range n).map f:=by
  apply Wf
  intro i
  by_cases hi:i < n
  ·have h1:ys[i]?=some (ys[i]'(by omega)):=by simp
   rw [h1,hR i _ h1]
   simp [hi]
  ·rw [We (by omega),We (by simp;omega)]
 rw [← this]
 exact hl

section
variable {X:Cx}
end
end L2
namespace L2
open PySem PySem.Spec PyProof.Rows

noncomputable def compOk(sc:Scope)(N0:List Str)(t:Nat)(N:List Str)(scope:Scope):Bool :=
 (scope.kind == .function) && scope.names.all (fun y=>y.2 != .cell) && scope.names.all (fun y=>y.2 != .local || scope.names.lookup y.1 == some .local)
 && scope.names.all (fun y=>y.2 != .free || sc.names.lookup y.1 == some .cell || sc.names.lookup y.1 == some .free) && (N.length == N0.length + t)
 && ((N.drop t).zip N0).all (fun p=>p.1 == p.2 || scope.names.lookup p.1 == none) && N0.all (fun y=>scope.names.lookup y != some .local || !(N.drop t).contains y)
theorem CompSc.of{X:Cx}{sc:Scope}{N0 N:List Str}{t:Nat}{scope:Scope}(e1:X.env.scope=sc)(e2:X.N=N0)(k:compOk sc N0 t N scope=true):CompSc X t N scope:=by
 unfold compOk at k
 simp only [Qw,List.all_eq_true,beq_iff_eq,bne_iff_ne,Bool.or_eq_true,ne_eq,Wi,List.contains_eq_mem,decide_eq_false_iff_not] at k
 obtain ⟨⟨⟨⟨⟨⟨k1,k2⟩,k3⟩,k4⟩,k5⟩,k6⟩,k7⟩:=k
 subst e1 e2
 refine ⟨k1,k2,fun y hy hk=>?_,fun y hy hk=>?_,k5,k6,k7⟩
 ·rcases k3 y hy with z | z
  ·exact absurd hk z
  ·exact z
 ·rcases k4 y hy with (z | z) | z
  ·exact absurd hk z
  ·exact .inl z
  ·exact .inr z

structure Def(P:Program)(w:World)(K:Qa)(mg:Str→Option Value)(base:Heap)(x:Str)(k:Nat)(ps:List Str)(sp:Sp):Prop where
 ex:∃ (f:Addr) (fd:FuncData),FnOk P w K mg base CX0 k f fd ps sp∧mg x=some (.ref f)∧PySem.W.keepIn K (.ref f)=true∧Binds K fd ps [] ∧
  ∃ (oc:Value) (od:Option Addr) (osl:Array (Option Value)),K.lookup f=some ⟨oc,od,.func fd,osl⟩
structure At(K:Qa)(mg:Str→Option Value)(x:Str)(st:Stmt)(ps:List Str):Prop where
 ex:∃ (f:Addr) (fd:FuncData),Fun K x x st f fd∧mg x=some (.ref f)∧∀ us:List Value,us.length=ps.length→bindArgs fd ⟨us,[]⟩=pure (ps.zip us)
section
variable {P:Program}{w:World}{K:Qa}{mg:Str→Option Value}{base:Heap}
end
section
variable {X:Cx}{x:Str}{k:Nat}{ps:List Str}{sp:Sp}{p pos:Pos}{e:Expr}{es:List Expr}{t:TA}
noncomputable def GIs(mg:Str→Option Value)(x:Str)(v:V):Prop:=∃ u,mg x=some u∧RelV v u
theorem Z2c{v:V}(h:GIs X.mg x v)(hg:Gl X x:=by rfl)(hd:(x == ("__debug__":Str))=false:=by decide):PE X (.Name x pos) (tC v):=by
 obtain ⟨u,m,r⟩:=h
 exact ZdJ hg m r hd
end

theorem Zek{CX:CXT}{P:Program}{w:World}{K:Qa}{mg:Str→Option Value}{base:Heap}{N:List Str}{qual:Str}{scope:Scope}{f:Addr}{cd:Value}{A:Around}{outer:List Env}{s:Shared}{H:Hp}{E:XK} :
  (ZL CX P w K mg base N qual scope f cd A outer s H E).K=K:=rfl
theorem cxC_K{X:Cx}{N:List Str}{scope:Scope}{cl:List (Str×Addr)}{C:Addr}{s:Shared}{H:Hp}{fp:List Addr}:(cxC X N scope cl C s H fp).K=X.K:=rfl

section
variable {X:Cx}
end
end L2

namespace L2.KQ
open PySem PySem.Spec PyProof.Rows L2
section
variable {X:Cx}(K:Qa){tg l o e a b:Expr}{es:List Expr}{tl to ta tv te:TE}{t:TA}{name f:Str}{pos pos' apos cpos:Pos}{T id:String}{r:V→List V→Hp→VK→Prop}
theorem call_len(hK:X.K=K:=by rfl):Z0o X (.builtin "len") (fun xs H Q=>∃ x n,xs=[x]∧LenV K x H n∧Q (.int n) H):=by subst hK;exact L2.call_len
end
end L2.KQ
namespace L2
open PySem PySem.Spec PyProof.Rows

section
variable {X:Cx}{st:Stmt}{rest:List Stmt}{t u:TS}
end

noncomputable def IsTy(H:Hp)(x:V)(N:String):Prop:=match x with
 | .non=>N = "NoneType"
 | .bl _=>N = "bool"
 | .int _=>N = "int"
 | .str _=>N = "str"
 | .ref a=>(N = "list"∧∃ xs,H a=some (.lst xs))∨(N = "tuple"∧∃ xs,H a=some (.tup xs))∨(N = "dict"∧∃ kvs,H a=some (.dK kvs))
 | _=>False
noncomputable def kit0(N T:String):Option Bool:=PySem.W.kitOne [] (.type N) (.type T)
noncomputable def subT(N T:String):Bool:=(kit0 N T).getD false
noncomputable def Z3B(N:String)(Ts:List String):Bool:=Ts.all fun T=>(kit0 N T).isSome
theorem kit_K(K:Qa)(N T:String):PySem.W.kitOne K (.type N) (.type T)=kit0 N T:=rfl
theorem Zah(K:Qa)(N:String):∀ (Ts:List String),Z3B N Ts=true→PySem.W.kitAny K (.type N) (Ts.map Value.type)=some (Ts.any (subT N))
 | [],_=>rfl
 | T::Ts,h=>by
  unfold Z3B at h
  rw [Wv,Qw] at h
  obtain ⟨b,hb⟩:=Option.isSome_iff_exists.mp h.1
  have ih:=Zah K N Ts h.2
  show (match PySem.W.kitOne K (.type N) (.type T) with | some true=>some true | some false=>PySem.W.kitAny K (.type N) (Ts.map Value.type) | none=>none)=_
  rw [kit_K,hb,Ww]
  have hs:subT N T=b:=by unfold subT;rw [hb];rfl
  rw [hs]
  cases b with
  | true=>rfl
  | false=>rw [Bool.false_or];exact ih
section
variable {X:Cx}{pins:List (Addr×Obj)}{σ:St}{H:Hp}{s:Shared}
theorem IsTy.kit{x:V}{u:Value}{N:String}(I:Inv X pins σ H s)(rx:RelV x u)(ty:IsTy H x N):∃ Hh:Heap→Prop,PySem.W.KitX X.K u (.type N) Hh∧Hh s.heap∧u≠.builtin "__main__.__loader__#opaque":=by
 cases x with
 | non=>cases (show u=Value.none from rx);cases (show N = "NoneType" from ty);exact ⟨_,PySem.W.kitx_none,True.intro,fun z=>nomatch z⟩
 | bl y=>cases (show u=Value.bool y from rx);cases (show N = "bool" from ty);exact ⟨_,PySem.W.kitx_bool,True.intro,fun z=>nomatch z⟩
 | int i=>obtain ⟨t,q⟩:=(show ∃ t,u=Value.int i t from rx);cases q;cases (show N = "int" from ty);exact ⟨_,PySem.W.kitx_int,True.intro,fun z=>nomatch z⟩
 | str y=>obtain ⟨t,q⟩:=(show ∃ t,u=Value.str y t from rx);cases q;cases (show N = "str" from ty);exact ⟨_,PySem.W.kitx_str,True.intro,fun z=>nomatch z⟩
 | ref a =>
  cases (show u=Value.ref a from rx)
  rcases ty with ⟨rfl,xs,ea⟩ | ⟨rfl,xs,ea⟩ | ⟨rfl,kvs,ea⟩
  ·obtain ⟨_,_,n,_,h1⟩:=(show Z06 X.prog X.w H s.heap a (.lst xs) from I.hok a _ ea)
   exact ⟨_,PySem.W.kitx_list,⟨_,h1,rfl⟩,fun z=>nomatch z⟩
  ·obtain ⟨_,_,_,p⟩:=(show Z06 X.prog X.w H s.heap a (.tup xs) from I.hok a _ ea)
   obtain ⟨o,h1,h2,_⟩:=p
   exact ⟨_,PySem.W.kitx_tuple,⟨o,h1,h2⟩,fun z=>nomatch z⟩
  ·obtain ⟨_,_,vs,_,p⟩:=(show Z06 X.prog X.w H s.heap a (.dK kvs) from I.hok a _ ea)
   obtain ⟨o,es,ep,h1,h2,_⟩:=p
   exact ⟨_,PySem.W.kitx_dict,⟨o,h1,h2.1⟩,fun z=>nomatch z⟩
 | _=>exact (show False from ty).elim
noncomputable def rIs1:List V→Hp→VK→Prop:=fun xs H Q=>∃ x T N,xs=[x,.ty T]∧IsTy H x N∧(kit0 N T).isSome=true∧Q (.bl (subT N T)) H
theorem Z1o:Z0o X (.builtin "isinstance") rIs1:=by
 intro pins s σ H xs us Q I r h
 obtain ⟨x,T,N,rfl,ty,e,q⟩:=h
 obtain ⟨u,w',rfl,rx,rc⟩:=vals2 r
 cases rc
 obtain ⟨Hh,Z,p,ne⟩:=ty.kit I rx
 obtain ⟨b,hb⟩:=Option.isSome_iff_exists.mp e
 have hs:subT N T=b:=by unfold subT;rw [hb];rfl
 rw [hs] at q
 exact PySem.W.kia_one Z I.kIn p ((kit_K X.K N T).trans hb) ne fun tk=>⟨.bl b,H,I.tok _,rfl,q⟩
theorem ZbS:∀ {Ts:List String} {us:List Value},Vals (Ts.map V.ty) us→us=Ts.map Value.type
 | [],us,r=>by cases r;rfl
 | T::Ts,us,r=>by
  cases r with
  | cons r1 r2 =>
   cases (show _=Value.type T from r1)
   rw [ZbS r2]
   rfl
noncomputable def rIsT:List V→Hp→VK→Prop:=fun xs H Q=>∃ x p Ts N,xs=[x,.ref p]∧H p=some (.tup (Ts.map V.ty))∧IsTy H x N∧Z3B N Ts=true∧Q (.bl (Ts.any (subT N))) H
theorem Z94:Z0o X (.builtin "isinstance") rIsT:=by
 intro pins s σ H xs us Q I r h
 obtain ⟨x,p,Ts,N,rfl,hp,ty,e,q⟩:=h
 obtain ⟨u,w',rfl,rx,rc⟩:=vals2 r
 cases rc
 obtain ⟨Hh,Z,hh,ne⟩:=ty.kit I rx
 obtain ⟨_,its,rv,o,h1,h2,n,h3⟩:=(show Z06 X.prog X.w H s.heap p (.tup (Ts.map V.ty)) from I.hok p _ hp)
 obtain rfl:=ZbS rv
 obtain ⟨c,d,dt,sl⟩:=o
 have h2:c=.type "tuple":=h2
 have h3:dt=_:=h3
 subst h2 h3
 exact PySem.W.kia_tup Z I.kIn hh h1 (Zah X.K N Ts e) ne fun tk=>⟨.bl _,H,I.tok _,rfl,q⟩
end
end L2

namespace L2
open PySem PySem.Spec PyProof.Rows
theorem Z06.there{P:Program}{w:World}{H:Hp}{h:Heap}{a:Addr}{o:HO}(x:Z06 P w H h a o):∃ u,h.get? a=some u:=by
 cases o with
 | lst xs=>obtain ⟨_,_,_,_,e⟩:=x;exact ⟨_,e⟩
 | tup xs=>obtain ⟨_,_,_,p⟩:=x;obtain ⟨u,e,_⟩:=p;exact ⟨u,e⟩
 | dK kvs=>obtain ⟨_,_,_,_,u,_,_,e,_⟩:=x;exact ⟨u,e⟩
 | dT kvs=>obtain ⟨_,_,_,_,u,_,_,e,_⟩:=x;exact ⟨u,e⟩
 | set S n=>obtain ⟨u,_,_,_,e,_⟩:=x;exact ⟨u,e⟩
 | ins C dx fs=>obtain ⟨_,_,_,e,_⟩:=x;exact ⟨_,e⟩
 | own y=>exact x
 | xd fs=>obtain ⟨_,⟨u,_,_,e,_⟩,_⟩:=x;exact ⟨u,e⟩
 | rng lo hi=>obtain ⟨_,_,_,e⟩:=x;exact ⟨_,e⟩
 | frz ob u=>obtain ⟨e,_⟩:=x;exact ⟨_,e⟩
 | tbl ps=>exact ⟨_,x⟩
 | met f y=>exact ⟨_,x⟩
 | ext φ=>exact x.2.1
noncomputable def Fly(g:Heap)(Z:List Addr)(l:List Env)(ea:Addr)(cls:Value)(h:Heap):Prop :=
 ∃ (B:Heap) (t:Addr),Heap.FlyingW B l ea cls (.ref t) h∧∀ b o,g.get? b=some o→b∉frs l→b∉Z→B.get? b=some o
noncomputable def CX1(P:Program)(w:World):CXT:=fun outer H s E e s'=>∃ (ea:Addr) (cls:Value) (H':Hp) (g:Heap) (Z:List Addr),e=.ref ea∧s'.os=s.os∧AllBare s'.gens∧Un (frs outer) [] H H' s.heap s'.heap∧HOk P w H' s'.heap ∧
 (∀ b o,s.heap.get? b=some o→∃ o',g.get? b=some o')∧(∀ z∈Z,s.heap.objs.size≤z)∧(∀ a o,H' a=some o→(∃ o',g.get? a=some o')∧a∉Z)∧Fly g Z outer ea cls s'.heap∧E cls none H'
section
variable {X:Cx}{pins:List (Addr×Obj)}{σ:St}{Hc H':Hp}{sc s':Shared}{g B h':Heap}{Z:List Addr}
theorem Zba(I:Inv X pins σ Hc sc)(un:Un (frs X.stack) [] Hc H' sc.heap s'.heap)(hok:HOk X.prog X.w H' s'.heap)
  (dom:∀ b o,sc.heap.get? b=some o→∃ o',g.get? b=some o') (zz:∀ z∈Z,sc.heap.objs.size≤z) (tr:∀ a o,H' a=some o→(∃ o',g.get? a=some o')∧a∉Z)
  (hB:∀ b o,g.get? b=some o→b∉frs X.stack→b∉Z→B.get? b=some o) (st:B.StaysIn s'.heap) (st':B.StaysIn h')
  (nf:∀ b∈frs X.stack,∃ o,s'.heap.get? b=some o∧∀ vs,o.data≠.fields vs) (up:s'.heap.UpToSlots h') :
  Un (frs X.stack) [] Hc H' sc.heap h'∧HOk X.prog X.w H' h'∧∀ b,b∉frs X.stack→∀ o,g.get? b=some o→b∉Z→s'.heap.get? b=some o∧h'.get? b=some o:=by
 have same:∀ b,b∉frs X.stack→∀ o,g.get? b=some o→b∉Z→s'.heap.get? b=some o∧h'.get? b=some o:=fun b hb o e hz =>
  ⟨st b o (hB b o e hb hz),st' b o (hB b o e hb hz)⟩
 have nz:∀ b o,sc.heap.get? b=some o→b∉Z:=fun b o e hz=>absurd (Qv (Heap.lt_size e) (zz b hz)) (Jo _)
 have frf:∀ b∈frs X.stack,H' b=none:=fun b hb=>by
  obtain ⟨o,e⟩:∃ o,sc.heap.get? b=some o:=by
   obtain ⟨_,o,ho,_⟩:=I.stack.mem hb
   exact ⟨o,ho⟩
  exact un.free b o e (I.stkFree b hb) (by simp)
 refine ⟨⟨fun b o e n hb _=>?_,fun b o e n hb _=>?_,un.free,fun b o e _=>?_,un.tups,un.frzs,un.tbls⟩,fun a o e=>?_,same⟩
 ·have e1:=un.keep b o e n hb (by simp)
  obtain ⟨o',g1⟩:=dom b o e
  obtain ⟨h1,h2⟩:=same b hb o' g1 (nz b o e)
  rw [e1] at h1
  cases h1
  exact h2
 ·obtain ⟨sl,e1⟩:=un.slot b o e n hb (by simp)
  obtain ⟨o1,e2,nd⟩:=nf b hb
  rw [e1] at e2
  cases e2
  obtain ⟨sl',e3⟩:=up b _ e1 nd
  exact ⟨sl',e3⟩
 ·by_cases hb:b∈frs X.stack
  ·obtain ⟨o1,e2,nd⟩:=nf b hb
   obtain ⟨sl',e3⟩:=up b _ e2 nd
   exact ⟨_,e3⟩
  ·obtain ⟨o',g1⟩:=dom b o e
   exact ⟨o',(same b hb o' g1 (nz b o e)).2⟩
 ·refine (hok a o e).stay (fun b u hb q=>?_) (fun _ q=>q) fun _ _ q=>q
  obtain ⟨ob,tb⟩:∃ ob,H' b=some ob:=by
   rcases hb with rfl | hb
   ·exact ⟨o,e⟩
   ·exact ⟨_,hb⟩
  obtain ⟨⟨o',g1⟩,hz⟩:=tr b ob tb
  have hfr:b∉frs X.stack:=fun z=>by rw [frf b z] at tb;cases tb
  obtain ⟨h1,h2⟩:=same b hfr o' g1 hz
  rw [q] at h1
  cases h1
  exact h2
end
section
variable {P:Program}{w:World}{K:Qa}{mg:Str→Option Value}{base:Heap}{N:List Str}{qual:Str}{scope:Scope}{f:Addr}{cd:Value}{A:Around}{outer:List Env}{s:Shared}{H:Hp}{E:XK}{pins:List (Addr×Obj)}{σ:St}
theorem Z7o{Hc H':Hp}{sc s':Shared}{g B h':Heap}{Z:List Addr}{ea t:Addr}{cls:Value}(I:Inv (ZL (CX1 P w) P w K mg base N qual scope f cd A outer s H E) pins σ Hc sc)
  (os:s'.os=sc.os) (bare:AllBare s'.gens) (un:Un (frs (ZL (CX1 P w) P w K mg base N qual scope f cd A outer s H E).stack) [] Hc H' sc.heap s'.heap) (hok:HOk P w H' s'.heap)
  (dom:∀ b o,sc.heap.get? b=some o→∃ o',g.get? b=some o') (zz:∀ z∈Z,sc.heap.objs.size≤z) (tr:∀ a o,H' a=some o→(∃ o',g.get? a=some o')∧a∉Z)
  (hB:∀ b o,g.get? b=some o→b∉frs (ZL (CX1 P w) P w K mg base N qual scope f cd A outer s H E).stack→b∉Z→B.get? b=some o) (st:B.StaysIn s'.heap)
  (nf:∀ b∈frs (ZL (CX1 P w) P w K mg base N qual scope f cd A outer s H E).stack,∃ o,s'.heap.get? b=some o∧∀ vs,o.data≠.fields vs)
  (fl:Heap.FlyingW B outer ea cls (.ref t) h') (up:s'.heap.UpToSlots h') (q:E cls none H'):CX1 P w outer H s E (.ref ea) { s' with heap:=h' }:=by
 generalize hX:ZL (CX1 P w) P w K mg base N qual scope f cd A outer s H E=X at I un hB nf
 have e1:X.s₀=s:=by subst hX;rfl
 have e2:X.H₀=H:=by subst hX;rfl
 have e3:X.fs=frs outer:=by subst hX;rfl
 have e4:X.ex=[]:=by subst hX;rfl
 have e5:frs X.stack=X.env.locals::frs outer:=by subst hX;rfl
 have e6:X.prog=P:=by subst hX;rfl
 have e7:X.w=w:=by subst hX;rfl
 obtain ⟨un',hok',same⟩:=Zba I un (by rw [e6,e7];exact hok) dom zz tr hB st fl.1 nf up
 have ib:=I.base
 rw [e1,e2,e3,e4] at ib
 have ab:=I.ok.above
 rw [e1] at ab
 have sz:=I.sz
 rw [e1] at sz
 have out:∀ b o,s.heap.get? b=some o→b∉frs outer→b∉frs X.stack:=fun b o e hb=>by
  rw [e5]
  intro z
  rcases Qx.mp z with z | z
  ·exact absurd (Qv (Heap.lt_size e) ab) (by rw [z];exact Jo _)
  ·exact hb z
 have inn:∀ b,b∈frs outer→b∈frs X.stack:=fun b hb=>by rw [e5];exact Qt _ hb
 have fL:H' X.env.locals=none:=by
  obtain ⟨m,⟨o,_,_,ho,_⟩,_⟩:=I.loc
  exact un.free _ o ho I.free (by simp)
 refine ⟨ea,cls,H',g,X.env.locals::Z,rfl,os.trans (I.os.trans (by rw [e1])),bare,⟨fun b o e n hb _=>?_,fun b o e n hb _=>?_,fun b o e n _=>?_,fun b o e _=>?_,fun b xs e=>un.tups b xs (ib.tups b xs e),fun b o u e=>un.frzs b o u (ib.frzs b o u e),fun b ps e=>?_⟩,
  by rw [← e6,← e7];exact hok',fun b o e=>?_,fun z hz=>?_,fun a o e=>?_,⟨B,t,fl,fun b o e hb hz=>?_⟩,q⟩
 ·exact un'.keep b o (ib.keep b o e n hb (by simp)) (ib.free b o e n (by simp)) (out b o e hb) (by simp)
 ·obtain ⟨sl,h1⟩:=ib.slot b o e n hb (by simp)
  obtain ⟨sl',h2⟩:=un'.slot b _ h1 (ib.free b o e n (by simp)) (inn b hb) (by simp)
  exact ⟨sl',h2⟩
 ·obtain ⟨o',h1⟩:=ib.there b o e (by simp)
  exact un.free b o' h1 (ib.free b o e n (by simp)) (by simp)
 ·obtain ⟨o',h1⟩:=ib.there b o e (by simp)
  exact un'.there b o' h1 (by simp)
 ·obtain ⟨m1,h1⟩:=ib.tbls b ps e
  obtain ⟨m2,h2⟩:=un.tbls b _ h1
  exact ⟨m1++m2,by rw [h2,Array.append_assoc]⟩
 ·obtain ⟨o',h1⟩:=ib.there b o e (by simp)
  exact dom b o' h1
 ·rcases Qx.mp hz with z | z
  ·rw [z];exact ab
  ·exact Jc sz (zz _ z)
 ·obtain ⟨h1,h2⟩:=tr a o e
  refine ⟨h1,fun z=>?_⟩
  rcases Qx.mp z with z | z
  ·rw [z,fL] at e;cases e
  ·exact h2 z
 ·refine hB b o e (fun z=>?_) fun z=>hz (Qt _ z)
  rw [e5] at z
  rcases Qx.mp z with z | z
  ·exact hz (by rw [z];exact Qy)
  ·exact hb z
theorem passX:Passes (CX1 P w) (ZL (CX1 P w) P w K mg base N qual scope f cd A outer s H E) E:=by
 intro pins σ Hc sc e s' I c
 obtain ⟨ea,cls,H',g,Z,rfl,os,bare,un,hok,dom,zz,tr,⟨B,t,fl,hB⟩,q⟩:=c
 refine wpAny_leaves_onW (A:=A.deeper (envOfC qual scope s.heap.objs.size f cd)) I.ok.frames rfl fl fun h' fl' up=>?_
 exact Z7o I os bare un hok dom zz tr hB fl.1 (fun b hb=>(fl.2.2.1.mem hb).2) fl' up q
theorem pass1{X:Cx}:Passes (CX1 P w) X E0:=by
 rintro pins σ Hc sc e s' I ⟨_,_,_,_,_,_,_,_,_,_,_,_,_,_,q⟩
 exact q.elim
theorem leave_new{sc:Shared}{Hc:Hp}{h1:Heap}{ea:Addr}{cls:Value}{vs:List Value}(I:Inv (ZL (CX1 P w) P w K mg base N qual scope f cd A outer s H E) pins σ Hc sc)(hx:Heap.MadeExcOf sc.heap h1 ea cls vs)(q:E cls none Hc) :
  (ZL (CX1 P w) P w K mg base N qual scope f cd A outer s H E).xe (.ref ea) { sc with heap:=h1 }:=by
 generalize hX:ZL (CX1 P w) P w K mg base N qual scope f cd A outer s H E=X at I
 have stk:X.stack=envOfC qual scope s.heap.objs.size f cd::outer:=by subst hX;rfl
 have fm:∀ l:List Env,(∀ b∈frs l,b∈frs X.stack)→∀ {bs:Heap},sc.heap.FunFrames bs l→sc.heap.FunFrames (PySem.W.hideAll sc.heap (frs X.stack)) l:=by
  intro l
  induction l with
  | nil=>intro _ _ _;trivial
  | cons env r ih =>
   intro hs bs hl
   obtain ⟨hk,⟨L,o,hf,_,ho,hd⟩,hr⟩:=hl
   have hL:L∈frs (env::r):=by unfold frs;rw [Ji,hf];exact Qy
   refine ⟨hk,⟨L,o,hf,PySem.W.hideAll_none _ (hs L hL),ho,hd⟩,ih (fun b hb=>hs b ?_) hr⟩
   unfold frs
   rw [Ji,hf]
   exact Qt _ hb
 have hl:=fm X.stack (fun _ hb=>hb) I.stack
 have nf:∀ b∈frs X.stack,∃ o,h1.get? b=some o∧∀ vs,o.data≠.fields vs:=fun b hb=>by
  obtain ⟨_,o,ho,hd⟩:=hl.mem hb
  exact ⟨o,hx.keeps b o ho,hd⟩
 have hkb:(PySem.W.hideAll sc.heap (frs X.stack)).StaysIn sc.heap:=fun b o e=>PySem.W.of_hideAll _ e
 have frm:=I.ok.frames
 have hB:∀ b o,sc.heap.get? b=some o→b∉frs X.stack→b∉([]:List Addr)→(PySem.W.hideAll sc.heap (frs X.stack)).get? b=some o:=fun b o e hb _=>PySem.W.hideAll_get _ e hb
 have tr:∀ a o,Hc a=some o→(∃ o',sc.heap.get? a=some o')∧a∉([]:List Addr):=fun a o e=>⟨(I.hok a o e).there,by simp⟩
 subst hX
 refine wpAny_leaves_madeW (A:=A.deeper (envOfC qual scope s.heap.objs.size f cd)) (base:=PySem.W.hideAll sc.heap (frs (envOfC qual scope s.heap.objs.size f cd::outer))) (h:=sc.heap) frm rfl hkb hl hx fun h' t fl _ _ up=>?_
 exact Z7o (s':={ sc with heap:=h1 }) (g:=sc.heap) (Z:=[]) I rfl I.bare (Un.kept hx.keeps) (I.hok.kept hx.keeps) (fun b o e=>⟨o,e⟩) (by simp) tr hB (fun b o e=>hx.keeps b o (hkb b o e)) nf fl up q
theorem Z2b:PassesOwn (model P w) (ZL (CX1 P w) P w K mg base N qual scope f cd A outer s H E).A (ZL (CX1 P w) P w K mg base N qual scope f cd A outer s H E).env (ZL (CX1 P w) P w K mg base N qual scope f cd A outer s H E).xe:=by
 intro e s' h
 exact wpAny_leaving_again (SameStack.refl _) h
end
end L2

namespace L2
open PySem PySem.Spec PyProof.Rows

abbrev bmV:List Value:=[.type "ValueError",.type "Exception",.type "BaseException",.type "object"]
structure ExC(K:Qa)(mg:Str→Option Value)(x:Str)(C:Addr):Prop where
 mg:mg x=some (.ref C)
 exc:PySem.W.excIn K C bmV "ValueError.__new__"=true
theorem ExC.obj{K:Qa}{mg:Str→Option Value}{x:Str}{C:Addr}{h:Heap}(O:ExC K mg x C)(X:K.In h):OwnCls x C bmV "ValueError.__new__" mg h:=by
 refine ⟨O.mg,?_⟩
 have q:=O.exc
 unfold PySem.W.excIn at q
 split at q
 case h_2=>cases q
 case h_1 dd cd sl ho =>
  split at q
  case h_2=>cases q
  case h_1 C' bm k0 k1 k2 k3 n k5 hm hs =>
   rw [Qw,Qw,Qw,Qw,Qw] at q
   obtain ⟨⟨⟨⟨⟨a1,a2⟩,a3⟩,a4⟩,a5⟩,a6⟩:=q
   have b1:=beq_iff_eq.mp a1
   have b2:=beq_iff_eq.mp a2
   have b6:=beq_iff_eq.mp a6
   rw [Wi] at a3
   obtain ⟨c1,c2,c3,c4,c5,c6,c7,c8,c9,c10,c11⟩:=cd
   have hm':c3=Value.ref C'::bm:=hm
   have hd':c11=false:=a3
   have hs':sl=#[k0,k1,k2,k3,some (.builtin n),k5]:=by
    rcases sl with ⟨l⟩
    exact congrArg Array.mk hs
   subst b1 b2 hm' hd' hs'
   exact ⟨bm,c4,c1,c5,c2,c6,c7,c8,c9,c10,dd,k0,k1,k2,k3,k5,_,X _ _ ho,.of_isNs (PySem.W.isNs_of_in X a5),PySem.W.nsMap_none_of_in X a5 b6,PySem.W.tail_of_in X a4⟩
section
variable {P:Program}{w:World}{K:Qa}{mg:Str→Option Value}{base:Heap}{N:List Str}{qual:Str}{scope:Scope}{f:Addr}{cd:Value}{A:Around}{outer:List Env}{s:Shared}{H:Hp}{E:XK}
noncomputable def tRaise(E:XK)(cls:Value):TS:=fun _ _ H=>E cls none H
noncomputable def tRaiseA(E:XK)(cls:Value)(t:TA):TS:=fun _ σ H=>t σ H fun vs H1=>vs.length≤sizeLine∧E cls none H1
theorem ZbE{x:Str}{C:Addr}{np cpos pos:Pos}{e:Expr}{es:List Expr}{t:TA}(O:ExC K mg x C)(ha:PA (ZL (CX1 P w) P w K mg base N qual scope f cd A outer s H E) (e::es) t)
  (hg:Gl (ZL (CX1 P w) P w K mg base N qual scope f cd A outer s H E) x:=by rfl) (hdb:(x == ("__debug__":Str))=false:=by decide)
  (he:starEach (e::es) (ZL (CX1 P w) P w K mg base N qual scope f cd A outer s H E).env=(false,eval e (ZL (CX1 P w) P w K mg base N qual scope f cd A outer s H E).env)::starEach es (ZL (CX1 P w) P w K mg base N qual scope f cd A outer s H E).env:=by rfl)
  (hpl:(backTo cpos (starEach es (ZL (CX1 P w) P w K mg base N qual scope f cd A outer s H E).env)).any (·.1)=false:=by rfl) :
  PS (ZL (CX1 P w) P w K mg base N qual scope f cd A outer s H E) (.Raise (some (.Call (.Name x np) (e::es) [] cpos)) none pos) (tRaiseA E (.ref C) t):=by
 intro pins sc σ Hc D I q
 obtain ⟨tl,N',nm,q',bs,hdct,sn,sub,ab,col,dd,k0,k1,k2,k3,k5,mN,hC0,hN0,hni,TT0⟩:=(O.obj (I.ok.mod.kin:K.In base)).obj
 refine wpAny_Raise_call_subT (C:=C) (nm:=nm) (q:=q') (N:=N') (bs:=bs) (bm:=tl) (hdct:=hdct) (sn:=sn) (sub:=sub) (ab:=ab) (col:=col) (dd:=dd) (k0:=k0) (k1:=k1) (k2:=k2) (k3:=k3) (k5:=k5)
  F.excBase_ValueError (mN:=mN) (TT0.hasType F.excBase_ValueError.hasBase) (I.ok.hd rfl) (by rw [he];show (false || (backTo cpos (starEach es _)).any (·.1))=false;rw [hpl];rfl) hni (Z3u I hg O.mg ⟨rfl,?_⟩ hdb)
 have hA:=ha cpos pins sc σ Hc _ I q
 rw [he] at hA ⊢
 refine Calls.evalArgs_plain (thn hA fun us s2 ⟨vs,H2,I2,r2,hz,q2⟩=>?_)
 exact ⟨rfl,by rw [← r2.length];exact hz,I2.bk _ _ hC0,hN0.keeps I2.bk,TT0.keeps I2.bk,fun h' e hm=>leave_new I2 hm q2⟩
end

structure DefX(P:Program)(w:World)(K:Qa)(mg:Str→Option Value)(base:Heap)(x:Str)(k:Nat)(ps:List Str)(sp:Sp):Prop where
 ex:∃ (f:Addr) (fd:FuncData),FnOk P w K mg base (CX1 P w) k f fd ps sp∧mg x=some (.ref f)∧PySem.W.keepIn K (.ref f)=true∧Binds K fd ps [] ∧
  ∃ (oc:Value) (od:Option Addr) (osl:Array (Option Value)),K.lookup f=some ⟨oc,od,.func fd,osl⟩
structure AtM(K:Qa)(C:Addr)(m qual:Str)(st:Stmt)(ps:List Str):Prop where
 ex:∃ (f:Addr) (fd:FuncData),Fun K m qual st f fd∧Meth K C m f∧∀ us:List Value,us.length=ps.length→bindArgs fd ⟨us,[]⟩=pure (ps.zip us)
structure MetX(P:Program)(w:World)(K:Qa)(mg:Str→Option Value)(base:Heap)(C:Addr)(m:Str)(k:Nat)(ps:List Str)(sp:Sp):Prop where
 ex:∃ (f:Addr) (fd:FuncData),FnOk P w K mg base (CX1 P w) k f fd ps sp∧Meth K C m f∧Binds K fd ps []
structure AtI(K:Qa)(C:Addr)(qual:Str)(st:Stmt)(ps:List Str):Prop where
 ex:∃ (f:Addr) (fd:FuncData),Fun K "__init__" qual st f fd∧Mk K C f∧∀ us:List Value,us.length=ps.length→bindArgs fd ⟨us,[]⟩=pure (ps.zip us)
structure InitX(P:Program)(w:World)(K:Qa)(mg:Str→Option Value)(base:Heap)(C:Addr)(k:Nat)(ps:List Str)(sp:Sp):Prop where
 ex:∃ (f:Addr) (fd:FuncData),FnOk P w K mg base (CX1 P w) k f fd ps sp∧Mk K C f∧Binds K fd ps []
section
variable {P:Program}{w:World}{K:Qa}{mg:Str→Option Value}{base:Heap}
theorem Fun.okX{x qual:Str}{st:Stmt}{f:Addr}{fd:FuncData}{N ps:List Str}{k:Nat}{sp:Sp}(F:Fun K x qual st f fd)(S:FnScope N ps (Z8 st))(len:∀ vs H Q E,sp vs H Q E→vs.length=ps.length)
  (hbody:∀ (cdv:Value) (A:Around) (outer:List Env) (s:Shared) (H:Hp) (vs:List V) (Q:VK) (E:XK),Room k (A.deeper (envOfC qual (Z8 st) s.heap.objs.size f cdv))→sp vs H Q E →
   ∃ t,PSs (ZL (CX1 P w) P w K mg base N qual (Z8 st) f cdv A outer s H E) (Z0e st) t∧t { nx:=fun _ H'=>Q .non H',rt:=Q } (start N vs) H):FnOk P w K mg base (CX1 P w) (k + 1) f fd ps sp:=by
 obtain ⟨oc,od,kV,doc,pm,an,cdv,ct,osl,rfl,lk,hcd⟩:=F.ex
 exact fn_of lk hcd S len fun A outer s H vs Q E hr hsp=>hbody cdv A outer s H vs Q E hr hsp
theorem At.okX{x:Str}{st:Stmt}{ps N:List Str}{k:Nat}{sp:Sp}(F:At K mg x st ps)(S:FnScope N ps (Z8 st))(len:∀ vs H Q E,sp vs H Q E→vs.length=ps.length)
  (hbody:∀ (f:Addr) (cdv:Value) (A:Around) (outer:List Env) (s:Shared) (H:Hp) (vs:List V) (Q:VK) (E:XK),Room k (A.deeper (envOfC x (Z8 st) s.heap.objs.size f cdv))→sp vs H Q E →
   ∃ t,PSs (ZL (CX1 P w) P w K mg base N x (Z8 st) f cdv A outer s H E) (Z0e st) t∧t { nx:=fun _ H'=>Q .non H',rt:=Q } (start N vs) H):DefX P w K mg base x (k + 1) ps sp:=by
 obtain ⟨f,fd,F,m,b⟩:=F.ex
 obtain ⟨oc,od,_,_,_,_,_,_,osl,_,lk,_⟩:=id F.ex
 exact ⟨f,fd,F.okX S len (hbody f),m,F.kp,.all b,oc,od,osl,lk⟩
theorem AtM.okX{C:Addr}{m qual:Str}{st:Stmt}{ps N:List Str}{k:Nat}{sp:Sp}(F:AtM K C m qual st ps)(S:FnScope N ps (Z8 st))(len:∀ vs H Q E,sp vs H Q E→vs.length=ps.length)
  (hbody:∀ (f:Addr) (cdv:Value) (A:Around) (outer:List Env) (s:Shared) (H:Hp) (vs:List V) (Q:VK) (E:XK),Room k (A.deeper (envOfC qual (Z8 st) s.heap.objs.size f cdv))→sp vs H Q E →
   ∃ t,PSs (ZL (CX1 P w) P w K mg base N qual (Z8 st) f cdv A outer s H E) (Z0e st) t∧t { nx:=fun _ H'=>Q .non H',rt:=Q } (start N vs) H):MetX P w K mg base C m (k + 1) ps sp:=by
 obtain ⟨f,fd,F,m,b⟩:=F.ex
 exact ⟨f,fd,F.okX S len (hbody f),m,.all b⟩
theorem AtI.okX{C:Addr}{qual:Str}{st:Stmt}{ps N:List Str}{k:Nat}{sp:Sp}(F:AtI K C qual st ps)(S:FnScope N ps (Z8 st))(len:∀ vs H Q E,sp vs H Q E→vs.length=ps.length)
  (hbody:∀ (f:Addr) (cdv:Value) (A:Around) (outer:List Env) (s:Shared) (H:Hp) (vs:List V) (Q:VK) (E:XK),Room k (A.deeper (envOfC qual (Z8 st) s.heap.objs.size f cdv))→sp vs H Q E →
   ∃ t,PSs (ZL (CX1 P w) P w K mg base N qual (Z8 st) f cdv A outer s H E) (Z0e st) t∧t { nx:=fun _ H'=>Q .non H',rt:=Q } (start N vs) H):InitX P w K mg base C (k + 1) ps sp:=by
 obtain ⟨f,fd,F,m,b⟩:=F.ex
 exact ⟨f,fd,F.okX S len (hbody f),m,.all b⟩
theorem Zdz{x y:Str}{st:Stmt}{k:Nat}{sp:Sp}{fa:Addr}(F:At K mg y st [x])(D:∀ base,DefX P w K mg base y k [x] sp)(hmg:mg y=some (.ref fa)) :
  ∃ fd:FuncData,(∀ (s:Shared) (u:Value),BindsTo s fd ⟨[u],[]⟩ [(x,u)])∧∀ base:Heap,K.In base→base.Ns mainGlobals mg→FnOk P w K mg base (CX1 P w) k fa fd [x] sp:=by
 obtain ⟨f,fd,F,m,b⟩:=F.ex
 rw [m] at hmg
 cases hmg
 refine ⟨fd,fun s u=>.of_eq (b [u] rfl),fun base _ _=>?_⟩
 obtain ⟨f',fd',G,m',_,_,_,_,_,lk'⟩:=(D base).ex
 rw [m] at m'
 cases m'
 obtain ⟨oc,od,_,_,_,_,_,_,osl,_,lk,_⟩:=id F.ex
 rw [lk] at lk'
 cases lk'
 exact G
end
section
variable {X:Cx}{x m:Str}{C:Addr}{k:Nat}{ps:List Str}{sp:Sp}{p pos apos:Pos}{e o:Expr}{es:List Expr}{t:TA}{ta:TE}{E:XK}
end

noncomputable def Z10(X:Cx)(EX:St→XK):Prop:=∀ (pins:List (Addr×Obj)) (σ:St) (H:Hp) (s:Shared) (e:Value) (s':Shared),Inv X pins σ H s→CX1 X.prog X.w X.stack H s (EX σ) e s'→X.xe e s'
theorem passT0{X:Cx}:Z10 X fun _=>E0:=by
 rintro pins σ Hc sc e s' I ⟨_,_,_,_,_,_,_,_,_,_,_,_,_,_,q⟩
 exact q.elim
theorem passTX{P:Program}{w:World}{K:Qa}{mg:Str→Option Value}{base:Heap}{N:List Str}{qual:Str}{scope:Scope}{f:Addr}{cd:Value}{A:Around}{outer:List Env}{s:Shared}{H:Hp}{E:XK} :
  Z10 (ZL (CX1 P w) P w K mg base N qual scope f cd A outer s H E) fun _=>E:=fun pins σ Hc sc e s' I c=>passX pins σ Hc sc e s' I c
noncomputable def tCallT(sp:Sp)(EX:St→XK)(t:TA):TE:=fun σ H Q=>t σ H fun vs H1=>sp vs H1 Q (EX σ)
noncomputable def tMetT(C:Addr)(m:Str)(sp:Sp)(EX:St→XK)(ta:TE)(t:TA):TE:=fun σ H Q=>ta σ H fun x H1=>∃ a dx fs,x=.ref a∧H1 a=some (.ins C dx fs)∧fs.lookup m=none∧t σ H1 fun vs H2=>sp (x::vs) H2 Q (EX σ)
noncomputable def tMkT(C:Addr)(sp:Sp)(EX:St→XK)(t:TA):TE:=fun σ H Q=>t σ H fun vs H1=>∀ x dx,H1 x=none→H1 dx=none→dx≠x →
 sp (.ref x::vs) (upd (upd H1 dx (.own x)) x (.ins C dx [])) (fun v H2=>v=.non∧Q (.ref x) H2) (EX σ)
section
variable {X:Cx}{x m:Str}{C f:Addr}{fd:FuncData}{k:Nat}{ps:List Str}{sp:Sp}{p pos apos:Pos}{e o:Expr}{es:List Expr}{t:TA}{ta:TE}{EX:St→XK}
theorem Z8g{pins:List (Addr×Obj)}{σ:St}{H:Hp}{s:Shared}{Q:VK}{us:List Value}{vs:List V}(F:FnOk X.prog X.w X.K X.mg X.base (CX1 X.prog X.w) k f fd ps sp)(hr:Room k X.A)(hb:Binds X.K fd ps [])(hx:Z10 X EX)
  (I:Inv X pins σ H s) (r:Vals vs us) (h:sp vs H Q (EX σ)):wpAny (model X.prog X.w) X.A (call (.ref f) us) (EP X pins σ Q) X.xe s:=by
 have hl:(us++[]).length=ps.length:=by rw [Jg,← r.length];exact F.len _ _ _ _ h
 have hbb:=hb s us I.kIn hl
 rw [Jg] at hbb
 refine wpAny_call (codeAny_mono (F.run X.A X.stack s H ⟨us,[]⟩ us vs Q (EX σ) hr I.env0 hbb r h) fun r s' hq=>?_)
 cases r with
 | error e=>exact hx pins σ H s e s' I hq
 | ok fl =>
  cases fl with
  | ret u=>exact I.after hq
  | next=>exact False.elim hq
  | brk=>exact False.elim hq
  | cont=>exact False.elim hq
theorem ZbA(D:DefX X.prog X.w X.K X.mg X.base x k ps sp)(hr:Room k X.A)(hx:Z10 X EX)(ha:PA X (e::es) t)(hg:Gl X x:=by rfl)(hdb:(x == ("__debug__":Str))=false:=by decide)
  (he:starEach (e::es) X.env=(false,eval e X.env)::starEach es X.env:=by rfl) (hpl:(backTo pos (starEach es X.env)).any (·.1)=false:=by rfl) :
  PE X (.Call (.Name x p) (e::es) [] pos) (tCallT sp EX t):=by
 obtain ⟨f,fd,G,hm,kp,b,_⟩:=D.ex
 intro pins s σ H Q I h
 refine wpAny_Call_Name_kw (Z3u I hg hm ?_ hdb)
 refine PySem.W.callWith_K (h₀:=X.base) I.ok.mod.kin kp (thn (ha pos pins s σ H _ I h) fun us s1 ⟨vs,H1,I1,r,q⟩=>⟨I1.kIn,?_⟩) he hpl
 exact Z8g G hr b hx I1 r q
theorem Zas{pl:Sem Bool}(D:MetX X.prog X.w X.K X.mg X.base C m k ps sp)(c:Cls X.K C)(hr:Room k X.A)(hx:Z10 X EX)(ho:PE X o ta)(ha:PA X (e::es) t)
  (hst:starEach (e::es) X.env=(false,eval e X.env)::starEach es X.env:=by rfl) (hpl:(backTo pos (starEach es X.env)).any (·.1)=false:=by rfl)
  (ht:eval (.Call (.Attribute o m apos) (e::es) [] pos) X.env=(do
   let ov ← eval o X.env
   standAt apos.atName
   let (f,first) ← holding [ov] (getMethod ov m pl)
   callWith pos f first (backTo pos (starEach (e::es) X.env)) (backToKw pos (keywordEach [] X.env))):=by rfl) :
  PE X (.Call (.Attribute o m apos) (e::es) [] pos) (tMetT C m sp EX ta t):=by
 obtain ⟨f,fd,G,hm,b⟩:=D.ex
 intro pins s σ H Q I h
 refine PySem.W.methodCall_KW (pl:=pl) (thn (ho pins s σ H _ I h) fun u s1 ⟨x,H1,I1,rx,a,dx,fs,ex,ea,l,q⟩=>?_) ht
 subst ex
 obtain rfl:u=Value.ref a:=rx
 refine Z6X I1 ea c hm l ?_
 refine PySem.W.callWith_K (first:=[.ref a]) (h₀:=X.base) I.ok.mod.kin hm.kp (thn (ha pos pins s1 σ H1 _ I1 q) fun us s2 ⟨vs,H2,I2,r,q2⟩=>⟨I2.kIn,?_⟩) hst hpl
 exact Z8g (us:=.ref a::us) (vs:=.ref a::vs) G hr b hx I2 (.cons rfl r) q2
theorem Z9x{pl:Sem Bool}(D:MetX X.prog X.w X.K X.mg X.base C m k ps sp)(c:Cls X.K C)(hr:Room k X.A)(hx:Z10 X EX)(ho:PE X o ta)
  (ht:eval (.Call (.Attribute o m apos) [] [] pos) X.env=(do
   let ov ← eval o X.env
   standAt apos.atName
   let (f,first) ← holding [ov] (getMethod ov m pl)
   callWith pos f first (backTo pos (starEach [] X.env)) (backToKw pos (keywordEach [] X.env))):=by rfl) :
  PE X (.Call (.Attribute o m apos) [] [] pos) (tMetT C m sp EX ta tNil):=by
 obtain ⟨f,fd,G,hm,b⟩:=D.ex
 intro pins s σ H Q I h
 refine PySem.W.methodCall_KW (pl:=pl) (thn (ho pins s σ H _ I h) fun u s1 ⟨x,H1,I1,rx,a,dx,fs,ex,ea,l,q⟩=>?_) ht
 subst ex
 obtain rfl:u=Value.ref a:=rx
 refine Z6X I1 ea c hm l ?_
 exact PySem.W.callWith_K0 (first:=[.ref a]) I1.kIn hm.kp (Z8g (us:=[.ref a]) (vs:=[.ref a]) G hr b hx I1 (.cons rfl .nil) q)
theorem Zax{pins:List (Addr×Obj)}{σ:St}{H:Hp}{s:Shared}{Q:VK}{us:List Value}{vs:List V}(M:Mk X.K C f)(F:FnOk X.prog X.w X.K X.mg X.base (CX1 X.prog X.w) k f fd ps sp)(hr:Room (k + 1) X.A)(hb:Binds X.K fd ps [])
  (I:Inv X pins σ H s) (r:Vals vs us) (h:∀ x dx,H x=none→H dx=none→dx≠x→sp (.ref x::vs) (upd (upd H dx (.own x)) x (.ins C dx [])) (fun v H2=>v=.non∧Q (.ref x) H2) E0):wpAny (model X.prog X.w) X.A (call (.ref C) us) (EP X pins σ Q) X.xe s :=
 ZcP (E:=E0) (dvs:=[]) (ds:=[]) M F hr hb .nil pass1 I r fun x dx h1 h2 h3=>by rw [Jg];exact h x dx h1 h2 h3
theorem Zfe(D:InitX X.prog X.w X.K X.mg X.base C k ps sp)(hr:Room (k + 1) X.A)(hm:X.mg x=some (.ref C))(ha:PA X (e::es) t)(hg:Gl X x:=by rfl)(hdb:(x == ("__debug__":Str))=false:=by decide)
  (he:starEach (e::es) X.env=(false,eval e X.env)::starEach es X.env:=by rfl) (hpl:(backTo pos (starEach es X.env)).any (·.1)=false:=by rfl):PE X (.Call (.Name x p) (e::es) [] pos) (tMkT C sp (fun _=>E0) t):=by
 obtain ⟨f,fd,G,M,b⟩:=D.ex
 intro pins s σ H Q I h
 refine wpAny_Call_Name_kw (Z3u I hg hm ?_ hdb)
 refine PySem.W.callWith_K (h₀:=X.base) I.ok.mod.kin M.kp (thn (ha pos pins s σ H _ I h) fun us s1 ⟨vs,H1,I1,r,q⟩=>⟨I1.kIn,?_⟩) he hpl
 exact Zax M G hr b I1 r q
theorem ZdL(D:InitX X.prog X.w X.K X.mg X.base C k ps sp)(hr:Room (k + 1) X.A)(hm:X.mg x=some (.ref C))(hg:Gl X x:=by rfl)(hdb:(x == ("__debug__":Str))=false:=by decide):PE X (.Call (.Name x p) [] [] pos) (tMkT C sp (fun _=>E0) tNil):=by
 obtain ⟨f,fd,G,M,b⟩:=D.ex
 intro pins s σ H Q I h
 refine wpAny_Call_Name_kw (Z3u I hg hm ?_ hdb)
 exact PySem.W.callWith_K0 I.kIn M.kp (Zax (us:=[]) M G hr b I .nil h)
end

structure Land(X:Cx)(pins:List (Addr×Obj))(σ:St)(Hc:Hp)(sc:Shared)(H:Hp)(g:Heap)(Z:List Addr)(B:Heap)(ea t:Addr)(cls:Value)(s:Shared):Prop where
 inv0:Inv X pins σ Hc sc
 os:s.os=sc.os
 bare:AllBare s.gens
 un:Un (frs X.stack) [] Hc H sc.heap s.heap
 hok:HOk X.prog X.w H s.heap
 dom:∀ b o,sc.heap.get? b=some o→∃ o',g.get? b=some o'
 zz:∀ z∈Z,sc.heap.objs.size≤z
 tr:∀ a o,H a=some o→(∃ o',g.get? a=some o')∧a∉Z
 hB:∀ b o,g.get? b=some o→b∉frs X.stack→b∉Z→B.get? b=some o
 fl:Heap.FlyingW B X.stack ea cls (.ref t) s.heap
section
variable {X:Cx}{pins:List (Addr×Obj)}{σ:St}{Hc H:Hp}{sc s:Shared}{g B:Heap}{Z:List Addr}{ea t:Addr}{cls:Value}
theorem Land.inv(L:Land X pins σ Hc sc H g Z B ea t cls s):Inv X pins σ H s:=L.inv0.call' (ch:=[]) L.os L.un L.hok L.bare fun b z=>absurd z (by simp)
theorem Land.step{h':Heap}(L:Land X pins σ Hc sc H g Z B ea t cls s)(fl':Heap.FlyingW B X.stack ea cls (.ref t) h')(up:s.heap.UpToSlots h'):Land X pins σ Hc sc H g Z B ea t cls { s with heap:=h' }:=by
 obtain ⟨un',hok',_⟩:=Zba L.inv0 L.un L.hok L.dom L.zz L.tr L.hB L.fl.1 fl'.1 (fun b hb=>(L.fl.2.2.1.mem hb).2) up
 exact ⟨L.inv0,L.os,L.bare,un',hok',L.dom,L.zz,L.tr,L.hB,fl'⟩
noncomputable abbrev Cx.inH(X:Cx)(ea:Addr):Cx:={ X with A:=X.A.mark (some (.ref ea)),calm:=false,xe:=fun _ _=>False }
theorem Cx.Ok.inH(ok:X.Ok)(ea:Addr):(X.inH ea).Ok :=
 ⟨ok.mod,ok.kind,ok.glob,ok.blt,ok.above,ok.inj,ok.has,ok.cab,(fun z=>by cases z),ok.frames,ok.stk,ok.exf,ok.bs,ok.bsz,ok.noex,ok.exfs,ok.funs,ok.frf⟩
theorem Inv.inH(I:Inv X pins σ H s)(ea:Addr):Inv (X.inH ea) pins σ H s:=⟨I.ok.inH ea,I.os,I.bare,I.base,I.loc,I.cell,I.free,I.freeC,I.pin,I.hok,I.len⟩
theorem Inv.unH{ea:Addr}(I:Inv (X.inH ea) pins σ H s)(ok:X.Ok):Inv X pins σ H s:=⟨ok,I.os,I.bare,I.base,I.loc,I.cell,I.free,I.freeC,I.pin,I.hok,I.len⟩
theorem SP.unH{ea:Addr}{D:Ends}{f:Flow}(h:SP (X.inH ea) pins D f s)(ok:X.Ok):SP X pins D f s:=by
 cases f with
 | next=>obtain ⟨σ',H',I,q⟩:=h;exact ⟨σ',H',I.unH ok,q⟩
 | brk=>obtain ⟨σ',H',I,q⟩:=h;exact ⟨σ',H',I.unH ok,q⟩
 | cont=>obtain ⟨σ',H',I,q⟩:=h;exact ⟨σ',H',I.unH ok,q⟩
 | ret u=>obtain ⟨v,σ',H',I,r,q⟩:=h;exact ⟨v,σ',H',I.unH ok,r,q⟩
end
noncomputable def PHs(X:Cx)(hs:List ExceptHandler)(th:Value→TS):Prop :=
 ∀ (pins:List (Addr×Obj)) (σ:St) (Hc:Hp) (sc:Shared) (H:Hp) (g:Heap) (Z:List Addr) (B:Heap) (ea t:Addr) (cls:Value) (s:Shared) (D:Ends),Land X pins σ Hc sc H g Z B ea t cls s→th cls D σ H →
  wpAny (model X.prog X.w) X.A (handleBy (.ref ea) X.env hs) (SP X pins D) X.xe s
noncomputable def hNil:Value→TS:=fun _ _ _ _=>False
noncomputable def hCons(K:Qa)(C:Addr)(ts:TS)(tr:Value→TS):Value→TS:=fun cls D σ H=>∃ b,PySem.W.exmOne K cls (.ref C)=some b∧if b=true then ts D σ H else tr cls D σ H
section
variable {X:Cx}
theorem Zfh:PHs X [] hNil:=fun _ _ _ _ _ _ _ _ _ _ _ _ _ _ z=>z.elim
theorem ZdM{x:Str}{C:Addr}{np hpos:Pos}{b0:Stmt}{suite:List Stmt}{rest:List ExceptHandler}{ts:TS}{tr:Value→TS}(hm:X.mg x=some (.ref C))(hsu:∀ ea,PSs (X.inH ea) (b0::suite) ts)(hr:PHs X rest tr)
  (hg:Gl X x:=by rfl) (hdb:(x == ("__debug__":Str))=false:=by decide):PHs X (.ExceptHandler (some (.Name x np)) none (b0::suite) hpos::rest) (hCons X.K C ts tr):=by
 intro pins σ Hc sc H g Z B ea t cls s D L q
 obtain ⟨b,eb,q⟩:=q
 have I:=L.inv
 obtain ⟨ob,hob,hcl⟩:=L.fl.there
 refine wpAny_handleBy_cons (codeAny_handlers_test (Z3u (X:=X.inH ea) (I.inH ea) hg hm ?_ hdb)) (by intro z;cases z)
 have LT:PySem.W.Looks (model X.prog X.w) s.heap (typeOf (.ref ea)) cls:=by
  rw [← hcl]
  exact (PySem.W.Looks.ld hob).andThen .now
 refine (PySem.W.exm_one I.kIn LT eb).here ?_
 cases b with
 | true =>
  rw [if_pos rfl] at q
  refine codeAny_handlers_suite (lands_againW L.fl fun h' fl' up=>?_)
  have L':=L.step fl' up
  exact wpAny_mono (hsu ea pins _ σ H D (L'.inv.inH ea) q) (fun f s2 z=>z.unH I.ok) fun _ _ z=>z.elim
 | false =>
  rw [if_neg Ql] at q
  exact hr pins σ Hc sc H g Z B ea t cls s D L q
noncomputable abbrev Cx.tr(X:Cx)(pn:List (Addr×Obj))(xe:Value→Shared→Prop):Cx:={ X with pn:=pn,xe:=xe }
noncomputable def tTry(tb:(St→XK)→TS)(th:Value→TS):TS:=fun D σ H=>tb (fun σ' cls _ H'=>th cls D σ' H') D σ H
theorem Zfl{body:List Stmt}{h0:ExceptHandler}{hs:List ExceptHandler}{pos:Pos}{tb:(St→XK)→TS}{th:Value→TS}(hstk:X.stack=X.env::X.outer)(hfr:X.env.frame=some X.env.locals)
  (hb:∀ (pn:List (Addr×Obj)) (xe:Value→Shared→Prop) (EX:St→XK),Z10 (X.tr pn xe) EX→PSs (X.tr pn xe) body (tb EX)) (hh:PHs X (h0::hs) th):PS X (.Try body (h0::hs) [] [] pos) (tTry tb th):=by
 intro pins s σ H D I q
 have toY:∀ {pins':List (Addr×Obj)} {σ':St} {H':Hp} {s':Shared} {xe:Value→Shared→Prop},Inv (X.tr (X.pn++pins) xe) pins' σ' H' s'→Inv X pins σ' H' s':=fun J =>
  ⟨I.ok,J.os,J.bare,J.base,J.loc,J.cell,J.free,J.freeC,fun p hp=>J.pin p (Qh _ hp),J.hok,J.len⟩
 refine wpAny_Try_except ?_
 refine wpAny_mono (hb (X.pn++pins) (fun e s₁=>wpAny (model X.prog X.w) X.A (noteFrame e X.env) (fun _ s₂=>wpAny (model X.prog X.w) X.A (setFlight e none) (fun _ s₃=>wpAny (model X.prog X.w) X.A (handleBy e X.env (h0::hs)) (SP X pins D) X.xe s₃) X.xe s₂) X.xe s₁)
  (fun σ' cls _ H'=>th cls D σ' H') ?_ [] s σ H D ?_ q) (fun fl s1 z=>?_) fun _ _ z=>z
 ·rintro pins' σ' Hc sc e s' J ⟨ea,cls,H',g,Z,rfl,os,bare,un,hok,dom,zz,tr,⟨B,t,fl,hB⟩,q'⟩
  have I':Inv X pins σ' Hc sc:=toY J
  have frm:X.A.frames=some (X.env::X.outer):=by rw [← hstk];exact I.ok.frames
  have L:Land X pins σ' Hc sc H' g Z B ea t cls s':=⟨I',os,bare,un,hok,dom,zz,tr,hB,fl⟩
  have fl0:Heap.FlyingW B (X.env::X.outer) ea cls (.ref t) s'.heap:=by rw [← hstk];exact fl
  refine wpAny_looks_onW frm hfr fl0 fun h4 held up4=>wpAny_landsW held fun h5 fl5 up5=>?_
  have fl5':Heap.FlyingW B X.stack ea cls (.ref t) h5:=by rw [hstk];exact fl5
  exact hh pins σ' Hc sc H' g Z B ea t cls _ D (L.step fl5' (up4.trans up5)) q'
 ·exact ⟨⟨I.ok.mod,I.ok.kind,I.ok.glob,I.ok.blt,I.ok.above,I.ok.inj,I.ok.has,I.ok.cab,I.ok.hd,I.ok.frames,I.ok.stk,I.ok.exf,I.ok.bs,I.ok.bsz,I.ok.noex,I.ok.exfs,I.ok.funs,I.ok.frf⟩,
   I.os,I.bare,I.base,I.loc,I.cell,I.free,I.freeC,fun p hp=>I.pin p (by simpa using hp),I.hok,I.len⟩
 ·cases fl with
  | next=>obtain ⟨σ',H',J,q⟩:=z;exact wpAny_execs_nil ⟨σ',H',toY J,q⟩
  | brk=>obtain ⟨σ',H',J,q⟩:=z;exact ⟨σ',H',toY J,q⟩
  | cont=>obtain ⟨σ',H',J,q⟩:=z;exact ⟨σ',H',toY J,q⟩
  | ret u=>obtain ⟨v,σ',H',J,r,q⟩:=z;exact ⟨v,σ',H',toY J,r,q⟩
end
end L2
namespace L2
open PySem PySem.Spec PyProof.Rows
section
variable {X:Cx}
theorem Z8r:∀ {bs:List Bool} {us:List Value} (i:Nat) (v:Value),Vals (bs.map V.bl) us→us[i]?=some v→∃ b,bs[i]?=some b∧v=.bool b
 | [],_,i,v,r,e=>by cases r;simp at e
 | b::bs,u::_,0,v,.cons r t,e=>by
  have e':u=v:=by simpa using e
  subst e'
  exact ⟨b,rfl,r⟩
 | b::bs,_,i + 1,v,.cons r t,e=>by
  obtain ⟨c,h1,h2⟩:=Z8r i v t (by simpa using e)
  exact ⟨c,by simpa using h1,h2⟩
theorem call_all(hc:X.calm=true):Z0o X (.builtin "all") (fun xs H Q=>∃ (p:Addr) (bs:List Bool),xs=[.ref p]∧SqL X.K H p (bs.map V.bl)∧Q (.bl (bs.all id)) H):=by
 intro pins s σ H xs us Q I r h
 obtain ⟨p,bs,rfl,hq,q⟩:=h
 obtain ⟨u,rfl,ru⟩:=vals1 r
 cases ru
 obtain ⟨its,rv,pl,hz⟩:=I.list hq
 have hl:=pl.isList
 have hlt:p < s.heap.objs.size:=by obtain ⟨_,e,_⟩:=hl;exact Heap.lt_size e
 refine call_all_walk (wpAny_pyIter_list hl ?_)
 refine ⟨s.heap.objs.size,[s.heap.objs.size,p],[s.heap.objs.size],its.toArray.size,_,_,fun i=>(bs[i]?).getD true,rfl,Walks.list (A:=X.A.in1) (I.ok.hd hc) _ p (Jb hlt) its.toArray,
  ⟨⟨_,Heap.get?_push_size _ rfl,rfl,rfl⟩,hl.push _⟩,fun i v s' Q' E' hP hQ=>?_,fun h' tk hk=>?_⟩
 ·obtain ⟨b,e,rfl⟩:=Z8r i v rv (by simpa using hP)
  have hQ:Q' ((bs[i]?).getD true) s':=hQ
  rw [e] at hQ
  exact wpAny_truthy_bool hQ
 ·have e:((List.range its.toArray.size).all fun i=>(bs[i]?).getD true)=bs.all id:=by
   have hlen:=rv.length
   rw [Qo] at hlen
   rw [Qz,← hlen]
   exact LSm.range_all bs
  rw [e]
  exact ⟨.bl (bs.all id),H,I.kept (LSm.kept_iter hk),rfl,q⟩
end
namespace KQ
theorem call_all{X:Cx}(K:Qa)(hc:X.calm=true)(hK:X.K=K:=by rfl):Z0o X (.builtin "all") (fun xs H Q=>∃ (p:Addr) (bs:List Bool),xs=[.ref p]∧SqL K H p (bs.map V.bl)∧Q (.bl (bs.all id)) H):=by subst hK;exact L2.call_all hc
end KQ

inductive Dt where
 | non | bl (b:Bool) | int (i:Int) | str (x:Str) | lst (l:List Dt) | tup (l:List Dt)
mutual
noncomputable def Dt.dep:Dt→Nat
 | .lst l=>Dt.deps l + 1
 | .tup l=>Dt.deps l + 1
 | _=>1
noncomputable def Dt.deps:List Dt→Nat
 | []=>0
 | d::r=>max d.dep (Dt.deps r)
end
mutual
noncomputable def Dt.eq:Dt→Dt→Bool
 | .non,.non=>true
 | .bl a,.bl b=>a == b
 | .int a,.int b=>a == b
 | .str a,.str b=>a == b
 | .lst a,.lst b=>Dt.eqs a b
 | .tup a,.tup b=>Dt.eqs a b
 | _,_=>false
noncomputable def Dt.eqs:List Dt→List Dt→Bool
 | [],[]=>true
 | a::r,b::q=>Dt.eq a b && Dt.eqs r q
 | _,_=>false
end
mutual
theorem Dt.eq_iff:∀ (a b:Dt),Dt.eq a b=true↔a=b
 | .non,b=>by cases b <;> simp [Dt.eq]
 | .bl x,b=>by cases b <;> simp [Dt.eq]
 | .int x,b=>by cases b <;> simp [Dt.eq]
 | .str x,b=>by cases b <;> simp [Dt.eq]
 | .lst l,b=>by cases b <;> simp [Dt.eq,Dt.eqs_iff l]
 | .tup l,b=>by cases b <;> simp [Dt.eq,Dt.eqs_iff l]
theorem Dt.eqs_iff:∀ (a b:List Dt),Dt.eqs a b=true↔a=b
 | [],b=>by cases b <;> simp [Dt.eqs]
 | x::r,b=>by cases b <;> simp [Dt.eqs,Dt.eq_iff x,Dt.eqs_iff r]
end
mutual
noncomputable def RelD(H:Hp):Dt→V→Prop
 | .non,x=>x=.non
 | .bl b,x=>x=.bl b
 | .int i,x=>x=.int i
 | .str y,x=>x=.str y
 | .lst l,x=>∃ a xs,x=.ref a∧H a=some (.lst xs)∧xs.length < sizeLine∧Z0S H l xs
 | .tup l,x=>∃ a xs,x=.ref a∧H a=some (.tup xs)∧xs.length < sizeLine∧Z0S H l xs
noncomputable def Z0S(H:Hp):List Dt→List V→Prop
 | [],[]=>True
 | d::l,v::r=>RelD H d v∧Z0S H l r
 | _,_=>False
end
theorem Z0S.length{H:Hp}:∀ {l:List Dt} {xs:List V},Z0S H l xs→xs.length=l.length
 | [],[],_=>rfl
 | [],_::_,h=>h.elim
 | _::_,[],h=>h.elim
 | d::l,v::r,h=>by simp [Z0S.length (l:=l) (xs:=r) h.2]
theorem Z0S.get{H:Hp}:∀ {l:List Dt} {xs:List V} {i:Nat} {d:Dt},Z0S H l xs→l[i]?=some d→∃ v,xs[i]?=some v∧RelD H d v
 | [],_,_,_,_,e=>by simp at e
 | _::_,[],_,_,h,_=>h.elim
 | d::l,v::r,0,d',h,e=>by
  have e':d=d':=by simpa using e
  subst e'
  exact ⟨v,rfl,h.1⟩
 | d::l,v::r,i + 1,d',h,e=>by
  obtain ⟨u,h1,h2⟩:=Z0S.get (l:=l) (xs:=r) (i:=i) (d:=d') h.2 (by simpa using e)
  exact ⟨u,by simpa using h1,h2⟩
mutual
theorem RelD.keep{H H':Hp}(k:∀ a xs,(H a=some (.lst xs)→H' a=some (.lst xs))∧(H a=some (.tup xs)→H' a=some (.tup xs))):∀ {d:Dt} {x:V},RelD H d x→RelD H' d x
 | .non,_,h=>h
 | .bl _,_,h=>h
 | .int _,_,h=>h
 | .str _,_,h=>h
 | .lst l,_,⟨a,xs,e,h1,z,h2⟩=>⟨a,xs,e,(k a xs).1 h1,z,Z0S.keep k h2⟩
 | .tup l,_,⟨a,xs,e,h1,z,h2⟩=>⟨a,xs,e,(k a xs).2 h1,z,Z0S.keep k h2⟩
theorem Z0S.keep{H H':Hp}(k:∀ a xs,(H a=some (.lst xs)→H' a=some (.lst xs))∧(H a=some (.tup xs)→H' a=some (.tup xs))):∀ {l:List Dt} {xs:List V},Z0S H l xs→Z0S H' l xs
 | [],[],_=>trivial
 | [],_::_,h=>h.elim
 | _::_,[],h=>h.elim
 | d::l,v::r,h=>⟨RelD.keep k h.1,Z0S.keep k h.2⟩
end
theorem RelD.same{H H':Hp}(sm:Z0V H H'){d:Dt}{x:V}(h:RelD H d x):RelD H' d x:=h.keep fun a xs=>⟨fun e=>sm _ _ e,fun e=>sm _ _ e⟩
theorem Dt.deps_le{l:List Dt}{i:Nat}{d:Dt}(h:l[i]?=some d):d.dep≤Dt.deps l:=by
 induction l generalizing i with
 | nil=>simp at h
 | cons e r ih =>
  cases i with
  | zero =>
   have:e=d:=by simpa using h
   subst this
   unfold Dt.deps
   omega
  | succ i =>
   have:=ih (i:=i) (by simpa using h)
   unfold Dt.deps
   omega
theorem Dt.dep_pos(d:Dt):1≤d.dep:=by cases d <;> simp [Dt.dep]
theorem Dt.eqs_all{l l':List Dt}(hl:l.length=l'.length):Dt.eqs l l'=(((List.range l'.length).map fun i=>Dt.eq (l[i]?.getD .non) (l'[i]?.getD .non)).all id):=by
 induction l generalizing l' with
 | nil =>
  cases l' with
  | nil=>rfl
  | cons b r=>simp at hl
 | cons a l ih =>
  cases l' with
  | nil=>simp at hl
  | cons b r =>
   have h:=ih (l':=r) (by simpa using hl)
   rw [Jp,List.range_succ_eq_map]
   simp only [Dt.eqs,h,Qi,Jf,Wv,Jy,Option.getD_some,id]
   rfl
end L2
namespace L2
open PySem PySem.Spec PyProof.Rows
theorem Zb0{P:Program}{w:World}{outer:List Env}{H:Hp}{s:Shared}{e:Value}{s':Shared}(z:CX1 P w outer H s (fun _ _ _=>False) e s'):False:=by
 obtain ⟨_,_,_,_,_,_,_,_,_,_,_,_,_,_,q⟩:=z
 exact q

section
variable {X:Cx}{K:Qa}{C:Addr}{e o value:Expr}{ta tv:TE}{f:Str}{pos pos':Pos}
noncomputable def tFldC(C:Addr)(ta:TE)(f:Str):TE:=fun σ H Q=>ta σ H fun x H1=>∃ a dx fs v,x=.ref a∧H1 a=some (.ins C dx fs)∧fs.lookup f=some v∧Q v H1
theorem Z64(c:Cls K C)(n:Zy K C f)(he:PE X e ta)(hb:attributeBase e f X.env (eval e X.env)=eval e X.env:=by rfl)(hK:X.K=K:=by rfl):PE X (.Attribute e f pos) (tFldC C ta f):=by
 subst hK
 intro pins s σ H Q I h
 refine Zd2 hb (thn (he pins s σ H _ I h) fun u s1 ⟨x,H1,I1,rx,a,dx,fs,v,ex,ea,l,q⟩=>?_)
 subst ex
 cases (show u=Value.ref a from rx)
 exact ZaI I1 ea c n l fun u' s2 I2 ru=>⟨v,H1,I2,ru,q⟩
noncomputable def sFldC(C:Addr)(ta tv:TE)(f:Str):TS:=fun D σ H=>tv σ H fun y H1=>ta σ H1 fun x H2=>∃ a dx fs,x=.ref a∧H2 a=some (.ins C dx fs)∧fs.length < 1000∧D.nx σ (upd H2 a (.ins C dx (Z19 f y fs)))
theorem ZdQ(c:Cls K C)(n:Zy K C f)(ha:PE X o ta)(hv:PE X value tv)(hs:swapsWith value (some (.Attribute o f pos')) pos.line X.env=pure false:=by rfl)(hK:X.K=K:=by rfl) :
  PS X (.Assign [.Attribute o f pos'] value pos) (sFldC C ta tv f):=by
 subst hK
 intro pins s σ H D I h
 refine plainObj_wpAny_Assign_Attribute (thn (hv pins s σ H _ I h) fun u s1 ⟨y,H1,I1,ry,q⟩=>thn (ha pins s1 σ H1 _ I1 q) fun ov s2 ⟨x,H2,I2,rx,a,dx,fs,ex,ea,l,q2⟩=>?_) hs
 subst ex
 cases (show ov=Value.ref a from rx)
 exact ZaR I2 ea c n l ry fun s3 I3=>⟨σ,_,I3,q2⟩
end

namespace KQ
theorem ix_seq{X:Cx}(K:Qa)(hK:X.K=K:=by rfl):IxR X (rIx K):=by subst hK;exact L2.ix_seq
end KQ
theorem Z0V.seqT{K:Qa}{H H':Hp}{a:Addr}{xs:List V}(e:Z0V H H')(h:SqT K H a xs):SqT K H' a xs:=by
 rcases h with (h | ⟨o,h⟩) | h
 ·exact .inl (.inl (e _ _ h))
 ·exact .inl (.inr ⟨o,e _ _ h⟩)
 ·exact .inr h

noncomputable def Dt.ty:Dt→String
 | .non => "NoneType" | .bl _ => "bool" | .int _ => "int" | .str _ => "str" | .lst _ => "list" | .tup _ => "tuple"
theorem RelD.ty{H:Hp}:∀ {d:Dt} {x:V},RelD H d x→IsTy H x d.ty
 | .non,_,h=>by cases (show _=V.non from h);rfl
 | .bl b,_,h=>by cases (show _=V.bl b from h);rfl
 | .int i,_,h=>by cases (show _=V.int i from h);rfl
 | .str y,_,h=>by cases (show _=V.str y from h);rfl
 | .lst l,_,⟨a,xs,e,h1,_⟩=>by subst e;exact .inl ⟨rfl,xs,h1⟩
 | .tup l,_,⟨a,xs,e,h1,_⟩=>by subst e;exact .inr (.inl ⟨rfl,xs,h1⟩)
noncomputable def Dt.isL:Dt→Bool
 | .lst _=>true
 | _=>false
noncomputable def Dt.isT:Dt→Bool
 | .tup _=>true
 | _=>false
noncomputable def Dt.isB:Dt→Bool
 | .bl _=>true
 | _=>false
noncomputable def Dt.isS:Dt→Bool
 | .str _=>true
 | _=>false
noncomputable def Dt.isN:Dt→Bool
 | .non=>true
 | _=>false
noncomputable def Dt.isI:Dt→Bool
 | .int _=>true
 | _=>false
theorem Zcz:∀ N∈["NoneType", "bool", "int", "str", "list", "tuple"],∀ T∈["list", "tuple", "bool", "str", "int"],(kit0 N T).isSome=true:=by decide +kernel
theorem Dt.ty_mem(d:Dt):d.ty∈["NoneType", "bool", "int", "str", "list", "tuple"]:=by cases d <;> simp [Dt.ty]
theorem Dt.kit(d:Dt){T:String}(h:T∈["list", "tuple", "bool", "str", "int"]):(kit0 d.ty T).isSome=true:=Zcz _ d.ty_mem _ h
theorem Dt.sub_list(d:Dt):subT d.ty "list"=d.isL:=by cases d <;> (first | rfl | decide +kernel | (simp only [Dt.ty,Dt.isL];decide +kernel))
theorem Dt.sub_tuple(d:Dt):subT d.ty "tuple"=d.isT:=by cases d <;> (simp only [Dt.ty,Dt.isT];decide +kernel)
theorem Dt.sub_bool(d:Dt):subT d.ty "bool"=d.isB:=by cases d <;> (simp only [Dt.ty,Dt.isB];decide +kernel)
theorem Dt.sub_str(d:Dt):subT d.ty "str"=d.isS:=by cases d <;> (simp only [Dt.ty,Dt.isS];decide +kernel)
theorem Dt.sub_int(d:Dt):subT d.ty "int"=(d.isI || d.isB):=by cases d <;> (simp only [Dt.ty,Dt.isI,Dt.isB];decide +kernel)
theorem Dt.eq_false{d d':Dt}(h:d≠d'):Dt.eq d d'=false:=by
 cases q:Dt.eq d d' with
 | false=>rfl
 | true=>exact absurd ((Dt.eq_iff d d').mp q) h
theorem Dt.eq_non(d:Dt):Dt.eq d .non=d.isN:=by cases d <;> rfl
theorem Z5s(a b:Bool):decide (V.bl a=V.bl b)=(a == b):=by cases a <;> cases b <;> rfl
theorem RelD.isNon{H:Hp}{d:Dt}{x:V}(h:RelD H d x):decide (x=V.non)=d.isN:=by
 cases d with
 | non=>cases (show x=V.non from h);rfl
 | bl b=>cases (show x=V.bl b from h);rfl
 | int i=>cases (show x=V.int i from h);rfl
 | str y=>cases (show x=V.str y from h);rfl
 | lst l=>obtain ⟨a,xs,e,_⟩:=h;subst e;rfl
 | tup l=>obtain ⟨a,xs,e,_⟩:=h;subst e;rfl
end L2

namespace RM
open PySem PySem.Spec PyProof.Rows L2
inductive NK where
 | tup | lst (m:Bool) | dic (m:Bool) (ks:List Key) | dit (m:Bool) (ks:List (List Key)) | ins (m:Bool) (C:Addr) (ns:List Str)
 | kst (K:Qa)
 | lnk (a:Addr) (l:Str)
inductive D where
 | at (v:V) | nd (k:NK) (l:List D)
inductive T where
 | at (v:V) | nd (a:Addr) (k:NK) (l:List T)
noncomputable instance:Inhabited T:=⟨.at .non⟩
noncomputable instance:Inhabited D:=⟨.at .non⟩
noncomputable def NK.mut:NK→Bool
 | .tup=>false | .lst m=>m | .dic m _=>m | .dit m _=>m | .ins m _ _=>m | .kst _=>false | .lnk _ _=>false
noncomputable def NK.out:NK→Bool
 | .kst _=>true | .lnk _ _=>true | _=>false
theorem NK.mut_out{k:NK}(h:k.mut=true):k.out=false:=by cases k <;> first | rfl | cases h
noncomputable def NodeOk(H:Hp)(a:Addr):NK→List V→Prop
 | .tup,vs=>H a=some (.tup vs)
 | .lst true,vs=>H a=some (.lst vs)
 | .lst false,vs=>Rd H a (.lst vs)
 | .dic _ ks,vs=>ks.length=vs.length∧ks.Nodup∧H a=some (.dK (ks.zip vs))
 | .dit _ ks,vs=>ks.length=vs.length∧ks.Nodup∧H a=some (.dT (ks.zip vs))
 | .ins _ C ns,vs=>ns.length=vs.length∧∃ dx,H a=some (.ins C dx (ns.zip vs))
 | .kst K,vs=>∃ (o:Obj) (its:Array Value) (n:Nat),K.lookup a=some o∧o.cls=.type "list"∧o.dict=none∧o.data=.seq its n∧its.size≤sizeLine∧Vals vs its.toList
 | .lnk b _,vs=>a=b∧vs=[]
theorem NodeOk.keep{H H':Hp}{a:Addr}{k:NK}{vs:List V}(h:NodeOk H a k vs)(e:k.out=true∨H' a=H a):NodeOk H' a k vs:=by
 rcases e with e | e
 ·cases k with
  | kst K=>exact h
  | lnk b l=>exact h
  | _=>cases e
 cases k with
 | tup=>exact e.trans h
 | lst m=>cases m with
  | true=>exact e.trans h
  | false=>unfold NodeOk Rd at *;rw [e];exact h
 | dic m ks=>exact ⟨h.1,h.2.1,e.trans h.2.2⟩
 | dit m ks=>exact ⟨h.1,h.2.1,e.trans h.2.2⟩
 | ins m C ns=>obtain ⟨h1,dx,h2⟩:=h;exact ⟨h1,dx,e.trans h2⟩
 | kst K=>exact h
 | lnk b l=>exact h
theorem NodeOk.some{H:Hp}{a:Addr}{k:NK}{vs:List V}(h:NodeOk H a k vs)(hk:k.out=false):H a≠none:=by
 cases k with
 | tup=>rw [show H a=_ from h];simp
 | lst m=>cases m with
  | true=>rw [show H a=_ from h];simp
  | false=>rcases h with h | ⟨o,h⟩ <;> (rw [h];simp)
 | dic m ks=>rw [h.2.2];simp
 | dit m ks=>rw [h.2.2];simp
 | ins m C ns=>obtain ⟨h1,dx,h2⟩:=h;rw [h2];simp
 | kst K=>cases hk
 | lnk b l=>cases hk
noncomputable def cl:V→V
 | .ref _=>.flt 0 | v=>v
noncomputable def T.val:T→V
 | .at v=>v | .nd a _ _=>.ref a
mutual
noncomputable def T.er:T→D
 | .at v=>.at (cl v) | .nd _ k l=>.nd k (T.ers l)
noncomputable def T.ers:List T→List D
 | []=>[] | t::r=>t.er::T.ers r
end
mutual
noncomputable def T.own:T→List Addr
 | .at _=>[] | .nd a k l=>(if k.mut then [a] else [])++T.owns l
noncomputable def T.owns:List T→List Addr
 | []=>[] | t::r=>t.own++T.owns r
end
mutual
noncomputable def T.ro:T→List Addr
 | .at _=>[] | .nd a k l=>(if k.mut || k.out then [] else [a])++T.ros l
noncomputable def T.ros:List T→List Addr
 | []=>[] | t::r=>t.ro++T.ros r
end
mutual
noncomputable def T.ok(H:Hp):T→Prop
 | .at _=>True | .nd a k l=>NodeOk H a k (l.map T.val)∧T.oks H l
noncomputable def T.oks(H:Hp):List T→Prop
 | []=>True | t::r=>t.ok H∧T.oks H r
end
mutual
noncomputable def D.imm:D→Bool
 | .at _=>true | .nd k l=>!k.mut && D.imms l
noncomputable def D.imms:List D→Bool
 | []=>true | t::r=>t.imm && D.imms r
end

theorem T.owns_cons{t:T}{r:List T}:T.owns (t::r)=t.own++T.owns r:=rfl
theorem T.ros_cons{t:T}{r:List T}:T.ros (t::r)=t.ro++T.ros r:=rfl
theorem T.ers_eq:∀ l:List T,T.ers l=l.map T.er
 | []=>rfl
 | t::r=>by rw [T.ers,T.ers_eq r];rfl
theorem T.oks_iff{H:Hp}:∀ {l:List T},T.oks H l↔∀ t∈l,t.ok H
 | []=>by simp [T.oks]
 | t::r=>by simp only [T.oks,T.oks_iff (l:=r),Qx,forall_eq_or_imp]
theorem T.owns_app:∀ l m:List T,T.owns (l++m)=T.owns l++T.owns m
 | [],m=>rfl
 | t::r,m=>by simp only [Jj,T.owns,T.owns_app r m,Qp]
theorem T.ros_app:∀ l m:List T,T.ros (l++m)=T.ros l++T.ros m
 | [],m=>rfl
 | t::r,m=>by simp only [Jj,T.ros,T.ros_app r m,Qp]
theorem T.oks_app{H:Hp}{l m:List T}:T.oks H (l++m)↔T.oks H l∧T.oks H m:=by
 simp only [T.oks_iff,Qf]
 exact ⟨fun h=>⟨fun t z=>h t (.inl z),fun t z=>h t (.inr z)⟩,fun h t z=>z.elim (h.1 t) (h.2 t)⟩
theorem T.mem_owns{a:Addr}:∀ {l:List T},a∈T.owns l↔∃ t∈l,a∈t.own
 | []=>by simp [T.owns]
 | t::r=>by simp only [T.owns,Qf,T.mem_owns (l:=r),Qx,exists_eq_or_imp]
theorem T.mem_ros{a:Addr}:∀ {l:List T},a∈T.ros l↔∃ t∈l,a∈t.ro
 | []=>by simp [T.ros]
 | t::r=>by simp only [T.ros,Qf,T.mem_ros (l:=r),Qx,exists_eq_or_imp]
mutual
theorem T.keep{H H':Hp}:∀ {t:T},t.ok H→(∀ a,a∈t.own∨a∈t.ro→H' a=H a)→t.ok H'
 | .at _,_,_=>trivial
 | .nd a k l,h,e=>by
  refine ⟨h.1.keep (by
   cases ko:k.out with
   | true=>exact .inl rfl
   | false =>
    refine .inr (e a ?_)
    unfold T.own T.ro
    rw [ko]
    cases k.mut <;> simp),T.keeps h.2 fun b hb=>e b ?_⟩
  ·unfold T.own T.ro
   rcases hb with hb | hb
   ·exact .inl (Qd _ hb)
   ·exact .inr (Qd _ hb)
theorem T.keeps{H H':Hp}:∀ {l:List T},T.oks H l→(∀ a,a∈T.owns l∨a∈T.ros l→H' a=H a)→T.oks H' l
 | [],_,_=>trivial
 | t::r,h,e=>by
  refine ⟨T.keep h.1 fun a z=>e a ?_,T.keeps h.2 fun a z=>e a ?_⟩
  ·unfold T.owns T.ros
   rcases z with z | z
   ·exact .inl (Qh _ z)
   ·exact .inr (Qh _ z)
  ·unfold T.owns T.ros
   rcases z with z | z
   ·exact .inl (Qd _ z)
   ·exact .inr (Qd _ z)
end
mutual
theorem T.there{H:Hp}{a:Addr}:∀ {t:T},t.ok H→(a∈t.own∨a∈t.ro)→H a≠none
 | .at _,_,z=>by simp [T.own,T.ro] at z
 | .nd b k l,h,z=>by
  unfold T.own T.ro at z
  have:(a=b∧k.out=false)∨a∈T.owns l∨a∈T.ros l:=by
   rcases z with z | z
   ·rcases Qf.mp z with z | z
    ·left
     cases hm:k.mut with
     | true=>rw [hm] at z;exact ⟨by simpa using z,NK.mut_out hm⟩
     | false=>rw [hm] at z;simp at z
    ·exact .inr (.inl z)
   ·rcases Qf.mp z with z | z
    ·left
     cases hm:(k.mut || k.out) with
     | true=>rw [hm] at z;simp at z
     | false=>rw [hm] at z;exact ⟨by simpa using z,by simp at hm;exact hm.2⟩
    ·exact .inr (.inr z)
  rcases this with ⟨rfl,ko⟩ | z
  ·exact h.1.some ko
  ·exact T.theres h.2 z
theorem T.theres{H:Hp}{a:Addr}:∀ {l:List T},T.oks H l→(a∈T.owns l∨a∈T.ros l)→H a≠none
 | [],_,z=>by simp [T.owns,T.ros] at z
 | t::r,h,z=>by
  unfold T.owns T.ros at z
  rcases z with z | z
  ·rcases Qf.mp z with z | z
   ·exact T.there h.1 (.inl z)
   ·exact T.theres h.2 (.inl z)
  ·rcases Qf.mp z with z | z
   ·exact T.there h.1 (.inr z)
   ·exact T.theres h.2 (.inr z)
end
mutual
theorem T.imm_own:∀ {t:T},t.er.imm=true→t.own=[]
 | .at _,_=>rfl
 | .nd a k l,h=>by
  simp only [T.er,D.imm,Qw,Wi] at h
  simp only [T.own,h.1,T.imms_own h.2];rfl
theorem T.imms_own:∀ {l:List T},D.imms (T.ers l)=true→T.owns l=[]
 | [],_=>rfl
 | t::r,h=>by
  simp only [T.ers,D.imms,Qw] at h
  simp only [T.owns,T.imm_own h.1,T.imms_own h.2];rfl
end


noncomputable def D.get:List Nat→D→Option D
 | [],d=>some d
 | i::p,.nd _ l=>match l[i]? with | some c=>c.get p | none=>none
 | _::_,.at _=>none
noncomputable def T.get:List Nat→T→Option T
 | [],d=>some d
 | i::p,.nd _ _ l=>match l[i]? with | some c=>c.get p | none=>none
 | _::_,.at _=>none
noncomputable def D.put(s:D):List Nat→D→D
 | [],_=>s
 | i::p,.nd k l=>match l[i]? with | some c=>.nd k (l.set i (D.put s p c)) | none=>.nd k l
 | _::_,.at v=>.at v
noncomputable def T.put(s:T):List Nat→T→T
 | [],_=>s
 | i::p,.nd a k l=>match l[i]? with | some c=>.nd a k (l.set i (T.put s p c)) | none=>.nd a k l
 | _::_,.at v=>.at v
theorem T.get_er:∀ (p:List Nat) (t:T),t.er.get p=(t.get p).map T.er
 | [],t=>rfl
 | i::p,.at v=>rfl
 | i::p,.nd a k l=>by
  simp only [T.er,D.get,T.get,T.ers_eq,Qc]
  cases e:l[i]? with
  | none=>rfl
  | some c=>exact T.get_er p c
theorem T.put_er(s:T):∀ (p:List Nat) (t:T),(T.put s p t).er=D.put s.er p t.er
 | [],t=>rfl
 | i::p,.at v=>rfl
 | i::p,.nd a k l=>by
  simp only [T.er,D.put,T.put,T.ers_eq,Qc]
  cases e:l[i]? with
  | none=>simp only [Option.map_none,T.er,T.ers_eq]
  | some c=>simp only [Option.map_some,T.er,T.ers_eq,Jw,T.put_er s p c]
theorem T.put_val{s s':T}:∀ {p:List Nat} {t:T},t.get p=some s→s'.val=s.val→(T.put s' p t).val=t.val
 | [],t,h,e=>by cases h;exact e
 | i::p,.at v,h,e=>rfl
 | i::p,.nd a k l,h,e=>by
  simp only [T.put]
  cases l[i]? <;> rfl
theorem T.get_ok{H:Hp}{s:T}:∀ {p:List Nat} {t:T},t.get p=some s→t.ok H→s.ok H
 | [],t,h,e=>by cases h;exact e
 | i::p,.at v,h,e=>by cases h
 | i::p,.nd a k l,h,e=>by
  simp only [T.get] at h
  cases q:l[i]? with
  | none=>rw [q] at h;cases h
  | some c=>rw [q] at h;exact T.get_ok h (T.oks_iff.mp e.2 c (Qg q))
theorem T.get_app:∀ (p q:List Nat) (d:T),d.get (p++q)=(d.get p).bind (T.get q)
 | [],q,d=>rfl
 | i::p,q,.at v=>rfl
 | i::p,q,.nd _ k l=>by
  simp only [Jj,T.get]
  cases e:l[i]? with
  | none=>rfl
  | some c=>exact T.get_app p q c
theorem T.owns_get{i:Nat}{c:T}:∀ {l:List T},l[i]?=some c→∃ x y,T.owns l=x++(c.own++y)∧∀ c',T.owns (l.set i c')=x++(c'.own++y):=by
 induction i with
 | zero =>
  intro l h
  match l,h with
  | t::r,h =>
   cases h
   exact ⟨[],T.owns r,rfl,fun c'=>rfl⟩
 | succ i ih =>
  intro l h
  match l,h with
  | t::r,h =>
   obtain ⟨x,y,e,f⟩:=ih (l:=r) (by simpa using h)
   exact ⟨t.own++x,y,by simp only [T.owns,e,Qp],fun c'=>by simp only [Wx,T.owns,f c',Qp]⟩
theorem T.ros_get{i:Nat}{c:T}:∀ {l:List T},l[i]?=some c→∃ x y,T.ros l=x++(c.ro++y)∧∀ c',T.ros (l.set i c')=x++(c'.ro++y):=by
 induction i with
 | zero =>
  intro l h
  match l,h with
  | t::r,h =>
   cases h
   exact ⟨[],T.ros r,rfl,fun c'=>rfl⟩
 | succ i ih =>
  intro l h
  match l,h with
  | t::r,h =>
   obtain ⟨x,y,e,f⟩:=ih (l:=r) (by simpa using h)
   exact ⟨t.ro++x,y,by simp only [T.ros,e,Qp],fun c'=>by simp only [Wx,T.ros,f c',Qp]⟩
structure Ctx(t:T)(p:List Nat)(s:T)(c r:List Addr):Prop where
 own:t.own.Perm (c++s.own)
 ro:t.ro.Perm (r++s.ro)
 own':∀ s',(T.put s' p t).own.Perm (c++s'.own)
 ro':∀ s',(T.put s' p t).ro.Perm (r++s'.ro)
 ok:∀ {H H':Hp} {s':T},t.ok H→(∀ a,a∈c∨a∈r→H' a=H a)→s'.ok H'→s'.val=s.val→(T.put s' p t).ok H'
theorem pm3{α:Type}{x y a c:List α}{k:List α}(h:a.Perm (c++k)):(x++(a++y)).Perm ((x++(c++y))++k):=by
 rw [Qp]
 refine List.Perm.append_left x ?_
 refine (h.append_right y).trans ?_
 rw [Qp,Qp]
 exact List.Perm.append_left c Jv
theorem T.ctx{s:T}:∀ {p:List Nat} {t:T},t.get p=some s→∃ c r,Ctx t p s c r
 | [],t,h=>by
  cases h
  exact ⟨[],[],.refl _,.refl _,fun _=>.refl _,fun _=>.refl _,fun _ _ h _=>h⟩
 | i::p,.at v,h=>by cases h
 | i::p,.nd a k l,h=>by
  simp only [T.get] at h
  cases q:l[i]? with
  | none=>rw [q] at h;cases h
  | some ch =>
   rw [q] at h
   obtain ⟨c,r,C⟩:=T.ctx (p:=p) h
   obtain ⟨x,y,e1,e2⟩:=T.owns_get q
   obtain ⟨x',y',f1,f2⟩:=T.ros_get q
   have put:∀ s',T.put s' (i::p) (.nd a k l)=.nd a k (l.set i (T.put s' p ch)):=fun s'=>by simp only [T.put,q]
   refine ⟨(if k.mut then [a] else [])++(x++(c++y)),(if k.mut || k.out then [] else [a])++(x'++(r++y')),?_,?_,fun s'=>?_,fun s'=>?_,fun {H H' s'} ho he hs hv=>?_⟩
   ·simp only [T.own,e1];rw [Qp];exact List.Perm.append_left _ (pm3 C.own)
   ·simp only [T.ro,f1];rw [Qp];exact List.Perm.append_left _ (pm3 C.ro)
   ·rw [put];simp only [T.own,e2];rw [Qp];exact List.Perm.append_left _ (pm3 (C.own' s'))
   ·rw [put];simp only [T.ro,f2];rw [Qp];exact List.Perm.append_left _ (pm3 (C.ro' s'))
   ·rw [put]
    have hm:=Qg q
    have hch:(T.put s' p ch).ok H':=C.ok (T.oks_iff.mp ho.2 ch hm) (fun b hb=>he b (by
     rcases hb with hb | hb
     ·exact .inl (by simp [hb])
     ·exact .inr (by simp [hb]))) hs hv
    have hvs:(l.set i (T.put s' p ch)).map T.val=l.map T.val:=by
     rw [Jw,T.put_val h hv]
     refine Wf fun j=>?_
     rw [Qn]
     by_cases hj:i=j
     ·subst hj
      rw [if_pos rfl,Qc,q,if_pos (by simpa using (Qe.mp q).1)];rfl
     ·rw [if_neg hj]
    refine ⟨?_,T.oks_iff.mpr fun t ht=>?_⟩
    ·rw [hvs]
     refine ho.1.keep ?_
     cases ko:k.out with
     | true=>exact .inl rfl
     | false =>
      refine .inr (he a ?_)
      rw [ko]
      cases k.mut <;> simp
    ·obtain ⟨j,hj⟩:=Ja.mp ht
     rw [Qn] at hj
     by_cases hij:i=j
     ·rw [if_pos hij] at hj
      split at hj
      ·cases hj;exact hch
      ·cases hj
     ·rw [if_neg hij] at hj
      have tok:=T.oks_iff.mp ho.2 t (Qg hj)
      refine T.keep tok fun b hb=>he b ?_
      rcases hb with hb | hb
      ·left
       have h2:b∈T.owns (l.set i (.at .non)):=T.mem_owns.mpr ⟨t,Qg (by rw [Qn,if_neg hij];exact hj),hb⟩
       rw [e2] at h2
       simp only [T.own,Js,Qf] at h2 ⊢
       rcases h2 with h2 | h2 <;> simp [h2]
      ·right
       have h2:b∈T.ros (l.set i (.at .non)):=T.mem_ros.mpr ⟨t,Qg (by rw [Qn,if_neg hij];exact hj),hb⟩
       rw [f2] at h2
       simp only [T.ro,Js,Qf] at h2 ⊢
       rcases h2 with h2 | h2 <;> simp [h2]
end RM

namespace RM
open PySem PySem.Spec PyProof.Rows L2
inductive DL where
 | non | own (w:Bool) (d:D) | bor (k:Nat) (p:List Nat)
inductive TL where
 | non | own (w:Bool) (t:T) | bor (k:Nat) (p:List Nat) (a:Addr)
inductive DV where
 | val (d:D) | plc (k:Nat) (p:List Nat)
inductive TV where
 | val (t:T) | plc (k:Nat) (p:List Nat) (a:Addr)
noncomputable abbrev Sd:=List DL
noncomputable abbrev Ts:=List TL
noncomputable def TL.er:TL→DL
 | .non=>.non | .own w t=>.own w t.er | .bor k p _=>.bor k p
noncomputable def TV.er:TV→DV
 | .val t=>.val t.er | .plc k p _=>.plc k p
noncomputable def TL.own1:TL→List Addr
 | .own true t=>t.own | _=>[]
noncomputable def TL.ro1:TL→List Addr
 | .own _ t=>t.ro | _=>[]
noncomputable def TL.rd1:TL→List Addr
 | .own false t=>t.own | _=>[]
noncomputable def Zc(ts:Ts):List Addr:=ts.flatMap TL.own1
noncomputable def roS(ts:Ts):List Addr:=ts.flatMap TL.ro1
noncomputable def rdS(ts:Ts):List Addr:=ts.flatMap TL.rd1
noncomputable def TV.tr:TV→List T
 | .val t=>[t] | .plc _ _ _=>[]
noncomputable def PlOk(ts:Ts)(k:Nat)(p:List Nat)(a:Addr):Prop:=∃ w t s,ts[k]?=some (.own w t)∧t.get p=some s∧s.val=.ref a
noncomputable def TL.v:TL→Option V
 | .non=>none | .own _ t=>some t.val | .bor _ _ a=>some (.ref a)
noncomputable def ZX(ts:Ts)(v:V):TV→Prop
 | .val t=>v=t.val
 | .plc k p a=>v=.ref a∧PlOk ts k p a
structure RC where
 H0:Hp
 G:Addr→Prop
 B:Addr→Prop
 EX:L2.St→XK
 ad:Str→Addr
structure Cf(R:RC)(ix:List Nat)(hd:List (Nat×Addr))(H:Hp)(σ:L2.St)(ts:Ts)(fr:List T):Prop where
 ok:∀ w t,TL.own w t∈ts→t.ok H
 fok:T.oks H fr
 nd:(Zc ts++T.owns fr).Nodup
 sep:∀ a,a∈roS ts∨a∈T.ros fr→a∉Zc ts∧a∉T.owns fr∧¬ R.B a
 rd:∀ a,a∈rdS ts→a∉Zc ts∧a∉T.owns fr
 g:∀ a,R.G a→H a=R.H0 a∧H a≠none∧a∉Zc ts∧a∉T.owns fr
 bg:∀ a,R.B a→R.G a
 bor:∀ (j k:Nat) (p:List Nat) (a:Addr),ts[j]?=some (TL.bor k p a)→PlOk ts k p a
 ixs:∀ j∈ix,j < ts.length
 sl:∀ (i j:Nat) (s:TL) (v:V),ix[i]?=some j→ts[j]?=some s→s.v=some v→σ[i]?=some (some v)
 hdi:∀ (j:Nat) (a:Addr),(j,a)∈hd→j < ts.length
 hdx:∀ (j:Nat) (a:Addr),(j,a)∈hd→j∉ix
 len:ix.length≤σ.length
 hdn:∀ (j:Nat) (a:Addr),(j,a)∈hd→∀ (s:TL) (v:V),ts[j]?=some s→s.v=some v→v=.ref a
theorem ZX.er_val{ts:Ts}{v:V}{tv:TV}{d:D}(h:ZX ts v tv)(e:tv.er=.val d):∃ t,tv=.val t∧t.er=d∧v=t.val:=by
 cases tv with
 | val t=>simp only [TV.er,DV.val.injEq] at e;exact ⟨t,rfl,e,h⟩
 | plc k p a=>simp [TV.er] at e
theorem ZX.er_plc{ts:Ts}{v:V}{tv:TV}{k:Nat}{p:List Nat}(h:ZX ts v tv)(e:tv.er=.plc k p):∃ a,tv=.plc k p a∧v=.ref a∧PlOk ts k p a:=by
 cases tv with
 | val t=>simp [TV.er] at e
 | plc k' p' a=>simp only [TV.er,DV.plc.injEq] at e;obtain ⟨rfl,rfl⟩:=e;exact ⟨a,rfl,h.1,h.2⟩
theorem Z18{a:Addr}{ts:Ts}:a∈Zc ts↔∃ t,TL.own true t∈ts∧a∈t.own:=by
 unfold Zc
 rw [Gj]
 constructor
 ·rintro ⟨s,hs,h⟩
  cases s with
  | own w t=>cases w with
   | true=>exact ⟨t,hs,h⟩
   | false=>simp [TL.own1] at h
  | _=>simp [TL.own1] at h
 ·rintro ⟨t,ht,h⟩
  exact ⟨_,ht,h⟩
theorem Z1j{a:Addr}{ts:Ts}:a∈roS ts↔∃ w t,TL.own w t∈ts∧a∈t.ro:=by
 unfold roS
 rw [Gj]
 constructor
 ·rintro ⟨s,hs,h⟩
  cases s with
  | own w t=>exact ⟨w,t,hs,h⟩
  | _=>simp [TL.ro1] at h
 ·rintro ⟨w,t,ht,h⟩
  exact ⟨_,ht,h⟩
theorem Z3v{a:Addr}{ts:Ts}:a∈rdS ts↔∃ t,TL.own false t∈ts∧a∈t.own:=by
 unfold rdS
 rw [Gj]
 constructor
 ·rintro ⟨s,hs,h⟩
  cases s with
  | own w t=>cases w with
   | false=>exact ⟨t,hs,h⟩
   | true=>simp [TL.rd1] at h
  | _=>simp [TL.rd1] at h
 ·rintro ⟨t,ht,h⟩
  exact ⟨_,ht,h⟩
section
variable {R:RC}{ix:List Nat}{hd:List (Nat×Addr)}{H:Hp}{σ:L2.St}{ts:Ts}{fr:List T}
theorem Cf.fresh(C:Cf R ix hd H σ ts fr){a:Addr}(h:H a=none):a∉Zc ts∧a∉roS ts∧a∉rdS ts∧a∉T.owns fr∧a∉T.ros fr∧¬ R.G a:=by
 refine ⟨fun z=>?_,fun z=>?_,fun z=>?_,fun z=>?_,fun z=>?_,fun z=>(C.g a z).2.1 h⟩
 ·obtain ⟨t,ht,z⟩:=Z18.mp z;exact T.there (C.ok _ t ht) (.inl z) h
 ·obtain ⟨w,t,ht,z⟩:=Z1j.mp z;exact T.there (C.ok _ t ht) (.inr z) h
 ·obtain ⟨t,ht,z⟩:=Z3v.mp z;exact T.there (C.ok _ t ht) (.inl z) h
 ·exact T.theres C.fok (.inl z) h
 ·exact T.theres C.fok (.inr z) h
theorem Cf.at(C:Cf R ix hd H σ ts fr)(v:V):Cf R ix hd H σ ts (.at v::fr) :=
 ⟨C.ok,⟨trivial,C.fok⟩,by simpa [T.owns,T.own] using C.nd,by simpa [T.owns,T.own,T.ros,T.ro] using C.sep,by simpa [T.owns,T.own] using C.rd,by simpa [T.owns,T.own] using C.g,C.bg,C.bor,C.ixs,C.sl,C.hdi,C.hdx,C.len,C.hdn⟩
theorem Cf.less{fr':List T}{x:List Addr}(C:Cf R ix hd H σ ts fr)(ho:T.oks H fr')(h1:(T.owns fr).Perm (T.owns fr'++x))(h2:∀ a,a∈T.ros fr'→a∈T.ros fr∨a∈roS ts∨a∈x):Cf R ix hd H σ ts fr':=by
 have m1:∀ a,a∈T.owns fr'→a∈T.owns fr:=fun a z=>h1.mem_iff.mpr (Qh _ z)
 have nd:=(List.Perm.append_left (Zc ts) h1).nodup_iff.mp C.nd
 rw [← Qp] at nd
 have nd1:=(Qm.mp nd)
 refine ⟨C.ok,ho,nd1.1,fun a z=>?_,fun a z=>⟨(C.rd a z).1,fun q=>(C.rd a z).2 (m1 a q)⟩,fun a z=>⟨(C.g a z).1,(C.g a z).2.1,(C.g a z).2.2.1,fun q=>(C.g a z).2.2.2 (m1 a q)⟩,C.bg,C.bor,C.ixs,C.sl,C.hdi,C.hdx,C.len,C.hdn⟩
 have old:a∈roS ts∨a∈T.ros fr→a∉Zc ts∧a∉T.owns fr'∧¬ R.B a:=fun z=>⟨(C.sep a z).1,fun q=>(C.sep a z).2.1 (m1 a q),(C.sep a z).2.2⟩
 rcases z with z | z
 ·exact old (.inl z)
 ·rcases h2 a z with z | z | z
  ·exact old (.inr z)
  ·exact old (.inl z)
  ·refine ⟨fun q=>nd1.2.2 a (Qh _ q) a z rfl,fun q=>nd1.2.2 a (Qd _ q) a z rfl,fun q=>?_⟩
   exact (C.g a (C.bg a q)).2.2.2 (h1.mem_iff.mpr (Qd _ z))
theorem Cf.drop{t:T}(C:Cf R ix hd H σ ts (t::fr)):Cf R ix hd H σ ts fr :=
 C.less (x:=t.own) C.fok.2 (by rw [T.owns_cons];exact Jv) fun a z=>.inl (by rw [T.ros_cons];exact Qd _ z)
theorem Cf.drops{l:List T}(C:Cf R ix hd H σ ts (l++fr)):Cf R ix hd H σ ts fr:=by
 induction l with
 | nil=>exact C
 | cons t r ih=>exact ih C.drop
end
end RM

namespace RM
open PySem PySem.Spec PyProof.Rows L2
inductive ER(α:Type) where
 | ok (a:α) (s:Sd) | ex (C:Str) (s:Sd) | no
inductive SR where
 | nx (s:Sd) | rt (r:DV) (s:Sd) | bk (s:Sd) | ct (s:Sd) | ex (C:Str) (s:Sd) | no
noncomputable abbrev EF:=Sd→ER DV
noncomputable abbrev AF:=Sd→ER (List DV)
noncomputable abbrev BF:=Sd→ER Bool
noncomputable abbrev SF:=Sd→SR
noncomputable def trs(tvs:List TV):List T:=tvs.flatMap TV.tr
inductive TvsOk(ts:Ts):List V→List TV→Prop where
 | nil:TvsOk ts [] []
 | cons {v:V} {tv:TV} {vs:List V} {tvs:List TV}:ZX ts v tv→TvsOk ts vs tvs→TvsOk ts (v::vs) (tv::tvs)
section
variable (R:RC)(ix:List Nat)
noncomputable def lE(f:EF):TE:=fun σ H Q=>∃ hd ts fr,Cf R ix hd H σ ts fr∧match f (ts.map TL.er) with
 | .ok r s'=>∀ H' ts' tv v,ts'.map TL.er=s'→tv.er=r→ZX ts' v tv→Cf R ix hd H' σ ts' (tv.tr++fr)→Q v H'
 | .ex C s'=>∀ H' ts',ts'.map TL.er=s'→Cf R ix hd H' σ ts' fr→R.EX σ (.ref (R.ad C)) none H'
 | .no=>False
noncomputable def lA(f:AF):TA:=fun σ H Q=>∃ hd ts fr,Cf R ix hd H σ ts fr∧match f (ts.map TL.er) with
 | .ok r s'=>∀ H' ts' tvs vs,ts'.map TL.er=s'→tvs.map TV.er=r→TvsOk ts' vs tvs→Cf R ix hd H' σ ts' (trs tvs++fr)→Q vs H'
 | .ex C s'=>∀ H' ts',ts'.map TL.er=s'→Cf R ix hd H' σ ts' fr→R.EX σ (.ref (R.ad C)) none H'
 | .no=>False
noncomputable def lT(f:BF):TT:=fun σ H Q=>∃ hd ts fr,Cf R ix hd H σ ts fr∧match f (ts.map TL.er) with
 | .ok r s'=>∀ H' ts',ts'.map TL.er=s'→Cf R ix hd H' σ ts' fr→Q r H'
 | .ex C s'=>∀ H' ts',ts'.map TL.er=s'→Cf R ix hd H' σ ts' fr→R.EX σ (.ref (R.ad C)) none H'
 | .no=>False
noncomputable def lS(f:SF):L2.TS:=fun D σ H=>∃ hd ts fr,Cf R ix hd H σ ts fr∧match f (ts.map TL.er) with
 | .nx s'=>∀ H' σ' ts',ts'.map TL.er=s'→Cf R ix hd H' σ' ts' fr→D.nx σ' H'
 | .rt r s'=>∀ H' σ' ts' tv v,ts'.map TL.er=s'→tv.er=r→ZX ts' v tv→Cf R ix hd H' σ' ts' (tv.tr++fr)→D.rt v H'
 | .bk s'=>∀ H' σ' ts',ts'.map TL.er=s'→Cf R ix hd H' σ' ts' fr→D.bk σ' H'
 | .ct s'=>∀ H' σ' ts',ts'.map TL.er=s'→Cf R ix hd H' σ' ts' fr→D.ct σ' H'
 | .ex C s'=>∀ H' σ' ts',ts'.map TL.er=s'→Cf R ix hd H' σ' ts' fr→R.EX σ' (.ref (R.ad C)) none H'
 | .no=>False
end
section
variable {X:Cx}{e:Expr}{es:List Expr}{st:Stmt}{sts:List Stmt}
theorem peM{t t':TE}(h:PE X e t)(m:∀ σ H Q,t' σ H Q→t σ H Q):PE X e t':=fun pins s σ H Q I q=>h pins s σ H Q I (m _ _ _ q)
theorem paM{t t':TA}(h:PA X es t)(m:∀ σ H Q,t' σ H Q→t σ H Q):PA X es t':=fun pos pins s σ H Q I q=>h pos pins s σ H Q I (m _ _ _ q)
theorem ptM{t t':TT}(h:PT X e t)(m:∀ σ H Q,t' σ H Q→t σ H Q):PT X e t':=fun pins s σ H Q I q=>h pins s σ H Q I (m _ _ _ q)
theorem psM{t t':L2.TS}(h:PS X st t)(m:∀ D σ H,t' D σ H→t D σ H):PS X st t':=fun pins s σ H D I q=>h pins s σ H D I (m _ _ _ q)
theorem pssM{t t':L2.TS}(h:PSs X sts t)(m:∀ D σ H,t' D σ H→t D σ H):PSs X sts t':=fun pins s σ H D I q=>h pins s σ H D I (m _ _ _ q)
end

noncomputable def eC(v:V):EF:=fun s=>.ok (.val (.at v)) s
section
variable {R:RC}{ix:List Nat}{hd:List (Nat×Addr)}{X:Cx}{e:Expr}
theorem lE_C{v:V}(hc:cl v=v)(σ:L2.St)(H:Hp)(Q:VK)(h:lE R ix (eC v) σ H Q):tC v σ H Q:=by
 obtain ⟨hd,ts,fr,C,h⟩:=h
 exact h H ts (.val (.at v)) v rfl (by simp only [TV.er,T.er,hc]) rfl (C.at v)
theorem Z6{v:V}(h:PE X e (tC v))(hc:cl v=v:=by rfl):PE X e (lE R ix (eC v)):=peM h (lE_C hc)

noncomputable def Zw(s:Sd):DV→Option D
 | .val d=>some d
 | .plc k p=>match s[k]? with | some (.own _ d)=>d.get p | _=>none
theorem Z6S{H:Hp}{σ:L2.St}{ts:Ts}{fr:List T}{tv:TV}{v:V}{d:D}(C:Cf R ix hd H σ ts fr)(hv:ZX ts v tv)(ho:T.oks H tv.tr)(h:Zw (ts.map TL.er) tv.er=some d) :
  ∃ t:T,t.er=d∧t.val=v∧t.ok H∧(tv=.val t∨∃ k p a w u,tv=.plc k p a∧ts[k]?=some (TL.own w u)∧u.get p=some t):=by
 cases tv with
 | val t =>
  cases h
  exact ⟨t,rfl,hv.symm,ho.1,.inl rfl⟩
 | plc k p a =>
  obtain ⟨rfl,w,t,s,h1,h2,h3⟩:=hv
  simp only [TV.er,Zw,Qc,h1,Option.map_some,TL.er,T.get_er,h2,Option.some.injEq] at h
  exact ⟨s,h,h3,T.get_ok h2 (C.ok w t (Qg h1)),.inr ⟨k,p,a,w,t,rfl,h1,h2⟩⟩

noncomputable def mkV(k:Nat)(p:List Nat)(d:D):DV:=if d.imm then .val d else .plc k p
noncomputable def Z3(j:Nat):EF:=fun s=>match s[j]? with
 | some (.own _ d)=>.ok (mkV j [] d) s
 | some (.bor k p)=>match Zw s (.plc k p) with | some d=>.ok (mkV k p d) s | none=>.no
 | _=>.no
theorem Cf.copy{H:Hp}{σ:L2.St}{ts:Ts}{fr:List T}{w:Bool}{t s:T}(C:Cf R ix hd H σ ts fr)(hm:TL.own w t∈ts){p:List Nat}(hp:t.get p=some s)(hi:s.own=[]):Cf R ix hd H σ ts (s::fr):=by
 have ho:s.ok H:=T.get_ok hp (C.ok w t hm)
 obtain ⟨c,r,K⟩:=T.ctx hp
 have hro:∀ a,a∈s.ro→a∈roS ts:=fun a z=>Z1j.mpr ⟨w,t,hm,K.ro.mem_iff.mpr (Qd _ z)⟩
 refine ⟨C.ok,⟨ho,C.fok⟩,?_,fun a z=>?_,?_,?_,C.bg,C.bor,C.ixs,C.sl,C.hdi,C.hdx,C.len,C.hdn⟩
 ·rw [T.owns_cons,hi];exact C.nd
 ·rw [T.owns_cons,hi]
  refine C.sep a ?_
  rcases z with z | z
  ·exact .inl z
  ·rw [T.ros_cons] at z
   rcases Qf.mp z with z | z
   ·exact .inl (hro a z)
   ·exact .inr z
 ·rw [T.owns_cons,hi];exact C.rd
 ·rw [T.owns_cons,hi];exact C.g
theorem Zc4(t:T)(h:t.er.imm=false):∃ a,t.val=.ref a:=by
 cases t with
 | «at» v=>cases h
 | nd a k l=>exact ⟨a,rfl⟩
theorem mk_ok{H:Hp}{σ:L2.St}{ts:Ts}{fr:List T}{w:Bool}{t s:T}{k:Nat}{p:List Nat}(C:Cf R ix hd H σ ts fr)(h1:ts[k]?=some (TL.own w t))(hp:t.get p=some s) :
  ∃ tv,tv.er=mkV k p s.er∧ZX ts s.val tv∧Cf R ix hd H σ ts (tv.tr++fr):=by
 unfold mkV
 cases hi:s.er.imm with
 | true=>exact ⟨.val s,rfl,rfl,C.copy (Qg h1) hp (T.imm_own hi)⟩
 | false =>
  obtain ⟨a,ha⟩:=Zc4 s hi
  exact ⟨.plc k p a,rfl,⟨ha,w,t,s,h1,hp,ha⟩,C⟩
theorem ZeX{i j:Nat}(hix:ix[i]?=some j)(σ:L2.St)(H:Hp)(Q:VK)(h:lE R ix (Z3 j) σ H Q):tVar i σ H Q:=by
 obtain ⟨hd,ts,fr,C,h⟩:=h
 unfold Z3 at h
 rw [Qc] at h
 cases e:ts[j]? with
 | none=>rw [e] at h;exact h.elim
 | some s =>
  rw [e] at h
  cases s with
  | non=>exact h.elim
  | own w t =>
   obtain ⟨tv,e1,e2,e3⟩:=mk_ok C e (show t.get []=some t from rfl)
   exact ⟨t.val,C.sl i j _ _ hix e rfl,h H ts tv t.val rfl e1 e2 e3⟩
  | bor k p a =>
   obtain ⟨w,t,s,h1,h2,h3⟩:=C.bor j k p a e
   have hd:Zw (ts.map TL.er) (.plc k p)=some s.er:=by simp only [Zw,Qc,h1,Option.map_some,TL.er,T.get_er,h2]
   simp only [Option.map_some,TL.er,hd] at h
   obtain ⟨tv,e1,e2,e3⟩:=mk_ok C h1 h2
   rw [h3] at e2
   exact ⟨.ref a,C.sl i j _ _ hix e rfl,h H ts tv (.ref a) rfl e1 e2 e3⟩
theorem Z2{i j:Nat}(h:PE X e (tVar i))(hix:ix[i]?=some j):PE X e (lE R ix (Z3 j)):=peM h (ZeX hix)
end
end RM

namespace RM
open PySem PySem.Spec PyProof.Rows L2

noncomputable def Z1:AF:=fun s=>.ok [] s
noncomputable def unh(n k:Nat)(p:List Nat)(s:Sd):Option Sd:=match s.getLast? with
 | some (.bor k' p')=>if k'=k∧p'=p∧s.length=n + 1 then some s.dropLast else none
 | _=>none
noncomputable def unx(n:Nat)(s:Sd):Option Sd:=match s.getLast? with
 | some (.own _ _)=>none
 | some _=>if s.length=n + 1 then some s.dropLast else none
 | none=>none
noncomputable def Z0(f:EF)(g:AF):AF:=fun s=>match f s with
 | .ok (.val d) s1=>(match g s1 with | .ok rs s2=>.ok (.val d::rs) s2 | .ex C s2=>.ex C s2 | .no=>.no)
 | .ok (.plc k p) s1=>(match g (s1++[.bor k p]) with
  | .ok rs s2=>(match unh s1.length k p s2 with | some s3=>.ok (.plc k p::rs) s3 | none=>.no)
  | .ex C s2=>(match unx s1.length s2 with | some s3=>.ex C s3 | none=>.no) | .no=>.no)
 | .ex C s1=>.ex C s1
 | .no=>.no
section
variable {R:RC}{ix:List Nat}{hd:List (Nat×Addr)}{X:Cx}{e:Expr}{H:Hp}{σ:L2.St}{ts:Ts}{fr:List T}
theorem Z0R(a b:Ts):Zc (a++b)=Zc a++Zc b:=by simp [Zc]
theorem Z2Y(a b:Ts):roS (a++b)=roS a++roS b:=by simp [roS]
theorem Z21(a b:Ts):rdS (a++b)=rdS a++rdS b:=by simp [rdS]
theorem PlOk.app{a:Ts}{k:Nat}{p:List Nat}{x:Addr}(h:PlOk a k p x)(b:Ts):PlOk (a++b) k p x:=by
 obtain ⟨w,t,s,h1,h2,h3⟩:=h
 exact ⟨w,t,s,by rw [Qk (Qe.mp h1).1];exact h1,h2,h3⟩
theorem Cf.hide{k:Nat}{p:List Nat}{a:Addr}(C:Cf R ix hd H σ ts fr)(h:PlOk ts k p a):Cf R ix (hd++[(ts.length,a)]) H σ (ts++[.bor k p a]) fr:=by
 have e1:Zc (ts++[.bor k p a])=Zc ts:=by rw [Z0R];simp [Zc,TL.own1]
 have e2:roS (ts++[.bor k p a])=roS ts:=by rw [Z2Y];simp [roS,TL.ro1]
 have e3:rdS (ts++[.bor k p a])=rdS ts:=by rw [Z21];simp [rdS,TL.rd1]
 refine ⟨fun w t z=>?_,C.fok,by rw [e1];exact C.nd,by rw [e1,e2];exact C.sep,by rw [e1,e3];exact C.rd,by rw [e1];exact C.g,C.bg,fun j k' p' a' z=>?_,fun j z=>by simpa using Wa (C.ixs j z),fun i j s v z1 z2 z3=>?_,fun j b z=>?_,fun j b z=>?_,C.len,fun j b z s v z2 z3=>?_⟩
 ·rcases Qf.mp z with z | z
  ·exact C.ok w t z
  ·simp at z
 ·by_cases hj:j < ts.length
  ·rw [Qk hj] at z
   exact (C.bor j k' p' a' z).app _
  ·rw [Qu (by omega)] at z
   have:j - ts.length=0:=by
    have:=(Qe.mp z).1
    simp at this;omega
   rw [this] at z
   cases z
   exact h.app _
 ·have:=C.ixs j (Qg z1)
  rw [Qk this] at z2
  exact C.sl i j s v z1 z2 z3
 ·rcases Qf.mp z with z | z
  ·simpa using Wa (C.hdi j b z)
  ·simp only [Je,Prod.mk.injEq] at z
   simp [z.1]
 ·rcases Qf.mp z with z | z
  ·exact C.hdx j b z
  ·simp only [Je,Prod.mk.injEq] at z
   rw [z.1]
   exact fun q=>absurd (C.ixs _ q) (Jo _)
 ·rcases Qf.mp z with z | z
  ·by_cases hj:j < ts.length
   ·rw [Qk hj] at z2
    exact C.hdn j b z s v z2 z3
   ·exact absurd (C.hdi j b z) hj
  ·simp only [Je,Prod.mk.injEq] at z
   obtain ⟨rfl,rfl⟩:=z
   rw [Qu (Qq _),Gp] at z2
   cases z2
   cases z3
   rfl
theorem Cf.pop{x:TL}{hm:List (Nat×Addr)}(C:Cf R ix (hd++hm) H σ (ts++[x]) fr)(hx:∀ w t,x≠.own w t)(hi:∀ j∈ix,j < ts.length)(hj:∀ j a,(j,a)∈hd→j < ts.length):Cf R ix hd H σ ts fr∧∀ k p a,x=.bor k p a→PlOk ts k p a:=by
 have e1:Zc (ts++[x])=Zc ts:=by rw [Z0R];cases x <;> simp_all [Zc,TL.own1]
 have e2:roS (ts++[x])=roS ts:=by rw [Z2Y];cases x <;> simp_all [roS,TL.ro1]
 have e3:rdS (ts++[x])=rdS ts:=by rw [Z21];cases x <;> simp_all [rdS,TL.rd1]
 have dn:∀ {k':Nat} {p':List Nat} {a':Addr},PlOk (ts++[x]) k' p' a'→PlOk ts k' p' a':=by
  rintro k' p' a' ⟨w,t,s,h1,h2,h3⟩
  refine ⟨w,t,s,?_,h2,h3⟩
  by_cases hj:k' < ts.length
  ·rwa [Qk hj] at h1
  ·rw [Qu (by omega)] at h1
   have:k' - ts.length=0:=by
    have:=(Qe.mp h1).1
    simp at this;omega
   rw [this] at h1
   exact absurd (Option.some.inj h1) (hx w t)
 refine ⟨⟨fun w t z=>C.ok w t (Qh _ z),C.fok,by rw [← e1];exact C.nd,by rw [← e1,← e2];exact C.sep,by rw [← e1,← e3];exact C.rd,by rw [← e1];exact C.g,C.bg,fun j k' p' a' z=>?_,hi,fun i j s v z1 z2 z3=>?_,hj,fun j b z=>C.hdx j b (Qh _ z),C.len,fun j b z s v z2 z3=>C.hdn j b (Qh _ z) s v (by rw [Qk (Qe.mp z2).1];exact z2) z3⟩,?_⟩
 ·refine dn (C.bor j k' p' a' ?_)
  rw [Qk (Qe.mp z).1];exact z
 ·refine C.sl i j s v z1 ?_ z3
  rw [Qk (Qe.mp z2).1];exact z2
 ·rintro k p a rfl
  refine dn (C.bor ts.length k p a ?_)
  rw [Qu (Qq _),Gp];rfl
theorem Za8{s:Sd}{l:DL}(h:ts.map TL.er=s++[l]):∃ ts0 t,ts=ts0++[t]∧ts0.map TL.er=s∧t.er=l:=by
 have hne:ts≠[]:=by rintro rfl;simp at h
 refine ⟨ts.dropLast,ts.getLast hne,(Nq hne).symm,?_,?_⟩
 ·rw [Gg,h];simp
 ·have:=congrArg List.getLast? h
  rw [List.getLast?_map,List.getLast?_eq_some_getLast hne] at this
  simpa using this
theorem ZcU{s s':Sd}{n k:Nat}{p:List Nat}(h:unh n k p s=some s'):s=s'++[.bor k p]∧s'.length=n:=by
 unfold unh at h
 split at h
 case h_1 k' p' e =>
  split at h
  case isTrue q =>
   obtain ⟨rfl,rfl,q⟩:=q
   cases h
   obtain ⟨l,rfl⟩:=Ga.mp e
   simp at q ⊢
   exact q
  case isFalse=>cases h
 case h_2=>cases h
theorem ZcV{n:Nat}{s s':Sd}(h:unx n s=some s'):∃ x,s=s'++[x]∧(∀ w d,x≠.own w d)∧s'.length=n:=by
 unfold unx at h
 split at h
 case h_1=>cases h
 case h_2 x e q =>
  split at h
  case isTrue z =>
   cases h
   obtain ⟨l,rfl⟩:=Ga.mp q
   simp at z
   exact ⟨x,by simp,e,by simp [z]⟩
  case isFalse=>cases h
 case h_3=>cases h
theorem Zeq{t:TL}(h:∀ w d,t.er≠.own w d):∀ w u,t≠.own w u:=by
 rintro w u rfl
 exact h w u.er rfl
theorem ZX.pop{x:TL}{v:V}{tv:TV}(h:ZX (ts++[x]) v tv)(hx:∀ w t,x≠.own w t):ZX ts v tv:=by
 cases tv with
 | val t=>exact h
 | plc k p a =>
  obtain ⟨rfl,w,t,s,h1,h2,h3⟩:=h
  refine ⟨rfl,w,t,s,?_,h2,h3⟩
  by_cases hj:k < ts.length
  ·rwa [Qk hj] at h1
  ·rw [Qu (by omega)] at h1
   have:k - ts.length=0:=by
    have:=(Qe.mp h1).1
    simp at this;omega
   rw [this] at h1
   exact absurd (Option.some.inj h1) (hx w t)
theorem TvsOk.pop{x:TL}(hx:∀ w t,x≠.own w t):∀ {vs:List V} {tvs:List TV},TvsOk (ts++[x]) vs tvs→TvsOk ts vs tvs
 | _,_,.nil=>.nil
 | _,_,.cons h r=>.cons (h.pop hx) (TvsOk.pop hx r)
theorem Z5z{s:Sd}(h:ts.map TL.er=s):ts.length=s.length:=by rw [← h];simp
theorem Z7n(σ:L2.St)(H:Hp)(Q:List V→Hp→Prop)(h:lA R ix Z1 σ H Q):tNil σ H Q:=by
 obtain ⟨hd,ts,fr,C,h⟩:=h
 exact h H ts [] [] rfl rfl .nil C
theorem Z3t{f:EF}{g:AF}(σ:L2.St)(H:Hp)(Q:List V→Hp→Prop)(h:lA R ix (Z0 f g) σ H Q):Z2J (lE R ix f) (lA R ix g) σ H Q:=by
 obtain ⟨hd,ts,fr,C,h⟩:=h
 refine ⟨hd,ts,fr,C,?_⟩
 unfold Z0 at h
 cases ef:f (ts.map TL.er) with
 | no=>rw [ef] at h;exact h
 | ex E s1=>rw [ef] at h;exact h
 | ok r s1 =>
  rw [ef] at h
  intro H1 ts1 tv v e1 e2 hv C1
  cases r with
  | val d =>
   obtain ⟨t,rfl,rfl,rfl⟩:=hv.er_val e2
   refine ⟨hd,ts1,t::fr,C1,?_⟩
   rw [e1]
   dsimp only at h
   cases eg:g s1 with
   | no=>rw [eg] at h;exact h
   | ex E s2=>rw [eg] at h;intro H2 ts2 e3 C2;exact h H2 ts2 e3 C2.drop
   | ok rs s2 =>
    rw [eg] at h
    intro H2 ts2 tvs vs e3 e4 hvs C2
    refine h H2 ts2 (.val t::tvs) (t.val::vs) e3 (by simp [TV.er,e4]) (.cons rfl hvs) ?_
    refine C2.less (x:=[]) ?_ ?_ ?_
    ·exact ⟨(T.oks_app.mp C2.fok).2.1,T.oks_app.mpr ⟨(T.oks_app.mp C2.fok).1,(T.oks_app.mp C2.fok).2.2⟩⟩
    ·show (T.owns (trs tvs++t::fr)).Perm (T.owns (t::(trs tvs++fr))++[])
     rw [Jg,T.owns_app,T.owns_cons,T.owns_cons,T.owns_app]
     rw [← Qp,← Qp]
     exact List.Perm.append_right _ Jv
    ·intro a z
     left
     have z:a∈T.ros (t::(trs tvs++fr)):=z
     rw [T.ros_app,T.ros_cons]
     rw [T.ros_cons,T.ros_app] at z
     simp only [Qf] at z ⊢
     rcases z with z | z | z <;> simp [z]
  | plc k p =>
   obtain ⟨a,rfl,rfl,hp⟩:=hv.er_plc e2
   refine ⟨hd++[(ts1.length,a)],ts1++[.bor k p a],fr,C1.hide hp,?_⟩
   rw [Jk,e1]
   show (match g (s1++[.bor k p]) with | .ok r s'=>_ | .ex C s'=>_ | .no=>_)
   dsimp only at h
   cases eg:g (s1++[.bor k p]) with
   | no=>rw [eg] at h;exact h
   | ex E s2 =>
    rw [eg] at h
    intro H2 ts2 e3 C2
    dsimp only at h
    cases eu:unx s1.length s2 with
    | none=>rw [eu] at h;exact h.elim
    | some s3 =>
     rw [eu] at h
     obtain ⟨x,rfl,hx',hn⟩:=ZcV eu
     obtain ⟨ts3,y,rfl,e4,rfl⟩:=Za8 e3
     have hln:ts3.length=ts1.length:=by rw [Z5z e4,hn,Z5z e1]
     exact h H2 ts3 e4 (C2.pop (Zeq hx') (fun j hj=>by rw [hln];exact C1.ixs j hj) fun j b hj=>by rw [hln];exact C1.hdi j b hj).1
   | ok rs s2 =>
    rw [eg] at h
    intro H2 ts2 tvs vs e3 e4 hvs C2
    dsimp only at h
    cases eu:unh s1.length k p s2 with
    | none=>rw [eu] at h;exact h.elim
    | some s3 =>
     rw [eu] at h
     obtain ⟨rfl,hn⟩:=ZcU eu
     obtain ⟨ts3,y,rfl,e5,e6⟩:=Za8 e3
     obtain ⟨b,rfl⟩:∃ b,y=.bor k p b:=by
      cases y with
      | bor k' p' b=>simp only [TL.er,DL.bor.injEq] at e6;obtain ⟨rfl,rfl⟩:=e6;exact ⟨b,rfl⟩
      | _=>simp [TL.er] at e6
     have hln:ts3.length=ts1.length:=by rw [Z5z e5,hn,Z5z e1]
     obtain rfl:b=a:=by
      have:=C2.hdn ts1.length a (Qd _ (by simp)) (.bor k p b) (.ref b) (by rw [← hln,Qu (Qq _),Gp];rfl) rfl
      cases this
      rfl
     obtain ⟨C3,hpl⟩:=C2.pop (by intro w t z;cases z) (fun j hj=>by rw [hln];exact C1.ixs j hj) fun j b hj=>by rw [hln];exact C1.hdi j b hj
     exact h H2 ts3 (.plc k p b::tvs) (.ref b::vs) e5 (by simp [TV.er,e4]) (.cons ⟨rfl,hpl k p b rfl⟩ (hvs.pop (by intro w t z;cases z))) C3
theorem Za:PA X [] (lA R ix Z1):=paM Z01 Z7n
theorem Z4{es:List Expr}{f:EF}{g:AF}(he:PE X e (lE R ix f))(hr:PA X es (lA R ix g))(hs:starEach (e::es) X.env=(false,eval e X.env)::starEach es X.env:=by rfl):PA X (e::es) (lA R ix (Z0 f g)) :=
 paM (Zk he hr hs) Z3t
end
end RM

namespace RM
open PySem PySem.Spec PyProof.Rows L2
noncomputable def Z0z(s:Sd):List DV→Option (List D)
 | []=>some []
 | r::rs=>match Zw s r,Z0z s rs with | some d,some ds=>some (d::ds) | _,_=>none
structure NewOk(H H':Hp)(l:List T)(t:T):Prop where
 ok:t.ok H'
 nd:t.own.Nodup
 own:∀ a∈t.own,H a=none
 ro:∀ a∈t.ro,H a=none∨a∈T.ros l
 sep:∀ a∈t.ro,a∉t.own
 keep:∀ a,H a≠none→H' a=H a
noncomputable def gNw(h:List D→Option D):List V→Hp→VK→Prop:=fun vs H Q=>∃ l:List T,T.oks H l∧l.map T.val=vs∧∃ d,h (T.ers l)=some d∧∀ t H',t.er=d→NewOk H H' l t→Q t.val H'
noncomputable def eNw(h:List D→Option D)(f:AF):EF:=fun s=>match f s with
 | .ok rs s1=>(match Z0z s1 rs with | some ds=>(match h ds with | some d=>.ok (.val d) s1 | none=>.no) | none=>.no)
 | .ex C s1=>.ex C s1
 | .no=>.no
section
variable {R:RC}{ix:List Nat}{hd:List (Nat×Addr)}{X:Cx}{e:Expr}{H H':Hp}{σ:L2.St}{ts:Ts}{fr:List T}
theorem NewOk.atom{l:List T}(v:V):NewOk H H l (.at v):=⟨trivial,Wr,by simp [T.own],by simp [T.ro],by simp [T.ro],fun _ _=>rfl⟩
theorem Z5Y(C:Cf R ix hd H σ ts fr):∀ {tvs:List TV} {vs:List V} {ds:List D},TvsOk ts vs tvs→T.oks H (trs tvs)→Z0z (ts.map TL.er) (tvs.map TV.er)=some ds →
  ∃ l:List T,T.ers l=ds∧l.map T.val=vs∧T.oks H l∧∀ a∈T.ros l,a∈roS ts∨a∈T.ros (trs tvs)
 | [],_,_,.nil,_,h=>by cases h;exact ⟨[],rfl,rfl,trivial,by simp [T.ros]⟩
 | tv::tvs,_,_,.cons hv hr,ho,h=>by
  simp only [Qi,Z0z] at h
  cases e1:Zw (ts.map TL.er) tv.er with
  | none=>simp [e1] at h
  | some d =>
   cases e2:Z0z (ts.map TL.er) (tvs.map TV.er) with
   | none=>simp [e1,e2] at h
   | some ds =>
    simp only [e1,e2,Option.some.injEq] at h
    subst h
    have ho':T.oks H (tv.tr++trs tvs):=ho
    obtain ⟨t,t1,t2,t3,t4⟩:=Z6S C hv (T.oks_app.mp ho').1 e1
    obtain ⟨l,l1,l2,l3,l4⟩:=Z5Y C hr (T.oks_app.mp ho').2 e2
    refine ⟨t::l,by rw [T.ers,t1,l1],by simp [t2,l2],⟨t3,l3⟩,fun a z=>?_⟩
    show a∈roS ts∨a∈T.ros (tv.tr++trs tvs)
    rw [T.ros_app,Qf]
    rw [T.ros_cons] at z
    rcases Qf.mp z with z | z
    ·rcases t4 with rfl | ⟨k,p,b,w,u,rfl,h1,h2⟩
     ·exact .inr (.inl (by simpa [TV.tr,T.ros] using z))
     ·obtain ⟨c,r,K⟩:=T.ctx h2
      exact .inl (Z1j.mpr ⟨w,u,Qg h1,K.ro.mem_iff.mpr (Qd _ z)⟩)
    ·rcases l4 a z with z | z
     ·exact .inl z
     ·exact .inr (.inr z)
theorem Cf.new{l m:List T}{t:T}(C:Cf R ix hd H σ ts (m++fr))(N:NewOk H H' l t)(hl:∀ a∈T.ros l,a∈roS ts∨a∈T.ros m):Cf R ix hd H' σ ts (t::fr):=by
 have Cd:=C.drops
 have kp:∀ a,H a≠none→H' a=H a:=N.keep
 have nown:∀ a∈t.own,a∉Zc ts∧a∉roS ts∧a∉rdS ts∧a∉T.owns fr∧a∉T.ros fr∧¬ R.G a:=fun a z=>Cd.fresh (N.own a z)
 refine ⟨fun w u z=>T.keep (C.ok w u z) fun a q=>kp a (T.there (C.ok w u z) q),⟨N.ok,T.keeps Cd.fok fun a q=>kp a (T.theres Cd.fok q)⟩,?_,fun a z=>?_,fun a z=>?_,fun a z=>?_,C.bg,C.bor,C.ixs,C.sl,C.hdi,C.hdx,C.len,C.hdn⟩
 ·rw [T.owns_cons]
  have h1:=Qm.mp Cd.nd
  refine Qm.mpr ⟨h1.1,Qm.mpr ⟨N.nd,h1.2.1,fun a za b zb e=>(nown a za).2.2.2.1 (by rw [e];exact zb)⟩,fun a za b zb e=>?_⟩
  rcases Qf.mp zb with zb | zb
  ·exact (nown b zb).1 (by rw [← e];exact za)
  ·exact h1.2.2 a za b zb e
 ·rw [T.owns_cons,Qf]
  have old:a∈roS ts∨a∈T.ros (m++fr)→a∉Zc ts∧¬ (a∈t.own∨a∈T.owns fr)∧¬ R.B a:=fun z=>by
   obtain ⟨h1,h2,h3⟩:=C.sep a z
   refine ⟨h1,fun q=>?_,h3⟩
   rcases q with q | q
   ·rcases z with z | z
    ·exact (nown a q).2.1 z
    ·have:=T.theres C.fok (.inr z)
     exact this (N.own a q)
   ·exact h2 (by rw [T.owns_app];exact Qd _ q)
  rcases z with z | z
  ·exact old (.inl z)
  ·rw [T.ros_cons] at z
   rcases Qf.mp z with z | z
   ·rcases N.ro a z with z' | z'
    ·obtain ⟨f1,f2,f3,f4,f5,f6⟩:=Cd.fresh z'
     exact ⟨f1,fun q=>q.elim (N.sep a z) f4,fun q=>f6 (C.bg a q)⟩
    ·rcases hl a z' with q | q
     ·exact old (.inl q)
     ·exact old (.inr (by rw [T.ros_app];exact Qh _ q))
   ·exact old (.inr (by rw [T.ros_app];exact Qd _ z))
 ·rw [T.owns_cons,Qf]
  exact ⟨(Cd.rd a z).1,fun q=>q.elim (fun q=>(nown a q).2.2.1 z) (Cd.rd a z).2⟩
 ·rw [T.owns_cons,Qf]
  obtain ⟨g1,g2,g3,g4⟩:=Cd.g a z
  exact ⟨(kp a g2).trans g1,by rw [kp a g2];exact g2,g3,fun q=>q.elim (fun q=>(nown a q).2.2.2.2.2 z) g4⟩
theorem Z1v{h:List D→Option D}{f:AF}(σ:L2.St)(H:Hp)(Q:VK)(q:lE R ix (eNw h f) σ H Q):lA R ix f σ H fun vs H1=>gNw h vs H1 Q:=by
 obtain ⟨hd,ts,fr,C,q⟩:=q
 refine ⟨hd,ts,fr,C,?_⟩
 unfold eNw at q
 cases ef:f (ts.map TL.er) with
 | no=>rw [ef] at q;exact q
 | ex E s1=>rw [ef] at q;exact q
 | ok rs s1 =>
  rw [ef] at q
  intro H1 ts1 tvs vs e1 e2 hv C1
  subst e1 e2
  dsimp only at q
  cases ed:Z0z (ts1.map TL.er) (tvs.map TV.er) with
  | none=>rw [ed] at q;exact q.elim
  | some ds =>
   rw [ed] at q
   dsimp only at q
   cases eh:h ds with
   | none=>rw [eh] at q;exact q.elim
   | some d =>
    rw [eh] at q
    obtain ⟨l,l1,l2,l3,l4⟩:=Z5Y C1 hv (T.oks_app.mp C1.fok).1 ed
    exact ⟨l,l3,l2,d,by rw [l1];exact eh,fun t H' e N=>q H' ts1 (.val t) t.val rfl (by rw [← e];rfl) rfl (C1.new N l4)⟩
theorem Zj{f:EF}{Q Q':VK}(m:∀ v H,Q v H→Q' v H)(h:lE R ix f σ H Q):lE R ix f σ H Q':=by
 obtain ⟨hd,ts,fr,C,h⟩:=h
 refine ⟨hd,ts,fr,C,?_⟩
 cases ef:f (ts.map TL.er) with
 | no=>rw [ef] at h;exact h
 | ex E s1=>rw [ef] at h;exact h
 | ok r s1=>rw [ef] at h;intro H1 ts1 tv v a b c d;exact m _ _ (h H1 ts1 tv v a b c d)
theorem lA_1{f:EF}{r:List V→Hp→Prop}(h:lA R ix (Z0 f Z1) σ H r):lE R ix f σ H fun x H1=>r [x] H1:=by
 have h1:=Z3t σ H r h
 exact Zj (fun v H1 q=>Z7n σ H1 (fun vs H2=>r (v::vs) H2) q) h1
theorem lA_2{f g:EF}{r:List V→Hp→Prop}(h:lA R ix (Z0 f (Z0 g Z1)) σ H r):lE R ix f σ H fun x H1=>lE R ix g σ H1 fun y H2=>r [x,y] H2:=by
 have h1:=Z3t σ H r h
 exact Zj (fun v H1 q=>lA_1 (r:=fun vs H2=>r (v::vs) H2) q) h1
theorem lA_3{f g k:EF}{r:List V→Hp→Prop}(h:lA R ix (Z0 f (Z0 g (Z0 k Z1))) σ H r):lE R ix f σ H fun x H1=>lE R ix g σ H1 fun y H2=>lE R ix k σ H2 fun z H3=>r [x,y,z] H3:=by
 have h1:=Z3t σ H r h
 exact Zj (fun v H1 q=>lA_2 (r:=fun vs H2=>r (v::vs) H2) q) h1
noncomputable def oNw(h:List D→Option D):R2:=fun x y H Q=>gNw h [x,y] H Q
theorem Zg{a b:Expr}{pos:Pos}{op:Operator}{h:List D→Option D}{fa fb:EF}(ho:OpR X (binaryOp op) (oNw h))(ha:PE X a (lE R ix fa))(hb:PE X b (lE R ix fb)):PE X (.BinOp a op b pos) (lE R ix (eNw h (Z0 fa (Z0 fb Z1)))) :=
 peM (pe_op ho ha hb) fun σ H Q q=>lA_2 (Z1v σ H Q q)
theorem opM{f:Value→Value→Sem Value}{r r':R2}(h:OpR X f r)(m:∀ x y H Q,r' x y H Q→r x y H Q):OpR X f r':=fun pins s σ H x y v u Q I rx ry q=>h pins s σ H x y v u Q I rx ry (m _ _ _ _ q)
theorem callM{f:Value}{r r':List V→Hp→VK→Prop}(h:Z0o X f r)(m:∀ vs H Q,r' vs H Q→r vs H Q):Z0o X f r':=fun pins s σ H x u Q I rx q=>h pins s σ H x u Q I rx (m _ _ _ q)
end
end RM

namespace RM
open PySem PySem.Spec PyProof.Rows L2
inductive Sel where
 | ch (j:Nat) | ar (m:Nat) | cs (v:V)
noncomputable def pick(rs:List DV)(ds:List D)(s1:Sd):Sel→ER DV
 | .ch j=>match rs,ds with
  | .val _::_,.nd _ l::_=>(match l[j]? with | some c=>.ok (.val c) s1 | none=>.no)
  | .plc k p::_,.nd _ l::_=>(match l[j]? with | some c=>.ok (mkV k (p++[j]) c) s1 | none=>.no)
  | _,_=>.no
 | .ar m=>match rs[m]? with | some r=>.ok r s1 | none=>.no
 | .cs v=>.ok (.val (.at (cl v))) s1
noncomputable def eCh(h:List D→Option Sel)(f:AF):EF:=fun s=>match f s with
 | .ok rs s1=>(match Z0z s1 rs with | some ds=>(match h ds with | some c=>pick rs ds s1 c | none=>.no) | none=>.no)
 | .ex C s1=>.ex C s1
 | .no=>.no
noncomputable def selT(l:List T):Sel→Option V
 | .ch j=>match l with | .nd _ _ c::_=>(c[j]?).map T.val | _=>none
 | .ar m=>(l[m]?).map T.val
 | .cs v=>some v
noncomputable def gCh(h:List D→Option Sel):List V→Hp→VK→Prop:=fun vs H Q=>∃ l:List T,T.oks H l∧l.map T.val=vs∧∃ c v,h (T.ers l)=some c∧selT l c=some v∧Q v H
section
variable {R:RC}{ix:List Nat}{hd:List (Nat×Addr)}{X:Cx}{e:Expr}{H H':Hp}{σ:L2.St}{ts:Ts}{fr:List T}
theorem Z8l{m:Nat}{tv:TV}:∀ {tvs:List TV},tvs[m]?=some tv→∃ x,(T.owns (trs tvs)).Perm (T.owns tv.tr++x)∧(∀ a∈T.ros tv.tr,a∈T.ros (trs tvs))∧∀ t∈tv.tr,t∈trs tvs:=by
 induction m with
 | zero =>
  intro tvs h
  match tvs,h with
  | y::r,h =>
   cases h
   show ∃ x,(T.owns (tv.tr++trs r)).Perm _∧_
   exact ⟨T.owns (trs r),by rw [T.owns_app],fun a z=>by show a∈T.ros (tv.tr++trs r);rw [T.ros_app];exact Qh _ z,fun t z=>Qh _ z⟩
 | succ m ih =>
  intro tvs h
  match tvs,h with
  | y::r,h =>
   obtain ⟨x,h1,h2,h3⟩:=ih (tvs:=r) (by simpa using h)
   refine ⟨T.owns y.tr++x,?_,fun a z=>?_,fun t z=>Qd _ (h3 t z)⟩
   ·show (T.owns (y.tr++trs r)).Perm _
    rw [T.owns_app]
    refine (List.Perm.append_left _ h1).trans ?_
    rw [← Qp,← Qp]
    exact List.Perm.append_right _ Jv
   ·show a∈T.ros (y.tr++trs r)
    rw [T.ros_app];exact Qd _ (h2 a z)
theorem Cf.one{m:Nat}{tv:TV}{tvs:List TV}(C:Cf R ix hd H σ ts (trs tvs++fr))(h:tvs[m]?=some tv):Cf R ix hd H σ ts (tv.tr++fr):=by
 obtain ⟨x,h1,h2,h3⟩:=Z8l h
 have ok:=T.oks_app.mp C.fok
 refine C.less (x:=x) (T.oks_app.mpr ⟨T.oks_iff.mpr fun t z=>T.oks_iff.mp ok.1 t (h3 t z),ok.2⟩) ?_ fun a z=>?_
 ·rw [T.owns_app,T.owns_app,Qp]
  refine (List.Perm.append_right _ h1).trans ?_
  rw [Qp]
  exact List.Perm.append_left _ Jv
 ·rw [T.ros_app] at z ⊢
  rcases Qf.mp z with z | z
  ·exact .inl (Qh _ (h2 a z))
  ·exact .inl (Qd _ z)
theorem Cf.child{a:Addr}{k:NK}{l:List T}{j:Nat}{c:T}(C:Cf R ix hd H σ ts (.nd a k l::fr))(h:l[j]?=some c):Cf R ix hd H σ ts (c::fr):=by
 obtain ⟨x,y,e1,e2⟩:=T.owns_get h
 obtain ⟨x',y',f1,f2⟩:=T.ros_get h
 refine C.less (x:=(if k.mut then [a] else [])++(x++y)) ⟨T.oks_iff.mp C.fok.1.2 c (Qg h),C.fok.2⟩ ?_ fun b z=>?_
 ·rw [T.owns_cons,T.owns_cons,T.own,e1]
  refine Qs.mpr fun b=>?_
  simp only [Jd];omega
 ·left
  rw [T.ros_cons,T.ro,f1]
  rw [T.ros_cons] at z
  simp only [Qf] at z ⊢
  rcases z with z | z <;> simp [z]
theorem TvsOk.get:∀ {vs:List V} {tvs:List TV} {m:Nat} {tv:TV},TvsOk ts vs tvs→tvs[m]?=some tv→∃ v,vs[m]?=some v∧ZX ts v tv
 | _,_,0,_,.cons h _,e=>by cases e;exact ⟨_,rfl,h⟩
 | _,_,m + 1,_,.cons _ r,e=>by simpa using TvsOk.get r (by simpa using e)
theorem lA_ch{h:List D→Option Sel}{f:AF}(σ:L2.St)(H:Hp)(Q:VK)(q:lE R ix (eCh h f) σ H Q):lA R ix f σ H fun vs H1=>gCh h vs H1 Q:=by
 obtain ⟨hd,ts,fr,C,q⟩:=q
 refine ⟨hd,ts,fr,C,?_⟩
 unfold eCh at q
 cases ef:f (ts.map TL.er) with
 | no=>rw [ef] at q;exact q
 | ex E s1=>rw [ef] at q;exact q
 | ok rs s1 =>
  rw [ef] at q
  intro H1 ts1 tvs vs e1 e2 hv C1
  subst e1 e2
  dsimp only at q
  cases ed:Z0z (ts1.map TL.er) (tvs.map TV.er) with
  | none=>rw [ed] at q;exact q.elim
  | some ds =>
   rw [ed] at q
   dsimp only at q
   cases eh:h ds with
   | none=>rw [eh] at q;exact q.elim
   | some c =>
    rw [eh] at q
    obtain ⟨l,l1,l2,l3,l4⟩:=Z5Y C1 hv (T.oks_app.mp C1.fok).1 ed
    dsimp only at q
    cases c with
    | cs v=>exact ⟨l,l3,l2,_,v,by rw [l1];exact eh,rfl,q H1 ts1 (.val (.at v)) v rfl rfl rfl (C1.drops.at v)⟩
    | ar m =>
     simp only [pick,Qc] at q
     cases em:tvs[m]? with
     | none=>rw [em] at q;exact q.elim
     | some tv =>
      rw [em] at q
      obtain ⟨v,v1,v2⟩:=hv.get em
      refine ⟨l,l3,l2,_,v,by rw [l1];exact eh,?_,q H1 ts1 tv v rfl rfl v2 (C1.one em)⟩
      rw [← l2,Qc] at v1
      exact v1
    | ch j =>
     cases hv with
     | nil=>simp only [Jl,pick] at q
     | @cons v tv vs tvs hv hr =>
      simp only [Qi,Z0z] at ed
      cases e1:Zw (ts1.map TL.er) tv.er with
      | none=>rw [e1] at ed;cases ed
      | some d =>
       cases e2:Z0z (ts1.map TL.er) (tvs.map TV.er) with
       | none=>rw [e1,e2] at ed;cases ed
       | some ds' =>
        rw [e1,e2] at ed
        cases ed
        have ho:T.oks H1 (tv.tr++trs tvs):=(T.oks_app.mp C1.fok).1
        obtain ⟨t,t1,t2,t3,t4⟩:=Z6S C1 hv (T.oks_app.mp ho).1 e1
        obtain ⟨l',l1',l2',l3',_⟩:=Z5Y C1 hr (T.oks_app.mp ho).2 e2
        have C2:Cf R ix hd H1 σ ts1 (tv.tr++fr):=C1.one (m:=0) (tvs:=tv::tvs) rfl
        cases t with
        | «at» v0 =>
         cases t1
         rcases t4 with rfl | ⟨k,p,a,w,u,rfl,_,_⟩ <;> simp only [Qi,TV.er,T.er,pick] at q
        | nd a k ch =>
         simp only [T.er] at t1
         subst t1
         rcases t4 with rfl | ⟨k',p,a',w,u,rfl,h1,h2⟩
         ·simp only [Qi,TV.er,pick,T.ers_eq,Qc] at q
          cases ec:ch[j]? with
          | none=>rw [ec] at q;exact q.elim
          | some c =>
           rw [ec] at q
           refine ⟨.nd a k ch::l',⟨t3,l3'⟩,by simp [t2,l2'],.ch j,c.val,by rw [T.ers,l1'];exact eh,by simp [selT,ec],?_⟩
           exact q H1 ts1 (.val c) c.val rfl rfl rfl (C2.child ec)
         ·simp only [Qi,TV.er,pick,T.ers_eq,Qc] at q
          cases ec:ch[j]? with
          | none=>rw [ec] at q;exact q.elim
          | some c =>
           rw [ec] at q
           refine ⟨.nd a k ch::l',⟨t3,l3'⟩,by simp [t2,l2'],.ch j,c.val,by rw [T.ers,l1'];exact eh,by simp [selT,ec],?_⟩
           obtain ⟨tv',f1,f2,f3⟩:=mk_ok (p:=p++[j]) C2 h1 (by rw [T.get_app,h2];show T.get [j] (.nd a k ch)=some c;simp only [T.get,ec])
           exact q H1 ts1 tv' c.val rfl f1 f2 f3
end
end RM

namespace RM
open PySem PySem.Spec PyProof.Rows L2
noncomputable def sub:List Nat→List Nat→Option Nat
 | [],i::_=>some i
 | x::p,y::q=>if x=y then sub p q else none
 | _,[]=>none
theorem Z6Q{i:Nat}:∀ {p q:List Nat},sub p q=some i→∃ r,q=p++i::r
 | [],j::r,h=>by cases h;exact ⟨r,rfl⟩
 | x::p,y::q,h=>by
  unfold sub at h
  split at h
  case isTrue e=>subst e;obtain ⟨r,rfl⟩:=Z6Q h;exact ⟨r,rfl⟩
  case isFalse=>cases h
 | x::p,[],h=>by cases h
 | [],[],h=>by cases h
noncomputable def gone(k:Nat)(p:List Nat)(keep:Nat→Bool)(k':Nat)(q:List Nat):Bool:=decide (k'=k) && (match sub p q with | some i=>!keep i | none=>false)
noncomputable def killD(k:Nat)(p:List Nat)(keep:Nat→Bool):DL→DL
 | .bor k' q=>if gone k p keep k' q then .non else .bor k' q
 | s=>s
noncomputable def ZM(k:Nat)(p:List Nat)(keep:Nat→Bool):TL→TL
 | .bor k' q a=>if gone k p keep k' q then .non else .bor k' q a
 | s=>s
theorem Z40{k:Nat}{p:List Nat}{keep:Nat→Bool}{k':Nat}{q:List Nat}{a:Addr}:ZM k p keep (.bor k' q a)=if gone k p keep k' q then .non else .bor k' q a:=rfl
theorem Zbk{k:Nat}{p:List Nat}{keep:Nat→Bool}{k':Nat}{q:List Nat}:killD k p keep (.bor k' q)=if gone k p keep k' q then .non else .bor k' q:=rfl
theorem Zdu{k:Nat}{p:List Nat}{keep:Nat→Bool}(s:TL):(ZM k p keep s).er=killD k p keep s.er:=by
 cases s with
 | non=>rfl
 | own w t=>rfl
 | bor k' q a =>
  simp only [TL.er]
  rw [Z40,Zbk]
  cases gone k p keep k' q <;> rfl
theorem Z0m{k:Nat}{p:List Nat}{keep:Nat→Bool}(s:TL):ZM k p keep s=s∨(ZM k p keep s=.non∧∃ k' q a,s=.bor k' q a):=by
 cases s with
 | non=>exact .inl rfl
 | own w t=>exact .inl rfl
 | bor k' q a =>
  rw [Z40]
  cases gone k p keep k' q
  ·exact .inl rfl
  ·exact .inr ⟨rfl,_,_,_,rfl⟩
theorem Z1h{α:Type}{f:TL→List α}{k:Nat}{y:TL}:∀ {ts:Ts},ts[k]?=some y→∃ x z,ts.flatMap f=x++(f y++z)∧∀ y',(ts.set k y').flatMap f=x++(f y'++z):=by
 induction k with
 | zero =>
  intro ts h
  match ts,h with
  | t::r,h=>cases h;exact ⟨[],r.flatMap f,rfl,fun y'=>rfl⟩
 | succ k ih =>
  intro ts h
  match ts,h with
  | t::r,h =>
   obtain ⟨x,z,e1,e2⟩:=ih (ts:=r) (by simpa using h)
   exact ⟨f t++x,z,by simp [e1],fun y'=>by simp [e2 y']⟩
theorem Z3s{α:Type}{f:TL→List α}{k:Nat}{p:List Nat}{keep:Nat→Bool}(hb:∀ k q a,f (.bor k q a)=f .non)(ts:Ts):(ts.map (ZM k p keep)).flatMap f=ts.flatMap f:=by
 induction ts with
 | nil=>rfl
 | cons t r ih =>
  simp only [Qi,Wb,ih]
  rcases Z0m (k:=k) (p:=p) (keep:=keep) t with e | ⟨e,k',q,a,rfl⟩
  ·rw [e]
  ·rw [e,hb]
theorem Z5Z{s s':T}:∀ {p q:List Nat} {t u:T},t.get p=some s→s'.val=s.val→sub p q=none→t.get q=some u→∃ u',(T.put s' p t).get q=some u'∧u'.val=u.val
 | [],[],t,u,h1,h2,_,h4=>by cases h1;cases h4;exact ⟨s',rfl,h2⟩
 | [],j::q,t,u,_,_,h3,_=>by cases h3
 | i::p,[],t,u,h1,h2,_,h4=>by cases h4;exact ⟨_,rfl,T.put_val h1 h2⟩
 | i::p,j::q,.at v,u,h1,_,_,_=>by cases h1
 | i::p,j::q,.nd a k l,u,h1,h2,h3,h4=>by
  simp only [T.get] at h1 h4
  cases e:l[i]? with
  | none=>rw [e] at h1;cases h1
  | some c =>
   rw [e] at h1
   simp only [T.put,e,T.get]
   unfold sub at h3
   by_cases hij:i=j
   ·subst hij
    rw [if_pos rfl] at h3
    rw [e] at h4
    rw [Qn,if_pos rfl,if_pos (Qe.mp e).1]
    exact Z5Z h1 h2 h3 h4
   ·rw [Qn,if_neg hij]
    exact ⟨u,h4,rfl⟩
theorem Z6W{s s':T}:∀ {p r:List Nat} {t:T},t.get p=some s→(T.put s' p t).get (p++r)=s'.get r
 | [],r,t,_=>rfl
 | i::p,r,.at v,h=>by cases h
 | i::p,r,.nd a k l,h=>by
  simp only [T.get] at h
  cases e:l[i]? with
  | none=>rw [e] at h;cases h
  | some c =>
   rw [e] at h
   simp only [T.put,e,Jj,T.get]
   rw [Qn,if_pos rfl,if_pos (Qe.mp e).1]
   exact Z6W h
section
variable {R:RC}{ix:List Nat}{hd:List (Nat×Addr)}{X:Cx}{e:Expr}{H H':Hp}{σ:L2.St}{ts:Ts}{fr:List T}
theorem Cf.write{k:Nat}{t:T}{p:List Nat}{a:Addr}{kd kd':NK}{l l' fr':List T}{x:List Addr}{o:HO}{keep:Nat→Bool}(C:Cf R ix hd H σ ts fr)(hk:ts[k]?=some (.own true t))(hp:t.get p=some (.nd a kd l))(hm:kd.mut=true)(hm':kd'.mut=true)
  (ho:(T.nd a kd' l').ok (upd H a o)) (hf:T.oks (upd H a o) fr') (hown:(T.owns l++T.owns fr).Perm (T.owns l'++T.owns fr'++x))
  (hro:∀ b,b∈T.ros l'∨b∈T.ros fr'→b∈T.ros l∨b∈T.ros fr∨b∈roS ts∨b∈x) (hkeep:∀ (i:Nat) (c:T),keep i=true→l[i]?=some c→l'[i]?=some c) :
  Cf R ix hd (upd H a o) σ ((ts.set k (.own true (T.put (.nd a kd' l') p t))).map (ZM k p keep)) fr':=by
 obtain ⟨c,r,K⟩:=T.ctx hp
 obtain ⟨x1,z1,o1,o2⟩:=Z1h (f:=TL.own1) hk
 obtain ⟨x2,z2,r1,r2⟩:=Z1h (f:=TL.ro1) hk
 obtain ⟨x3,z3,d1,d2⟩:=Z1h (f:=TL.rd1) hk
 have own_nd:(T.nd a kd l).own=a::T.owns l:=by simp [T.own,hm]
 have own_nd':(T.nd a kd' l').own=a::T.owns l':=by simp [T.own,hm']
 have ro_nd:(T.nd a kd l).ro=T.ros l:=by simp [T.ro,hm]
 have ro_nd':(T.nd a kd' l').ro=T.ros l':=by simp [T.ro,hm']
 generalize hs':T.nd a kd' l'=s' at *
 have hv:s'.val=(T.nd a kd l).val:=by rw [← hs'];rfl
 generalize ht':T.put s' p t=t'
 have eO:Zc ((ts.set k (.own true t')).map (ZM k p keep))=x1++(t'.own++z1):=by
  unfold Zc;rw [Z3s (by intros;rfl),o2];rfl
 have eR:roS ((ts.set k (.own true t')).map (ZM k p keep))=x2++(t'.ro++z2):=by
  unfold roS;rw [Z3s (by intros;rfl),r2];rfl
 have eD:rdS ((ts.set k (.own true t')).map (ZM k p keep))=rdS ts:=by
  unfold rdS;rw [Z3s (by intros;rfl),d2,d1];rfl
 have fO:Zc ts=x1++(t.own++z1):=o1
 have fR:roS ts=x2++(t.ro++z2):=r1
 have pm:(Zc ts++T.owns fr).Perm ((x1++(t'.own++z1)++T.owns fr')++x):=by
  rw [fO]
  refine Qs.mpr fun b=>?_
  have q1:=(Qs.mp K.own b)
  have q2:=(Qs.mp (K.own' s') b)
  have q3:=(Qs.mp hown b)
  rw [ht'] at q2
  rw [own_nd] at q1
  rw [own_nd'] at q2
  simp only [Jd,List.count_cons] at q1 q2 q3 ⊢
  omega
 have nd2:=pm.nodup_iff.mp C.nd
 have nd3:=Qm.mp nd2
 have sub1:∀ b,b∈x1++(t'.own++z1)∨b∈T.owns fr'→b∈Zc ts∨b∈T.owns fr:=fun b z=>by
  have:b∈Zc ts++T.owns fr:=pm.mem_iff.mpr (Qh _ (by rcases z with z | z;exact Qh _ z;exact Qd _ z))
  exact Qf.mp this
 have subx:∀ b,b∈x→b∈Zc ts∨b∈T.owns fr:=fun b z=>Qf.mp (pm.mem_iff.mpr (Qd _ z))
 have ina:a∈t.own:=K.own.mem_iff.mpr (Qd _ (by rw [own_nd];exact Qy))
 have inS:a∈Zc ts:=by rw [fO];simp [ina]
 have hn1:=(Qm.mp C.nd).1
 rw [fO] at hn1
 have up:∀ b,b≠a→upd H a o b=H b:=fun b hb=>Zb hb
 have other:∀ (j:Nat) w u,j≠k→ts[j]?=some (TL.own w u)→u.ok (upd H a o):=by
  intro j w u hj hu
  have hm:=Qg hu
  refine T.keep (C.ok w u hm) fun b hb=>up b ?_
  rintro rfl
  rcases hb with hb | hb
  ·cases w with
   | false=>exact (C.rd b (Z3v.mpr ⟨u,hm,hb⟩)).1 inS
   | true =>
    have h1:b∈Zc (ts.set k .non):=Z18.mpr ⟨u,Qg (by rw [Qn,if_neg (Ne.symm hj)];exact hu),hb⟩
    unfold Zc at h1
    rw [o2] at h1
    have h2:=Qm.mp hn1
    have h3:=Qm.mp h2.2.1
    simp only [TL.own1,Js,Qf] at h1
    rcases h1 with h1 | h1
    ·exact h2.2.2 b h1 b (Qh _ ina) rfl
    ·exact h3.2.2 b ina b h1 rfl
  ·exact (C.sep b (.inl (Z1j.mpr ⟨w,u,hm,hb⟩))).1 inS
 have tok':t'.ok (upd H a o):=by
  rw [← ht']
  refine K.ok (C.ok true t (Qg hk)) (fun b hb=>up b ?_) ho hv
  rintro rfl
  rcases hb with hb | hb
  ·have h2:=(Qm.mp hn1).2.1
   have h3:=(Qm.mp h2).1
   have h4:=K.own.nodup_iff.mp h3
   exact (Qm.mp h4).2.2 b hb b (by rw [own_nd];exact Qy) rfl
  ·exact (C.sep b (.inl (by rw [fR];simp [K.ro.mem_iff.mpr (Qh _ hb)]))).1 inS
 have slot:∀ (j:Nat) (y:TL),((ts.set k (.own true t')).map (ZM k p keep))[j]?=some y→(j=k∧y=.own true t')∨(j≠k∧∃ y0,ts[j]?=some y0∧y=ZM k p keep y0):=by
  intro j y hy
  rw [Qc,Qn] at hy
  by_cases hj:k=j
  ·subst hj
   rw [if_pos rfl,if_pos (Qe.mp hk).1] at hy
   cases hy
   exact .inl ⟨rfl,rfl⟩
  ·rw [if_neg hj] at hy
   cases ey:ts[j]? with
   | none=>rw [ey] at hy;cases hy
   | some y0=>rw [ey] at hy;cases hy;exact .inr ⟨Ne.symm hj,y0,rfl,rfl⟩
 have tv':t'.val=t.val:=by rw [← ht'];exact T.put_val hp hv
 have slv:∀ (j:Nat) (y:TL) (v:V),((ts.set k (.own true t')).map (ZM k p keep))[j]?=some y→y.v=some v→∃ y0,ts[j]?=some y0∧y0.v=some v:=by
  intro j y v hy hv
  rcases slot j y hy with ⟨rfl,rfl⟩ | ⟨hj,y0,h0,rfl⟩
  ·exact ⟨_,hk,by rw [← hv];simp only [TL.v,tv']⟩
  ·refine ⟨y0,h0,?_⟩
   rcases Z0m (k:=k) (p:=p) (keep:=keep) y0 with e | ⟨e,_⟩
   ·rwa [e] at hv
   ·rw [e] at hv;cases hv
 have len:((ts.set k (.own true t')).map (ZM k p keep)).length=ts.length:=by simp
 refine ⟨fun w u hu=>?_,hf,by rw [eO];exact nd3.1,fun b z=>?_,fun b z=>?_,fun b z=>?_,C.bg,fun j k' q b hj=>?_,fun j hj=>by rw [len];exact C.ixs j hj,fun i j y v h1 h2 h3=>?_,fun j b hj=>by rw [len];exact C.hdi j b hj,C.hdx,C.len,fun j b hj y v h2 h3=>?_⟩
 ·obtain ⟨j,hj⟩:=Ja.mp hu
  rcases slot j _ hj with ⟨rfl,e⟩ | ⟨hjk,y0,h0,e⟩
  ·cases e;exact tok'
  ·rcases Z0m (k:=k) (p:=p) (keep:=keep) y0 with e' | ⟨e',_⟩
   ·rw [e'] at e;subst e;exact other j w u hjk h0
   ·rw [e'] at e;cases e
 ·have old:b∈roS ts∨b∈T.ros fr→b∉x1++(t'.own++z1)∧b∉T.owns fr'∧¬ R.B b:=fun z=>by
   obtain ⟨h1,h2,h3⟩:=C.sep b z
   exact ⟨fun q=>(sub1 b (.inl q)).elim h1 h2,fun q=>(sub1 b (.inr q)).elim h1 h2,h3⟩
  have new:b∈T.ros l'∨b∈T.ros fr'→b∉x1++(t'.own++z1)∧b∉T.owns fr'∧¬ R.B b:=fun z=>by
   rcases hro b z with q | q | q | q
   ·exact old (.inl (by rw [fR];simp [K.ro.mem_iff.mpr (Qd _ (by rw [ro_nd];exact q))]))
   ·exact old (.inr q)
   ·exact old (.inl q)
   ·refine ⟨fun y=>nd3.2.2 b (Qh _ y) b q rfl,fun y=>nd3.2.2 b (Qd _ y) b q rfl,fun y=>?_⟩
    obtain ⟨_,_,g3,g4⟩:=C.g b (C.bg b y)
    exact (subx b q).elim g3 g4
  rw [eO]
  rw [eR] at z
  rcases z with z | z
  ·simp only [Qf] at z
   rcases z with z | z | z
   ·exact old (.inl (by rw [fR];simp [z]))
   ·have z':=(K.ro' s').mem_iff.mp (by rw [ht'];exact z)
    rcases Qf.mp z' with z' | z'
    ·exact old (.inl (by rw [fR];simp [K.ro.mem_iff.mpr (Qh _ z')]))
    ·rw [ro_nd'] at z';exact new (.inl z')
   ·exact old (.inl (by rw [fR];simp [z]))
  ·exact new (.inr z)
 ·rw [eD] at z
  rw [eO]
  obtain ⟨h1,h2⟩:=C.rd b z
  exact ⟨fun q=>(sub1 b (.inl q)).elim h1 h2,fun q=>(sub1 b (.inr q)).elim h1 h2⟩
 ·rw [eO]
  obtain ⟨g1,g2,g3,g4⟩:=C.g b z
  have hb:b≠a:=by rintro rfl;exact g3 inS
  rw [up b hb]
  exact ⟨g1,g2,fun q=>(sub1 b (.inl q)).elim g3 g4,fun q=>(sub1 b (.inr q)).elim g3 g4⟩
 ·
  rcases slot j _ hj with ⟨rfl,e⟩ | ⟨hjk,y0,h0,e⟩
  ·cases e
  ·rcases Z0m (k:=k) (p:=p) (keep:=keep) y0 with e' | ⟨e',_⟩
   ·rw [e'] at e
    subst e
    obtain ⟨w,u,s,h1,h2,h3⟩:=C.bor j k' q b h0
    by_cases hkk:k'=k
    ·subst hkk
     rw [hk] at h1
     cases h1
     have at':((ts.set k' (.own true t')).map (ZM k' p keep))[k']?=some (.own true t'):=by
      rw [Qc,Qn,if_pos rfl,if_pos (Qe.mp hk).1];rfl
     cases hs:sub p q with
     | none =>
      obtain ⟨u',q1,q2⟩:=Z5Z (s':=s') hp hv hs h2
      rw [ht'] at q1
      exact ⟨true,t',u',at',q1,q2.trans h3⟩
     | some i =>
      have hki:keep i=true:=by
       rw [Z40] at e'
       cases hg:keep i with
       | true=>rfl
       | false =>
        have:gone k' p keep k' q=true:=by simp [gone,hs,hg]
        rw [this] at e'
        cases e'
      obtain ⟨r',rfl⟩:=Z6Q hs
      refine ⟨true,t',s,at',?_,h3⟩
      rw [← ht',Z6W hp,← hs']
      rw [T.get_app,hp] at h2
      have h2':T.get (i::r') (.nd a kd l)=some s:=h2
      simp only [T.get] at h2' ⊢
      cases el:l[i]? with
      | none=>rw [el] at h2';cases h2'
      | some ch=>rw [el] at h2';rw [hkeep i ch hki el];exact h2'
    ·refine ⟨w,u,s,?_,h2,h3⟩
     rw [Qc,Qn,if_neg (Ne.symm hkk),h1];rfl
   ·rw [e'] at e;cases e
 ·obtain ⟨y0,q1,q2⟩:=slv j y v h2 h3
  exact C.sl i j y0 v h1 q1 q2
 ·obtain ⟨y0,q1,q2⟩:=slv j y v h2 h3
  exact C.hdn j b hj y0 v q1 q2
end
end RM

namespace RM
open PySem PySem.Spec PyProof.Rows L2
inductive Mu where
 | add (kd:NK) (m:Nat)
 | set (j m:Nat)
noncomputable def HoOk(o:HO):NK→List V→Prop
 | .lst true,vs=>o=.lst vs
 | .dic true ks,vs=>ks.length=vs.length∧ks.Nodup∧o=.dK (ks.zip vs)
 | .dit true ks,vs=>ks.length=vs.length∧ks.Nodup∧o=.dT (ks.zip vs)
 | .ins true C ns,vs=>ns.length=vs.length∧∃ dx,o=.ins C dx (ns.zip vs)
 | _,_=>False
theorem HoOk.node{o:HO}{kd:NK}{vs:List V}{H:Hp}{a:Addr}(h:HoOk o kd vs):NodeOk (upd H a o) a kd vs∧kd.mut=true:=by
 cases kd with
 | tup=>exact h.elim
 | lst m=>cases m with
  | true=>cases h;exact ⟨Zm,rfl⟩
  | false=>exact h.elim
 | dic m ks=>cases m with
  | true=>obtain ⟨h1,h2,rfl⟩:=h;exact ⟨⟨h1,h2,Zm⟩,rfl⟩
  | false=>exact h.elim
 | dit m ks=>cases m with
  | true=>obtain ⟨h1,h2,rfl⟩:=h;exact ⟨⟨h1,h2,Zm⟩,rfl⟩
  | false=>exact h.elim
 | ins m C ns=>cases m with
  | true=>obtain ⟨h1,dx,rfl⟩:=h;exact ⟨⟨h1,dx,Zm⟩,rfl⟩
  | false=>exact h.elim
 | kst K=>exact h.elim
 | lnk b l=>exact h.elim
noncomputable def wr(s:Sd)(k:Nat)(p:List Nat)(n:D)(keep:Nat→Bool):Sd:=match s[k]? with
 | some (.own true d)=>(s.set k (.own true (D.put n p d))).map (killD k p keep)
 | _=>s
noncomputable def eMu(ri:Nat)(h:List D→Option Mu)(f:AF):EF:=fun s=>match f s with
 | .ok rs s1=>(match Z0z s1 rs,rs[ri]? with
  | some ds,some (.plc k p)=>(match s1[k]?,ds[ri]?,h ds with
   | some (.own true _),some (.nd kd l),some (.add kd' m)=>if kd.mut then (match rs[m]? with | some (.val x)=>.ok (.val (.at .non)) (wr s1 k p (.nd kd' (l++[x])) fun _=>true) | _=>.no) else .no
   | some (.own true _),some (.nd kd l),some (.set j m)=>if kd.mut∧j < l.length then (match rs[m]? with | some (.val x)=>.ok (.val (.at .non)) (wr s1 k p (.nd kd (l.set j x)) fun i=>i != j) | _=>.no) else .no
   | _,_,_=>.no)
  | _,_=>.no)
 | .ex C s1=>.ex C s1
 | .no=>.no
noncomputable def gMu(ri:Nat)(h:List D→Option Mu):List V→Hp→(Hp→Prop)→Prop:=fun vs H Q=>∃ l:List T,T.oks H l∧l.map T.val=vs∧∃ a kd ch op,l[ri]?=some (.nd a kd ch)∧kd.mut=true∧h (T.ers l)=some op∧match op with
 | .add kd' m=>∃ x,l[m]?=some x∧∀ o,HoOk o kd' (ch.map T.val++[x.val])→Q (upd H a o)
 | .set j m=>∃ x,l[m]?=some x∧j < ch.length∧∀ o,HoOk o kd ((ch.map T.val).set j x.val)→Q (upd H a o)
section
variable {R:RC}{ix:List Nat}{hd:List (Nat×Addr)}{X:Cx}{e:Expr}{H H':Hp}{σ:L2.St}{ts:Ts}{fr:List T}
theorem Z8t(C:Cf R ix hd H σ ts fr):∀ {tvs:List TV} {vs:List V} {ds:List D},TvsOk ts vs tvs→T.oks H (trs tvs)→Z0z (ts.map TL.er) (tvs.map TV.er)=some ds →
  ∃ l:List T,T.ers l=ds∧l.map T.val=vs∧T.oks H l∧l.length=tvs.length∧∀ (m:Nat) tv t,tvs[m]?=some tv→l[m]?=some t→(tv=.val t∨∃ k p a w u,tv=.plc k p a∧ts[k]?=some (TL.own w u)∧u.get p=some t)
 | [],_,_,.nil,_,h=>by cases h;exact ⟨[],rfl,rfl,trivial,rfl,by simp⟩
 | tv::tvs,_,_,.cons hv hr,ho,h=>by
  simp only [Qi,Z0z] at h
  cases e1:Zw (ts.map TL.er) tv.er with
  | none=>simp [e1] at h
  | some d =>
   cases e2:Z0z (ts.map TL.er) (tvs.map TV.er) with
   | none=>simp [e1,e2] at h
   | some ds =>
    simp only [e1,e2,Option.some.injEq] at h
    subst h
    have ho':T.oks H (tv.tr++trs tvs):=ho
    obtain ⟨t,t1,t2,t3,t4⟩:=Z6S C hv (T.oks_app.mp ho').1 e1
    obtain ⟨l,l1,l2,l3,l4,l5⟩:=Z8t C hr (T.oks_app.mp ho').2 e2
    refine ⟨t::l,by rw [T.ers,t1,l1],by simp [t2,l2],⟨t3,l3⟩,by simp [l4],fun m y z h1 h2=>?_⟩
    cases m with
    | zero=>cases h1;cases h2;exact t4
    | succ m=>exact l5 m y z (by simpa using h1) (by simpa using h2)
theorem wr_er{k:Nat}{p:List Nat}{t s':T}{keep:Nat→Bool}(hk:ts[k]?=some (.own true t)):((ts.set k (.own true (T.put s' p t))).map (ZM k p keep)).map TL.er=wr (ts.map TL.er) k p s'.er keep:=by
 unfold wr
 rw [Qc,hk]
 show _=((ts.map TL.er).set k (.own true (D.put s'.er p t.er))).map (killD k p keep)
 rw [← T.put_er,show DL.own true (T.put s' p t).er=(TL.own true (T.put s' p t)).er from rfl,← Jw,Jf,Jf]
 exact Wc fun s _=>Zdu s
theorem lA_mu{ri:Nat}{h:List D→Option Mu}{f:AF}(σ:L2.St)(H:Hp)(Q:VK)(q:lE R ix (eMu ri h f) σ H Q):lA R ix f σ H fun vs H1=>gMu ri h vs H1 (Q .non):=by
 obtain ⟨hd,ts,fr,C,q⟩:=q
 refine ⟨hd,ts,fr,C,?_⟩
 unfold eMu at q
 cases ef:f (ts.map TL.er) with
 | no=>rw [ef] at q;exact q
 | ex E s1=>rw [ef] at q;exact q
 | ok rs s1 =>
  rw [ef] at q
  intro H1 ts1 tvs vs e1 e2 hv C1
  subst e1 e2
  dsimp only at q
  cases ed:Z0z (ts1.map TL.er) (tvs.map TV.er) with
  | none=>rw [ed] at q;exact q.elim
  | some ds =>
   rw [ed,Qc] at q
   obtain ⟨l,l1,l2,l3,l4,l5⟩:=Z8t C1 hv (T.oks_app.mp C1.fok).1 ed
   cases er:tvs[ri]? with
   | none=>rw [er] at q;exact q.elim
   | some tr =>
    rw [er] at q
    cases tr with
    | val t=>exact q.elim
    | plc k p a =>
     simp only [Option.map_some,TV.er,Qc] at q
     have hri:ri < l.length:=by rw [l4];exact (Qe.mp er).1
     obtain ⟨tn,hn⟩:∃ tn,l[ri]?=some tn:=⟨l[ri],Qj hri⟩
     have hnd:ds[ri]?=some tn.er:=by rw [← l1,T.ers_eq,Qc,hn];rfl
     rcases l5 ri _ tn er hn with z | ⟨k',p',a',w,u,z,hk,hp⟩
     ·cases z
     ·cases z
      rw [hk,hnd] at q
      simp only [Option.map_some,TL.er] at q
      cases w with
      | false=>exact q.elim
      | true =>
       cases tn with
       | «at» v=>exact q.elim
       | nd a2 kd ch =>
        simp only [T.er] at q
        have hkn:kd.mut=true∧True:=⟨by
         cases hm:kd.mut with
         | true=>rfl
         | false =>
          exfalso
          cases eh:h ds with
          | none=>rw [eh] at q;exact q
          | some op=>cases op with
           | add kd' m=>rw [eh] at q;dsimp only at q;rw [hm] at q;exact q
           | set j m =>
            rw [eh] at q
            dsimp only at q
            rw [hm] at q
            rw [if_neg (by rintro ⟨z,_⟩;cases z)] at q
            exact q,trivial⟩
        refine ⟨l,l3,l2,a2,kd,ch,?_⟩
        have ok:=T.oks_app.mp C1.fok
        have hok:(T.nd a2 kd ch).ok H1:=T.oks_iff.mp l3 _ (Qg hn)
        have ha2:a2∈Zc ts1:=by
         obtain ⟨c,r,K⟩:=T.ctx hp
         exact Z18.mpr ⟨u,Qg hk,K.own.mem_iff.mpr (Qd _ (by simp [T.own,hkn.1]))⟩
        have stay:∀ (o:HO) (y:T),y∈trs tvs++fr→y.ok (upd H1 a2 o):=fun o y hy=>T.keep (T.oks_iff.mp C1.fok y hy) fun b hb=>Zb (by
         rintro rfl
         rcases hb with hb | hb
         ·have:=(Qm.mp C1.nd).2.2 b ha2 b (T.mem_owns.mpr ⟨y,hy,hb⟩)
          exact this rfl
         ·exact (C1.sep b (.inr (T.mem_ros.mpr ⟨y,hy,hb⟩))).1 ha2)
        have kid:∀ (o:HO) (y:T),y∈ch→y.ok (upd H1 a2 o):=fun o y hy=>T.keep (T.oks_iff.mp hok.2 y hy) fun b hb=>Zb (by
         rintro rfl
         obtain ⟨c,r,K⟩:=T.ctx hp
         rcases hb with hb | hb
         ·have n1:=(Qm.mp C1.nd).1
          obtain ⟨x1,z1,o1,_⟩:=Z1h (f:=TL.own1) hk
          unfold Zc at n1
          rw [o1] at n1
          have n2:=(Qm.mp ((Qm.mp n1).2.1)).1
          have n3:=(Qm.mp (K.own.nodup_iff.mp n2)).2.1
          simp only [T.own,hkn.1,if_true,Nk,Jr] at n3
          exact n3.1 (T.mem_owns.mpr ⟨y,hy,hb⟩)
         ·refine (C1.sep b (.inl (Z1j.mpr ⟨true,u,Qg hk,K.ro.mem_iff.mpr (Qd _ ?_)⟩))).1 ha2
          simp only [T.ro,hkn.1,if_true,Js]
          exact T.mem_ros.mpr ⟨y,hy,hb⟩)
        cases eh:h ds with
        | none=>rw [eh] at q;exact q.elim
        | some op =>
         rw [eh] at q
         have arg:∀ {m:Nat} {x:D} ,(tvs[m]?).map TV.er=some (.val x)→∃ t,tvs[m]?=some (.val t)∧l[m]?=some t∧t.er=x:=by
          intro m x hx
          cases em:tvs[m]? with
          | none=>rw [em] at hx;cases hx
          | some tv =>
           rw [em] at hx
           cases tv with
           | plc _ _ _=>cases hx
           | val t =>
            cases hx
            have hml:m < l.length:=by rw [l4];exact (Qe.mp em).1
            rcases l5 m _ _ em (Qj hml) with z | ⟨_,_,_,_,_,z,_⟩
            ·cases z;exact ⟨l[m],rfl,Qj hml,rfl⟩
            ·cases z
         cases op with
         | add kd' m =>
          simp only [hkn.1,if_true] at q
          cases em:(tvs[m]?).map TV.er with
          | none=>rw [em] at q;exact q.elim
          | some r =>
           rw [em] at q
           cases r with
           | plc _ _=>exact q.elim
           | val x =>
            obtain ⟨t,t1,t2,rfl⟩:=arg em
            refine ⟨.add kd' m,hn,hkn.1,by rw [l1];exact eh,t,t2,fun o ho=>?_⟩
            obtain ⟨n1,n2⟩:=HoOk.node (H:=H1) (a:=a2) ho
            obtain ⟨x,p1,p2,p3⟩:=Z8l t1
            have W:=Cf.write (kd':=kd') (l':=ch++[t]) (fr':=fr) (x:=x) (o:=o) (keep:=fun _=>true) C1 hk hp hkn.1 n2
             ⟨by simpa using n1,T.oks_app.mpr ⟨T.oks_iff.mpr (kid o),stay o t (Qh _ (p3 t (by simp [TV.tr]))),trivial⟩⟩ (T.oks_iff.mpr fun y hy=>stay o y (Qd _ hy))
             (by
              rw [T.owns_app,T.owns_app]
              refine Qs.mpr fun b=>?_
              have:=Qs.mp p1 b
              simp only [TV.tr,T.owns,Jd,Gz] at this ⊢
              omega)
             (fun b hb=>by
              rw [T.ros_app] at hb ⊢
              rcases hb with hb | hb
              ·rcases Qf.mp hb with hb | hb
               ·exact .inl hb
               ·exact .inr (.inl (Qh _ (p2 b (by simpa [TV.tr] using hb))))
              ·exact .inr (.inl (Qd _ hb)))
             (fun i c _ hc=>by rw [Qk (Qe.mp hc).1];exact hc)
            refine q _ _ (.val (.at .non)) .non ?_ rfl rfl (W.at .non)
            rw [wr_er hk]
            simp only [T.er,T.ers_eq,Jk,Qi,Jl]
         | set j m =>
          simp only [hkn.1,true_and] at q
          by_cases hj:j < (T.ers ch).length
          case neg=>rw [if_neg hj] at q;exact q.elim
          rw [if_pos hj] at q
          have hj:j < ch.length:=by simpa [T.ers_eq] using hj
          cases em:(tvs[m]?).map TV.er with
          | none=>rw [em] at q;exact q.elim
          | some r =>
           rw [em] at q
           cases r with
           | plc _ _=>exact q.elim
           | val x =>
            obtain ⟨t,t1,t2,rfl⟩:=arg em
            refine ⟨.set j m,hn,hkn.1,by rw [l1];exact eh,t,t2,hj,fun o ho=>?_⟩
            obtain ⟨n1,n2⟩:=HoOk.node (H:=H1) (a:=a2) ho
            obtain ⟨x,p1,p2,p3⟩:=Z8l t1
            obtain ⟨x0,y0,c1,c2⟩:=T.owns_get (Qj hj)
            have W:=Cf.write (kd':=kd) (l':=ch.set j t) (fr':=fr) (x:=ch[j].own++x) (o:=o) (keep:=fun i=>i != j) C1 hk hp hkn.1 n2
             ⟨by rw [Jw];exact n1,T.oks_iff.mpr fun y hy=>by
              rcases Gb hy with hy | rfl
              ·exact kid o y hy
              ·exact stay o _ (Qh _ (p3 _ (by simp [TV.tr])))⟩ (T.oks_iff.mpr fun y hy=>stay o y (Qd _ hy))
             (by
              rw [T.owns_app,c1,c2]
              refine Qs.mpr fun b=>?_
              have:=Qs.mp p1 b
              simp only [TV.tr,T.owns,Jd,Gz] at this ⊢
              omega)
             (fun b hb=>by
              rw [T.ros_app]
              rcases hb with hb | hb
              ·obtain ⟨y,hy,hb2⟩:=T.mem_ros.mp hb
               rcases Gb hy with hy | hy
               ·exact .inl (T.mem_ros.mpr ⟨y,hy,hb2⟩)
               ·rw [hy] at hb2
                exact .inr (.inl (Qh _ (p2 b (by simpa [TV.tr,T.ros] using hb2))))
              ·exact .inr (.inl (Qd _ hb)))
             (fun i c hi hc=>by
              have:j≠i:=by rintro rfl;simp at hi
              rw [Qn,if_neg this];exact hc)
            refine q _ _ (.val (.at .non)) .non ?_ rfl rfl (W.at .non)
            rw [wr_er hk]
            simp only [T.er,T.ers_eq,Jw]
end
end RM

namespace RM
open PySem PySem.Spec PyProof.Rows L2
noncomputable def Z1l(j:Nat):DL→DL
 | .bor k q=>if k=j then .non else .bor k q
 | s=>s
noncomputable def Zh(j:Nat):TL→TL
 | .bor k q a=>if k=j then .non else .bor k q a
 | s=>s
theorem Z48{j:Nat}(s:TL):(Zh j s).er=Z1l j s.er:=by
 cases s with
 | bor k q a =>
  show (if k=j then TL.non else _).er=if k=j then DL.non else _
  split <;> rfl
 | _=>rfl
theorem Z02{j:Nat}(s:TL):(Zh j s=s∧∀ q a,s≠.bor j q a)∨(Zh j s=.non∧∃ q a,s=.bor j q a):=by
 cases s with
 | bor k q a =>
  by_cases h:k=j
  ·subst h;exact .inr ⟨if_pos rfl,q,a,rfl⟩
  ·exact .inl ⟨if_neg h,fun q' a' z=>h (by cases z;rfl)⟩
 | non=>exact .inl ⟨rfl,fun _ _ z=>by cases z⟩
 | own w t=>exact .inl ⟨rfl,fun _ _ z=>by cases z⟩
theorem Z2A{α:Type}{f:TL→List α}{j:Nat}(hb:∀ k q a,f (.bor k q a)=f .non)(ts:Ts):(ts.map (Zh j)).flatMap f=ts.flatMap f:=by
 induction ts with
 | nil=>rfl
 | cons t r ih =>
  simp only [Qi,Wb,ih]
  rcases Z02 (j:=j) t with ⟨e,_⟩ | ⟨e,q,a,rfl⟩
  ·rw [e]
  ·rw [e,hb]
noncomputable def Zt(j:Nat)(s:Sd):DV→Option Sd
 | .val d=>some ((s.map (Z1l j)).set j (.own true d))
 | .plc k p=>if k=j then (if p=[] then some s else none) else some ((s.map (Z1l j)).set j (.bor k p))
section
variable {R:RC}{ix:List Nat}{hd:List (Nat×Addr)}{X:Cx}{e:Expr}{H H':Hp}{σ:L2.St}{ts:Ts}{fr:List T}
theorem Cf.slot{i j:Nat}{y:TL}{m:List T}{v:V}(C:Cf R ix hd H σ ts (m++fr))(hix:ix[i]?=some j)(hnd:ix.Nodup)(hv:y.v=some v)(hm:(∃ t,y=.own true t∧m=[t])∨(m=[]∧∃ k p a,y=.bor k p a∧k≠j∧PlOk ts k p a)) :
  Cf R ix hd H (σ.set i (some v)) ((ts.map (Zh j)).set j y) fr:=by
 have hj:j < ts.length:=C.ixs j (Qg hix)
 obtain ⟨y0,hy0⟩:∃ y0,ts[j]?=some y0:=⟨ts[j],Qj hj⟩
 have hy0':(ts.map (Zh j))[j]?=some (Zh j y0):=by rw [Qc,hy0];rfl
 obtain ⟨x1,z1,o1,o2⟩:=Z1h (f:=TL.own1) hy0'
 obtain ⟨x2,z2,r1,r2⟩:=Z1h (f:=TL.ro1) hy0'
 obtain ⟨x3,z3,d1,d2⟩:=Z1h (f:=TL.rd1) hy0'
 rw [Z2A (by intros;rfl)] at o1 r1 d1
 have e1:(Zh j y0).own1=y0.own1∧(Zh j y0).ro1=y0.ro1∧(Zh j y0).rd1=y0.rd1:=by
  rcases Z02 (j:=j) y0 with ⟨e,_⟩ | ⟨e,q,a,rfl⟩ <;> rw [e] <;> exact ⟨rfl,rfl,rfl⟩
 rw [e1.1] at o1;rw [e1.2.1] at r1;rw [e1.2.2] at d1
 have fO:Zc ts=x1++(y0.own1++z1):=o1
 have fR:roS ts=x2++(y0.ro1++z2):=r1
 have fD:rdS ts=x3++(y0.rd1++z3):=d1
 have gO:Zc ((ts.map (Zh j)).set j y)=x1++(y.own1++z1):=o2 y
 have gR:roS ((ts.map (Zh j)).set j y)=x2++(y.ro1++z2):=r2 y
 have gD:rdS ((ts.map (Zh j)).set j y)=x3++(y.rd1++z3):=d2 y
 have yo:y.own1=T.owns m:=by
  rcases hm with ⟨t,rfl,rfl⟩ | ⟨rfl,k,p,a,rfl,_⟩
  ·simp [TL.own1,T.owns]
  ·rfl
 have yr:y.ro1=T.ros m:=by
  rcases hm with ⟨t,rfl,rfl⟩ | ⟨rfl,k,p,a,rfl,_⟩
  ·simp [TL.ro1,T.ros]
  ·rfl
 have yd:y.rd1=[]:=by
  rcases hm with ⟨t,rfl,rfl⟩ | ⟨rfl,k,p,a,rfl,_⟩ <;> rfl
 have pm:(Zc ts++T.owns (m++fr)).Perm ((x1++(y.own1++z1)++T.owns fr)++y0.own1):=by
  rw [fO,T.owns_app,yo]
  refine Qs.mpr fun b=>?_
  simp only [Jd];omega
 have nd2:=Qm.mp (pm.nodup_iff.mp C.nd)
 have sub1:∀ b,b∈x1++(y.own1++z1)∨b∈T.owns fr→b∈Zc ts∨b∈T.owns (m++fr):=fun b z=>Qf.mp (pm.mem_iff.mpr (Qh _ (by
  rcases z with z | z
  ·exact Qh _ z
  ·exact Qd _ z)))
 have slot:∀ (j':Nat) (s:TL),((ts.map (Zh j)).set j y)[j']?=some s→(j'=j∧s=y)∨(j'≠j∧∃ s0,ts[j']?=some s0∧s=Zh j s0):=by
  intro j' s hs
  rw [Qn] at hs
  by_cases h:j=j'
  ·subst h
   rw [if_pos rfl,if_pos (by simpa using hj)] at hs
   cases hs;exact .inl ⟨rfl,rfl⟩
  ·rw [if_neg h,Qc] at hs
   cases e:ts[j']? with
   | none=>rw [e] at hs;cases hs
   | some s0=>rw [e] at hs;cases hs;exact .inr ⟨Ne.symm h,s0,rfl,rfl⟩
 have plk:∀ {k:Nat} {p:List Nat} {a:Addr},k≠j→PlOk ts k p a→PlOk ((ts.map (Zh j)).set j y) k p a:=by
  rintro k p a hk ⟨w,u,s,h1,h2,h3⟩
  exact ⟨w,u,s,by rw [Qn,if_neg (Ne.symm hk),Qc,h1];rfl,h2,h3⟩
 have lenS:((ts.map (Zh j)).set j y).length=ts.length:=by simp
 have hi:i < σ.length:=Qv (Qe.mp hix).1 C.len
 refine ⟨fun w u hu=>?_,(T.oks_app.mp C.fok).2,by rw [gO];exact nd2.1,fun b z=>?_,fun b z=>?_,fun b z=>?_,C.bg,fun j' k q b hj'=>?_,fun j' hj'=>by rw [lenS];exact C.ixs j' hj',fun i' j' s u h1 h2 h3=>?_,fun j' b hb=>by rw [lenS];exact C.hdi j' b hb,C.hdx,by rw [List.length_set];exact C.len,fun j' b hb s u h2 h3=>?_⟩
 ·obtain ⟨j',hj'⟩:=Ja.mp hu
  rcases slot j' _ hj' with ⟨rfl,e⟩ | ⟨_,s0,h0,e⟩
  ·rcases hm with ⟨t,rfl,rfl⟩ | ⟨rfl,k,p,a,rfl,_⟩
   ·cases e;exact (T.oks_app.mp C.fok).1.1
   ·cases e
  ·rcases Z02 (j:=j) s0 with ⟨e',_⟩ | ⟨e',_⟩
   ·rw [e'] at e;subst e;exact C.ok w u (Qg h0)
   ·rw [e'] at e;cases e
 ·have old:b∈roS ts∨b∈T.ros (m++fr)→b∉x1++(y.own1++z1)∧b∉T.owns fr∧¬ R.B b:=fun z=>by
   obtain ⟨h1,h2,h3⟩:=C.sep b z
   exact ⟨fun q=>(sub1 b (.inl q)).elim h1 h2,fun q=>(sub1 b (.inr q)).elim h1 h2,h3⟩
  rw [gO]
  rw [gR] at z
  rcases z with z | z
  ·rw [yr] at z
   simp only [Qf] at z
   rcases z with z | z | z
   ·exact old (.inl (by rw [fR];simp [z]))
   ·exact old (.inr (by rw [T.ros_app];simp [z]))
   ·exact old (.inl (by rw [fR];simp [z]))
  ·exact old (.inr (by rw [T.ros_app];simp [z]))
 ·rw [gO]
  rw [gD,yd] at z
  have z':b∈rdS ts:=by
   rw [fD]
   simp only [Js,Qf] at z ⊢
   rcases z with z | z <;> simp [z]
  obtain ⟨h1,h2⟩:=C.rd b z'
  exact ⟨fun q=>(sub1 b (.inl q)).elim h1 h2,fun q=>(sub1 b (.inr q)).elim h1 h2⟩
 ·rw [gO]
  obtain ⟨g1,g2,g3,g4⟩:=C.g b z
  exact ⟨g1,g2,fun q=>(sub1 b (.inl q)).elim g3 g4,fun q=>(sub1 b (.inr q)).elim g3 g4⟩
 ·rcases slot j' _ hj' with ⟨rfl,e⟩ | ⟨_,s0,h0,e⟩
  ·rcases hm with ⟨t,rfl,rfl⟩ | ⟨rfl,k',p',a',rfl,hk,hp⟩
   ·cases e
   ·cases e;exact plk hk hp
  ·rcases Z02 (j:=j) s0 with ⟨e',hne⟩ | ⟨e',_⟩
   ·rw [e'] at e
    subst e
    exact plk (fun z=>hne q b (by rw [z])) (C.bor j' k q b h0)
   ·rw [e'] at e;cases e
 ·rcases slot j' _ h2 with ⟨rfl,rfl⟩ | ⟨hne,s0,h0,rfl⟩
  ·have:i'=i:=by
    have a1:=(Qe.mp h1)
    have a2:=(Qe.mp hix)
    exact (Gh hnd).mp (a1.2.trans a2.2.symm)
   subst this
   rw [hv] at h3
   cases h3
   rw [Qn,if_pos rfl,if_pos hi]
  ·have hii:i≠i':=by rintro rfl;rw [hix] at h1;cases h1;exact hne rfl
   rw [Qn,if_neg hii]
   refine C.sl i' j' s0 u h1 h0 ?_
   rcases Z02 (j:=j) s0 with ⟨e',_⟩ | ⟨e',_⟩
   ·rwa [e'] at h3
   ·rw [e'] at h3;cases h3
 ·have hne:j'≠j:=by rintro rfl;exact C.hdx j' b hb (Qg hix)
  rcases slot j' _ h2 with ⟨rfl,rfl⟩ | ⟨_,s0,h0,rfl⟩
  ·exact absurd rfl hne
  ·refine C.hdn j' b hb s0 u h0 ?_
   rcases Z02 (j:=j) s0 with ⟨e',_⟩ | ⟨e',_⟩
   ·rwa [e'] at h3
   ·rw [e'] at h3;cases h3
noncomputable def lG(R:RC)(ix:List Nat)(b:Sd→DV→Option Sd):TG:=fun v σ H Q=>∃ hd ts fr tv,Cf R ix hd H σ ts (tv.tr++fr)∧ZX ts v tv∧∃ s',b (ts.map TL.er) tv.er=some s'∧∀ σ' ts',ts'.map TL.er=s'→Cf R ix hd H σ' ts' fr→Q σ' H
theorem Zdv{i j:Nat}(hix:ix[i]?=some j)(hnd:ix.Nodup)(v:V)(σ:L2.St)(H:Hp)(Q:L2.St→Hp→Prop)(h:lG R ix (Zt j) v σ H Q):Z1I i v σ H Q:=by
 obtain ⟨hd,ts,fr,tv,C,hv,s',hs,q⟩:=h
 have er1:∀ y:TL,((ts.map (Zh j)).set j y).map TL.er=((ts.map TL.er).map (Z1l j)).set j y.er:=fun y=>by
  rw [Jw,Jf,Jf]
  exact congrArg (fun l=>List.set l j y.er) (Wc fun s _=>Z48 s)
 cases tv with
 | val t =>
  cases hv
  cases hs
  exact q _ _ (er1 (.own true t)) (Cf.slot (y:=.own true t) C hix hnd rfl (.inl ⟨t,rfl,rfl⟩))
 | plc k p a =>
  obtain ⟨rfl,hp⟩:=hv
  simp only [TV.er,Zt] at hs
  by_cases hk:k=j
  ·subst hk
   rw [if_pos rfl] at hs
   by_cases hp0:p=[]
   ·subst hp0
    rw [if_pos rfl] at hs
    cases hs
    have:σ.set i (some (.ref a))=σ:=by
     obtain ⟨w,t,s,h1,h2,h3⟩:=hp
     cases h2
     have h4:=C.sl i k _ _ hix h1 rfl
     rw [h3] at h4
     refine Wf fun n=>?_
     rw [Qn]
     by_cases hn:i=n
     ·subst hn
      rw [if_pos rfl,if_pos (Qe.mp h4).1,h4]
     ·rw [if_neg hn]
    show Q (σ.set i (some (.ref a))) H
    rw [this]
    exact q σ ts rfl C
   ·rw [if_neg hp0] at hs;cases hs
  ·rw [if_neg hk] at hs
   cases hs
   exact q _ _ (er1 (.bor k p a)) (Cf.slot (y:=.bor k p a) (m:=[]) C hix hnd rfl (.inr ⟨rfl,k,p,a,rfl,hk,hp⟩))
end
end RM

namespace RM
open PySem PySem.Spec PyProof.Rows L2
noncomputable def bV(f:EF):BF:=fun s=>match f s with
 | .ok (.val (.at (.bl b))) s1=>.ok b s1
 | .ok _ _=>.no
 | .ex C s1=>.ex C s1
 | .no=>.no
noncomputable def bNot(f:BF):BF:=fun s=>match f s with
 | .ok b s1=>.ok (!b) s1
 | r=>r
noncomputable def bAnd(f g:BF):BF:=fun s=>match f s with
 | .ok true s1=>g s1
 | r=>r
noncomputable def bOr(f g:BF):BF:=fun s=>match f s with
 | .ok false s1=>g s1
 | r=>r
noncomputable def Zd(f g:SF):SF:=fun s=>match f s with
 | .nx s1=>g s1
 | r=>r
noncomputable def sIf(c:BF)(a b:SF):SF:=fun s=>match c s with
 | .ok true s1=>a s1
 | .ok false s1=>b s1
 | .ex C s1=>.ex C s1
 | .no=>.no
noncomputable def sE(f:EF):SF:=fun s=>match f s with
 | .ok _ s1=>.nx s1
 | .ex C s1=>.ex C s1
 | .no=>.no
noncomputable def Z03(f:EF):SF:=fun s=>match f s with
 | .ok r s1=>.rt r s1
 | .ex C s1=>.ex C s1
 | .no=>.no
noncomputable def sRetN:SF:=fun s=>.rt (.val (.at .non)) s
noncomputable def ZZ:SF:=fun s=>.nx s
noncomputable def sBrk:SF:=fun s=>.bk s
noncomputable def sCt:SF:=fun s=>.ct s
noncomputable def ZV(f:EF)(b:Sd→DV→Option Sd):SF:=fun s=>match f s with
 | .ok r s1=>(match b s1 r with | some s2=>.nx s2 | none=>.no)
 | .ex C s1=>.ex C s1
 | .no=>.no
noncomputable def eIf(c:BF)(a b:EF):EF:=fun s=>match c s with
 | .ok true s1=>a s1
 | .ok false s1=>b s1
 | .ex C s1=>.ex C s1
 | .no=>.no
section
variable {R:RC}{ix:List Nat}{hd:List (Nat×Addr)}{X:Cx}{e:Expr}{H H':Hp}{σ:L2.St}{ts:Ts}{fr:List T}
theorem lT_v{f:EF}(σ:L2.St)(H:Hp)(Q:Bool→Hp→Prop)(h:lT R ix (bV f) σ H Q):lE R ix f σ H fun x H1=>∃ c,x=.bl c∧Q c H1:=by
 obtain ⟨hd,ts,fr,C,h⟩:=h
 refine ⟨hd,ts,fr,C,?_⟩
 unfold bV at h
 cases ef:f (ts.map TL.er) with
 | no=>rw [ef] at h;exact h
 | ex E s1=>rw [ef] at h;exact h
 | ok r s1 =>
  rw [ef] at h
  intro H1 ts1 tv v e1 e2 hv C1
  cases r with
  | plc k p=>exact h.elim
  | val d =>
   obtain ⟨t,rfl,rfl,rfl⟩:=hv.er_val e2
   cases t with
   | nd a k l=>exact h.elim
   | «at» v =>
    cases v with
    | bl b=>exact ⟨b,rfl,h H1 ts1 e1 C1.drop⟩
    | _=>exact h.elim
theorem Zf2{f:BF}(σ:L2.St)(H:Hp)(Q:Bool→Hp→Prop)(h:lT R ix (bNot f) σ H Q):tNot (lT R ix f) σ H Q:=by
 obtain ⟨hd,ts,fr,C,h⟩:=h
 refine ⟨hd,ts,fr,C,?_⟩
 unfold bNot at h
 cases ef:f (ts.map TL.er) with
 | no=>rw [ef] at h;exact h
 | ex E s1=>rw [ef] at h;exact h
 | ok r s1=>rw [ef] at h;exact h
theorem Zf1{f g:BF}(σ:L2.St)(H:Hp)(Q:Bool→Hp→Prop)(h:lT R ix (bAnd f g) σ H Q):tAnd (lT R ix f) (lT R ix g) σ H Q:=by
 obtain ⟨hd,ts,fr,C,h⟩:=h
 refine ⟨hd,ts,fr,C,?_⟩
 unfold bAnd at h
 cases ef:f (ts.map TL.er) with
 | no=>rw [ef] at h;exact h
 | ex E s1=>rw [ef] at h;exact h
 | ok r s1 =>
  rw [ef] at h
  intro H1 ts1 e1 C1
  cases r with
  | true=>subst e1;rw [if_pos rfl];exact ⟨hd,ts1,fr,C1,h⟩
  | false=>rw [if_neg Ql];exact h H1 ts1 e1 C1
theorem lT_or{f g:BF}(σ:L2.St)(H:Hp)(Q:Bool→Hp→Prop)(h:lT R ix (bOr f g) σ H Q):tOr (lT R ix f) (lT R ix g) σ H Q:=by
 obtain ⟨hd,ts,fr,C,h⟩:=h
 refine ⟨hd,ts,fr,C,?_⟩
 unfold bOr at h
 cases ef:f (ts.map TL.er) with
 | no=>rw [ef] at h;exact h
 | ex E s1=>rw [ef] at h;exact h
 | ok r s1 =>
  rw [ef] at h
  intro H1 ts1 e1 C1
  cases r with
  | true=>rw [if_pos rfl];exact h H1 ts1 e1 C1
  | false=>subst e1;rw [if_neg Ql];exact ⟨hd,ts1,fr,C1,h⟩
theorem Zf0{f g:SF}(D:Ends)(σ:L2.St)(H:Hp)(h:lS R ix (Zd f g) D σ H):tSeq (lS R ix f) (lS R ix g) D σ H:=by
 obtain ⟨hd,ts,fr,C,h⟩:=h
 refine ⟨hd,ts,fr,C,?_⟩
 unfold Zd at h
 cases ef:f (ts.map TL.er) with
 | nx s1 =>
  rw [ef] at h
  intro H1 σ1 ts1 e1 C1
  subst e1
  exact ⟨hd,ts1,fr,C1,h⟩
 | no=>rw [ef] at h;exact h
 | ex E s1=>rw [ef] at h;exact h
 | rt r s1=>rw [ef] at h;exact h
 | bk s1=>rw [ef] at h;exact h
 | ct s1=>rw [ef] at h;exact h
theorem lS_if{c:BF}{f g:SF}(D:Ends)(σ:L2.St)(H:Hp)(h:lS R ix (sIf c f g) D σ H):tIfS (lT R ix c) (lS R ix f) (lS R ix g) D σ H:=by
 obtain ⟨hd,ts,fr,C,h⟩:=h
 refine ⟨hd,ts,fr,C,?_⟩
 unfold sIf at h
 cases ef:c (ts.map TL.er) with
 | no=>rw [ef] at h;exact h
 | ex E s1=>rw [ef] at h;intro H1 ts1 e1 C1;exact h H1 σ ts1 e1 C1
 | ok r s1 =>
  rw [ef] at h
  intro H1 ts1 e1 C1
  subst e1
  cases r with
  | true=>rw [if_pos rfl];exact ⟨hd,ts1,fr,C1,h⟩
  | false=>rw [if_neg Ql];exact ⟨hd,ts1,fr,C1,h⟩
theorem lS_e{f:EF}(D:Ends)(σ:L2.St)(H:Hp)(h:lS R ix (sE f) D σ H):tDrop (lE R ix f) D σ H:=by
 obtain ⟨hd,ts,fr,C,h⟩:=h
 refine ⟨hd,ts,fr,C,?_⟩
 unfold sE at h
 cases ef:f (ts.map TL.er) with
 | no=>rw [ef] at h;exact h
 | ex E s1=>rw [ef] at h;intro H1 ts1 e1 C1;exact h H1 σ ts1 e1 C1
 | ok r s1=>rw [ef] at h;intro H1 ts1 tv v e1 e2 hv C1;exact h H1 σ ts1 e1 C1.drops
theorem ZeZ{f:EF}(D:Ends)(σ:L2.St)(H:Hp)(h:lS R ix (Z03 f) D σ H):tRet (lE R ix f) D σ H:=by
 obtain ⟨hd,ts,fr,C,h⟩:=h
 refine ⟨hd,ts,fr,C,?_⟩
 unfold Z03 at h
 cases ef:f (ts.map TL.er) with
 | no=>rw [ef] at h;exact h
 | ex E s1=>rw [ef] at h;intro H1 ts1 e1 C1;exact h H1 σ ts1 e1 C1
 | ok r s1=>rw [ef] at h;intro H1 ts1 tv v e1 e2 hv C1;exact h H1 σ ts1 tv v e1 e2 hv C1
theorem Zdy(D:Ends)(σ:L2.St)(H:Hp)(h:lS R ix ZZ D σ H):tNext D σ H:=by
 obtain ⟨hd,ts,fr,C,h⟩:=h
 exact h H σ ts rfl C
theorem ZeY{f:EF}{b:Sd→DV→Option Sd}(D:Ends)(σ:L2.St)(H:Hp)(h:lS R ix (ZV f b) D σ H):tAsg (lE R ix f) (lG R ix b) D σ H:=by
 obtain ⟨hd,ts,fr,C,h⟩:=h
 refine ⟨hd,ts,fr,C,?_⟩
 unfold ZV at h
 cases ef:f (ts.map TL.er) with
 | no=>rw [ef] at h;exact h
 | ex E s1=>rw [ef] at h;intro H1 ts1 e1 C1;exact h H1 σ ts1 e1 C1
 | ok r s1 =>
  rw [ef] at h
  intro H1 ts1 tv v e1 e2 hv C1
  subst e1 e2
  refine ⟨hd,ts1,fr,tv,C1,hv,?_⟩
  dsimp only at h
  cases eb:b (ts1.map TL.er) tv.er with
  | none=>rw [eb] at h;exact h.elim
  | some s2=>rw [eb] at h;exact ⟨s2,rfl,fun σ' ts' e C'=>h H1 σ' ts' e C'⟩
end
section
variable {R:RC}{ix:List Nat}{X:Cx}{e a b c:Expr}{st:Stmt}{sts as bs:List Stmt}{pos:Pos}{f g:SF}{fe fa fb:EF}{fc fd:BF}
theorem ZD:PSs X [] (lS R ix ZZ):=pssM Z4w Zdy
theorem Z5(h1:PS X st (lS R ix f))(h2:PSs X sts (lS R ix g)):PSs X (st::sts) (lS R ix (Zd f g)):=pssM (Z3I h1 h2) Zf0
theorem Z9(h1:PS X st (lS R ix f)):PSs X [st] (lS R ix f):=Z2V h1
theorem Z05(hc:PT X c (lT R ix fc))(ha:PSs X as (lS R ix f))(hb:PSs X bs (lS R ix g)):PS X (.If c as bs pos) (lS R ix (sIf fc f g)):=psM (ps_if hc ha hb) lS_if
theorem rs_e(he:PE X e (lE R ix fe))(hs:swapsWith e none pos.line X.env=pure false:=by rfl):PS X (.Expr e pos) (lS R ix (sE fe)):=psM (ZdP he hs) lS_e
theorem ZK(he:PE X e (lE R ix fe)):PS X (.Return (some e) pos) (lS R ix (Z03 fe)):=psM (Z3H he) ZeZ
theorem Zi{i j:Nat}{x:Str}(hN:X.N.Nodup)(hi:X.N[i]?=some x)(hx:Loc X.env.scope x)(hix:ix[i]?=some j)(hnd:ix.Nodup)(hf:X.fn x=true∨X.env.scope.names.lookup x=some .local:=by first | exact .inl rfl | exact .inr rfl | assumption):PG X (.Name x pos) (lG R ix (Zt j)):=by
 intro pins s σ H v u Q I r h
 exact Z4u hN hi hx hf pins s σ H v u Q I r (Zdv hix hnd v σ H Q h)
theorem Zv{tg:Expr}{bd:Sd→DV→Option Sd}(he:PE X e (lE R ix fe))(hg:PG X tg (lG R ix bd))(hs:swapsWithSole [tg] e pos.line X.env=pure false:=by rfl)(hw:swappedStores [tg] e X.env=pure none:=by rfl)(h1:(assignEach [tg] X.env).map (·.2)=[assign tg X.env]:=by rfl):PS X (.Assign [tg] e pos) (lS R ix (ZV fe bd)) :=
 psM (Zfk he hg hs hw h1) ZeY
theorem rt_v(h:PE X e (lE R ix fe))(he:∀ whole,isTrue e X.env whole=(do let v ← whole;standAt e.pos;holding [v] (truthy v)):=by intro _;rfl):PT X e (lT R ix (bV fe)):=ptM (Z9B h he) lT_v
theorem Z38(h:PT X a (lT R ix fc)):PT X (.UnaryOp .Not a pos) (lT R ix (bNot fc)):=ptM (Zfn h) Zf2
theorem ZdY(h:PT X a (lT R ix fc)):PW X (.BoolOp .And [a] pos) (lT R ix fc):=ZdR h
theorem Z3L(h:PT X a (lT R ix fc)):PW X (.BoolOp .Or [a] pos) (lT R ix fc):=Z7z h
theorem Zfx{rest:List Expr}(ha:PT X a (lT R ix fc))(hb:PW X (.BoolOp .And (b::rest) pos) (lT R ix fd)):PW X (.BoolOp .And (a::b::rest) pos) (lT R ix (bAnd fc fd)) :=
 fun whole pins s σ H Q I q=>Zfp ha hb whole pins s σ H Q I (Zf1 σ H Q q)
theorem rw_or{rest:List Expr}(ha:PT X a (lT R ix fc))(hb:PW X (.BoolOp .Or (b::rest) pos) (lT R ix fd)):PW X (.BoolOp .Or (a::b::rest) pos) (lT R ix (bOr fc fd)) :=
 fun whole pins s σ H Q I q=>pw_or ha hb whole pins s σ H Q I (lT_or σ H Q q)
end
end RM

namespace RM
open PySem PySem.Spec PyProof.Rows L2
noncomputable def Zx(it:Nat→Sd→Option (Option DV))(b:Sd→DV→Option Sd)(body:SF):Nat→Nat→Sd→SR
 | 0,_,_=>.no
 | m + 1,i,s=>match it i s with
  | none=>.no
  | some none=>.nx s
  | some (some r)=>match b s r with
   | none=>.no
   | some s1=>match body s1 with
    | .nx s2=>Zx it b body m (i + 1) s2
    | .ct s2=>Zx it b body m (i + 1) s2
    | .bk s2=>.nx s2
    | .rt r s2=>.rt r s2
    | .ex C s2=>.ex C s2
    | .no=>.no
noncomputable def popD(n:Nat)(s:Sd):Option Sd:=if s.length=n + 1 then some (s.map (Z1l n)).dropLast else none
noncomputable def fin(n:Nat):SR→SR
 | .nx s=>(match popD n s with | some s'=>.nx s' | none=>.no)
 | .rt (.val d) s=>(match popD n s with | some s'=>.rt (.val d) s' | none=>.no)
 | .rt (.plc k p) s=>if k=n then .no else (match popD n s with | some s'=>.rt (.plc k p) s' | none=>.no)
 | .ex C s=>(match popD n s with | some s'=>.ex C s' | none=>.no)
 | _=>.no
noncomputable def held(n k:Nat)(p:List Nat)(s:Sd):Bool:=match s[n]? with
 | some (.bor k' p')=>decide (k'=k) && decide (p'=p)
 | some (.own _ _)=>decide (k=n) && decide (p=[])
 | _=>false
noncomputable def itP(isT:Bool)(n k:Nat)(p:List Nat)(i:Nat)(s:Sd):Option (Option DV):=if held n k p s then (match Zw s (.plc k p),isT with
  | some (.nd (.lst _) l),false=>some ((l[i]?).map (mkV k (p++[i])))
  | some (.nd .tup l),true=>some ((l[i]?).map (mkV k (p++[i])))
  | _,_=>none) else none
noncomputable def seqOf:Option D→Option (Bool×Nat)
 | some (.nd (.lst _) l)=>some (false,l.length)
 | some (.nd .tup l)=>some (true,l.length)
 | _=>none
noncomputable def sForL(f:EF)(b:Sd→DV→Option Sd)(body:SF):SF:=fun s=>match f s with
 | .ok (.plc k p) s1=>(match seqOf (Zw s1 (.plc k p)) with
  | some (t,m)=>fin s1.length (Zx (itP t s1.length k p) b body (m + 1) 0 (s1++[.bor k p]))
  | none=>.no)
 | .ok (.val d) s1=>(match seqOf (some d) with
  | some (t,m)=>fin s1.length (Zx (itP t s1.length s1.length []) b body (m + 1) 0 (s1++[.own true d]))
  | none=>.no)
 | .ex C s1=>.ex C s1
 | .no=>.no
noncomputable def itR(lo:Int)(n:Nat)(i:Nat)(_:Sd):Option (Option DV):=some (if i < n then some (.val (.at (.int (lo + i)))) else none)
noncomputable def sForR(f:AF)(b:Sd→DV→Option Sd)(body:SF):SF:=fun s=>match f s with
 | .ok [.val (.at (.int j))] s1=>if -(2 ^ 62)≤j∧j < 2 ^ 62 then Zx (itR 0 j.toNat) b body (j.toNat + 1) 0 s1 else .no
 | .ok [.val (.at (.int i)),.val (.at (.int j))] s1=>if -(2 ^ 62)≤i∧i < 2 ^ 62∧-(2 ^ 62)≤j∧j < 2 ^ 62 then Zx (itR i (j - i).toNat) b body ((j - i).toNat + 1) 0 s1 else .no
 | .ok _ _=>.no
 | .ex C s1=>.ex C s1
 | .no=>.no
theorem map1{α β:Type}{f:α→β}{l:List α}{b:β}(h:l.map f=[b]):∃ a,l=[a]∧f a=b:=by
 cases l with
 | nil=>cases h
 | cons x r=>cases r with
  | nil=>simp at h;exact ⟨x,rfl,h⟩
  | cons y r=>simp at h
theorem map2{α β:Type}{f:α→β}{l:List α}{b c:β}(h:l.map f=[b,c]):∃ x y,l=[x,y]∧f x=b∧f y=c:=by
 cases l with
 | nil=>cases h
 | cons x r =>
  simp only [Qi,Jt.injEq] at h
  obtain ⟨y,rfl,h2⟩:=map1 h.2
  exact ⟨x,y,rfl,h.1,h2⟩
section
variable {R:RC}{ix:List Nat}{hd:List (Nat×Addr)}{X:Cx}{e:Expr}{H H':Hp}{σ:L2.St}{ts:Ts}{fr:List T}{D:Ends}
noncomputable def Post(R:RC)(ix:List Nat)(hd:List (Nat×Addr))(fr:List T)(D:Ends):SR→Prop
 | .nx s'=>∀ H' σ' ts',ts'.map TL.er=s'→Cf R ix hd H' σ' ts' fr→D.nx σ' H'
 | .rt r s'=>∀ H' σ' ts' tv v,ts'.map TL.er=s'→tv.er=r→ZX ts' v tv→Cf R ix hd H' σ' ts' (tv.tr++fr)→D.rt v H'
 | .ex C s'=>∀ H' σ' ts',ts'.map TL.er=s'→Cf R ix hd H' σ' ts' fr→R.EX σ' (.ref (R.ad C)) none H'
 | _=>False
theorem Z1w{J:It}{it:Nat→Sd→Option (Option DV)}{b:Sd→DV→Option Sd}{body:SF}{m:Nat}
  (ok:∀ i H σ ts,Cf R ix hd H σ ts fr→(it i (ts.map TL.er)=some none→J.stop i H)∧∀ r,it i (ts.map TL.er)=some (some r)→J.go i H∧∀ x H',J.yld i H x H'→∃ tv,tv.er=r∧ZX ts x tv∧Cf R ix hd H' σ ts (tv.tr++fr))
  (C:Cf R ix hd H σ ts fr) (P:Post R ix hd fr D (Zx it b body m 0 (ts.map TL.er))) :
  ∃ W:Nat→Nat→L2.St→Hp→Prop,(∃ m,W 0 m σ H)∧∀ i m σ H,W i m σ H →
   (J.stop i H∧D.nx σ H)∨(J.go i H∧∃ N:L2.St→Hp→Prop,(∀ σ' H',N σ' H'→∃ m',m' < m∧W (i + 1) m' σ' H')∧∀ x H',J.yld i H x H'→lG R ix b x σ H' fun σ2 H2=>lS R ix body { D with nx:=N,ct:=N,bk:=D.nx } σ2 H2):=by
 refine ⟨fun i m σ H=>∃ ts,Cf R ix hd H σ ts fr∧Post R ix hd fr D (Zx it b body m i (ts.map TL.er)),⟨m,ts,C,P⟩,?_⟩
 rintro i m σ H ⟨ts,C,P⟩
 cases m with
 | zero=>exact P.elim
 | succ m =>
  unfold Zx at P
  obtain ⟨o1,o2⟩:=ok i H σ ts C
  cases ei:it i (ts.map TL.er) with
  | none=>rw [ei] at P;exact P.elim
  | some y =>
   rw [ei] at P
   cases y with
   | none=>exact .inl ⟨o1 ei,P H σ ts rfl C⟩
   | some r =>
    obtain ⟨g1,g2⟩:=o2 r ei
    refine .inr ⟨g1,fun σ' H'=>∃ ts',Cf R ix hd H' σ' ts' fr∧Post R ix hd fr D (Zx it b body m (i + 1) (ts'.map TL.er)),fun σ' H' n=>⟨m,Wk m,n⟩,fun x H' hy=>?_⟩
    obtain ⟨tv,rfl,hv,C'⟩:=g2 x H' hy
    dsimp only at P
    cases eb:b (ts.map TL.er) tv.er with
    | none=>rw [eb] at P;exact P.elim
    | some s1 =>
     rw [eb] at P
     refine ⟨hd,ts,fr,tv,C',hv,s1,eb,fun σ2 ts2 e2 C2=>⟨hd,ts2,fr,C2,?_⟩⟩
     rw [e2]
     dsimp only at P
     cases ed:body s1 with
     | nx s2=>rw [ed] at P;intro H3 σ3 ts3 e3 C3;subst e3;exact ⟨ts3,C3,P⟩
     | ct s2=>rw [ed] at P;intro H3 σ3 ts3 e3 C3;subst e3;exact ⟨ts3,C3,P⟩
     | bk s2=>rw [ed] at P;exact P
     | rt r s2=>rw [ed] at P;exact P
     | ex E s2=>rw [ed] at P;exact P
     | no=>rw [ed] at P;exact P.elim
theorem Z9l{lo:Int}{n:Nat}(i:Nat)(H:Hp)(σ:L2.St)(ts:Ts)(C:Cf R ix hd H σ ts fr):(itR lo n i (ts.map TL.er)=some none→(Itr lo n).stop i H)∧∀ r,itR lo n i (ts.map TL.er)=some (some r)→(Itr lo n).go i H∧∀ x H',(Itr lo n).yld i H x H'→∃ tv,tv.er=r∧ZX ts x tv∧Cf R ix hd H' σ ts (tv.tr++fr):=by
 unfold itR
 by_cases h:i < n
 ·rw [if_pos h]
  refine ⟨fun z=>by simp at z,fun r hr=>⟨h,?_⟩⟩
  cases hr
  rintro x _ ⟨rfl,rfl⟩
  exact ⟨.val (.at (.int (lo + i))),rfl,rfl,C.at _⟩
 ·rw [if_neg h]
  exact ⟨fun _=>Nm h,fun r hr=>by simp at hr⟩
theorem Post.of{f:SF}(h:match f (ts.map TL.er) with
 | .nx s'=>∀ H' σ' ts',ts'.map TL.er=s'→Cf R ix hd H' σ' ts' fr→D.nx σ' H'
 | .rt r s'=>∀ H' σ' ts' tv v,ts'.map TL.er=s'→tv.er=r→ZX ts' v tv→Cf R ix hd H' σ' ts' (tv.tr++fr)→D.rt v H'
 | .bk s'=>∀ H' σ' ts',ts'.map TL.er=s'→Cf R ix hd H' σ' ts' fr→D.bk σ' H'
 | .ct s'=>∀ H' σ' ts',ts'.map TL.er=s'→Cf R ix hd H' σ' ts' fr→D.ct σ' H'
 | .ex C s'=>∀ H' σ' ts',ts'.map TL.er=s'→Cf R ix hd H' σ' ts' fr→R.EX σ' (.ref (R.ad C)) none H'
 | .no=>False) (hb:∀ s,f (ts.map TL.er)≠.bk s) (hc:∀ s,f (ts.map TL.er)≠.ct s):Post R ix hd fr D (f (ts.map TL.er)):=by
 cases e:f (ts.map TL.er) with
 | nx s=>rw [e] at h;exact h
 | rt r s=>rw [e] at h;exact h
 | ex E s=>rw [e] at h;exact h
 | no=>rw [e] at h;exact h
 | bk s=>exact absurd e (hb s)
 | ct s=>exact absurd e (hc s)
theorem Z1m{it:Nat→Sd→Option (Option DV)}{b:Sd→DV→Option Sd}{body:SF}:∀ (m i:Nat) (s s':Sd),Zx it b body m i s≠.bk s'∧Zx it b body m i s≠.ct s'
 | 0,_,_,_=>⟨(by intro z;cases z),(by intro z;cases z)⟩
 | m + 1,i,s,s'=>by
  unfold Zx
  cases it i s with
  | none=>exact ⟨(by intro z;cases z),(by intro z;cases z)⟩
  | some y=>cases y with
   | none=>exact ⟨(by intro z;cases z),(by intro z;cases z)⟩
   | some r =>
    dsimp only
    cases b s r with
    | none=>exact ⟨(by intro z;cases z),(by intro z;cases z)⟩
    | some s1 =>
     dsimp only
     cases body s1 with
     | nx s2=>exact Z1m m (i + 1) s2 s'
     | ct s2=>exact Z1m m (i + 1) s2 s'
     | _=>exact ⟨(by intro z;cases z),(by intro z;cases z)⟩
theorem Z9o{f:AF}{b:Sd→DV→Option Sd}{body:SF}(D:Ends)(σ:L2.St)(H:Hp)(h:lS R ix (sForR f b body) D σ H) :
  lA R ix f σ H fun vs H1=>(∃ j:Int,vs=[.int j]∧(-(2 ^ 62)≤j∧j < 2 ^ 62)∧(∃ W:Nat→Nat→L2.St→Hp→Prop,(∃ m,W 0 m σ H1)∧∀ i m σ H,W i m σ H →
   ((Itr 0 j.toNat).stop i H∧D.nx σ H)∨((Itr 0 j.toNat).go i H∧∃ N:L2.St→Hp→Prop,(∀ σ' H',N σ' H'→∃ m',m' < m∧W (i + 1) m' σ' H')∧∀ x H',(Itr 0 j.toNat).yld i H x H'→lG R ix b x σ H' fun σ2 H2=>lS R ix body { D with nx:=N,ct:=N,bk:=D.nx } σ2 H2))) ∨
   (∃ k j:Int,vs=[.int k,.int j]∧(-(2 ^ 62)≤k∧k < 2 ^ 62∧-(2 ^ 62)≤j∧j < 2 ^ 62)∧(∃ W:Nat→Nat→L2.St→Hp→Prop,(∃ m,W 0 m σ H1)∧∀ i m σ H,W i m σ H →
   ((Itr k (j - k).toNat).stop i H∧D.nx σ H)∨((Itr k (j - k).toNat).go i H∧∃ N:L2.St→Hp→Prop,(∀ σ' H',N σ' H'→∃ m',m' < m∧W (i + 1) m' σ' H')∧∀ x H',(Itr k (j - k).toNat).yld i H x H'→lG R ix b x σ H' fun σ2 H2=>lS R ix body { D with nx:=N,ct:=N,bk:=D.nx } σ2 H2))):=by
 obtain ⟨hd,ts,fr,C,h⟩:=h
 refine ⟨hd,ts,fr,C,?_⟩
 unfold sForR at h
 cases ef:f (ts.map TL.er) with
 | no=>rw [ef] at h;exact h
 | ex E s1=>rw [ef] at h;intro H1 ts1 e1 C1;exact h H1 σ ts1 e1 C1
 | ok rs s1 =>
  rw [ef] at h
  intro H1 ts1 tvs vs e1 e2 hv C1
  subst e1
  have one:∀ {r:DV} {v:V} {tv:TV} {i:Int},tv.er=r→ZX ts1 v tv→r=.val (.at (.int i))→v=.int i:=by
   rintro r v tv i rfl hv hr
   obtain ⟨t,rfl,te,rfl⟩:=hv.er_val hr
   cases t with
   | nd a k l=>cases te
   | «at» u=>cases u with
    | int j=>cases te;rfl
    | _=>cases te
  have z:(∃ j,rs=[.val (.at (.int j))])∨∃ k j,rs=[.val (.at (.int k)),.val (.at (.int j))]:=by
   clear e2 ef
   rcases rs with _ | ⟨r,l⟩;exact h.elim
   rcases r with ((_ | _ | i | _) | _) | _ <;> try exact h.elim
   rcases l with _ | ⟨r,l⟩;exact .inl ⟨_,rfl⟩
   rcases r with ((_ | _ | j | _) | _) | _ <;> try exact h.elim
   rcases l with _ | _;exact .inr ⟨_,_,rfl⟩;exact h.elim
  rcases z with ⟨j,rfl⟩ | ⟨k,j,rfl⟩
  ·obtain ⟨tv,rfl,e5⟩:=map1 e2
   cases hv with
   | cons hv hn =>
   cases hn
   cases one e5 hv rfl
   by_cases hj:-(2 ^ 62)≤j∧j < 2 ^ 62
   ·dsimp only at h
    rw [if_pos hj] at h
    refine .inl ⟨j,rfl,hj,Z1w Z9l (C1.drops) (Post.of (f:=fun s=>Zx (itR 0 j.toNat) b body (j.toNat + 1) 0 s) h (fun s=>(Z1m _ _ _ s).1) fun s=>(Z1m _ _ _ s).2)⟩
   ·dsimp only at h;rw [if_neg hj] at h;exact h.elim
  ·obtain ⟨tv,tw,rfl,e5,e3⟩:=map2 e2
   cases hv with
   | cons hv hw =>
   cases hw with
   | cons hw hn =>
   cases hn
   cases one e5 hv rfl
   cases one e3 hw rfl
   by_cases hj:-(2 ^ 62)≤k∧k < 2 ^ 62∧-(2 ^ 62)≤j∧j < 2 ^ 62
   ·dsimp only at h
    rw [if_pos hj] at h
    exact .inr ⟨k,j,rfl,hj,Z1w Z9l (C1.drops) (Post.of (f:=fun s=>Zx (itR k (j - k).toNat) b body ((j - k).toNat + 1) 0 s) h (fun s=>(Z1m _ _ _ s).1) fun s=>(Z1m _ _ _ s).2)⟩
   ·dsimp only at h;rw [if_neg hj] at h;exact h.elim
end
end RM

namespace RM
open PySem PySem.Spec PyProof.Rows L2
section
variable {R:RC}{ix:List Nat}{hd hm:List (Nat×Addr)}{X:Cx}{e:Expr}{H H':Hp}{σ:L2.St}{ts:Ts}{fr:List T}{D:Ends}
theorem Cf.push{t:T}{a:Addr}(C:Cf R ix hd H σ ts (t::fr))(ha:t.val=.ref a):Cf R ix (hd++[(ts.length,a)]) H σ (ts++[.own true t]) fr:=by
 have e1:Zc (ts++[.own true t])=Zc ts++t.own:=by rw [Z0R];simp [Zc,TL.own1]
 have e2:roS (ts++[.own true t])=roS ts++t.ro:=by rw [Z2Y];simp [roS,TL.ro1]
 have e3:rdS (ts++[.own true t])=rdS ts:=by rw [Z21];simp [rdS,TL.rd1]
 refine ⟨fun w u z=>?_,C.fok.2,?_,fun b z=>?_,fun b z=>?_,fun b z=>?_,C.bg,fun j k' p' a' z=>?_,fun j z=>by simpa using Wa (C.ixs j z),fun i j s v z1 z2 z3=>?_,fun j b z=>?_,fun j b z=>?_,C.len,fun j b z s v z2 z3=>?_⟩
 ·rcases Qf.mp z with z | z
  ·exact C.ok w u z
  ·simp only [Je,TL.own.injEq] at z
   rw [z.2];exact C.fok.1
 ·rw [e1,Qp];exact C.nd
 ·rw [e1]
  have:=C.sep b (by
   rw [e2] at z
   rw [T.ros_cons]
   simp only [Qf] at z ⊢
   rcases z with (z | z) | z <;> simp [z])
  rw [T.owns_cons] at this
  simp only [Qf,not_or] at this ⊢
  exact ⟨⟨this.1,this.2.1.1⟩,this.2.1.2,this.2.2⟩
 ·rw [e3] at z
  rw [e1]
  have:=C.rd b z
  rw [T.owns_cons] at this
  simp only [Qf,not_or] at this ⊢
  exact ⟨⟨this.1,this.2.1⟩,this.2.2⟩
 ·rw [e1]
  have:=C.g b z
  rw [T.owns_cons] at this
  simp only [Qf,not_or] at this ⊢
  exact ⟨this.1,this.2.1,⟨this.2.2.1,this.2.2.2.1⟩,this.2.2.2.2⟩
 ·have hj:j < ts.length:=by
   rcases Nv j ts.length with h | h
   ·exact h
   ·rw [Qu h] at z
    have:j - ts.length=0:=by
     have:=(Qe.mp z).1
     simp at this;omega
    rw [this] at z;cases z
  rw [Qk hj] at z
  exact (C.bor j k' p' a' z).app _
 ·have:=C.ixs j (Qg z1)
  rw [Qk this] at z2
  exact C.sl i j s v z1 z2 z3
 ·rcases Qf.mp z with z | z
  ·simpa using Wa (C.hdi j b z)
  ·simp only [Je,Prod.mk.injEq] at z
   simp [z.1]
 ·rcases Qf.mp z with z | z
  ·exact C.hdx j b z
  ·simp only [Je,Prod.mk.injEq] at z
   rw [z.1]
   exact fun q=>absurd (C.ixs _ q) (Jo _)
 ·rcases Qf.mp z with z | z
  ·rw [Qk (C.hdi j b z)] at z2
   exact C.hdn j b z s v z2 z3
  ·simp only [Je,Prod.mk.injEq] at z
   obtain ⟨rfl,rfl⟩:=z
   rw [Qu (Qq _),Gp] at z2
   cases z2
   simp only [TL.v,Option.some.injEq] at z3
   rw [← z3,ha]
theorem Cf.popAny{x:TL}(C:Cf R ix (hd++hm) H σ (ts++[x]) fr)(hi:∀ j∈ix,j < ts.length)(hj:∀ j a,(j,a)∈hd→j < ts.length):Cf R ix hd H σ (ts.map (Zh ts.length)) fr:=by
 have o1:∀ a,a∈Zc (ts.map (Zh ts.length))→a∈Zc (ts++[x]):=fun a z=>by
  unfold Zc at z;rw [Z2A (by intros;rfl)] at z;rw [Z0R];exact Qh _ z
 have r1:∀ a,a∈roS (ts.map (Zh ts.length))→a∈roS (ts++[x]):=fun a z=>by
  unfold roS at z;rw [Z2A (by intros;rfl)] at z;rw [Z2Y];exact Qh _ z
 have d1:∀ a,a∈rdS (ts.map (Zh ts.length))→a∈rdS (ts++[x]):=fun a z=>by
  unfold rdS at z;rw [Z2A (by intros;rfl)] at z;rw [Z21];exact Qh _ z
 have slot:∀ (j:Nat) (s:TL),(ts.map (Zh ts.length))[j]?=some s→∃ s0,ts[j]?=some s0∧s=Zh ts.length s0∧(ts++[x])[j]?=some s0:=by
  intro j s hs
  rw [Qc] at hs
  cases e:ts[j]? with
  | none=>rw [e] at hs;cases hs
  | some s0=>rw [e] at hs;cases hs;exact ⟨s0,rfl,rfl,by rw [Qk (Qe.mp e).1];exact e⟩
 have vv:∀ (s0:TL) (v:V),(Zh ts.length s0).v=some v→s0.v=some v:=by
  intro s0 v h
  rcases Z02 (j:=ts.length) s0 with ⟨e',_⟩ | ⟨e',_⟩
  ·rwa [e'] at h
  ·rw [e'] at h;cases h
 refine ⟨fun w u z=>?_,C.fok,?_,fun b z=>?_,fun b z=>?_,fun b z=>?_,C.bg,fun j k q b z=>?_,fun j z=>by simpa using hi j z,fun i j s v z1 z2 z3=>?_,fun j b z=>by simpa using hj j b z,fun j b z=>C.hdx j b (Qh _ z),C.len,fun j b z s v z2 z3=>?_⟩
 ·obtain ⟨j,hj'⟩:=Ja.mp z
  obtain ⟨s0,h1,h2,h3⟩:=slot j _ hj'
  rcases Z02 (j:=ts.length) s0 with ⟨e',_⟩ | ⟨e',_⟩
  ·rw [e'] at h2;subst h2;exact C.ok w u (Qg h3)
  ·rw [e'] at h2;cases h2
 ·have:=C.nd
  rw [Z0R,Qp] at this
  have h1:=Qm.mp this
  have h2:=Qm.mp h1.2.1
  have e:Zc (ts.map (Zh ts.length))=Zc ts:=by unfold Zc;exact Z2A (by intros;rfl) ts
  rw [e]
  exact Qm.mpr ⟨h1.1,h2.2.1,fun a za b zb=>h1.2.2 a za b (Qd _ zb)⟩
 ·have:=C.sep b (z.imp (r1 b) id)
  exact ⟨fun q=>this.1 (o1 b q),this.2.1,this.2.2⟩
 ·have:=C.rd b (d1 b z)
  exact ⟨fun q=>this.1 (o1 b q),this.2⟩
 ·have:=C.g b z
  exact ⟨this.1,this.2.1,fun q=>this.2.2.1 (o1 b q),this.2.2.2⟩
 ·obtain ⟨s0,h1,h2,h3⟩:=slot j _ z
  rcases Z02 (j:=ts.length) s0 with ⟨e',hne⟩ | ⟨e',_⟩
  ·rw [e'] at h2
   subst h2
   have hk:k≠ts.length:=fun z=>hne q b (by rw [z])
   obtain ⟨w,u,s,q1,q2,q3⟩:=C.bor j k q b h3
   refine ⟨w,u,s,?_,q2,q3⟩
   have hlt:k < ts.length:=by
    have:=(Qe.mp q1).1
    simp at this;omega
   rw [Qk hlt] at q1
   rw [Qc,q1];rfl
  ·rw [e'] at h2;cases h2
 ·obtain ⟨s0,h1,rfl,h3⟩:=slot j _ z2
  exact C.sl i j s0 v z1 h3 (vv s0 v z3)
 ·obtain ⟨s0,h1,rfl,h3⟩:=slot j _ z2
  exact C.hdn j b (Qh _ z) s0 v h3 (vv s0 v z3)
theorem Z37{n:Nat}{s s':Sd}{ts':Ts}(h:popD n s=some s')(e:ts'.map TL.er=s):∃ ts0 x,ts'=ts0++[x]∧ts0.length=n∧(ts0.map (Zh n)).map TL.er=s':=by
 unfold popD at h
 split at h
 case isFalse=>cases h
 case isTrue hl =>
  cases h
  have hne:ts'≠[]:=by rintro rfl;rw [← e] at hl;simp at hl
  refine ⟨ts'.dropLast,ts'.getLast hne,(Nq hne).symm,?_,?_⟩
  ·rw [List.length_dropLast,Z5z e,hl];rfl
  ·rw [← e,← Gg,Jf,← Gg,Jf]
   exact Wc fun s _=>Z48 s
theorem Z4M{r:SR}{n:Nat}{hm:List (Nat×Addr)}(hi:∀ j∈ix,j < n)(hj:∀ j a,(j,a)∈hd→j < n)
  (h:match fin n r with
  | .nx s'=>∀ H' σ' ts',ts'.map TL.er=s'→Cf R ix hd H' σ' ts' fr→D.nx σ' H'
  | .rt r s'=>∀ H' σ' ts' tv v,ts'.map TL.er=s'→tv.er=r→ZX ts' v tv→Cf R ix hd H' σ' ts' (tv.tr++fr)→D.rt v H'
  | .bk s'=>∀ H' σ' ts',ts'.map TL.er=s'→Cf R ix hd H' σ' ts' fr→D.bk σ' H'
  | .ct s'=>∀ H' σ' ts',ts'.map TL.er=s'→Cf R ix hd H' σ' ts' fr→D.ct σ' H'
  | .ex C s'=>∀ H' σ' ts',ts'.map TL.er=s'→Cf R ix hd H' σ' ts' fr→R.EX σ' (.ref (R.ad C)) none H'
  | .no=>False):Post R ix (hd++hm) fr D r:=by
 cases r with
 | nx s =>
  intro H' σ' ts' e C
  simp only [fin] at h
  cases ep:popD n s with
  | none=>rw [ep] at h;exact h.elim
  | some s' =>
   rw [ep] at h
   obtain ⟨ts0,x,rfl,hl,e2⟩:=Z37 ep e
   subst hl
   exact h H' σ' _ e2 (C.popAny hi hj)
 | ex E s =>
  intro H' σ' ts' e C
  simp only [fin] at h
  cases ep:popD n s with
  | none=>rw [ep] at h;exact h.elim
  | some s' =>
   rw [ep] at h
   obtain ⟨ts0,x,rfl,hl,e2⟩:=Z37 ep e
   subst hl
   exact h H' σ' _ e2 (C.popAny hi hj)
 | rt r s =>
  intro H' σ' ts' tv v e e1 hv C
  cases r with
  | val d =>
   obtain ⟨t,rfl,rfl,rfl⟩:=hv.er_val e1
   simp only [fin] at h
   cases ep:popD n s with
   | none=>rw [ep] at h;exact h.elim
   | some s' =>
    rw [ep] at h
    obtain ⟨ts0,x,rfl,hl,e2⟩:=Z37 ep e
    subst hl
    exact h H' σ' _ (.val t) t.val e2 rfl rfl (C.popAny hi hj)
  | plc k p =>
   obtain ⟨a,rfl,rfl,hp⟩:=hv.er_plc e1
   simp only [fin] at h
   by_cases hk:k=n
   ·rw [if_pos hk] at h;exact h.elim
   ·rw [if_neg hk] at h
    cases ep:popD n s with
    | none=>rw [ep] at h;exact h.elim
    | some s' =>
     rw [ep] at h
     obtain ⟨ts0,x,rfl,hl,e2⟩:=Z37 ep e
     subst hl
     refine h H' σ' _ (.plc k p a) (.ref a) e2 rfl ⟨rfl,?_⟩ (C.popAny hi hj)
     obtain ⟨w,u,s,q1,q2,q3⟩:=hp
     refine ⟨w,u,s,?_,q2,q3⟩
     have hlt:k < ts0.length:=by
      have:=(Qe.mp q1).1
      simp at this;omega
     rw [Qk hlt] at q1
     rw [Qc,q1];rfl
 | bk s=>exact h.elim
 | ct s=>exact h.elim
 | no=>exact h.elim
end
end RM

namespace RM
open PySem PySem.Spec PyProof.Rows L2
noncomputable def iSeq(K:Qa)(tl:TE):TI:=fun σ H R=>tl σ H fun x H1=>∃ a,x=.ref a∧(((∃ xs,SqL K H1 a xs)∧R (Itl K a) H1)∨((∃ xs,SqT K H1 a xs)∧R (Itt K a) H1))
section
variable {X:Cx}{tg:Expr}
theorem Zfi{l:Expr}{tl:TE}(hl:PE X l tl):PI X tg l (iSeq X.K tl):=by
 intro pins s σ H R I h
 refine thn (hl pins s σ H _ I h) fun v s1 ⟨x,H1,I1,r1,q1⟩=>?_
 obtain ⟨a,e,⟨⟨xs,hq⟩,q⟩ | ⟨⟨xs,hq⟩,q⟩⟩:=q1
 ·subst e
  cases r1
  obtain ⟨its,rv,p,hz⟩:=I1.list hq
  refine wpAny_pyIter_list p.isList ?_
  refine ⟨s1.heap.objs.size,[s1.heap.objs.size],_,_,H1,rfl,I1.kept (t':=s1.toks) fun b o e=>Heap.get?_push_of_some _ e,Z8D a _,⟨_,Heap.get?_push_size _ rfl,rfl,rfl⟩,fun b hb=>?_,q⟩
  have e:b=s1.heap.objs.size:=by simpa using hb
  subst e
  exact I1.fpOk (Qq _) (I1.hok.fresh (Qq _))
 ·subst e
  cases r1
  obtain ⟨its,rv,p,hz⟩:=I1.tuple hq
  refine wpAny_pyIter_tuple (show s1.heap.IsTuple a its.toArray from p) ?_
  refine ⟨s1.heap.objs.size,[s1.heap.objs.size],_,_,H1,rfl,I1.kept (t':=s1.toks) fun b o e=>Heap.get?_push_of_some _ e,ZaU a _,⟨_,Heap.get?_push_size _ rfl,rfl,rfl⟩,fun b hb=>?_,q⟩
  have e:b=s1.heap.objs.size:=by simpa using hb
  subst e
  exact I1.fpOk (Qq _) (I1.hok.fresh (Qq _))
end
section
variable {K:Qa}{R:RC}{ix:List Nat}{hd hm:List (Nat×Addr)}{X:Cx}{e:Expr}{H H':Hp}{σ:L2.St}{ts:Ts}{fr:List T}{D:Ends}
theorem NodeOk.sqL{a:Addr}{m:Bool}{vs:List V}(h:NodeOk H a (.lst m) vs):SqL K H a vs:=by
 cases m with
 | true=>exact .of h
 | false=>exact .inl h
theorem NodeOk.sqT{a:Addr}{vs:List V}(h:NodeOk H a .tup vs):SqT K H a vs:=.of h
theorem Zaa{n k:Nat}{p:List Nat}{a:Addr}(C:Cf R ix (hd++[(n,a)]) H σ ts fr)(h:held n k p (ts.map TL.er)=true){d:RM.D}(hd':Zw (ts.map TL.er) (.plc k p)=some d)(hn:∃ kd l,d=.nd kd l) :
  ∃ w t kd ch,ts[k]?=some (.own w t)∧t.get p=some (.nd a kd ch)∧d=.nd kd (T.ers ch)∧(T.nd a kd ch).ok H:=by
 have get:∀ w t,ts[k]?=some (TL.own w t)→∃ s,t.get p=some s∧s.er=d∧s.ok H:=by
  intro w t hk
  simp only [Zw,Qc,hk,Option.map_some,TL.er,T.get_er] at hd'
  cases es:t.get p with
  | none=>rw [es] at hd';cases hd'
  | some s=>rw [es] at hd';cases hd';exact ⟨s,rfl,rfl,T.get_ok es (C.ok w t (Qg hk))⟩
 have nodeOf:∀ s:T,s.er=d→s.val=.ref a→∃ kd ch,s=.nd a kd ch∧d=.nd kd (T.ers ch):=by
  rintro s rfl hv
  obtain ⟨kd,l,hl⟩:=hn
  cases s with
  | «at» v=>cases hl
  | nd b k ch=>cases hv;exact ⟨k,ch,rfl,rfl⟩
 unfold held at h
 rw [Qc] at h
 cases en:ts[n]? with
 | none=>rw [en] at h;cases h
 | some y =>
  rw [en] at h
  cases y with
  | non=>cases h
  | bor k' p' b =>
   simp only [Option.map_some,TL.er,Qw,decide_eq_true_eq] at h
   obtain ⟨rfl,rfl⟩:=h
   have hb:=C.hdn n a (Qd _ (by simp)) _ _ en rfl
   cases hb
   obtain ⟨w,t,s,h1,h2,h3⟩:=C.bor n k' p' a en
   obtain ⟨s',g1,g2,g3⟩:=get w t h1
   rw [h2] at g1
   cases g1
   obtain ⟨kd,ch,rfl,e2⟩:=nodeOf s g2 h3
   exact ⟨w,t,kd,ch,h1,h2,e2,g3⟩
  | own w t =>
   simp only [Option.map_some,TL.er,Qw,decide_eq_true_eq] at h
   obtain ⟨rfl,rfl⟩:=h
   have hb:=C.hdn k a (Qd _ (by simp)) _ _ en rfl
   obtain ⟨s',g1,g2,g3⟩:=get w t en
   cases g1
   obtain ⟨kd,ch,rfl,e2⟩:=nodeOf t g2 hb
   exact ⟨w,_,kd,ch,en,rfl,e2,g3⟩
theorem Zaf{n k:Nat}{p:List Nat}{a:Addr}(i:Nat)(H:Hp)(σ:L2.St)(ts:Ts)(C:Cf R ix (hd++[(n,a)]) H σ ts fr):(itP false n k p i (ts.map TL.er)=some none→(Itl K a).stop i H)∧∀ r,itP false n k p i (ts.map TL.er)=some (some r)→(Itl K a).go i H∧∀ x H',(Itl K a).yld i H x H'→∃ tv,tv.er=r∧ZX ts x tv∧Cf R ix (hd++[(n,a)]) H' σ ts (tv.tr++fr):=by
 have main:∀ y,itP false n k p i (ts.map TL.er)=some y→∃ w t m ch,ts[k]?=some (TL.own w t)∧t.get p=some (.nd a (.lst m) ch)∧(T.nd a (.lst m) ch).ok H∧y=(ch[i]?).map fun c=>mkV k (p++[i]) c.er:=by
  intro y hy
  unfold itP at hy
  split at hy
  case isFalse=>cases hy
  case isTrue hh =>
   cases ed:Zw (ts.map TL.er) (.plc k p) with
   | none=>rw [ed] at hy;cases hy
   | some d =>
    rw [ed] at hy
    cases d with
    | «at» v=>cases hy
    | nd kd l =>
     cases kd with
     | lst m =>
      obtain ⟨w,t,kd,ch,h1,h2,h3,h4⟩:=Zaa C hh ed ⟨_,_,rfl⟩
      cases h3
      simp only [Option.some.injEq] at hy
      exact ⟨w,t,m,ch,h1,h2,h4,by rw [← hy,T.ers_eq,Qc,Option.map_map];rfl⟩
     | _=>cases hy
 refine ⟨fun h=>?_,fun r h=>?_⟩
 ·obtain ⟨w,t,m,ch,h1,h2,h3,h4⟩:=main _ h
  refine ⟨ch.map T.val,h3.1.sqL,?_⟩
  cases e:ch[i]? with
  | some c=>rw [e] at h4;cases h4
  | none=>simpa using e
 ·obtain ⟨w,t,m,ch,h1,h2,h3,h4⟩:=main _ h
  cases e:ch[i]? with
  | none=>rw [e] at h4;cases h4
  | some c =>
   rw [e] at h4
   have hs:SqL K H a (ch.map T.val):=h3.1.sqL
   refine ⟨⟨_,c.val,hs,by rw [Qc,e];rfl⟩,?_⟩
   rintro x _ ⟨rfl,hx⟩
   have:=hx _ hs
   rw [Qc,e] at this
   cases this
   obtain ⟨tv,q1,q2,q3⟩:=mk_ok (p:=p++[i]) C h1 (by rw [T.get_app,h2];show T.get [i] (.nd a (.lst m) ch)=some c;simp only [T.get,e])
   refine ⟨tv,?_,q2,q3⟩
   rw [q1];cases h4;rfl
theorem Zag{n k:Nat}{p:List Nat}{a:Addr}(i:Nat)(H:Hp)(σ:L2.St)(ts:Ts)(C:Cf R ix (hd++[(n,a)]) H σ ts fr):(itP true n k p i (ts.map TL.er)=some none→(Itt K a).stop i H)∧∀ r,itP true n k p i (ts.map TL.er)=some (some r)→(Itt K a).go i H∧∀ x H',(Itt K a).yld i H x H'→∃ tv,tv.er=r∧ZX ts x tv∧Cf R ix (hd++[(n,a)]) H' σ ts (tv.tr++fr):=by
 have main:∀ y,itP true n k p i (ts.map TL.er)=some y→∃ w t ch,ts[k]?=some (TL.own w t)∧t.get p=some (.nd a .tup ch)∧(T.nd a .tup ch).ok H∧y=(ch[i]?).map fun c=>mkV k (p++[i]) c.er:=by
  intro y hy
  unfold itP at hy
  split at hy
  case isFalse=>cases hy
  case isTrue hh =>
   cases ed:Zw (ts.map TL.er) (.plc k p) with
   | none=>rw [ed] at hy;cases hy
   | some d =>
    rw [ed] at hy
    cases d with
    | «at» v=>cases hy
    | nd kd l =>
     cases kd with
     | tup =>
      obtain ⟨w,t,kd,ch,h1,h2,h3,h4⟩:=Zaa C hh ed ⟨_,_,rfl⟩
      cases h3
      simp only [Option.some.injEq] at hy
      exact ⟨w,t,ch,h1,h2,h4,by rw [← hy,T.ers_eq,Qc,Option.map_map];rfl⟩
     | _=>cases hy
 refine ⟨fun h=>?_,fun r h=>?_⟩
 ·obtain ⟨w,t,ch,h1,h2,h3,h4⟩:=main _ h
  refine ⟨ch.map T.val,h3.1.sqT,?_⟩
  cases e:ch[i]? with
  | some c=>rw [e] at h4;cases h4
  | none=>simpa using e
 ·obtain ⟨w,t,ch,h1,h2,h3,h4⟩:=main _ h
  cases e:ch[i]? with
  | none=>rw [e] at h4;cases h4
  | some c =>
   rw [e] at h4
   have hs:SqT K H a (ch.map T.val):=h3.1.sqT
   refine ⟨⟨_,c.val,hs,by rw [Qc,e];rfl⟩,?_⟩
   rintro x _ ⟨rfl,hx⟩
   have:=hx _ hs
   rw [Qc,e] at this
   cases this
   obtain ⟨tv,q1,q2,q3⟩:=mk_ok (p:=p++[i]) C h1 (by rw [T.get_app,h2];show T.get [i] (.nd a .tup ch)=some c;simp only [T.get,e])
   refine ⟨tv,?_,q2,q3⟩
   rw [q1];cases h4;rfl
theorem Zdw{f:EF}{b:Sd→DV→Option Sd}{body:SF}(D:Ends)(σ:L2.St)(H:Hp)(h:lS R ix (sForL f b body) D σ H):tFor (iSeq K (lE R ix f)) (lG R ix b) (lS R ix body) D σ H:=by
 obtain ⟨hd,ts,fr,C,h⟩:=h
 refine ⟨hd,ts,fr,C,?_⟩
 unfold sForL at h
 cases ef:f (ts.map TL.er) with
 | no=>rw [ef] at h;exact h
 | ex E s1=>rw [ef] at h;intro H1 ts1 e1 C1;exact h H1 σ ts1 e1 C1
 | ok r s1 =>
  rw [ef] at h
  intro H1 ts1 tv v e1 e2 hv C1
  subst e1
  have hlen:(ts1.map TL.er).length=ts1.length:=by simp
  cases r with
  | plc k p =>
   obtain ⟨a,rfl,rfl,hp⟩:=hv.er_plc e2
   dsimp only at h
   refine ⟨a,rfl,?_⟩
   obtain ⟨w,t,s,h1,h2,h3⟩:=id hp
   have hd1:Zw (ts1.map TL.er) (.plc k p)=some s.er:=by simp only [Zw,Qc,h1,Option.map_some,TL.er,T.get_er,h2]
   have sok:=T.get_ok h2 (C1.ok w t (Qg h1))
   rw [hd1,hlen] at h
   have C2:Cf R ix (hd++[(ts1.length,a)]) H1 σ (ts1++[.bor k p a]) fr:=Cf.hide C1 hp
   cases s with
   | «at» v=>exact h.elim
   | nd b' kd ch =>
    cases h3
    cases kd with
    | lst m =>
     refine .inl ⟨⟨_,sok.1.sqL⟩,?_⟩
     refine Z1w (it:=itP false ts1.length k p) (m:=ch.length + 1) Zaf C2 ?_
     have:=Z4M (hm:=[(ts1.length,a)]) C1.ixs C1.hdi h
     simpa [TL.er,T.ers_eq] using this
    | tup =>
     refine .inr ⟨⟨_,sok.1.sqT⟩,?_⟩
     refine Z1w (it:=itP true ts1.length k p) (m:=ch.length + 1) Zag C2 ?_
     have:=Z4M (hm:=[(ts1.length,a)]) C1.ixs C1.hdi h
     simpa [TL.er,T.ers_eq] using this
    | _=>exact h.elim
  | val d =>
   obtain ⟨t,rfl,rfl,rfl⟩:=hv.er_val e2
   dsimp only at h
   cases t with
   | «at» v=>exact h.elim
   | nd a kd ch =>
    refine ⟨a,rfl,?_⟩
    rw [hlen] at h
    have C2:Cf R ix (hd++[(ts1.length,a)]) H1 σ (ts1++[.own true (.nd a kd ch)]) fr:=Cf.push (a:=a) C1 rfl
    have sok:=C1.fok.1
    cases kd with
    | lst m =>
     refine .inl ⟨⟨_,sok.1.sqL⟩,?_⟩
     refine Z1w (it:=itP false ts1.length ts1.length []) (m:=ch.length + 1) Zaf C2 ?_
     have:=Z4M (hm:=[(ts1.length,a)]) C1.ixs C1.hdi h
     simpa [TL.er,T.er,T.ers_eq] using this
    | tup =>
     refine .inr ⟨⟨_,sok.1.sqT⟩,?_⟩
     refine Z1w (it:=itP true ts1.length ts1.length []) (m:=ch.length + 1) Zag C2 ?_
     have:=Z4M (hm:=[(ts1.length,a)]) C1.ixs C1.hdi h
     simpa [TL.er,T.er,T.ers_eq] using this
    | _=>exact h.elim
theorem ZdX{tg iter:Expr}{bs:List Stmt}{f:EF}{b:Sd→DV→Option Sd}{body:SF}{pos:Pos}(hp:PassesOwn (model X.prog X.w) X.A X.env X.xe)(hc:X.calm=true)(hi:PE X iter (lE R ix f))(hg:PG X tg (lG R ix b))(hb:PSs X bs (lS R ix body))
  (hs:∀ x,foldedSetIterable iter X.env x=pure x:=by intro _;rfl):PS X (.For tg iter bs [] pos) (lS R ix (sForL f b body)):=psM (Z7y hp hc (Zfi hi) hg hb hs) Zdw
theorem ZcN{tg a:Expr}{bs:List Stmt}{f:EF}{b:Sd→DV→Option Sd}{body:SF}{p pos fpos:Pos}(hp:PassesOwn (model X.prog X.w) X.A X.env X.xe)(hc:X.calm=true)(hgl:Gl X "range")(hm:X.mg "range"=none)(ha:PE X a (lE R ix f))(hg:PG X tg (lG R ix b))(hb:PSs X bs (lS R ix body))
  (hst:starEach [a] X.env=[(false,eval a X.env)]:=by rfl) (hs:∀ x,foldedSetIterable (.Call (.Name "range" p) [a] [] pos) X.env x=pure x:=by intro _;rfl):PS X (.For tg (.Call (.Name "range" p) [a] [] pos) bs [] fpos) (lS R ix (sForR (Z0 f Z1) b body)):=by
 refine psM (Z7y hp hc (Z5I (ta:=Z2J (lE R ix f) tNil) hgl hm (Zk ha Z01 hst) hst) hg hb hs) fun D σ H h=>?_
 have h1:=lA_1 (Z9o D σ H h)
 refine Zj (fun v H1 q=>?_) h1
 rcases q with ⟨j,e,hj,q⟩ | ⟨k,j,e,_⟩
 ·cases e;exact ⟨j,rfl,hj.1,hj.2,q⟩
 ·cases e
theorem ZcO{tg a c:Expr}{bs:List Stmt}{f g:EF}{b:Sd→DV→Option Sd}{body:SF}{p pos fpos:Pos}(hp:PassesOwn (model X.prog X.w) X.A X.env X.xe)(hc:X.calm=true)(hgl:Gl X "range")(hm:X.mg "range"=none)(ha:PE X a (lE R ix f))(hc2:PE X c (lE R ix g))(hg:PG X tg (lG R ix b))(hb:PSs X bs (lS R ix body))
  (hst:starEach [a,c] X.env=[(false,eval a X.env),(false,eval c X.env)]:=by rfl) (hst2:starEach [c] X.env=[(false,eval c X.env)]:=by rfl) (hs:∀ x,foldedSetIterable (.Call (.Name "range" p) [a,c] [] pos) X.env x=pure x:=by intro _;rfl):PS X (.For tg (.Call (.Name "range" p) [a,c] [] pos) bs [] fpos) (lS R ix (sForR (Z0 f (Z0 g Z1)) b body)):=by
 refine psM (Z7y hp hc (ZbC (ta:=Z2J (lE R ix f) (Z2J (lE R ix g) tNil)) hgl hm (Zk ha (Zk hc2 Z01 hst2) (by rw [hst,hst2])) hst hst2) hg hb hs) fun D σ H h=>?_
 have h1:=lA_2 (Z9o D σ H h)
 refine Zj (fun v H1 q=>Zj (fun u H2 q2=>?_) q) h1
 rcases q2 with ⟨j,e,_⟩ | ⟨k,j,e,hj,q3⟩
 ·cases e
 ·cases e;exact ⟨k,j,rfl,hj,q3⟩
end
end RM

namespace RM
open PySem PySem.Spec PyProof.Rows L2
noncomputable def hole:D:=.at (.flt 0)
section
variable {R:RC}{ix:List Nat}{hd hm:List (Nat×Addr)}{X:Cx}{e:Expr}{H H':Hp}{σ:L2.St}{ts:Ts}{fr:List T}
theorem Cf.exch{k:Nat}{t s s':T}{p:List Nat}{fr':List T}{x:List Addr}(C:Cf R ix hd H σ ts fr)(hk:ts[k]?=some (.own true t))(hp:t.get p=some s)(hv:s'.val=s.val)
  (ho:s'.ok H) (hf:T.oks H fr') (hown:(s.own++T.owns fr).Perm (s'.own++T.owns fr'++x)) (hro:∀ b,b∈s'.ro∨b∈T.ros fr'→b∈s.ro∨b∈T.ros fr) :
  Cf R ix hd H σ ((ts.set k (.own true (T.put s' p t))).map (ZM k p fun _=>false)) fr':=by
 obtain ⟨c,r,K⟩:=T.ctx hp
 obtain ⟨x1,z1,o1,o2⟩:=Z1h (f:=TL.own1) hk
 obtain ⟨x2,z2,r1,r2⟩:=Z1h (f:=TL.ro1) hk
 obtain ⟨x3,z3,d1,d2⟩:=Z1h (f:=TL.rd1) hk
 generalize ht':T.put s' p t=t'
 have eO:Zc ((ts.set k (.own true t')).map (ZM k p fun _=>false))=x1++(t'.own++z1):=by
  unfold Zc;rw [Z3s (by intros;rfl),o2];rfl
 have eR:roS ((ts.set k (.own true t')).map (ZM k p fun _=>false))=x2++(t'.ro++z2):=by
  unfold roS;rw [Z3s (by intros;rfl),r2];rfl
 have eD:rdS ((ts.set k (.own true t')).map (ZM k p fun _=>false))=rdS ts:=by
  unfold rdS;rw [Z3s (by intros;rfl),d2,d1];rfl
 have fO:Zc ts=x1++(t.own++z1):=o1
 have fR:roS ts=x2++(t.ro++z2):=r1
 have pm:(Zc ts++T.owns fr).Perm ((x1++(t'.own++z1)++T.owns fr')++x):=by
  rw [fO]
  refine Qs.mpr fun b=>?_
  have q1:=(Qs.mp K.own b)
  have q2:=(Qs.mp (K.own' s') b)
  have q3:=(Qs.mp hown b)
  rw [ht'] at q2
  simp only [Jd] at q1 q2 q3 ⊢
  omega
 have nd3:=Qm.mp (pm.nodup_iff.mp C.nd)
 have sub1:∀ b,b∈x1++(t'.own++z1)∨b∈T.owns fr'→b∈Zc ts∨b∈T.owns fr:=fun b z=>Qf.mp (pm.mem_iff.mpr (Qh _ (by
  rcases z with z | z
  ·exact Qh _ z
  ·exact Qd _ z)))
 have tok':t'.ok H:=by
  rw [← ht']
  exact K.ok (C.ok true t (Qg hk)) (fun b hb=>rfl) ho hv
 have slot:∀ (j:Nat) (y:TL),((ts.set k (.own true t')).map (ZM k p fun _=>false))[j]?=some y→(j=k∧y=.own true t')∨(j≠k∧∃ y0,ts[j]?=some y0∧y=ZM k p (fun _=>false) y0):=by
  intro j y hy
  rw [Qc,Qn] at hy
  by_cases hj:k=j
  ·subst hj
   rw [if_pos rfl,if_pos (Qe.mp hk).1] at hy
   cases hy
   exact .inl ⟨rfl,rfl⟩
  ·rw [if_neg hj] at hy
   cases ey:ts[j]? with
   | none=>rw [ey] at hy;cases hy
   | some y0=>rw [ey] at hy;cases hy;exact .inr ⟨Ne.symm hj,y0,rfl,rfl⟩
 have tv':t'.val=t.val:=by rw [← ht'];exact T.put_val hp hv
 have slv:∀ (j:Nat) (y:TL) (v:V),((ts.set k (.own true t')).map (ZM k p fun _=>false))[j]?=some y→y.v=some v→∃ y0,ts[j]?=some y0∧y0.v=some v:=by
  intro j y v hy hv
  rcases slot j y hy with ⟨rfl,rfl⟩ | ⟨hj,y0,h0,rfl⟩
  ·exact ⟨_,hk,by rw [← hv];simp only [TL.v,tv']⟩
  ·refine ⟨y0,h0,?_⟩
   rcases Z0m (k:=k) (p:=p) (keep:=fun _=>false) y0 with e | ⟨e,_⟩
   ·rwa [e] at hv
   ·rw [e] at hv;cases hv
 have len:((ts.set k (.own true t')).map (ZM k p fun _=>false)).length=ts.length:=by simp
 refine ⟨fun w u hu=>?_,hf,by rw [eO];exact nd3.1,fun b z=>?_,fun b z=>?_,fun b z=>?_,C.bg,fun j k' q b hj=>?_,fun j hj=>by rw [len];exact C.ixs j hj,fun i j y v h1 h2 h3=>?_,fun j b hj=>by rw [len];exact C.hdi j b hj,C.hdx,C.len,fun j b hj y v h2 h3=>?_⟩
 ·obtain ⟨j,hj⟩:=Ja.mp hu
  rcases slot j _ hj with ⟨rfl,e⟩ | ⟨hjk,y0,h0,e⟩
  ·cases e;exact tok'
  ·rcases Z0m (k:=k) (p:=p) (keep:=fun _=>false) y0 with e' | ⟨e',_⟩
   ·rw [e'] at e;subst e;exact C.ok w u (Qg h0)
   ·rw [e'] at e;cases e
 ·have old:b∈roS ts∨b∈T.ros fr→b∉x1++(t'.own++z1)∧b∉T.owns fr'∧¬ R.B b:=fun z=>by
   obtain ⟨h1,h2,h3⟩:=C.sep b z
   exact ⟨fun q=>(sub1 b (.inl q)).elim h1 h2,fun q=>(sub1 b (.inr q)).elim h1 h2,h3⟩
  have new:b∈s'.ro∨b∈T.ros fr'→b∉x1++(t'.own++z1)∧b∉T.owns fr'∧¬ R.B b:=fun z=>by
   rcases hro b z with q | q
   ·exact old (.inl (by rw [fR];simp [K.ro.mem_iff.mpr (Qd _ q)]))
   ·exact old (.inr q)
  rw [eO]
  rw [eR] at z
  rcases z with z | z
  ·simp only [Qf] at z
   rcases z with z | z | z
   ·exact old (.inl (by rw [fR];simp [z]))
   ·have z':=(K.ro' s').mem_iff.mp (by rw [ht'];exact z)
    rcases Qf.mp z' with z' | z'
    ·exact old (.inl (by rw [fR];simp [K.ro.mem_iff.mpr (Qh _ z')]))
    ·exact new (.inl z')
   ·exact old (.inl (by rw [fR];simp [z]))
  ·exact new (.inr z)
 ·rw [eD] at z
  rw [eO]
  obtain ⟨h1,h2⟩:=C.rd b z
  exact ⟨fun q=>(sub1 b (.inl q)).elim h1 h2,fun q=>(sub1 b (.inr q)).elim h1 h2⟩
 ·rw [eO]
  obtain ⟨g1,g2,g3,g4⟩:=C.g b z
  exact ⟨g1,g2,fun q=>(sub1 b (.inl q)).elim g3 g4,fun q=>(sub1 b (.inr q)).elim g3 g4⟩
 ·rcases slot j _ hj with ⟨rfl,e⟩ | ⟨hjk,y0,h0,e⟩
  ·cases e
  ·rcases Z0m (k:=k) (p:=p) (keep:=fun _=>false) y0 with e' | ⟨e',_⟩
   ·rw [e'] at e
    subst e
    obtain ⟨w,u,s1,h1,h2,h3⟩:=C.bor j k' q b h0
    by_cases hkk:k'=k
    ·subst hkk
     rw [hk] at h1
     cases h1
     have at':((ts.set k' (.own true t')).map (ZM k' p fun _=>false))[k']?=some (.own true t'):=by
      rw [Qc,Qn,if_pos rfl,if_pos (Qe.mp hk).1];rfl
     cases hs:sub p q with
     | none =>
      obtain ⟨u',q1,q2⟩:=Z5Z (s':=s') hp hv hs h2
      rw [ht'] at q1
      exact ⟨true,t',u',at',q1,q2.trans h3⟩
     | some i =>
      exfalso
      rw [Z40] at e'
      have:gone k' p (fun _=>false) k' q=true:=by simp [gone,hs]
      rw [this] at e'
      cases e'
    ·refine ⟨w,u,s1,?_,h2,h3⟩
     rw [Qc,Qn,if_neg (Ne.symm hkk),h1];rfl
   ·rw [e'] at e;cases e
 ·obtain ⟨y0,q1,q2⟩:=slv j y v h2 h3
  exact C.sl i j y0 v h1 q1 q2
 ·obtain ⟨y0,q1,q2⟩:=slv j y v h2 h3
  exact C.hdn j b hj y0 v q1 q2
end
end RM

namespace RM
open PySem PySem.Spec PyProof.Rows L2
inductive RV where
 | val (d:D) | arg (j:Nat) (q:List Nat)
inductive RT where
 | val (t:T) | arg (j:Nat) (q:List Nat) (a:Addr)
noncomputable def RT.er:RT→RV
 | .val t=>.val t.er | .arg j q _=>.arg j q
noncomputable def RT.tr:RT→List T
 | .val t=>[t] | .arg _ _ _=>[]
inductive FR where
 | ok (r:RV) (ds:List D) | ex (C:Str) (ds:List D) | no
noncomputable abbrev Fn:=List D→FR
noncomputable def Zf(b:Bool):List Bool→List T→List T
 | m::ms,t::l=>if m=b then t::Zf b ms l else Zf b ms l
 | _,_=>[]
noncomputable def RtOk(ms:List Bool)(l:List T)(v:V):RT→Prop
 | .val t=>v=t.val
 | .arg j q a=>v=.ref a∧ms[j]?=some true∧∃ t s,l[j]?=some t∧t.get q=some s∧s.val=.ref a
structure Ent(H:Hp)(B:Addr→Prop)(ms:List Bool)(l:List T):Prop where
 len:ms.length=l.length
 ok:T.oks H l
 nd:(T.owns (Zf true ms l)).Nodup
 sep:∀ a∈T.ros l,a∉T.owns (Zf true ms l)∧¬ B a
 rd:∀ a∈T.owns (Zf false ms l),a∉T.owns (Zf true ms l)
 b:∀ a,B a→a∉T.owns (Zf true ms l)∧H a≠none
structure Exi(H H':Hp)(B:Addr→Prop)(ms:List Bool)(l l' m:List T):Prop where
 len:l'.length=l.length
 val:l'.map T.val=l.map T.val
 ok:T.oks H' (Zf true ms l')
 fok:T.oks H' m
 nd:(T.owns (Zf true ms l')++T.owns m).Nodup
 own:∀ a,a∈T.owns (Zf true ms l')∨a∈T.owns m→a∈T.owns (Zf true ms l)∨H a=none
 sep:∀ a,a∈T.ros (Zf true ms l')∨a∈T.ros m→a∉T.owns (Zf true ms l')∧a∉T.owns m∧¬ B a
 keep:∀ a,H a≠none→a∉T.owns (Zf true ms l)→H' a=H a
noncomputable def spR(ad:Str→Addr)(ms:List Bool)(fn:Fn):Sp:=fun vs H Q E=>∃ (l:List T) (B:Addr→Prop),l.map T.val=vs∧Ent H B ms l∧match fn (T.ers l) with
 | .ok rv ds'=>∀ H' l' rt v,T.ers l'=ds'→rt.er=rv→RtOk ms l' v rt→Exi H H' B ms l l' rt.tr→Q v H'
 | .ex C ds'=>∀ H' l',T.ers l'=ds'→Exi H H' B ms l l' []→E (.ref (ad C)) none H'
 | .no=>False

noncomputable def ini(n:Nat)(ms:List Bool)(ds:List D):Sd:=ds.mapIdx (fun k d=>if d.imm then .own true d else .bor (n + k) [])++List.replicate (n - ds.length) .non++Gq (fun m d=>if d.imm then DL.non else .own m d) ms ds
noncomputable def outs(s:Sd):Nat→List Bool→List D→Option (List D)
 | n,m::ms,d::r=>if d.imm then (outs s (n + 1) ms r).map (d::·) else (match s[n]?,outs s (n + 1) ms r with | some (.own w d'),some r'=>if w=m then some (d'::r') else none | _,_=>none)
 | _,_,[]=>some []
 | _,[],_=>none
noncomputable def ends(n:Nat)(ms:List Bool)(ds:List D)(r:DV)(s:Sd):FR:=match outs s n ms ds with
 | none=>.no
 | some ds'=>match r with
  | .val d=>.ok (.val d) ds'
  | .plc j q=>if n≤j then (match ms[j - n]?,ds[j - n]? with | some true,some d=>if d.imm then .no else .ok (.arg (j - n) q) ds' | _,_=>.no)
   else (match Zw s (.plc j q),s[j]? with | some d,some (.own true _)=>.ok (.val d) ds' | _,_=>.no)
noncomputable def Zr(n:Nat)(ms:List Bool)(body:SF):Fn:=fun ds=>match body (ini n ms ds) with
 | .nx s=>ends n ms ds (.val (.at .non)) s
 | .rt r s=>ends n ms ds r s
 | .ex C s=>(match outs s n ms ds with | some ds'=>.ex C ds' | none=>.no)
 | _=>.no
noncomputable def T.adr:T→Addr
 | .nd a _ _=>a | .at _=>0
theorem T.adr_val{t:T}(h:t.er.imm=false):t.val=.ref t.adr:=by
 cases t with
 | «at» v=>cases h
 | nd a k l=>rfl
noncomputable def iniT(n:Nat)(ms:List Bool)(l:List T):Ts:=l.mapIdx (fun k t=>if t.er.imm then .own true t else .bor (n + k) [] t.adr)++List.replicate (n - l.length) .non++Gq (fun m t=>if t.er.imm then TL.non else .own m t) ms l
theorem ZeF{n:Nat}{ms:List Bool}{l:List T}:(iniT n ms l).map TL.er=ini n ms (T.ers l):=by
 unfold iniT ini
 rw [T.ers_eq,Jk,Jk,Qo]
 have cg:∀ {a b c a' b' c':Sd},a=a'→b=b'→c=c'→a++b++c=a'++b'++c':=by rintro _ _ _ _ _ _ rfl rfl rfl;rfl
 refine cg ?_ ?_ ?_
 ·refine Wf fun i=>?_
  simp only [Qc,Wj,Option.map_map]
  cases l[i]? with
  | none=>rfl
  | some t=>simp only [Option.map_some,Function.comp];cases t.er.imm <;> rfl
 ·simp [TL.er]
 ·refine Wf fun i=>?_
  simp only [Qc,Wh,Option.map_map]
  cases ms[i]? with
  | none=>rfl
  | some m=>cases l[i]? with
   | none=>rfl
   | some t=>simp only [Option.map_some,Function.comp];cases t.er.imm <;> rfl
section
variable {n:Nat}{ms:List Bool}{l:List T}{H:Hp}
theorem Zcw(hl:ms.length=l.length)(hn:l.length≤n):(iniT n ms l).length=n + l.length:=by
 unfold iniT
 simp only [Jh,Wy,Wd,List.length_zipWith,hl];omega
theorem Zac(hn:l.length≤n){i:Nat}(hi:i < n):(iniT n ms l)[i]?=some (match l[i]? with | some t=>if t.er.imm then .own true t else .bor (n + i) [] t.adr | none=>.non):=by
 unfold iniT
 rw [Qp]
 by_cases h:i < l.length
 ·rw [Qk (by simpa using h),Wj,Qj h];rfl
 ·rw [Qu (by simpa using h),Qk (by simp;omega),We (Nm h)]
  simp only [Wy,Ng]
  rw [if_pos (by omega)]
theorem Zab(hl:ms.length=l.length)(hn:l.length≤n){k:Nat}{m:Bool}{t:T}(h1:ms[k]?=some m)(h2:l[k]?=some t):(iniT n ms l)[n + k]?=some (if t.er.imm then .non else .own m t):=by
 unfold iniT
 rw [Qu (by simp only [Jh,Wy,Wd];omega)]
 have:n + k - (l.mapIdx (fun k t=>if t.er.imm then TL.own true t else .bor (n + k) [] t.adr)++List.replicate (n - l.length) TL.non).length=k:=by simp only [Jh,Wy,Wd];omega
 rw [this,Wh,h1,h2]
theorem Zad:∀ {ms:List Bool} {l:List T},Zc (Gq (fun m t=>if t.er.imm then TL.non else .own m t) ms l)=T.owns (Zf true ms l)∧rdS (Gq (fun m t=>if t.er.imm then TL.non else .own m t) ms l)=T.owns (Zf false ms l)
 | [],l=>by cases l <;> exact ⟨rfl,rfl⟩
 | m::ms,[]=>⟨rfl,rfl⟩
 | m::ms,t::l=>by
  obtain ⟨h1,h2⟩:=Zad (ms:=ms) (l:=l)
  simp only [List.zipWith_cons_cons,Zf]
  unfold Zc rdS at *
  rw [Wb,Wb,h1,h2]
  cases hi:t.er.imm with
  | true =>
   have:=T.imm_own hi
   cases m <;> simp [TL.own1,TL.rd1,T.owns,this]
  | false=>cases m <;> simp [TL.own1,TL.rd1,T.owns]
theorem Z8v:∀ (l:List T) (f:Nat→T→TL),(∀ k t,f k t=.own true t∧t.er.imm=true∨∃ a b c,f k t=.bor a b c)→Zc (l.mapIdx f)=[]∧rdS (l.mapIdx f)=[]
 | [],f,h=>⟨rfl,rfl⟩
 | t::l,f,h=>by
  obtain ⟨h1,h2⟩:=Z8v l (fun k=>f (k + 1)) fun k t=>h (k + 1) t
  rw [List.mapIdx_cons]
  unfold Zc rdS at *
  rw [Wb,Wb,h1,h2]
  rcases h 0 t with ⟨e,hi⟩ | ⟨a,b,c,e⟩
  ·rw [e];exact ⟨by simp [TL.own1,T.imm_own hi],rfl⟩
  ·rw [e];exact ⟨rfl,rfl⟩
theorem Zcx:Zc (iniT n ms l)=T.owns (Zf true ms l)∧rdS (iniT n ms l)=T.owns (Zf false ms l):=by
 unfold iniT
 have h1:=Z8v l (fun k t=>if t.er.imm then TL.own true t else .bor (n + k) [] t.adr) fun k t=>by
  cases hi:t.er.imm with
  | true=>exact .inl ⟨rfl,rfl⟩
  | false=>exact .inr ⟨_,_,_,rfl⟩
 have h2:=Zad (ms:=ms) (l:=l)
 rw [Z0R,Z0R,Z21,Z21,h1.1,h1.2,h2.1,h2.2]
 constructor
 ·simp [Zc,TL.own1]
 ·simp [rdS,TL.rd1]
theorem Z9k{w:Bool}{t:T}(h:TL.own w t∈iniT n ms l):t∈l:=by
 unfold iniT at h
 simp only [Qf] at h
 rcases h with (h | h) | h
 ·obtain ⟨i,hi⟩:=Ja.mp h
  rw [Wj] at hi
  cases e:l[i]? with
  | none=>rw [e] at hi;cases hi
  | some u =>
   rw [e] at hi
   simp only [Option.map_some,Option.some.injEq] at hi
   split at hi
   ·cases hi;exact Qg e
   ·cases hi
 ·simp at h
 ·obtain ⟨i,hi⟩:=Ja.mp h
  rw [Wh] at hi
  cases e1:ms[i]? with
  | none=>rw [e1] at hi;cases hi
  | some m =>
   cases e:l[i]? with
   | none=>rw [e1,e] at hi;cases hi
   | some u =>
    rw [e1,e] at hi
    simp only [Option.some.injEq] at hi
    split at hi
    ·cases hi
    ·cases hi;exact Qg e
noncomputable def ancs(n:Nat)(l:List T):List (Nat×Addr):=(l.mapIdx fun k t=>(n + k,t)).filterMap fun p=>if p.2.er.imm then none else some (p.1,p.2.adr)
theorem Z4V{j:Nat}{a:Addr}:(j,a)∈ancs n l↔∃ k t,l[k]?=some t∧t.er.imm=false∧j=n + k∧a=t.adr:=by
 unfold ancs
 rw [Jq]
 constructor
 ·rintro ⟨⟨x,t⟩,hm,h⟩
  obtain ⟨k,hk⟩:=Ja.mp hm
  rw [Wj] at hk
  cases e:l[k]? with
  | none=>rw [e] at hk;cases hk
  | some u =>
   rw [e] at hk
   cases hk
   dsimp only at h
   cases hi:t.er.imm with
   | true=>rw [hi] at h;cases h
   | false=>rw [hi] at h;cases h;exact ⟨k,t,e,hi,rfl,rfl⟩
 ·rintro ⟨k,t,hk,hi,rfl,rfl⟩
  refine ⟨(n + k,t),Qg (i:=k) (by rw [Wj,hk];rfl),?_⟩
  rw [hi];rfl
theorem Cf.entry{B:Addr→Prop}{EX:L2.St→XK}{ad:Str→Addr}{N:List Str}{vs:List V}(en:Ent H B ms l)(hv:l.map T.val=vs)(hn:l.length≤N.length) :
  Cf ⟨H,fun a=>H a≠none∧a∉T.owns (Zf true ms l),B,EX,ad⟩ (List.range N.length) (ancs N.length l) H (L2.start N vs) (iniT N.length ms l) []:=by
 obtain ⟨o1,o2⟩:=Zcx (n:=N.length) (ms:=ms) (l:=l)
 have ln:=Zcw (n:=N.length) en.len hn
 have ros:∀ a,a∈roS (iniT N.length ms l)→a∈T.ros l:=fun a z=>by
  obtain ⟨w,t,h1,h2⟩:=Z1j.mp z
  exact T.mem_ros.mpr ⟨t,Z9k h1,h2⟩
 have hms:∀ k t,l[k]?=some t→∃ m,ms[k]?=some m:=fun k t h=>⟨ms[k]'(by rw [en.len];exact (Qe.mp h).1),Qj _⟩
 have hi:∀ k t,l[k]?=some t→t.er.imm=false→∃ m,ms[k]?=some m∧(iniT N.length ms l)[N.length + k]?=some (TL.own m t):=fun k t h e=>by
  obtain ⟨m,hm⟩:=hms k t h
  exact ⟨m,hm,by rw [Zab en.len hn hm h,e];rfl⟩
 refine ⟨fun w t z=>T.oks_iff.mp en.ok t (Z9k z),trivial,by rw [o1];simpa [T.owns] using en.nd,fun a z=>?_,fun a z=>?_,fun a z=>?_,fun a z=>?_,fun j k p a z=>?_,fun j z=>?_,fun i j s v z1 z2 z3=>?_,fun j a z=>?_,fun j a z=>?_,?_,fun j a z s v z2 z3=>?_⟩
 ·rw [o1]
  rcases z with z | z
  ·have:=en.sep a (ros a z)
   exact ⟨this.1,by simp [T.owns],this.2⟩
  ·simp [T.ros] at z
 ·rw [o2] at z;rw [o1];exact ⟨en.rd a z,by simp [T.owns]⟩
 ·rw [o1];exact ⟨rfl,z.1,z.2,by simp [T.owns]⟩
 ·exact ⟨(en.b a z).2,(en.b a z).1⟩
 ·have hj:j < N.length:=by
   rcases Nv j N.length with h | h
   ·exact h
   ·have hlt:=(Qe.mp z).1
    rw [ln] at hlt
    obtain ⟨t,ht⟩:∃ t,l[j - N.length]?=some t:=⟨l[j - N.length]'(by omega),Qj _⟩
    obtain ⟨m,hm⟩:=hms _ _ ht
    have:=Zab en.len hn hm ht
    rw [show N.length + (j - N.length)=j by omega,z] at this
    split at this <;> cases this
  rw [Zac hn hj] at z
  cases e:l[j]? with
  | none=>rw [e] at z;cases z
  | some t =>
   rw [e] at z
   dsimp only at z
   cases hi':t.er.imm with
   | true=>rw [hi'] at z;cases z
   | false =>
    rw [hi'] at z
    cases z
    obtain ⟨m,_,q⟩:=hi j t e hi'
    exact ⟨m,t,t,q,rfl,T.adr_val hi'⟩
 ·rw [ln];have:=Nx.mp z;omega
 ·have hir:=(Qe.mp z1)
  have hlt:i < N.length:=by simpa using hir.1
  obtain rfl:i=j:=by
   have:=hir.2
   simpa using this
  rw [Zac hn hlt] at z2
  cases e:l[i]? with
  | none=>rw [e] at z2;cases z2;cases z3
  | some t =>
   rw [e] at z2
   have hvi:vs[i]?=some t.val:=by rw [← hv,Qc,e];rfl
   have hst:(L2.start N vs)[i]?=some (some t.val):=by
    unfold L2.start
    rw [Qk (by simpa using (Qe.mp hvi).1),Qc,hvi];rfl
   rw [hst]
   dsimp only at z2
   cases hi':t.er.imm with
   | true=>rw [hi'] at z2;cases z2;cases z3;rfl
   | false=>rw [hi'] at z2;cases z2;cases z3;rw [T.adr_val hi']
 ·obtain ⟨k,t,h1,_,rfl,_⟩:=Z4V.mp z
  rw [ln];have:=(Qe.mp h1).1;omega
 ·obtain ⟨k,t,h1,_,rfl,_⟩:=Z4V.mp z
  simp
 ·unfold L2.start
  have:vs.length=l.length:=by rw [← hv];simp
  simp;omega
 ·obtain ⟨k,t,h1,h2,rfl,rfl⟩:=Z4V.mp z
  obtain ⟨m,_,q⟩:=hi k t h1 h2
  rw [q] at z2
  cases z2
  simp only [TL.v,Option.some.injEq] at z3
  rw [← z3,T.adr_val h2]
end
end RM

namespace RM
open PySem PySem.Spec PyProof.Rows L2
section
variable {R:RC}{ix:List Nat}{hd:List (Nat×Addr)}{H H':Hp}{σ:L2.St}{ts:Ts}{fr:List T}{ms:List Bool}
theorem Zbx(C:Cf R ix hd H' σ ts fr):∀ {ms:List Bool} {l:List T} {n:Nat} {ds:List D},outs (ts.map TL.er) n ms (T.ers l)=some ds→(∀ k t,l[k]?=some t→t.er.imm=false→(n + k,t.adr)∈hd) →
  ∃ l':List T,T.ers l'=ds∧l'.length=l.length∧l'.map T.val=l.map T.val∧(∀ k t',l'[k]?=some t'→(∃ t,l[k]?=some t∧t.er.imm=true∧t'=t)∨∃ t m,l[k]?=some t∧t.er.imm=false∧ms[k]?=some m∧ts[n + k]?=some (.own m t')) ∧
   List.Sublist (T.owns (Zf true ms l')) (Zc (ts.drop n))
 | m::ms,t::l,n,ds,h,ha=>by
  simp only [T.ers,outs] at h
  have rest:∀ ds',outs (ts.map TL.er) (n + 1) ms (T.ers l)=some ds'→∃ l':List T,T.ers l'=ds'∧l'.length=l.length∧l'.map T.val=l.map T.val∧(∀ k t',l'[k]?=some t'→(∃ t,l[k]?=some t∧t.er.imm=true∧t'=t)∨∃ t m,l[k]?=some t∧t.er.imm=false∧ms[k]?=some m∧ts[n + 1 + k]?=some (.own m t')) ∧
    List.Sublist (T.owns (Zf true ms l')) (Zc (ts.drop (n + 1))):=fun ds' h'=>Zbx C h' fun k u hk hu=>by
   have:=ha (k + 1) u (by simpa using hk) hu
   rwa [show n + (k + 1)=n + 1 + k by omega] at this
  have dr:List.Sublist (Zc (ts.drop (n + 1))) (Zc (ts.drop n)):=by
   cases e:ts[n]? with
   | none =>
    have:=List.getElem?_eq_none_iff.mp e
    rw [Gr (by omega),Gr (by omega)];exact .refl _
   | some y =>
    rw [Gd (Qe.mp e).1]
    unfold Zc
    rw [Wb]
    exact Ge _ _
  cases hi:t.er.imm with
  | true =>
   rw [hi,if_pos rfl] at h
   cases er:outs (ts.map TL.er) (n + 1) ms (T.ers l) with
   | none=>rw [er] at h;cases h
   | some ds' =>
    rw [er] at h
    cases h
    obtain ⟨l',a1,a2,a3,a4,a5⟩:=rest ds' er
    refine ⟨t::l',by rw [T.ers,a1],by simp [a2],by simp [a3],fun k t' hk=>?_,?_⟩
    ·cases k with
     | zero=>cases hk;exact .inl ⟨t,rfl,hi,rfl⟩
     | succ k =>
      rcases a4 k t' (by simpa using hk) with ⟨u,u1,u2,u3⟩ | ⟨u,m',u1,u2,u3,u4⟩
      ·exact .inl ⟨u,by simpa using u1,u2,u3⟩
      ·exact .inr ⟨u,m',by simpa using u1,u2,by simpa using u3,by rw [show n + (k + 1)=n + 1 + k by omega];exact u4⟩
    ·simp only [Zf]
     cases m with
     | true=>rw [if_pos rfl,T.owns_cons,T.imm_own hi];exact a5.trans dr
     | false=>rw [if_neg Ql];exact a5.trans dr
  | false =>
   rw [hi,if_neg Ql,Qc] at h
   cases e:ts[n]? with
   | none=>rw [e] at h;cases h
   | some y =>
    rw [e] at h
    cases er:outs (ts.map TL.er) (n + 1) ms (T.ers l) with
    | none=>rw [er] at h;cases y <;> cases h
    | some ds' =>
     rw [er] at h
     cases y with
     | non=>cases h
     | bor _ _ _=>cases h
     | own w t' =>
      simp only [Option.map_some,TL.er] at h
      by_cases hw:w=m
      ·subst hw
       rw [if_pos rfl] at h
       cases h
       obtain ⟨l',a1,a2,a3,a4,a5⟩:=rest ds' er
       have hv:t'.val=t.val:=by
        rw [T.adr_val hi]
        exact C.hdn n t.adr (ha 0 t rfl hi) _ _ e rfl
       refine ⟨t'::l',by rw [T.ers,a1],by simp [a2],by simp [a3,hv],fun k u hk=>?_,?_⟩
       ·cases k with
        | zero=>cases hk;exact .inr ⟨t,w,rfl,hi,rfl,e⟩
        | succ k =>
         rcases a4 k u (by simpa using hk) with ⟨u',u1,u2,u3⟩ | ⟨u',m',u1,u2,u3,u4⟩
         ·exact .inl ⟨u',by simpa using u1,u2,u3⟩
         ·exact .inr ⟨u',m',by simpa using u1,u2,by simpa using u3,by rw [show n + (k + 1)=n + 1 + k by omega];exact u4⟩
       ·rw [Gd (Qe.mp e).1]
        unfold Zc
        rw [Wb,(Qe.mp e).2]
        simp only [Zf]
        cases w with
        | true=>rw [if_pos rfl,T.owns_cons];exact List.Sublist.append (.refl _) a5
        | false=>rw [if_neg Ql];exact a5
      ·rw [if_neg hw] at h;cases h
 | ms',[],n,ds,h,ha=>by
  have:ds=[]:=by
   cases ms' <;> (simp only [T.ers,outs] at h;cases h;rfl)
  subst this
  refine ⟨[],rfl,rfl,rfl,fun k t' hk=>by simp at hk,?_⟩
  cases ms' <;> exact List.nil_sublist _
 | [],t::l,n,ds,h,ha=>by simp only [T.ers,outs] at h;cases h
theorem Z3E{b:Bool}{t:T}:∀ {ms:List Bool} {l:List T},t∈Zf b ms l→∃ k:Nat,l[k]?=some t∧ms[k]?=some b
 | m::ms,u::l,h=>by
  simp only [Zf] at h
  by_cases hm:m=b
  ·rw [if_pos hm] at h
   rcases Qx.mp h with h | h
   ·subst h;exact ⟨0,rfl,by rw [hm];rfl⟩
   ·obtain ⟨k,h1,h2⟩:=Z3E h;exact ⟨k + 1,by simpa using h1,by simpa using h2⟩
  ·rw [if_neg hm] at h
   obtain ⟨k,h1,h2⟩:=Z3E h;exact ⟨k + 1,by simpa using h1,by simpa using h2⟩
 | [],_,h=>by simp [Zf] at h
 | _::_,[],h=>by simp [Zf] at h
theorem Cf.exit{B:Addr→Prop}{EX:L2.St→XK}{ad:Str→Addr}{n:Nat}{l m:List T}{ds:List D}(en:Ent H B ms l)(C:Cf ⟨H,fun a=>H a≠none∧a∉T.owns (Zf true ms l),B,EX,ad⟩ (List.range n) (ancs n l) H' σ ts m)
  (ho:outs (ts.map TL.er) n ms (T.ers l)=some ds):∃ l',T.ers l'=ds∧Exi H H' B ms l l' m∧∀ k t',l'[k]?=some t'→(∃ t,l[k]?=some t∧t.er.imm=true∧t'=t)∨∃ t w,l[k]?=some t∧t.er.imm=false∧ms[k]?=some w∧ts[n + k]?=some (.own w t'):=by
 obtain ⟨l',a1,a2,a3,a4,a5⟩:=Zbx C ho fun k t hk hi=>Z4V.mpr ⟨k,t,hk,hi,rfl,rfl⟩
 have kp:∀ a,H a≠none→a∉T.owns (Zf true ms l)→H' a=H a:=fun a h1 h2=>(C.g a ⟨h1,h2⟩).1
 have imk:∀ (k:Nat) (t:T),l[k]?=some t→t.er.imm=true→t.ok H'∧∀ a∈t.ro,a∉Zc ts∧a∉T.owns m∧¬ B a:=fun k t hk hi=>by
  have tok:=T.oks_iff.mp en.ok t (Qg hk)
  have G:∀ a∈t.ro,H a≠none∧a∉T.owns (Zf true ms l)∧¬ B a:=fun a z=>by
   have:=en.sep a (T.mem_ros.mpr ⟨t,Qg hk,z⟩)
   exact ⟨T.there tok (.inr z),this.1,this.2⟩
  refine ⟨T.keep tok fun a z=>?_,fun a z=>?_⟩
  ·rcases z with z | z
   ·rw [T.imm_own hi] at z;cases z
   ·exact kp a (G a z).1 (G a z).2.1
  ·obtain ⟨g1,g2,g3⟩:=G a z
   obtain ⟨_,_,q1,q2⟩:=C.g a ⟨g1,g2⟩
   exact ⟨q1,q2,g3⟩
 have tops:∀ t'∈Zf true ms l',(t'.ok H'∧∀ a∈t'.ro,a∉Zc ts∧a∉T.owns m∧¬ B a):=fun t' ht=>by
  obtain ⟨k,h1,h2⟩:=Z3E ht
  rcases a4 k t' h1 with ⟨t,u1,u2,rfl⟩ | ⟨t,w,u1,u2,u3,u4⟩
  ·exact imk k _ u1 u2
  ·refine ⟨C.ok w t' (Qg u4),fun a z=>C.sep a (.inl (Z1j.mpr ⟨w,t',Qg u4,z⟩))⟩
 have sb:List.Sublist (T.owns (Zf true ms l')) (Zc ts):=by
  refine a5.trans ?_
  have:Zc ts=Zc (ts.take n)++Zc (ts.drop n):=by rw [← Z0R,Gv]
  rw [this]
  exact Ge _ _
 refine ⟨l',a1,⟨a2,a3,T.oks_iff.mpr fun t' ht=>(tops t' ht).1,C.fok,?_,fun a z=>?_,fun a z=>?_,kp⟩,a4⟩
 ·exact (List.Sublist.append sb (List.Sublist.refl (T.owns m))).nodup C.nd
 ·have hz:a∈Zc ts∨a∈T.owns m:=z.imp (fun q=>sb.subset q) id
  by_cases h1:H a=none
  ·exact .inr h1
  ·left
   by_cases h2:a∈T.owns (Zf true ms l)
   ·exact h2
   ·obtain ⟨_,_,q1,q2⟩:=C.g a ⟨h1,h2⟩
    exact (hz.elim q1 q2).elim
 ·have:a∉Zc ts∧a∉T.owns m∧¬ B a:=by
   rcases z with z | z
   ·obtain ⟨t',ht,hz⟩:=T.mem_ros.mp z
    exact (tops t' ht).2 a hz
   ·exact C.sep a (.inr z)
  exact ⟨fun q=>this.1 (sb.subset q),this.2⟩
end
end RM

namespace RM
open PySem PySem.Spec PyProof.Rows L2
theorem Z7v{s s':Sd}:∀ {n:Nat} {ms:List Bool} {ds:List D},(∀ i,n≤i→∀ w d,s[i]?=some (.own w d)↔s'[i]?=some (.own w d))→outs s n ms ds=outs s' n ms ds
 | n,m::ms,d::r,h=>by
  simp only [outs]
  rw [Z7v (n:=n + 1) (ms:=ms) (ds:=r) fun i hi=>h i (by omega)]
  cases d.imm with
  | true=>rfl
  | false =>
   simp only [Wz,if_false]
   have h0:=h n (Qq n)
   cases e:s[n]? with
   | none =>
    cases e':s'[n]? with
    | none=>rfl
    | some y=>cases y with
     | own w d'=>have:=(h0 w d').mpr e';rw [e] at this;cases this
     | _=>cases outs s' (n + 1) ms r <;> rfl
   | some x =>
    cases x with
    | own w d'=>rw [(h0 w d').mp e]
    | non =>
     cases e':s'[n]? with
     | none=>cases outs s' (n + 1) ms r <;> rfl
     | some y=>cases y with
      | own w d'=>have:=(h0 w d').mpr e';rw [e] at this;cases this
      | _=>cases outs s' (n + 1) ms r <;> rfl
    | bor a b =>
     cases e':s'[n]? with
     | none=>cases outs s' (n + 1) ms r <;> rfl
     | some y=>cases y with
      | own w d'=>have:=(h0 w d').mpr e';rw [e] at this;cases this
      | _=>cases outs s' (n + 1) ms r <;> rfl
 | n,[],[],h=>rfl
 | n,_::_,[],h=>rfl
 | n,[],_::_,h=>rfl
theorem Z8j{ad:Str→Addr}{ms:List Bool}{fn:Fn}{vs:List V}{H:Hp}{Q:VK}{E:XK}(h:spR ad ms fn vs H Q E):vs.length=ms.length:=by
 obtain ⟨l,B,hv,en,_⟩:=h
 rw [← hv,Qo,en.len]
theorem Z5u{ad:Str→Addr}{N:List Str}{ms:List Bool}{body:SF}{vs:List V}{H:Hp}{Q:VK}{E:XK}(hn:ms.length≤N.length)(h:spR ad ms (Zr N.length ms body) vs H Q E) :
  ∃ R:RC,R.EX=(fun _=>E)∧R.ad=ad∧lS R (List.range N.length) body { nx:=fun _ H'=>Q .non H',rt:=Q } (L2.start N vs) H:=by
 obtain ⟨l,B,hv,en,h⟩:=h
 refine ⟨⟨H,fun a=>H a≠none∧a∉T.owns (Zf true ms l),B,fun _=>E,ad⟩,rfl,rfl,ancs N.length l,iniT N.length ms l,[],Cf.entry en hv (by rw [← en.len];exact hn),?_⟩
 rw [ZeF]
 unfold Zr at h
 generalize ini N.length ms (T.ers l)=s0 at h
 have fin:∀ {H':Hp} {σ':L2.St} {ts':Ts} {t:T} {s':Sd},ts'.map TL.er=s'→Cf ⟨H,fun a=>H a≠none∧a∉T.owns (Zf true ms l),B,fun _=>E,ad⟩ (List.range N.length) (ancs N.length l) H' σ' ts' [t] →
   (match ends N.length ms (T.ers l) (.val t.er) s' with | .ok rv ds'=>∀ H' l' rt v,T.ers l'=ds'→rt.er=rv→RtOk ms l' v rt→Exi H H' B ms l l' rt.tr→Q v H' | .ex C ds'=>∀ H' l',T.ers l'=ds'→Exi H H' B ms l l' []→E (.ref (ad C)) none H' | .no=>False)→Q t.val H':=by
  intro H' σ' ts' t s' e C h
  subst e
  unfold ends at h
  cases eo:outs (ts'.map TL.er) N.length ms (T.ers l) with
  | none=>rw [eo] at h;exact h.elim
  | some ds' =>
   rw [eo] at h
   obtain ⟨l',a1,a2,_⟩:=Cf.exit en C eo
   exact h H' l' (.val t) t.val a1 rfl rfl a2
 cases eb:body s0 with
 | nx s=>rw [eb] at h;intro H' σ' ts' e C;exact fin (t:=.at .non) e (C.at .non) h
 | bk s=>rw [eb] at h;exact h.elim
 | ct s=>rw [eb] at h;exact h.elim
 | no=>rw [eb] at h;exact h.elim
 | ex Cx s =>
  rw [eb] at h
  intro H' σ' ts' e C
  subst e
  dsimp only at h
  cases eo:outs (ts'.map TL.er) N.length ms (T.ers l) with
  | none=>rw [eo] at h;exact h.elim
  | some ds' =>
   rw [eo] at h
   obtain ⟨l',a1,a2,_⟩:=Cf.exit en C eo
   exact h H' l' a1 a2
 | rt r s =>
  rw [eb] at h
  intro H' σ' ts' tv v e1 e2 hv' C
  cases r with
  | val d =>
   obtain ⟨t,rfl,rfl,rfl⟩:=hv'.er_val e2
   exact fin e1 C h
  | plc j q =>
   obtain ⟨a,rfl,rfl,hp⟩:=hv'.er_plc e2
   subst e1
   obtain ⟨w,t,s1,h1,h2,h3⟩:=hp
   dsimp only at h
   unfold ends at h
   cases eo:outs (ts'.map TL.er) N.length ms (T.ers l) with
   | none=>rw [eo] at h;exact h.elim
   | some ds' =>
    rw [eo] at h
    dsimp only at h
    by_cases hj:N.length≤j
    ·rw [if_pos hj] at h
     obtain ⟨l',a1,a2,a3⟩:=Cf.exit (m:=[]) en C eo
     cases em:ms[j - N.length]? with
     | none=>rw [em] at h;exact h.elim
     | some m =>
      cases ed:(T.ers l)[j - N.length]? with
      | none=>rw [em,ed] at h;cases m <;> exact h.elim
      | some d =>
       rw [em,ed] at h
       cases m with
       | false=>exact h.elim
       | true =>
        dsimp only at h
        cases hi:d.imm with
        | true=>rw [hi] at h;exact h.elim
        | false =>
         rw [hi] at h
         refine h H' l' (.arg (j - N.length) q a) (.ref a) a1 rfl ⟨rfl,em,?_⟩ a2
         have hlt:j - N.length < l'.length:=by
          rw [a2.len]
          have:=(Qe.mp ed).1
          rwa [T.ers_eq,Qo] at this
         rcases a3 (j - N.length) l'[j - N.length] (Qj hlt) with ⟨u,u1,u2,_⟩ | ⟨u,w',u1,u2,u3,u4⟩
         ·rw [T.ers_eq,Qc,u1] at ed
          cases ed
          rw [u2] at hi;cases hi
         ·rw [show N.length + (j - N.length)=j by omega,h1] at u4
          cases u4
          exact ⟨_,s1,Qj hlt,h2,h3⟩
    ·rw [if_neg hj] at h
     have hd1:Zw (ts'.map TL.er) (.plc j q)=some s1.er:=by simp only [Zw,Qc,h1,Option.map_some,TL.er,T.get_er,h2]
     rw [hd1,Qc,h1] at h
     cases w with
     | false=>exact h.elim
     | true =>
      obtain ⟨c,r,K⟩:=T.ctx h2
      have C':Cf ⟨H,fun a=>H a≠none∧a∉T.owns (Zf true ms l),B,fun _=>E,ad⟩ (List.range N.length) (ancs N.length l) H' σ' ((ts'.set j (.own true (T.put (.at (.ref a)) q t))).map (ZM j q fun _=>false)) [s1]:=by
       refine Cf.exch (s':=.at (.ref a)) (x:=[]) (fr':=[s1]) C h1 h2 h3.symm trivial ⟨T.get_ok h2 (C.ok true t (Qg h1)),trivial⟩ ?_ ?_
       ·simp [T.owns,T.own,TV.tr]
       ·intro b hb
        simpa [T.ros,T.ro,TV.tr] using hb
      have eo':outs (((ts'.set j (.own true (T.put (.at (.ref a)) q t))).map (ZM j q fun _=>false)).map TL.er) N.length ms (T.ers l)=some ds':=by
       rw [← eo]
       refine (Z7v fun i hi w d=>?_).symm
       rw [Qc,Qc,Qc,Qn,if_neg (by omega)]
       cases e:ts'[i]? with
       | none=>simp
       | some y =>
        rcases Z0m (k:=j) (p:=q) (keep:=fun _=>false) y with e' | ⟨e',k',q',a',rfl⟩
        ·simp only [Option.map_some,e']
        ·simp only [Option.map_some,e',TL.er]
         exact ⟨fun z=>(by cases z),fun z=>(by cases z)⟩
      obtain ⟨l',a1,a2,_⟩:=Cf.exit en C' eo'
      exact h H' l' (.val s1) (.ref a) a1 rfl h3.symm a2
end RM

namespace RM
open PySem PySem.Spec PyProof.Rows L2
noncomputable def disj:List Nat→List Nat→Bool
 | x::p,y::q=>if x=y then disj p q else true
 | _,_=>false
noncomputable def apart(k:Nat)(p:List Nat):List DV→List Bool→Bool
 | .plc k' p'::rs,true::ms=>(decide (k'≠k) || disj p' p) && apart k p rs ms
 | _::rs,_::ms=>apart k p rs ms
 | _,_=>true
noncomputable def takes:List DV→List Bool→Sd→Option (Sd×List (Option D))
 | [],_,s=>some (s,[])
 | .val d::rs,_::ms,s=>(match takes rs ms s with | some (s',l)=>some (s',some d::l) | none=>none)
 | .plc k p::rs,true::ms,s=>(match s[k]?,Zw s (.plc k p),apart k p rs ms with
  | some (.own true _),some d,true=>(match takes rs ms (wr s k p hole fun _=>false) with | some (s',l)=>some (s',some d::l) | none=>none)
  | _,_,_=>none)
 | .plc _ _::rs,false::ms,s=>(match takes rs ms s with | some (s',l)=>some (s',none::l) | none=>none)
 | _::_,[],_=>none
noncomputable def fills(s:Sd):List DV→List (Option D)→Option (List D)
 | _::rs,some d::l=>(match fills s rs l with | some r=>some (d::r) | none=>none)
 | r::rs,none::l=>(match Zw s r,fills s rs l with | some d,some r=>some (d::r) | _,_=>none)
 | [],[]=>some []
 | _,_=>none
noncomputable def gives:List DV→List Bool→List D→Sd→Sd
 | .plc k p::rs,true::ms,d::ds,s=>wr (gives rs ms ds s) k p d fun _=>false
 | _::rs,_::ms,_::ds,s=>gives rs ms ds s
 | _,_,_,s=>s
noncomputable def retV(rs:List DV)(ms:List Bool)(s:Sd):RV→ER DV
 | .val d=>.ok (.val d) s
 | .arg j q=>match rs[j]?,ms[j]? with
  | some (.plc k p),some true=>(match Zw s (.plc k (p++q)) with | some d=>.ok (mkV k (p++q) d) s | none=>.no)
  | _,_=>.no
noncomputable def Zq(ms:List Bool)(fn:Fn)(f:AF):EF:=fun s=>match f s with
 | .ok rs s1=>(match takes rs ms s1 with
  | some (sh,l)=>(match fills sh rs l with
   | some ds=>(match fn ds with
    | .ok rv ds'=>retV rs ms (gives rs ms ds' sh) rv
    | .ex C ds'=>.ex C (gives rs ms ds' sh)
    | .no=>.no)
   | none=>.no)
  | none=>.no)
 | .ex C s1=>.ex C s1
 | .no=>.no
noncomputable def Z0t(ts:Ts)(k:Nat)(p:List Nat):Option (Bool×T):=match ts[k]? with
 | some (.own w t)=>(t.get p).map fun u=>(w,u)
 | _=>none
theorem Z8s:∀ {p q:List Nat},disj p q=disj q p
 | [],[]=>rfl
 | [],_::_=>rfl
 | _::_,[]=>rfl
 | x::p,y::q=>by
  unfold disj
  by_cases h:x=y
  ·subst h;rw [if_pos rfl,if_pos rfl,Z8s]
  ·rw [if_neg h,if_neg (Ne.symm h)]
theorem Z9g{s':T}:∀ {p q:List Nat} {t:T},disj p q=true→(T.put s' p t).get q=t.get q
 | [],q,t,h=>by cases h
 | _::_,[],t,h=>by cases h
 | i::p,j::q,.at v,h=>rfl
 | i::p,j::q,.nd a k l,h=>by
  unfold disj at h
  simp only [T.put,T.get]
  cases e:l[i]? with
  | none=>rfl
  | some c =>
   simp only [T.get]
   rw [Qn]
   by_cases hij:i=j
   ·subst hij
    rw [if_pos rfl] at h
    rw [if_pos rfl,if_pos (Qe.mp e).1,e]
    exact Z9g h
   ·rw [if_neg hij]
noncomputable def TV.vv:TV→V
 | .val t=>t.val | .plc _ _ a=>.ref a
section
variable {R:RC}{ix:List Nat}{hd:List (Nat×Addr)}{X:Cx}{H H':Hp}{σ:L2.St}{ts:Ts}{fr:List T}
theorem Z57{k:Nat}{p:List Nat}{t s':T}{keep:Nat→Bool}(hk:ts[k]?=some (.own true t)){k0:Nat}{p0:List Nat}(h:k0≠k∨disj p p0=true) :
  Z0t ((ts.set k (.own true (T.put s' p t))).map (ZM k p keep)) k0 p0=Z0t ts k0 p0:=by
 unfold Z0t
 rw [Qc,Qn]
 by_cases e:k=k0
 ·subst e
  rw [if_pos rfl,if_pos (Qe.mp hk).1,hk]
  have hd:disj p p0=true:=h.resolve_left (fun z=>z rfl)
  show ((T.put s' p t).get p0).map _=(t.get p0).map _
  rw [Z9g hd]
 ·rw [if_neg e]
  cases e1:ts[k0]? with
  | none=>rfl
  | some y =>
   rcases Z0m (k:=k) (p:=p) (keep:=keep) y with e' | ⟨e',k',q,a,rfl⟩
   ·simp only [Option.map_some,e']
   ·simp only [Option.map_some,e']
theorem Z6u{k:Nat}{p:List Nat}{t s s':T}{keep:Nat→Bool}(hk:ts[k]?=some (.own true t))(hp:t.get p=some s) :
  Z0t ((ts.set k (.own true (T.put s' p t))).map (ZM k p keep)) k p=some (true,s'):=by
 unfold Z0t
 rw [Qc,Qn,if_pos rfl,if_pos (Qe.mp hk).1]
 show ((T.put s' p t).get p).map _=_
 have:=Z6W (s':=s') (r:=[]) hp
 rw [Jg] at this
 rw [this];rfl
theorem Z6v{k:Nat}{p:List Nat}{w:Bool}{u:T}(h:Z0t ts k p=some (w,u)):∃ t,ts[k]?=some (.own w t)∧t.get p=some u:=by
 unfold Z0t at h
 cases e:ts[k]? with
 | none=>rw [e] at h;cases h
 | some y =>
  rw [e] at h
  cases y with
  | own w' t =>
   dsimp only at h
   cases e2:t.get p with
   | none=>rw [e2] at h;cases h
   | some v=>rw [e2] at h;cases h;exact ⟨t,rfl,e2⟩
  | _=>cases h
theorem Z3W{k:Nat}{p:List Nat}:∀ {tvs:List TV} {ms:List Bool} {i k':Nat} {p':List Nat} {a:Addr},apart k p (tvs.map TV.er) ms=true→tvs[i]?=some (.plc k' p' a)→ms[i]?=some true→k'≠k∨disj p' p=true
 | tv::tvs,m::ms,i,k',p',a,h,h1,h2=>by
  cases i with
  | zero =>
   cases h1;cases h2
   simp only [Qi,TV.er,apart,Qw,Bool.or_eq_true,decide_eq_true_eq] at h
   exact h.1
  | succ i =>
   refine Z3W (tvs:=tvs) (ms:=ms) (i:=i) ?_ (by simpa using h1) (by simpa using h2)
   cases tv with
   | val t=>simpa only [Qi,TV.er,apart] using h
   | plc k2 p2 a2 =>
    cases m with
    | false=>simpa only [Qi,TV.er,apart] using h
    | true=>simp only [Qi,TV.er,apart,Qw] at h;exact h.2
 | [],_,i,_,_,_,_,h1,_=>by simp at h1
 | _::_,[],i,_,_,_,_,_,h2=>by simp at h2
noncomputable def Aparts:List TV→List Bool→Prop
 | .plc k p _::tvs,true::ms=>apart k p (tvs.map TV.er) ms=true∧Aparts tvs ms
 | _::tvs,_::ms=>Aparts tvs ms
 | _,_=>True
theorem Z60:∀ {tvs:List TV} {ms:List Bool} {l' rest:List T} {tsx:Ts},Aparts tvs ms→ms.length=tvs.length→l'.map T.val=tvs.map TV.vv→Cf R ix hd H' σ tsx (Zf true ms l'++rest) →
  (∀ (i k:Nat) p a,tvs[i]?=some (.plc k p a)→ms[i]?=some true→Z0t tsx k p=some (true,.at (.ref a))) →
  ∃ ts',ts'.map TL.er=gives (tvs.map TV.er) ms (T.ers l') (tsx.map TL.er)∧Cf R ix hd H' σ ts' rest∧(∀ (i k:Nat) p a t,tvs[i]?=some (.plc k p a)→ms[i]?=some true→l'[i]?=some t→Z0t ts' k p=some (true,t)) ∧
   ∀ k0 p0 u,(∀ (i k:Nat) p a,tvs[i]?=some (.plc k p a)→ms[i]?=some true→k0≠k∨disj p p0=true)→Z0t tsx k0 p0=some u→Z0t ts' k0 p0=some u
 | [],ms,l',rest,tsx,_,hl,hv,C,_=>by
  have:ms=[]:=by simpa using hl
  subst this
  refine ⟨tsx,by simp [gives],by simpa [Zf] using C,fun i k p a t h=>by simp at h,fun _ _ _ _ h=>h⟩
 | tv::tvs,[],_,_,_,_,hl,_,_,_=>by simp at hl
 | tv::tvs,m::ms,[],_,_,_,_,hv,_,_=>by simp at hv
 | tv::tvs,m::ms,t::l',rest,tsx,A,hl,hv,C,hh=>by
  simp only [Qi,Jt.injEq] at hv
  have hl':ms.length=tvs.length:=by simpa using hl
  have tail:∀ {rest':List T},Aparts tvs ms→Cf R ix hd H' σ tsx (Zf true ms l'++rest')→_:=fun {rest'} A' C'=>Z60 (rest:=rest') A' hl' hv.2 C' fun i k p a h1 h2=>hh (i + 1) k p a (by simpa using h1) (by simpa using h2)
  have plain:Aparts tvs ms→(∀ k p a,tv=.plc k p a→m=true→False)→gives ((tv::tvs).map TV.er) (m::ms) (T.ers (t::l')) (tsx.map TL.er)=gives (tvs.map TV.er) ms (T.ers l') (tsx.map TL.er)→Cf R ix hd H' σ tsx (Zf true ms l'++rest)→∃ ts',ts'.map TL.er=gives ((tv::tvs).map TV.er) (m::ms) (T.ers (t::l')) (tsx.map TL.er)∧Cf R ix hd H' σ ts' rest∧(∀ (i k:Nat) p a u,(tv::tvs)[i]?=some (.plc k p a)→(m::ms)[i]?=some true→(t::l')[i]?=some u→Z0t ts' k p=some (true,u)) ∧
   ∀ k0 p0 u,(∀ (i k:Nat) p a,(tv::tvs)[i]?=some (.plc k p a)→(m::ms)[i]?=some true→k0≠k∨disj p p0=true)→Z0t tsx k0 p0=some u→Z0t ts' k0 p0=some u:=by
   intro A' hno hg C'
   obtain ⟨ts',e1,e2,e3,e4⟩:=tail A' C'
   refine ⟨ts',e1.trans hg.symm,e2,fun i k p a u h1 h2 h3=>?_,fun k0 p0 u h1 h2=>e4 k0 p0 u (fun i k p a z1 z2=>h1 (i + 1) k p a (by simpa using z1) (by simpa using z2)) h2⟩
   cases i with
   | zero=>cases h1;cases h2;exact (hno k p a rfl rfl).elim
   | succ i=>exact e3 i k p a u (by simpa using h1) (by simpa using h2) (by simpa using h3)
  cases tv with
  | val t0 =>
   refine plain A (by intro _ _ _ z;cases z) rfl ?_
   simp only [Zf] at C
   cases m with
   | true=>rw [if_pos rfl] at C;exact C.drop
   | false=>rwa [if_neg Ql] at C
  | plc k p a =>
   cases m with
   | false =>
    refine plain A (by intro _ _ _ _ z;cases z) rfl ?_
    simp only [Zf] at C
    rwa [if_neg Ql] at C
   | true =>
    simp only [Zf,if_true] at C
    have C1:Cf R ix hd H' σ tsx (Zf true ms l'++(t::rest)):=by
     have ok:=C.fok
     refine C.less (x:=[]) (T.oks_app.mpr ⟨(T.oks_app.mp ok.2).1,ok.1,(T.oks_app.mp ok.2).2⟩) ?_ fun b hb=>?_
     ·refine Qs.mpr fun b=>?_
      simp only [Jj,T.owns_cons,T.owns_app,Jd,Jg];omega
     ·left
      simp only [Jj,T.ros_cons,T.ros_app,Qf] at hb ⊢
      rcases hb with hb | hb | hb <;> simp [hb]
    obtain ⟨ts1,e1,e2,e3,e4⟩:=tail (rest':=t::rest) A.2 C1
    have hole1:Z0t ts1 k p=some (true,.at (.ref a)):=by
     refine e4 k p _ (fun i k' p' a' z1 z2=>?_) (hh 0 k p a rfl rfl)
     exact (Z3W A.1 z1 z2).imp Ne.symm id
    obtain ⟨u,u1,u2⟩:=Z6v hole1
    have C2:=Cf.exch (s':=t) (fr':=rest) (x:=[]) e2 u1 u2 hv.1 e2.fok.1 e2.fok.2 (by simp [T.own,T.owns]) (fun b hb=>.inr (by rw [T.ros_cons];simpa using hb))
    refine ⟨_,?_,C2,fun i k' p' a' t' h1 h2 h3=>?_,fun k0 p0 x h1 h2=>?_⟩
    ·rw [wr_er u1,e1];rfl
    ·cases i with
     | zero=>cases h1;cases h3;exact Z6u u1 u2
     | succ i =>
      rw [Z57 u1 (by
       have:=Z3W A.1 (i:=i) (by simpa using h1) (by simpa using h2)
       rw [Z8s];exact this)]
      exact e3 i k' p' a' t' (by simpa using h1) (by simpa using h2) (by simpa using h3)
    ·rw [Z57 u1 (h1 0 k p a rfl rfl)]
     exact e4 k0 p0 x (fun i k p a z1 z2=>h1 (i + 1) k p a (by simpa using z1) (by simpa using z2)) h2
end
end RM

namespace RM
open PySem PySem.Spec PyProof.Rows L2
section
variable {R:RC}{ix:List Nat}{hd:List (Nat×Addr)}{X:Cx}{H H':Hp}{σ:L2.St}{ts:Ts}{fr:List T}
noncomputable def TvW(ts:Ts):TV→Prop
 | .val _=>True
 | .plc k p a=>Zw (ts.map TL.er) (.plc k p)≠none→PlOk ts k p a
theorem TvW.take{k:Nat}{p:List Nat}{t s s':T}{tv:TV}{a:Addr}(h:TvW ts tv)(hk:ts[k]?=some (.own true t))(hp:t.get p=some s)(hs:s'=.at (.ref a))(hv:s'.val=s.val):TvW ((ts.set k (.own true (T.put s' p t))).map (ZM k p fun _=>false)) tv:=by
 cases tv with
 | val _=>trivial
 | plc k0 p0 a0 =>
  intro hd
  have same:∀ (j:Nat) w u,j≠k→(ts[j]?=some (TL.own w u)↔((ts.set k (.own true (T.put s' p t))).map (ZM k p fun _=>false))[j]?=some (TL.own w u)):=by
   intro j w u hj
   rw [Qc,Qn,if_neg (Ne.symm hj)]
   cases e:ts[j]? with
   | none=>simp
   | some y =>
    rcases Z0m (k:=k) (p:=p) (keep:=fun _=>false) y with e' | ⟨e',_,_,_,rfl⟩
    ·simp only [Option.map_some,e']
    ·simp only [Option.map_some,e']
     exact ⟨fun z=>(by cases z),fun z=>(by cases z)⟩
  have atk:((ts.set k (.own true (T.put s' p t))).map (ZM k p fun _=>false))[k]?=some (TL.own true (T.put s' p t)):=by
   rw [Qc,Qn,if_pos rfl,if_pos (Qe.mp hk).1];rfl
  by_cases hk0:k0=k
  ·subst hk0
   have g:(T.put s' p t).get p0≠none:=by
    intro z
    apply hd
    simp only [Zw,Qc]
    rw [← Qc,← Qc,Qc,atk]
    simp only [Option.map_some,TL.er,T.get_er,z];rfl
   have hsub:sub p p0=none:=by
    cases hs2:sub p p0 with
    | none=>rfl
    | some i =>
     exfalso
     obtain ⟨r,rfl⟩:=Z6Q hs2
     rw [Z6W hp,hs] at g
     exact g rfl
   have g0:t.get p0≠none:=by
    intro z
    have:∀ {p q:List Nat} {t:T},t.get q=none→sub p q=none→(T.put s' p t).get q=none:=by
     intro p
     induction p with
     | nil=>intro q t h1 h2;cases q with
      | nil=>cases h1
      | cons=>cases h2
     | cons i p ih =>
      intro q t h1 h2
      cases q with
      | nil=>cases h1
      | cons j q =>
       cases t with
       | «at» v=>rfl
       | nd a k l =>
        simp only [T.put]
        cases e:l[i]? with
        | none=>exact h1
        | some c =>
         simp only [T.get] at h1 ⊢
         rw [Qn]
         unfold sub at h2
         by_cases hij:i=j
         ·subst hij
          rw [if_pos rfl] at h2
          rw [e] at h1
          rw [if_pos rfl,if_pos (Qe.mp e).1]
          exact ih h1 h2
         ·rw [if_neg hij];exact h1
    exact g (this z hsub)
   obtain ⟨w,u,x,h1,h2,h3⟩:=h (by
    simp only [Zw,Qc,hk,Option.map_some,TL.er,T.get_er]
    cases e:t.get p0 with
    | none=>exact absurd e g0
    | some y=>simp)
   rw [hk] at h1
   cases h1
   obtain ⟨u',q1,q2⟩:=Z5Z (s':=s') hp hv hsub h2
   exact ⟨true,_,u',atk,q1,q2.trans h3⟩
  ·obtain ⟨w,u,x,h1,h2,h3⟩:=h (by
    intro z
    apply hd
    simp only [Zw,Qc] at z ⊢
    cases e:ts[k0]? with
    | none =>
     rw [← Qc,← Qc,Qc]
     have:((ts.set k (.own true (T.put s' p t))).map (ZM k p fun _=>false))[k0]?=none:=by
      rw [Qc,Qn,if_neg (Ne.symm hk0),e];rfl
     rw [this];rfl
    | some y =>
     rw [e] at z
     cases y with
     | own w u =>
      have:=(same k0 w u hk0).mp e
      rw [← Qc,← Qc,Qc,this]
      exact z
     | non =>
      have:((ts.set k (.own true (T.put s' p t))).map (ZM k p fun _=>false))[k0]?=some .non:=by
       rw [Qc,Qn,if_neg (Ne.symm hk0),e];rfl
      rw [← Qc,← Qc,Qc,this];rfl
     | bor k1 p1 a1 =>
      have:∃ z,((ts.set k (.own true (T.put s' p t))).map (ZM k p fun _=>false))[k0]?=some z∧∀ w u,z≠.own w u:=by
       rw [Qc,Qn,if_neg (Ne.symm hk0),e]
       refine ⟨_,rfl,fun w u z=>?_⟩
       rcases Z0m (k:=k) (p:=p) (keep:=fun _=>false) (.bor k1 p1 a1) with e' | ⟨e',_⟩ <;> rw [e'] at z <;> cases z
      obtain ⟨z,hz,hn⟩:=this
      rw [← Qc,← Qc,Qc,hz]
      cases z with
      | own w u=>exact absurd rfl (hn w u)
      | _=>rfl)
   exact ⟨w,u,x,(same k0 w u hk0).mp h1,h2,h3⟩
theorem ZX.w{v:V}{tv:TV}(h:ZX ts v tv):TvW ts tv∧v=tv.vv:=by
 cases tv with
 | val t=>exact ⟨trivial,h⟩
 | plc k p a=>exact ⟨fun _=>h.2,h.1⟩
theorem Z4F:∀ {tvs:List TV} {ms:List Bool} {ts:Ts} {acc:List T} {sh:Sd} {lo:List (Option D)},(∀ tv∈tvs,TvW ts tv)→Cf R ix hd H σ ts (trs tvs++acc)→takes (tvs.map TV.er) ms (ts.map TL.er)=some (sh,lo)→ms.length=tvs.length →
  ∃ (tsh:Ts) (as:List (Option T)),tsh.map TL.er=sh∧as.map (Option.map T.er)=lo∧as.length=tvs.length∧Cf R ix hd H σ tsh (as.filterMap id++acc)∧Aparts tvs ms∧(∀ tv,TvW ts tv→TvW tsh tv) ∧
   (∀ (i:Nat) t tv,as[i]?=some (some t)→tvs[i]?=some tv→t.val=tv.vv)∧(∀ i:Nat,as[i]?=some none→ms[i]?=some false) ∧
   (∀ (i k:Nat) p a,tvs[i]?=some (.plc k p a)→ms[i]?=some true→Z0t tsh k p=some (true,.at (.ref a))) ∧
   ∀ k0 p0 u,(∀ (i k:Nat) p a,tvs[i]?=some (.plc k p a)→ms[i]?=some true→k0≠k∨disj p p0=true)→Z0t ts k0 p0=some u→Z0t tsh k0 p0=some u
 | [],ms,ts,acc,sh,lo,hw,C,h,hl=>by
  cases h
  exact ⟨ts,[],rfl,rfl,rfl,by simpa [trs] using C,by cases ms <;> trivial,fun _ z=>z,by simp,by simp,by simp,fun _ _ _ _ z=>z⟩
 | tv::tvs,[],_,_,_,_,_,_,_,hl=>by simp at hl
 | tv::tvs,m::ms,ts,acc,sh,lo,hw,C,h,hl=>by
  have hl':ms.length=tvs.length:=by simpa using hl
  have hw':∀ tv∈tvs,TvW ts tv:=fun x z=>hw x (Qt _ z)
  have reo:∀ {tsh:Ts} {as:List (Option T)} {t:T},Cf R ix hd H σ tsh (as.filterMap id++(t::acc))→Cf R ix hd H σ tsh ((some t::as).filterMap id++acc):=by
   intro tsh as t C
   have ok:=T.oks_app.mp C.fok
   refine C.less (x:=[]) ?_ ?_ fun b hb=>?_
   ·simp only [Ji,id,Jj]
    exact ⟨ok.2.1,T.oks_app.mpr ⟨ok.1,ok.2.2⟩⟩
   ·refine Qs.mpr fun b=>?_
    simp only [Ji,id,Jj,T.owns_cons,T.owns_app,Jd,Jg];omega
   ·left
    simp only [Ji,id,Jj,T.ros_cons,T.ros_app,Qf] at hb ⊢
    rcases hb with hb | hb | hb <;> simp [hb]
  cases tv with
  | val t =>
   have C1:Cf R ix hd H σ ts (trs tvs++(t::acc)):=by
    have C0:Cf R ix hd H σ ts (t::(trs tvs++acc)):=C
    have ok:=C0.fok
    refine C0.less (x:=[]) (T.oks_app.mpr ⟨(T.oks_app.mp ok.2).1,ok.1,(T.oks_app.mp ok.2).2⟩) ?_ fun b hb=>?_
    ·refine Qs.mpr fun b=>?_
     simp only [T.owns_cons,T.owns_app,Jd,Jg];omega
    ·left
     simp only [T.ros_cons,T.ros_app,Qf] at hb ⊢
     rcases hb with hb | hb | hb <;> simp [hb]
   simp only [Qi,TV.er,takes] at h
   cases et:takes (tvs.map TV.er) ms (ts.map TL.er) with
   | none=>rw [et] at h;cases h
   | some y =>
    obtain ⟨s',l⟩:=y
    rw [et] at h
    cases h
    obtain ⟨tsh,as,a1,a2,a3,a4,a5,a6,a7,a8,a9,a10⟩:=Z4F hw' C1 et hl'
    refine ⟨tsh,some t::as,a1,by simp [a2],by simp [a3],reo a4,a5,a6,fun i u x h1 h2=>?_,fun i h1=>?_,fun i k p a h1 h2=>?_,fun k0 p0 u h1 h2=>?_⟩
    ·cases i with
     | zero=>cases h1;cases h2;rfl
     | succ i=>exact a7 i u x (by simpa using h1) (by simpa using h2)
    ·cases i with
     | zero=>cases h1
     | succ i=>simpa using a8 i (by simpa using h1)
    ·cases i with
     | zero=>cases h1
     | succ i=>exact a9 i k p a (by simpa using h1) (by simpa using h2)
    ·exact a10 k0 p0 u (fun i k p a z1 z2=>h1 (i + 1) k p a (by simpa using z1) (by simpa using z2)) h2
  | plc k p a =>
   have C0:Cf R ix hd H σ ts (trs tvs++acc):=C
   cases m with
   | false =>
    simp only [Qi,TV.er,takes] at h
    cases et:takes (tvs.map TV.er) ms (ts.map TL.er) with
    | none=>rw [et] at h;cases h
    | some y =>
     obtain ⟨s',l⟩:=y
     rw [et] at h
     cases h
     obtain ⟨tsh,as,a1,a2,a3,a4,a5,a6,a7,a8,a9,a10⟩:=Z4F (acc:=acc) hw' C0 et hl'
     refine ⟨tsh,none::as,a1,by simp [a2],by simp [a3],by simpa using a4,a5,a6,fun i u x h1 h2=>?_,fun i h1=>?_,fun i k p a h1 h2=>?_,fun k0 p0 u h1 h2=>?_⟩
     ·cases i with
      | zero=>cases h1
      | succ i=>exact a7 i u x (by simpa using h1) (by simpa using h2)
     ·cases i with
      | zero=>rfl
      | succ i=>simpa using a8 i (by simpa using h1)
     ·cases i with
      | zero=>cases h2
      | succ i=>exact a9 i k p a (by simpa using h1) (by simpa using h2)
     ·exact a10 k0 p0 u (fun i k p a z1 z2=>h1 (i + 1) k p a (by simpa using z1) (by simpa using z2)) h2
   | true =>
    simp only [Qi,TV.er,takes,Qc] at h
    cases ek:ts[k]? with
    | none=>rw [ek] at h;cases h
    | some y =>
     rw [ek] at h
     cases y with
     | non=>cases h
     | bor _ _ _=>cases h
     | own w t =>
      cases w with
      | false=>simp only [Option.map_some,TL.er] at h;cases h
      | true =>
       simp only [Option.map_some,TL.er] at h
       cases ed:Zw (ts.map TL.er) (.plc k p) with
       | none=>rw [ed] at h;cases h
       | some d =>
        rw [ed] at h
        cases ea:apart k p (tvs.map TV.er) ms with
        | false=>rw [ea] at h;cases h
        | true =>
         rw [ea] at h
         dsimp only at h
         obtain ⟨w',t',s,h1,h2,h3⟩:=hw _ Qy (show Zw (ts.map TL.er) (.plc k p)≠none by rw [ed];simp)
         rw [ek] at h1
         cases h1
         have hds:d=s.er:=by
          simp only [Zw,Qc,ek,Option.map_some,TL.er,T.get_er,h2,Option.some.injEq] at ed
          exact ed.symm
         have sok:s.ok H:=T.get_ok h2 (C.ok true t (Qg ek))
         have C1:=Cf.exch (s':=.at (.ref a)) (fr':=trs tvs++(s::acc)) (x:=[]) C0 ek h2 h3.symm trivial (T.oks_app.mpr ⟨(T.oks_app.mp C0.fok).1,sok,(T.oks_app.mp C0.fok).2⟩) (by
          refine Qs.mpr fun b=>?_
          simp only [T.own,T.owns_cons,T.owns_app,Jd,Gz,Jg,Js];omega) (fun b hb=>by
          simp only [T.ro,T.ros_cons,T.ros_app,Qf,Wt,false_or] at hb ⊢
          rcases hb with hb | hb | hb <;> simp [hb])
         have er1:=wr_er (ts:=ts) (s':=.at (.ref a)) (p:=p) (keep:=fun _=>false) ek
         cases et:takes (tvs.map TV.er) ms (wr (ts.map TL.er) k p hole fun _=>false) with
         | none=>rw [et] at h;cases h
         | some y =>
          obtain ⟨s',l⟩:=y
          rw [et] at h
          cases h
          obtain ⟨tsh,as,a1,a2,a3,a4,a5,a6,a7,a8,a9,a10⟩:=Z4F (acc:=s::acc) (fun x z=>TvW.take (hw' x z) ek h2 rfl h3.symm) C1 (by rw [er1];exact et) hl'
          refine ⟨tsh,some s::as,a1,by simp [a2,hds],by simp [a3],reo a4,⟨ea,a5⟩,fun x z=>a6 x (TvW.take z ek h2 rfl h3.symm),fun i u x q1 q2=>?_,fun i q1=>?_,fun i k' p' a' q1 q2=>?_,fun k0 p0 u q1 q2=>?_⟩
          ·cases i with
           | zero=>cases q1;cases q2;exact h3
           | succ i=>exact a7 i u x (by simpa using q1) (by simpa using q2)
          ·cases i with
           | zero=>cases q1
           | succ i=>simpa using a8 i (by simpa using q1)
          ·cases i with
           | zero =>
            cases q1
            exact a10 k p _ (fun i k2 p2 a2 z1 z2=>(Z3W ea z1 z2).imp Ne.symm id) (Z6u ek h2)
           | succ i=>exact a9 i k' p' a' (by simpa using q1) (by simpa using q2)
          ·refine a10 k0 p0 u (fun i k2 p2 a2 z1 z2=>q1 (i + 1) k2 p2 a2 (by simpa using z1) (by simpa using z2)) ?_
           rw [Z57 ek (q1 0 k p a rfl rfl)]
           exact q2
end
end RM

namespace RM
open PySem PySem.Spec PyProof.Rows L2
section
variable {R:RC}{ix:List Nat}{hd:List (Nat×Addr)}{X:Cx}{H H':Hp}{σ:L2.St}{ts:Ts}{fr:List T}
theorem Z7L{tsh:Ts}(C:Cf R ix hd H σ tsh fr):∀ {tvs:List TV} {as:List (Option T)} {ds:List D},fills (tsh.map TL.er) (tvs.map TV.er) (as.map (Option.map T.er))=some ds→(∀ tv∈tvs,TvW tsh tv)→(∀ t,some t∈as→t.ok H)→(∀ (i:Nat) t tv,as[i]?=some (some t)→tvs[i]?=some tv→t.val=tv.vv)→(∀ (i:Nat) (t:T),as[i]?=some none→tvs[i]?≠some (.val t)) →
  ∃ l:List T,T.ers l=ds∧l.map T.val=tvs.map TV.vv∧T.oks H l∧l.length=as.length∧∀ (i:Nat) t,l[i]?=some t→as[i]?=some (some t)∨(as[i]?=some none∧∃ (k:Nat) (p:List Nat) (w:Bool) (u:T),tsh[k]?=some (TL.own w u)∧u.get p=some t)
 | [],[],ds,h,_,_,_,_=>by cases h;exact ⟨[],rfl,rfl,trivial,rfl,by simp⟩
 | [],_::_,ds,h,_,_,_,_=>by simp [fills] at h
 | tv::tvs,[],ds,h,_,_,_,_=>by simp [fills] at h
 | tv::tvs,o::as,ds,h,hw,ho,hv,hn=>by
  have rest:∀ ds',fills (tsh.map TL.er) (tvs.map TV.er) (as.map (Option.map T.er))=some ds'→_:=fun ds' h'=>Z7L C h' (fun x z=>hw x (Qt _ z)) (fun t z=>ho t (Qt _ z)) (fun i t x h1 h2=>hv (i + 1) t x (by simpa using h1) (by simpa using h2)) (fun i t h1=>by simpa using hn (i + 1) t (by simpa using h1))
  cases o with
  | some t =>
   simp only [Qi,Option.map_some,fills] at h
   cases ef:fills (tsh.map TL.er) (tvs.map TV.er) (as.map (Option.map T.er)) with
   | none=>rw [ef] at h;cases h
   | some ds' =>
    rw [ef] at h
    cases h
    obtain ⟨l,a1,a2,a3,a4,a5⟩:=rest ds' ef
    refine ⟨t::l,by rw [T.ers,a1],by simp [a2,hv 0 t tv rfl rfl],⟨ho t Qy,a3⟩,by simp [a4],fun i u hi=>?_⟩
    cases i with
    | zero=>cases hi;exact .inl rfl
    | succ i=>simpa using a5 i u (by simpa using hi)
  | none =>
   simp only [Qi,Option.map_none,fills] at h
   cases ed:Zw (tsh.map TL.er) tv.er with
   | none=>rw [ed] at h;cases h
   | some d =>
    rw [ed] at h
    cases ef:fills (tsh.map TL.er) (tvs.map TV.er) (as.map (Option.map T.er)) with
    | none=>rw [ef] at h;cases h
    | some ds' =>
     rw [ef] at h
     cases h
     obtain ⟨l,a1,a2,a3,a4,a5⟩:=rest ds' ef
     cases tv with
     | val t=>exact absurd rfl (hn 0 t rfl)
     | plc k p a =>
      obtain ⟨w,u,s,h1,h2,h3⟩:=hw _ Qy (show Zw (tsh.map TL.er) (.plc k p)≠none by rw [show Zw (tsh.map TL.er) (.plc k p)=some d from ed];simp)
      have hds:s.er=d:=by
       have ed':Zw (tsh.map TL.er) (.plc k p)=some d:=ed
       simp only [Zw,Qc,h1,Option.map_some,TL.er,T.get_er,h2,Option.some.injEq] at ed'
       exact ed'
      refine ⟨s::l,by rw [T.ers,a1,hds],by simp [a2,h3,TV.vv],⟨T.get_ok h2 (C.ok w u (Qg h1)),a3⟩,by simp [a4],fun i x hi=>?_⟩
      cases i with
      | zero=>cases hi;exact .inr ⟨rfl,k,p,w,u,h1,h2⟩
      | succ i=>simpa using a5 i x (by simpa using hi)
theorem Z6O:∀ {ms:List Bool} {l:List T} {as:List (Option T)},ms.length=l.length→l.length=as.length→(∀ (i:Nat) t,l[i]?=some t→as[i]?=some (some t)∨as[i]?=some none)→(∀ i:Nat,as[i]?=some none→ms[i]?=some false) →
  ∃ x,(T.owns (as.filterMap id)).Perm (T.owns (Zf true ms l)++x)∧∀ (i:Nat) t,ms[i]?=some false→as[i]?=some (some t)→∀ a∈t.own,a∈x
 | [],[],[],_,_,_,_=>⟨[],by simp [Zf,T.owns],by simp⟩
 | m::ms,t::l,o::as,h1,h2,h3,h4=>by
  obtain ⟨x,p1,p2⟩:=Z6O (ms:=ms) (l:=l) (as:=as) (by simpa using h1) (by simpa using h2) (fun i u hi=>by simpa using h3 (i + 1) u (by simpa using hi)) (fun i hi=>by simpa using h4 (i + 1) (by simpa using hi))
  cases o with
  | none =>
   have:m=false:=by have:=h4 0 rfl;simpa using this
   subst this
   refine ⟨x,by simpa [Zf] using p1,fun i u z1 z2=>?_⟩
   cases i with
   | zero=>cases z2
   | succ i=>exact p2 i u (by simpa using z1) (by simpa using z2)
  | some t' =>
   have:t'=t:=by
    rcases h3 0 t rfl with z | z
    ·cases z;rfl
    ·cases z
   subst this
   cases m with
   | true =>
    refine ⟨x,?_,fun i u z1 z2=>?_⟩
    ·simp only [Ji,id,Zf,if_true,T.owns_cons]
     refine Qs.mpr fun b=>?_
     have:=Qs.mp p1 b
     simp only [Jd] at this ⊢;omega
    ·cases i with
     | zero=>cases z1
     | succ i=>exact p2 i u (by simpa using z1) (by simpa using z2)
   | false =>
    refine ⟨t'.own++x,?_,fun i u z1 z2 a ha=>?_⟩
    ·simp only [Ji,id,Zf,T.owns_cons,Wz,if_false]
     refine Qs.mpr fun b=>?_
     have:=Qs.mp p1 b
     simp only [Jd] at this ⊢;omega
    ·cases i with
     | zero=>cases z2;exact Qh _ ha
     | succ i=>exact Qd _ (p2 i u (by simpa using z1) (by simpa using z2) a ha)
 | [],_::_,_,h1,_,_,_=>by simp at h1
 | _::_,[],_,h1,_,_,_=>by simp at h1
 | _,[],_::_,_,h2,_,_=>by simp at h2
 | _,_::_,[],_,h2,_,_=>by simp at h2
theorem Cf.after{tsh:Ts}{ws l l' m:List T}{ms:List Bool}{x:List Addr}{B:Addr→Prop}(C:Cf R ix hd H σ tsh (ws++fr))(hx:(T.owns ws).Perm (T.owns (Zf true ms l)++x))(hB:∀ a,R.B a∨a∈Zc tsh∨a∈T.owns fr→B a)(E:Exi H H' B ms l l' m) :
  Cf R ix hd H' σ tsh (Zf true ms l'++(m++fr)):=by
 have inw:∀ a,a∈T.owns (Zf true ms l)→a∈T.owns (ws++fr):=fun a z=>by
  rw [T.owns_app];exact Qh _ (hx.mem_iff.mpr (Qh _ z))
 have nd:=Qm.mp C.nd
 have ndw:(T.owns ws++T.owns fr).Nodup:=by have:=nd.2.1;rwa [T.owns_app] at this
 have ndw':=Qm.mp ndw
 have k1:∀ a,a∈Zc tsh→a∉T.owns (Zf true ms l):=fun a z q=>nd.2.2 a z a (inw a q) rfl
 have k2:∀ a,a∈T.owns fr→a∉T.owns (Zf true ms l):=fun a z q=>ndw'.2.2 a (hx.mem_iff.mpr (Qh _ q)) a z rfl
 have k3:∀ a,a∈roS tsh∨a∈T.ros (ws++fr)→a∉T.owns (Zf true ms l):=fun a z q=>(C.sep a z).2.1 (inw a q)
 have k4:∀ a,a∈rdS tsh→a∉T.owns (Zf true ms l):=fun a z q=>(C.rd a z).2 (inw a q)
 have tk:∀ w t,TL.own w t∈tsh→∀ a,a∈t.own∨a∈t.ro→H' a=H a:=fun w t ht a z=>by
  refine E.keep a (T.there (C.ok w t ht) z) ?_
  rcases z with z | z
  ·cases w with
   | true=>exact k1 a (Z18.mpr ⟨t,ht,z⟩)
   | false=>exact k4 a (Z3v.mpr ⟨t,ht,z⟩)
  ·exact k3 a (.inl (Z1j.mpr ⟨w,t,ht,z⟩))
 have ffok:T.oks H fr:=(T.oks_app.mp C.fok).2
 have fk:∀ a,a∈T.owns fr∨a∈T.ros fr→H' a=H a:=fun a z=>by
  refine E.keep a (T.theres ffok z) ?_
  rcases z with z | z
  ·exact k2 a z
  ·exact k3 a (.inr (by rw [T.ros_app];exact Qd _ z))
 have new:∀ a,a∈T.owns (Zf true ms l')∨a∈T.owns m→a∉Zc tsh∧a∉T.owns fr∧a∉roS tsh∧a∉T.ros fr∧a∉rdS tsh∧¬ R.G a:=fun a z=>by
  rcases E.own a z with z | z
  ·refine ⟨fun q=>k1 a q z,fun q=>k2 a q z,fun q=>k3 a (.inl q) z,fun q=>k3 a (.inr (by rw [T.ros_app];exact Qd _ q)) z,fun q=>k4 a q z,fun q=>?_⟩
   exact (C.g a q).2.2.2 (inw a z)
  ·obtain ⟨f1,f2,f3,f4,f5,f6⟩:=C.fresh z
   rw [T.owns_app] at f4;rw [T.ros_app] at f5
   exact ⟨f1,fun q=>f4 (Qd _ q),f2,fun q=>f5 (Qd _ q),f3,f6⟩
 have eo:T.owns (Zf true ms l'++(m++fr))=T.owns (Zf true ms l')++(T.owns m++T.owns fr):=by rw [T.owns_app,T.owns_app]
 have er:T.ros (Zf true ms l'++(m++fr))=T.ros (Zf true ms l')++(T.ros m++T.ros fr):=by rw [T.ros_app,T.ros_app]
 refine ⟨fun w t ht=>T.keep (C.ok w t ht) (tk w t ht),T.oks_app.mpr ⟨E.ok,T.oks_app.mpr ⟨E.fok,T.keeps ffok fk⟩⟩,?_,fun a z=>?_,fun a z=>?_,fun a z=>?_,C.bg,C.bor,C.ixs,C.sl,C.hdi,C.hdx,C.len,C.hdn⟩
 ·rw [eo]
  refine Qm.mpr ⟨nd.1,?_,fun a za b zb e=>?_⟩
  ·rw [← Qp]
   refine Qm.mpr ⟨E.nd,ndw'.2.1,fun a za b zb e=>?_⟩
   subst e
   exact (new a (Qf.mp za)).2.1 zb
  ·subst e
   rcases Qf.mp zb with zb | zb
   ·exact (new a (.inl zb)).1 za
   ·rcases Qf.mp zb with zb | zb
    ·exact (new a (.inr zb)).1 za
    ·exact nd.2.2 a za a (by rw [T.owns_app];exact Qd _ zb) rfl
 ·rw [eo]
  rw [er] at z
  simp only [Qf] at z ⊢
  have old:a∈roS tsh∨a∈T.ros fr→a∉Zc tsh∧¬ (a∈T.owns (Zf true ms l')∨a∈T.owns m∨a∈T.owns fr)∧¬ R.B a:=fun z=>by
   obtain ⟨s1,s2,s3⟩:=C.sep a (z.imp id fun q=>by rw [T.ros_app];exact Qd _ q)
   rw [T.owns_app] at s2
   refine ⟨s1,fun q=>?_,s3⟩
   rcases q with q | q | q
   ·rcases z with z | z
    ·exact (new a (.inl q)).2.2.1 z
    ·exact (new a (.inl q)).2.2.2.1 z
   ·rcases z with z | z
    ·exact (new a (.inr q)).2.2.1 z
    ·exact (new a (.inr q)).2.2.2.1 z
   ·exact s2 (Qd _ q)
  have nw:a∈T.ros (Zf true ms l')∨a∈T.ros m→a∉Zc tsh∧¬ (a∈T.owns (Zf true ms l')∨a∈T.owns m∨a∈T.owns fr)∧¬ R.B a:=fun z=>by
   obtain ⟨s1,s2,s3⟩:=E.sep a z
   refine ⟨fun q=>s3 (hB a (.inr (.inl q))),fun q=>?_,fun q=>s3 (hB a (.inl q))⟩
   rcases q with q | q | q
   ·exact s1 q
   ·exact s2 q
   ·exact s3 (hB a (.inr (.inr q)))
  rcases z with z | z | z | z
  ·exact old (.inl z)
  ·exact nw (.inl z)
  ·exact nw (.inr z)
  ·exact old (.inr z)
 ·rw [eo]
  simp only [Qf]
  obtain ⟨s1,s2⟩:=C.rd a z
  rw [T.owns_app] at s2
  refine ⟨s1,fun q=>?_⟩
  rcases q with q | q | q
  ·exact (new a (.inl q)).2.2.2.2.1 z
  ·exact (new a (.inr q)).2.2.2.2.1 z
  ·exact s2 (Qd _ q)
 ·rw [eo]
  simp only [Qf]
  obtain ⟨g1,g2,g3,g4⟩:=C.g a z
  have e:H' a=H a:=E.keep a g2 fun q=>g4 (inw a q)
  rw [T.owns_app] at g4
  refine ⟨e.trans g1,by rw [e];exact g2,g3,fun q=>?_⟩
  rcases q with q | q | q
  ·exact (new a (.inl q)).2.2.2.2.2 z
  ·exact (new a (.inr q)).2.2.2.2.2 z
  ·exact g4 (Qd _ q)
theorem TvsOk.all:∀ {vs:List V} {tvs:List TV},TvsOk ts vs tvs→(∀ tv∈tvs,TvW ts tv)∧vs=tvs.map TV.vv
 | _,_,.nil=>⟨by simp,rfl⟩
 | _,_,.cons h r=>by
  obtain ⟨h1,h2⟩:=h.w
  obtain ⟨r1,r2⟩:=TvsOk.all r
  refine ⟨fun x z=>?_,by rw [Qi,h2,r2]⟩
  rcases Qx.mp z with rfl | z
  ·exact h1
  ·exact r1 x z
theorem Z3c:∀ {rs:List DV} {ms:List Bool} {s sh:Sd} {lo:List (Option D)},takes rs ms s=some (sh,lo)→rs.length≤ms.length∧∀ (i:Nat) (d:D),lo[i]?=some none→rs[i]?≠some (.val d)
 | [],ms,s,sh,lo,h=>by cases h;simp
 | .val d::rs,[],s,sh,lo,h=>by simp [takes] at h
 | .plc k p::rs,[],s,sh,lo,h=>by simp [takes] at h
 | .val d::rs,m::ms,s,sh,lo,h=>by
  simp only [takes] at h
  cases et:takes rs ms s with
  | none=>rw [et] at h;cases h
  | some y =>
   obtain ⟨s',l⟩:=y
   rw [et] at h
   cases h
   obtain ⟨h1,h2⟩:=Z3c et
   refine ⟨by simpa using h1,fun i d' hi=>?_⟩
   cases i with
   | zero=>cases hi
   | succ i=>simpa using h2 i d' (by simpa using hi)
 | .plc k p::rs,false::ms,s,sh,lo,h=>by
  simp only [takes] at h
  cases et:takes rs ms s with
  | none=>rw [et] at h;cases h
  | some y =>
   obtain ⟨s',l⟩:=y
   rw [et] at h
   cases h
   obtain ⟨h1,h2⟩:=Z3c et
   refine ⟨by simpa using h1,fun i d' hi=>?_⟩
   cases i with
   | zero=>intro z;cases z
   | succ i=>simpa using h2 i d' (by simpa using hi)
 | .plc k p::rs,true::ms,s,sh,lo,h=>by
  simp only [takes] at h
  split at h
  case h_1 =>
   cases et:takes rs ms (wr s k p hole fun _=>false) with
   | none=>rw [et] at h;cases h
   | some y =>
    obtain ⟨s',l⟩:=y
    rw [et] at h
    cases h
    obtain ⟨h1,h2⟩:=Z3c et
    refine ⟨by simpa using h1,fun i d' hi=>?_⟩
    cases i with
    | zero=>intro z;cases z
    | succ i=>simpa using h2 i d' (by simpa using hi)
  case h_2=>cases h
theorem Zai{ms:List Bool}{fn:Fn}{f:AF}(σ:L2.St)(H:Hp)(Q:VK)(hms:∀ s rs s1,f s=.ok rs s1→rs.length=ms.length)(q:lE R ix (Zq ms fn f) σ H Q):lA R ix f σ H fun vs H1=>spR R.ad ms fn vs H1 Q (R.EX σ):=by
 obtain ⟨hd,ts,fr,C,q⟩:=q
 refine ⟨hd,ts,fr,C,?_⟩
 unfold Zq at q
 cases ef:f (ts.map TL.er) with
 | no=>rw [ef] at q;exact q
 | ex E s1=>rw [ef] at q;exact q
 | ok rs s1 =>
  rw [ef] at q
  intro H1 ts1 tvs vs e1 e2 hv C1
  subst e1 e2
  have hlen:ms.length=tvs.length:=by have:=hms _ _ _ ef;simpa using this.symm
  dsimp only at q
  cases et:takes (tvs.map TV.er) ms (ts1.map TL.er) with
  | none=>rw [et] at q;exact q.elim
  | some y =>
   obtain ⟨sh,lo⟩:=y
   rw [et] at q
   obtain ⟨hw,rfl⟩:=hv.all
   obtain ⟨tsh,as,a1,a2,a3,a4,a5,a6,a7,a8,a9,a10⟩:=Z4F hw C1 et hlen
   subst a1 a2
   have tl:=(Z3c et).2
   dsimp only at q
   cases el:fills (tsh.map TL.er) (tvs.map TV.er) (as.map (Option.map T.er)) with
   | none=>rw [el] at q;exact q.elim
   | some ds =>
    rw [el] at q
    have aok:∀ t,some t∈as→t.ok H1:=fun t z=>T.oks_iff.mp (T.oks_app.mp a4.fok).1 t (Jq.mpr ⟨some t,z,rfl⟩)
    obtain ⟨l,l1,l2,l3,l4,l5⟩:=Z7L a4 el (fun x z=>a6 x (hw x z)) aok a7 (fun i t h z=>tl i t.er (by rw [Qc,h];rfl) (by rw [Qc,z];rfl))
    obtain ⟨x,p1,p2⟩:=Z6O (ms:=ms) (l:=l) (as:=as) (by rw [hlen,l4,a3]) l4 (fun i t hi=>(l5 i t hi).imp id fun z=>z.1) a8
    have nd:=Qm.mp a4.nd
    have ndw:(T.owns (as.filterMap id)++T.owns fr).Nodup:=by have:=nd.2.1;rwa [T.owns_app] at this
    have ndw':=Qm.mp ndw
    have ndp:=Qm.mp (p1.nodup_iff.mp ndw'.1)
    have inw:∀ a,a∈T.owns (Zf true ms l)→a∈T.owns (as.filterMap id++fr):=fun a z=>by rw [T.owns_app];exact Qh _ (p1.mem_iff.mpr (Qh _ z))
    have rosl:∀ a∈T.ros l,a∈roS tsh∨a∈T.ros (as.filterMap id++fr):=fun a z=>by
     obtain ⟨t,ht,hz⟩:=T.mem_ros.mp z
     obtain ⟨i,hi⟩:=Ja.mp ht
     rcases l5 i t hi with h | ⟨_,k,p,w,u,h1,h2⟩
     ·exact .inr (by rw [T.ros_app];exact Qh _ (T.mem_ros.mpr ⟨t,Jq.mpr ⟨some t,Qg h,rfl⟩,hz⟩))
     ·obtain ⟨c,r,K⟩:=T.ctx h2
      exact .inl (Z1j.mpr ⟨w,u,Qg h1,K.ro.mem_iff.mpr (Qd _ hz)⟩)
    have ent:Ent H1 (fun a=>R.B a∨a∈Zc tsh∨a∈T.owns fr) ms l:=by
     refine ⟨by rw [hlen,l4,a3],l3,ndp.1,fun a z=>?_,fun a z=>?_,fun a z=>?_⟩
     ·obtain ⟨s1,s2,s3⟩:=a4.sep a (rosl a z)
      refine ⟨fun q=>s2 (inw a q),fun q=>?_⟩
      rcases q with q | q | q
      ·exact s3 q
      ·exact s1 q
      ·exact s2 (by rw [T.owns_app];exact Qd _ q)
     ·obtain ⟨t,ht,hz⟩:=T.mem_owns.mp z
      obtain ⟨i,hi,hm⟩:=Z3E ht
      rcases l5 i t hi with h | ⟨_,k,p,w,u,h1,h2⟩
      ·intro q
       exact ndp.2.2 a q a (p2 i t hm h a hz) rfl
      ·obtain ⟨c,r,K⟩:=T.ctx h2
       have hu:a∈u.own:=K.own.mem_iff.mpr (Qd _ hz)
       intro q
       cases w with
       | true=>exact nd.2.2 a (Z18.mpr ⟨u,Qg h1,hu⟩) a (inw a q) rfl
       | false=>exact (a4.rd a (Z3v.mpr ⟨u,Qg h1,hu⟩)).2 (inw a q)
     ·rcases z with z | z | z
      ·obtain ⟨g1,g2,g3,g4⟩:=a4.g a (a4.bg a z)
       exact ⟨fun q=>g4 (inw a q),g2⟩
      ·obtain ⟨t,ht,hz⟩:=Z18.mp z
       exact ⟨fun q=>nd.2.2 a z a (inw a q) rfl,T.there (a4.ok true t ht) (.inl hz)⟩
      ·exact ⟨fun q=>ndw'.2.2 a (p1.mem_iff.mpr (Qh _ q)) a z rfl,T.theres (T.oks_app.mp a4.fok).2 (.inl z)⟩
    refine ⟨l,_,l2,ent,?_⟩
    rw [l1]
    dsimp only at q
    cases en:fn ds with
    | no=>rw [en] at q;exact q.elim
    | ex E ds' =>
     rw [en] at q
     intro H2 l' e3 X2
     have C2:=a4.after p1 (fun a z=>z) X2
     obtain ⟨ts',g1,g2,g3,g4⟩:=Z60 (rest:=fr) a5 hlen (X2.val.trans l2) C2 a9
     rw [e3] at g1
     exact q H2 ts' g1 g2
    | ok rv ds' =>
     rw [en] at q
     intro H2 l' rt v e3 e4 hr X2
     have C2:=a4.after p1 (fun a z=>z) X2
     obtain ⟨ts',g1,g2,g3,g4⟩:=Z60 (rest:=rt.tr++fr) a5 hlen (X2.val.trans l2) C2 a9
     rw [e3] at g1
     subst e4
     cases rt with
     | val t =>
      cases hr
      exact q H2 ts' (.val t) t.val g1 rfl rfl g2
     | arg j qq a =>
      obtain ⟨rfl,hmj,t,s,hj,hs,hsv⟩:=hr
      simp only [RT.er,retV,Qc,hmj] at q
      cases ej:tvs[j]? with
      | none=>rw [ej] at q;exact q.elim
      | some tv =>
       rw [ej] at q
       cases tv with
       | val t0=>exact q.elim
       | plc k p a0 =>
        simp only [Option.map_some,TV.er] at q
        obtain ⟨u,u1,u2⟩:=Z6v (g3 j k p a0 t ej hmj hj)
        have u3:u.get (p++qq)=some s:=by rw [T.get_app,u2];exact hs
        have hdr:Zw (gives (tvs.map TV.er) ms ds' (tsh.map TL.er)) (.plc k (p++qq))=some s.er:=by
         rw [← g1];simp only [Zw,Qc,u1,Option.map_some,TL.er,T.get_er,u3]
        rw [hdr] at q
        obtain ⟨tv,f1,f2,f3⟩:=mk_ok (p:=p++qq) g2 u1 u3
        rw [hsv] at f2
        exact q H2 ts' tv (.ref a) g1 f1 f2 f3
end
end RM

namespace RM
open PySem PySem.Spec PyProof.Rows L2
noncomputable def ALen(n:Nat)(f:AF):Prop:=∀ s rs s1,f s=.ok rs s1→rs.length=n
theorem Z93:ALen 0 Z1:=fun s rs s1 h=>by cases h;rfl
theorem Z34{n:Nat}{f:EF}{g:AF}(h:ALen n g):ALen (n + 1) (Z0 f g):=by
 intro s rs s1 e
 unfold Z0 at e
 cases ef:f s with
 | no=>rw [ef] at e;cases e
 | ex C s'=>rw [ef] at e;cases e
 | ok r s' =>
  rw [ef] at e
  cases r with
  | val d =>
   dsimp only at e
   cases eg:g s' with
   | no=>rw [eg] at e;cases e
   | ex C s2=>rw [eg] at e;cases e
   | ok rs' s2=>rw [eg] at e;cases e;simp [h _ _ _ eg]
  | plc k p =>
   dsimp only at e
   cases eg:g (s'++[.bor k p]) with
   | no=>rw [eg] at e;cases e
   | ex C s2=>rw [eg] at e;dsimp only at e;split at e <;> cases e
   | ok rs' s2 =>
    rw [eg] at e
    dsimp only at e
    split at e
    ·cases e;simp [h _ _ _ eg]
    ·cases e
noncomputable def Zn(chk:D→Bool)(f:EF):EF:=fun s=>match f s with
 | .ok r s1=>(match Zw s1 r with | some d=>if chk d then .ok r s1 else .no | none=>.no)
 | .ex C s1=>.ex C s1
 | .no=>.no
noncomputable def Zo(C:Addr)(m:Str):D→Bool
 | .nd (.ins _ C' ns) _=>decide (C'=C) && !ns.contains m
 | _=>false
section
variable {R:RC}{ix:List Nat}{hd:List (Nat×Addr)}{X:Cx}{H H':Hp}{σ:L2.St}{ts:Ts}{fr:List T}
theorem Z3C{chk:D→Bool}{f:EF}{Q:VK}(h:lE R ix (Zn chk f) σ H Q):lE R ix f σ H fun v H1=>(∃ t:T,t.val=v∧t.ok H1∧chk t.er=true)∧Q v H1:=by
 obtain ⟨hd,ts,fr,C,h⟩:=h
 refine ⟨hd,ts,fr,C,?_⟩
 unfold Zn at h
 cases ef:f (ts.map TL.er) with
 | no=>rw [ef] at h;exact h
 | ex E s1=>rw [ef] at h;exact h
 | ok r s1 =>
  rw [ef] at h
  intro H1 ts1 tv v e1 e2 hv C1
  subst e1 e2
  dsimp only at h
  cases ed:Zw (ts1.map TL.er) tv.er with
  | none=>rw [ed] at h;exact h.elim
  | some d =>
   rw [ed] at h
   obtain ⟨t,t1,t2,t3,_⟩:=Z6S C1 hv (T.oks_app.mp C1.fok).1 ed
   dsimp only at h
   cases hc:chk d with
   | false=>rw [hc] at h;exact h.elim
   | true=>rw [hc] at h;exact ⟨⟨t,t2,t3,by rw [t1];exact hc⟩,h H1 ts1 tv v rfl rfl hv C1⟩
theorem lookup_none{ns:List Str}{vs:List V}{m:Str}(h:ns.contains m=false):(ns.zip vs).lookup m=none:=by
 induction ns generalizing vs with
 | nil=>rfl
 | cons n ns ih =>
  cases vs with
  | nil=>rfl
  | cons v vs =>
   simp only [List.contains_cons,Bool.or_eq_false_iff] at h
   simp only [Wm,Jm,h.1]
   exact ih h.2
theorem Z0p{x:Str}{k:Nat}{ps:List Str}{ms:List Bool}{fn:Fn}{p pos:Pos}{e:Expr}{es:List Expr}{f:AF}(D:DefX X.prog X.w X.K X.mg X.base x k ps (spR R.ad ms fn))(hr:Room k X.A)(hx:Z10 X R.EX)(ha:PA X (e::es) (lA R ix f))(hl:ALen ms.length f)
  (hg:Gl X x:=by rfl) (hdb:(x == ("__debug__":Str))=false:=by decide) (he:starEach (e::es) X.env=(false,eval e X.env)::starEach es X.env:=by rfl) (hpl:(backTo pos (starEach es X.env)).any (·.1)=false:=by rfl) :
  PE X (.Call (.Name x p) (e::es) [] pos) (lE R ix (Zq ms fn f)):=peM (ZbA D hr hx ha hg hdb he hpl) fun σ H Q q=>Zai σ H Q hl q
theorem Zbq{C:Addr}{m:Str}{ms:List Bool}{fn:Fn}{fo:EF}{f:AF}{Q:VK}(hl:ALen ms.length (Z0 (Zn (Zo C m) fo) f))(q:lE R ix (Zq ms fn (Z0 (Zn (Zo C m) fo) f)) σ H Q):tMetT C m (spR R.ad ms fn) R.EX (lE R ix fo) (lA R ix f) σ H Q:=by
 have q1:=Z3t σ H _ (Zai σ H Q hl q)
 refine Zj (fun v H1 h=>?_) (Z3C q1)
 obtain ⟨⟨t,rfl,t2,t3⟩,h⟩:=h
 cases t with
 | «at» v=>cases t3
 | nd a kd ch =>
  cases kd with
  | ins w C' ns =>
   simp only [T.er,Zo,Qw,decide_eq_true_eq,Wi] at t3
   obtain ⟨rfl,hc⟩:=t3
   obtain ⟨_,dx,hH⟩:=t2.1
   exact ⟨a,dx,_,rfl,hH,lookup_none hc,h⟩
  | _=>cases t3
theorem Z2d{C:Addr}{m:Str}{k:Nat}{ps:List Str}{ms:List Bool}{fn:Fn}{pos apos:Pos}{o e:Expr}{es:List Expr}{fo:EF}{f:AF}{pl:Sem Bool}(D:MetX X.prog X.w X.K X.mg X.base C m k ps (spR R.ad ms fn))(c:Cls X.K C)(hr:Room k X.A)(hx:Z10 X R.EX)(ho:PE X o (lE R ix fo))(ha:PA X (e::es) (lA R ix f))(hl:ALen ms.length (Z0 (Zn (Zo C m) fo) f))
  (hst:starEach (e::es) X.env=(false,eval e X.env)::starEach es X.env:=by rfl) (hpl:(backTo pos (starEach es X.env)).any (·.1)=false:=by rfl)
  (ht:eval (.Call (.Attribute o m apos) (e::es) [] pos) X.env=(do
   let ov ← eval o X.env
   standAt apos.atName
   let (f,first) ← holding [ov] (getMethod ov m pl)
   callWith pos f first (backTo pos (starEach (e::es) X.env)) (backToKw pos (keywordEach [] X.env))):=by rfl) :
  PE X (.Call (.Attribute o m apos) (e::es) [] pos) (lE R ix (Zq ms fn (Z0 (Zn (Zo C m) fo) f))):=peM (Zas D c hr hx ho ha hst hpl ht) fun σ H Q q=>Zbq hl q
theorem Z2w{C:Addr}{m:Str}{k:Nat}{ps:List Str}{ms:List Bool}{fn:Fn}{pos apos:Pos}{o:Expr}{fo:EF}{pl:Sem Bool}(D:MetX X.prog X.w X.K X.mg X.base C m k ps (spR R.ad ms fn))(c:Cls X.K C)(hr:Room k X.A)(hx:Z10 X R.EX)(ho:PE X o (lE R ix fo))(hl:ALen ms.length (Z0 (Zn (Zo C m) fo) Z1))
  (ht:eval (.Call (.Attribute o m apos) [] [] pos) X.env=(do
   let ov ← eval o X.env
   standAt apos.atName
   let (f,first) ← holding [ov] (getMethod ov m pl)
   callWith pos f first (backTo pos (starEach [] X.env)) (backToKw pos (keywordEach [] X.env))):=by rfl) :
  PE X (.Call (.Attribute o m apos) [] [] pos) (lE R ix (Zq ms fn (Z0 (Zn (Zo C m) fo) Z1))):=peM (Z9x D c hr hx ho ht) fun σ H Q q=>by
   obtain h:=Zbq hl q
   refine Zj (fun v H1 h=>?_) h
   obtain ⟨a,dx,fs,h1,h2,h3,h4⟩:=h
   exact ⟨a,dx,fs,h1,h2,h3,Z7n σ H1 _ h4⟩
end

section
variable {P:Program}{w:World}{K:Qa}{mg:Str→Option Value}{base:Heap}
theorem okD{x:Str}{st:Stmt}{ps N:List Str}{k:Nat}{ms:List Bool}{body:SF}{ad:Str→Addr}(F:At K mg x st ps)(S:FnScope N ps (Z8 st))(hps:ms.length=ps.length)(hN:ms.length≤N.length)
  (hb:∀ (f:Addr) (cdv:Value) (A:Around) (outer:List Env) (s:Shared) (H:Hp) (E:XK) (R:RC),Room k (A.deeper (envOfC x (Z8 st) s.heap.objs.size f cdv))→Z10 (ZL (CX1 P w) P w K mg base N x (Z8 st) f cdv A outer s H E) R.EX→(∀ σ,R.EX σ=E)→R.ad=ad →
   PSs (ZL (CX1 P w) P w K mg base N x (Z8 st) f cdv A outer s H E) (Z0e st) (lS R (List.range N.length) body)):DefX P w K mg base x (k + 1) ps (spR ad ms (Zr N.length ms body)) :=
 F.okX S (fun vs H Q E h=>by rw [Z8j h,hps]) fun f cdv A outer s H vs Q E hr h=>by
  obtain ⟨R,e,ea,q⟩:=Z5u hN h
  exact ⟨_,hb f cdv A outer s H E R hr (by rw [e];exact passTX) (fun σ=>by rw [e]) ea,q⟩
theorem okM{C:Addr}{m qual:Str}{st:Stmt}{ps N:List Str}{k:Nat}{ms:List Bool}{body:SF}{ad:Str→Addr}(F:AtM K C m qual st ps)(S:FnScope N ps (Z8 st))(hps:ms.length=ps.length)(hN:ms.length≤N.length)
  (hb:∀ (f:Addr) (cdv:Value) (A:Around) (outer:List Env) (s:Shared) (H:Hp) (E:XK) (R:RC),Room k (A.deeper (envOfC qual (Z8 st) s.heap.objs.size f cdv))→Z10 (ZL (CX1 P w) P w K mg base N qual (Z8 st) f cdv A outer s H E) R.EX→(∀ σ,R.EX σ=E)→R.ad=ad →
   PSs (ZL (CX1 P w) P w K mg base N qual (Z8 st) f cdv A outer s H E) (Z0e st) (lS R (List.range N.length) body)):MetX P w K mg base C m (k + 1) ps (spR ad ms (Zr N.length ms body)) :=
 F.okX S (fun vs H Q E h=>by rw [Z8j h,hps]) fun f cdv A outer s H vs Q E hr h=>by
  obtain ⟨R,e,ea,q⟩:=Z5u hN h
  exact ⟨_,hb f cdv A outer s H E R hr (by rw [e];exact passTX) (fun σ=>by rw [e]) ea,q⟩
theorem okI{C:Addr}{qual:Str}{st:Stmt}{ps N:List Str}{k:Nat}{ms:List Bool}{body:SF}{ad:Str→Addr}(F:AtI K C qual st ps)(S:FnScope N ps (Z8 st))(hps:ms.length=ps.length)(hN:ms.length≤N.length)
  (hb:∀ (f:Addr) (cdv:Value) (A:Around) (outer:List Env) (s:Shared) (H:Hp) (E:XK) (R:RC),Room k (A.deeper (envOfC qual (Z8 st) s.heap.objs.size f cdv))→Z10 (ZL (CX1 P w) P w K mg base N qual (Z8 st) f cdv A outer s H E) R.EX→(∀ σ,R.EX σ=E)→R.ad=ad →
   PSs (ZL (CX1 P w) P w K mg base N qual (Z8 st) f cdv A outer s H E) (Z0e st) (lS R (List.range N.length) body)):InitX P w K mg base C (k + 1) ps (spR ad ms (Zr N.length ms body)) :=
 F.okX S (fun vs H Q E h=>by rw [Z8j h,hps]) fun f cdv A outer s H vs Q E hr h=>by
  obtain ⟨R,e,ea,q⟩:=Z5u hN h
  exact ⟨_,hb f cdv A outer s H E R hr (by rw [e];exact passTX) (fun σ=>by rw [e]) ea,q⟩

variable {N:List Str}{qual:Str}{scope:Scope}{f:Addr}{cd:Value}{A:Around}{outer:List Env}{s:Shared}{H:Hp}{E:XK}{R:RC}{ix:List Nat}
noncomputable def Z16(C:Str)(g:AF):SF:=fun s=>match g s with
 | .ok rs s1=>if rs.length≤1000 then .ex C s1 else .no
 | .ex C' s1=>.ex C' s1
 | .no=>.no
theorem Z7H{ts:Ts}:∀ {vs:List V} {tvs:List TV},TvsOk ts vs tvs→vs.length=tvs.length
 | _,_,.nil=>rfl
 | _,_,.cons _ r=>by simp [Z7H r]
theorem Z0D{x:Str}{C:Addr}{np cpos pos:Pos}{e:Expr}{es:List Expr}{g:AF}(hE:∀ σ,R.EX σ=E)(hA:R.ad x=C)(O:ExC K mg x C)(ha:PA (ZL (CX1 P w) P w K mg base N qual scope f cd A outer s H E) (e::es) (lA R ix g))
  (hg:Gl (ZL (CX1 P w) P w K mg base N qual scope f cd A outer s H E) x:=by rfl) (hdb:(x == ("__debug__":Str))=false:=by decide)
  (he:starEach (e::es) (ZL (CX1 P w) P w K mg base N qual scope f cd A outer s H E).env=(false,eval e (ZL (CX1 P w) P w K mg base N qual scope f cd A outer s H E).env)::starEach es (ZL (CX1 P w) P w K mg base N qual scope f cd A outer s H E).env:=by rfl)
  (hpl:(backTo cpos (starEach es (ZL (CX1 P w) P w K mg base N qual scope f cd A outer s H E).env)).any (·.1)=false:=by rfl) :
  PS (ZL (CX1 P w) P w K mg base N qual scope f cd A outer s H E) (.Raise (some (.Call (.Name x np) (e::es) [] cpos)) none pos) (lS R ix (Z16 x g)):=by
 refine psM (ZbE O ha hg hdb he hpl) fun D σ H' h=>?_
 obtain ⟨hd,ts,fr,Cc,h⟩:=h
 refine ⟨hd,ts,fr,Cc,?_⟩
 unfold Z16 at h
 cases ef:g (ts.map TL.er) with
 | no=>rw [ef] at h;exact h
 | ex E' s1=>rw [ef] at h;intro H1 ts1 e1 C1;exact h H1 σ ts1 e1 C1
 | ok rs s1 =>
  rw [ef] at h
  intro H1 ts1 tvs vs e1 e2 hv C1
  dsimp only at h
  by_cases hz:rs.length≤1000
  ·rw [if_pos hz] at h
   refine ⟨?_,?_⟩
   ·rw [Z7H hv]
    have:tvs.length=rs.length:=by rw [← e2];simp
    rw [this]
    exact Jc hz (by decide)
   ·have:=h H1 σ ts1 e1 C1.drops
    rwa [hE,hA] at this
  ·rw [if_neg hz] at h;exact h.elim
end
end RM

namespace RM
open PySem PySem.Spec PyProof.Rows L2
noncomputable def eMk(C:Addr)(ms:List Bool)(fn:Fn)(f:AF):EF:=fun s=>match f s with
 | .ok rs s1=>(match takes rs ms s1 with
  | some (sh,l)=>(match fills sh rs l with
   | some ds=>(match fn (.nd (.ins true C []) []::ds) with
    | .ok (.val (.at .non)) (d0::ds')=>.ok (.val d0) (gives rs ms ds' sh)
    | _=>.no)
   | none=>.no)
  | none=>.no)
 | .ex C s1=>.ex C s1
 | .no=>.no
section
variable {R:RC}{ix:List Nat}{hd:List (Nat×Addr)}{X:Cx}{H H':Hp}{σ:L2.St}{ts:Ts}{fr:List T}
theorem Cf.swap{t:T}{m fr:List T}(C:Cf R ix hd H σ ts (m++(t::fr))):Cf R ix hd H σ ts (t::(m++fr)):=by
 have ok:=T.oks_app.mp C.fok
 refine C.less (x:=[]) ⟨ok.2.1,T.oks_app.mpr ⟨ok.1,ok.2.2⟩⟩ ?_ fun b hb=>?_
 ·refine Qs.mpr fun b=>?_
  simp only [T.owns_cons,T.owns_app,Jd,Jg];omega
 ·left
  simp only [T.ros_cons,T.ros_app,Qf] at hb ⊢
  rcases hb with hb | hb | hb <;> simp [hb]
theorem Cf.swap'{t:T}{m fr:List T}(C:Cf R ix hd H σ ts (t::(m++fr))):Cf R ix hd H σ ts (m++(t::fr)):=by
 have ok:=C.fok
 refine C.less (x:=[]) (T.oks_app.mpr ⟨(T.oks_app.mp ok.2).1,ok.1,(T.oks_app.mp ok.2).2⟩) ?_ fun b hb=>?_
 ·refine Qs.mpr fun b=>?_
  simp only [T.owns_cons,T.owns_app,Jd,Jg];omega
 ·left
  simp only [T.ros_cons,T.ros_app,Qf] at hb ⊢
  rcases hb with hb | hb | hb <;> simp [hb]
theorem Zeo{tsh:Ts}{as:List (Option T)}{l:List T}{ms:List Bool}{x:List Addr}(a4:Cf R ix hd H σ tsh (as.filterMap id++fr))(hl:ms.length=l.length)(l3:T.oks H l)
  (l5:∀ (i:Nat) t,l[i]?=some t→as[i]?=some (some t)∨(as[i]?=some none∧∃ (k:Nat) (p:List Nat) (w:Bool) (u:T),tsh[k]?=some (TL.own w u)∧u.get p=some t))
  (p1:(T.owns (as.filterMap id)).Perm (T.owns (Zf true ms l)++x)) (p2:∀ (i:Nat) t,ms[i]?=some false→as[i]?=some (some t)→∀ a∈t.own,a∈x):Ent H (fun a=>R.B a∨a∈Zc tsh∨a∈T.owns fr) ms l:=by
 have nd:=Qm.mp a4.nd
 have ndw:(T.owns (as.filterMap id)++T.owns fr).Nodup:=by have:=nd.2.1;rwa [T.owns_app] at this
 have ndw':=Qm.mp ndw
 have ndp:=Qm.mp (p1.nodup_iff.mp ndw'.1)
 have inw:∀ a,a∈T.owns (Zf true ms l)→a∈T.owns (as.filterMap id++fr):=fun a z=>by rw [T.owns_app];exact Qh _ (p1.mem_iff.mpr (Qh _ z))
 have rosl:∀ a∈T.ros l,a∈roS tsh∨a∈T.ros (as.filterMap id++fr):=fun a z=>by
  obtain ⟨t,ht,hz⟩:=T.mem_ros.mp z
  obtain ⟨i,hi⟩:=Ja.mp ht
  rcases l5 i t hi with h | ⟨_,k,p,w,u,h1,h2⟩
  ·exact .inr (by rw [T.ros_app];exact Qh _ (T.mem_ros.mpr ⟨t,Jq.mpr ⟨some t,Qg h,rfl⟩,hz⟩))
  ·obtain ⟨c,r,K⟩:=T.ctx h2
   exact .inl (Z1j.mpr ⟨w,u,Qg h1,K.ro.mem_iff.mpr (Qd _ hz)⟩)
 refine ⟨hl,l3,ndp.1,fun a z=>?_,fun a z=>?_,fun a z=>?_⟩
 ·obtain ⟨s1,s2,s3⟩:=a4.sep a (rosl a z)
  refine ⟨fun q=>s2 (inw a q),fun q=>?_⟩
  rcases q with q | q | q
  ·exact s3 q
  ·exact s1 q
  ·exact s2 (by rw [T.owns_app];exact Qd _ q)
 ·obtain ⟨t,ht,hz⟩:=T.mem_owns.mp z
  obtain ⟨i,hi,hm⟩:=Z3E ht
  rcases l5 i t hi with h | ⟨_,k,p,w,u,h1,h2⟩
  ·intro q
   exact ndp.2.2 a q a (p2 i t hm h a hz) rfl
  ·obtain ⟨c,r,K⟩:=T.ctx h2
   have hu:a∈u.own:=K.own.mem_iff.mpr (Qd _ hz)
   intro q
   cases w with
   | true=>exact nd.2.2 a (Z18.mpr ⟨u,Qg h1,hu⟩) a (inw a q) rfl
   | false=>exact (a4.rd a (Z3v.mpr ⟨u,Qg h1,hu⟩)).2 (inw a q)
 ·rcases z with z | z | z
  ·obtain ⟨g1,g2,g3,g4⟩:=a4.g a (a4.bg a z)
   exact ⟨fun q=>g4 (inw a q),g2⟩
  ·obtain ⟨t,ht,hz⟩:=Z18.mp z
   exact ⟨fun q=>nd.2.2 a z a (inw a q) rfl,T.there (a4.ok true t ht) (.inl hz)⟩
  ·exact ⟨fun q=>ndw'.2.2 a (p1.mem_iff.mpr (Qh _ q)) a z rfl,T.theres (T.oks_app.mp a4.fok).2 (.inl z)⟩
theorem lA_mk{C:Addr}{ms:List Bool}{fn:Fn}{f:AF}{E:XK}(σ:L2.St)(H:Hp)(Q:VK)(hms:ALen ms.length f)(q:lE R ix (eMk C ms fn f) σ H Q) :
  lA R ix f σ H fun vs H1=>∀ x dx,H1 x=none→H1 dx=none→dx≠x→spR R.ad (true::ms) fn (.ref x::vs) (upd (upd H1 dx (.own x)) x (.ins C dx [])) (fun v H2=>v=.non∧Q (.ref x) H2) E:=by
 obtain ⟨hd,ts,fr,C0,q⟩:=q
 refine ⟨hd,ts,fr,C0,?_⟩
 unfold eMk at q
 cases ef:f (ts.map TL.er) with
 | no=>rw [ef] at q;exact q
 | ex E s1=>rw [ef] at q;exact q
 | ok rs s1 =>
  rw [ef] at q
  intro H1 ts1 tvs vs e1 e2 hv C1 x dx hx hdx hne
  subst e1 e2
  have hlen:ms.length=tvs.length:=by have:=hms _ _ _ ef;simpa using this.symm
  generalize hH2:upd (upd H1 dx (.own x)) x (.ins C dx [])=H2
  have t0ok:(T.nd x (.ins true C []) []).ok H2:=⟨⟨rfl,dx,by rw [← hH2];exact Zm⟩,trivial⟩
  have N0:NewOk H1 H2 [] (T.nd x (.ins true C []) []):=by
   refine ⟨t0ok,by simp [T.own,NK.mut,T.owns],fun a z=>?_,fun a z=>?_,fun a z=>?_,fun a z=>?_⟩
   ·have:a=x:=by simpa [T.own,NK.mut,T.owns] using z
    rw [this];exact hx
   ·simp [T.ro,NK.mut,T.ros] at z
   ·simp [T.ro,NK.mut,T.ros] at z
   ·rw [← hH2,Zb (by rintro rfl;exact z hx),Zb (by rintro rfl;exact z hdx)]
  have C2:Cf R ix hd H2 σ ts1 (trs tvs++(T.nd x (.ins true C []) []::fr)):=Cf.swap' (Cf.new (m:=[]) (fr:=trs tvs++fr) C1 N0 (by simp [T.ros]))
  dsimp only at q
  cases et:takes (tvs.map TV.er) ms (ts1.map TL.er) with
  | none=>rw [et] at q;exact q.elim
  | some y =>
   obtain ⟨sh,lo⟩:=y
   rw [et] at q
   obtain ⟨hw,rfl⟩:=hv.all
   obtain ⟨tsh,as,a1,a2,a3,a4,a5,a6,a7,a8,a9,a10⟩:=Z4F hw C2 et hlen
   subst a1 a2
   have tl:=(Z3c et).2
   dsimp only at q
   cases el:fills (tsh.map TL.er) (tvs.map TV.er) (as.map (Option.map T.er)) with
   | none=>rw [el] at q;exact q.elim
   | some ds =>
    rw [el] at q
    have aok:∀ t,some t∈as→t.ok H2:=fun t z=>T.oks_iff.mp (T.oks_app.mp a4.fok).1 t (Jq.mpr ⟨some t,z,rfl⟩)
    obtain ⟨l,l1,l2,l3,l4,l5⟩:=Z7L a4 el (fun x z=>a6 x (hw x z)) aok a7 (fun i t h z=>tl i t.er (by rw [Qc,h];rfl) (by rw [Qc,z];rfl))
    have a4':Cf R ix hd H2 σ tsh ((some (T.nd x (.ins true C []) [])::as).filterMap id++fr):=by
     simp only [Ji,id,Jj]
     exact a4.swap
    have m5:∀ (i:Nat) t,(T.nd x (.ins true C []) []::l)[i]?=some t→(some (T.nd x (.ins true C []) [])::as)[i]?=some (some t)∨((some (T.nd x (.ins true C []) [])::as)[i]?=some none∧∃ (k:Nat) (p:List Nat) (w:Bool) (u:T),tsh[k]?=some (TL.own w u)∧u.get p=some t):=fun i t hi=>by
     cases i with
     | zero=>cases hi;exact .inl rfl
     | succ i=>simpa using l5 i t (by simpa using hi)
    have hml:(true::ms).length=(T.nd x (.ins true C []) []::l).length:=by simp [hlen,l4,a3]
    obtain ⟨y,p1,p2⟩:=Z6O (ms:=true::ms) (l:=T.nd x (.ins true C []) []::l) (as:=some (T.nd x (.ins true C []) [])::as) hml (by simp [l4]) (fun i t hi=>(m5 i t hi).imp id fun z=>z.1) (fun i hi=>by
     cases i with
     | zero=>cases hi
     | succ i=>simpa using a8 i (by simpa using hi))
    have ent:=Zeo a4' hml ⟨t0ok,l3⟩ m5 p1 p2
    refine ⟨T.nd x (.ins true C []) []::l,_,by simp [l2,T.val],ent,?_⟩
    rw [T.ers,l1]
    dsimp only at q
    have e0:(T.nd x (.ins true C []) []).er=.nd (.ins true C []) []:=rfl
    rw [e0]
    cases en:fn (.nd (.ins true C []) []::ds) with
    | no=>rw [en] at q;exact q.elim
    | ex E ds'=>rw [en] at q;exact q.elim
    | ok rv ds' =>
     rw [en] at q
     intro H3 l' rt v e3 e4 hr X2
     cases rv with
     | arg j qq=>exact q.elim
     | val d =>
      cases ds' with
      | nil =>
       exfalso
       cases d with
       | nd k l=>exact q
       | «at» u=>cases u <;> exact q
      | cons d0 ds' =>
       cases l' with
       | nil=>cases e3
       | cons t0 l' =>
        simp only [T.ers,Jt.injEq] at e3
        obtain ⟨rfl,rfl⟩:=e3
        cases rt with
        | arg _ _ _=>cases e4
        | val t =>
         simp only [RT.er,RV.val.injEq] at e4
         subst e4
         cases hr
         cases t with
         | nd a k l=>exact q.elim
         | «at» u =>
          cases u with
          | non =>
           refine ⟨rfl,?_⟩
           have C3:=a4'.after p1 (fun a z=>z) X2
           simp only [Zf,if_true,RT.tr] at C3
           have C4:Cf R ix hd H3 σ tsh (Zf true ms l'++(t0::fr)):=by
            have C5:Cf R ix hd H3 σ tsh (T.at .non::((t0::Zf true ms l')++fr)):=Cf.swap (m:=t0::Zf true ms l') C3
            exact Cf.swap' C5.drop
           have hvl:=X2.val
           simp only [Qi,Jt.injEq] at hvl
           obtain ⟨ts',g1,g2,g3,g4⟩:=Z60 (rest:=t0::fr) a5 hlen (hvl.2.trans l2) C4 a9
           exact q H3 ts' (.val t0) (.ref x) g1 rfl hvl.1.symm g2
          | _=>exact q.elim
theorem rc_mk{x:Str}{C:Addr}{k:Nat}{ps:List Str}{ms:List Bool}{fn:Fn}{p pos:Pos}{e:Expr}{es:List Expr}{f:AF}(D:InitX X.prog X.w X.K X.mg X.base C k ps (spR R.ad (true::ms) fn))(hr:Room (k + 1) X.A)(hm:X.mg x=some (.ref C))(ha:PA X (e::es) (lA R ix f))(hl:ALen ms.length f)(hg:Gl X x:=by rfl)(hdb:(x == ("__debug__":Str))=false:=by decide)
  (he:starEach (e::es) X.env=(false,eval e X.env)::starEach es X.env:=by rfl) (hpl:(backTo pos (starEach es X.env)).any (·.1)=false:=by rfl):PE X (.Call (.Name x p) (e::es) [] pos) (lE R ix (eMk C ms fn f)) :=
 peM (Zfe D hr hm ha hg hdb he hpl) fun σ H Q q=>lA_mk σ H Q hl q
theorem Z9F{x:Str}{C:Addr}{k:Nat}{ps:List Str}{fn:Fn}{p pos:Pos}(D:InitX X.prog X.w X.K X.mg X.base C k ps (spR R.ad [true] fn))(hr:Room (k + 1) X.A)(hm:X.mg x=some (.ref C))(hg:Gl X x:=by rfl)(hdb:(x == ("__debug__":Str))=false:=by decide):PE X (.Call (.Name x p) [] [] pos) (lE R ix (eMk C [] fn Z1)) :=
 peM (ZdL D hr hm hg hdb) fun σ H Q q=>Z7n σ H _ (lA_mk σ H Q Z93 q)

noncomputable def tryH(exm:Str→Str→Option Bool):List (Str×SF)→Str→Sd→SR
 | [],_,_=>.no
 | (x,f)::r,C,s=>match exm C x with | some true=>f s | some false=>tryH exm r C s | none=>.no
noncomputable def sTry(exm:Str→Str→Option Bool)(b:SF)(hs:List (Str×SF)):SF:=fun s=>match b s with
 | .ex C s1=>tryH exm hs C s1
 | r=>r
noncomputable def hsT(K:Qa)(R:RC)(ix:List Nat):List (Str×SF)→Value→L2.TS
 | []=>hNil
 | (x,f)::r=>hCons K (R.ad x) (lS R ix f) (hsT K R ix r)
theorem ZaA{K:Qa}{exm:Str→Str→Option Bool}(hex:∀ C x b,exm C x=some b→PySem.W.exmOne K (.ref (R.ad C)) (.ref (R.ad x))=some b){D:Ends}{C:Str}(Cc:Cf R ix hd H σ ts fr):∀ {hs:List (Str×SF)},(match tryH exm hs C (ts.map TL.er) with
  | .nx s'=>∀ H' σ' ts',ts'.map TL.er=s'→Cf R ix hd H' σ' ts' fr→D.nx σ' H'
  | .rt r s'=>∀ H' σ' ts' tv v,ts'.map TL.er=s'→tv.er=r→ZX ts' v tv→Cf R ix hd H' σ' ts' (tv.tr++fr)→D.rt v H'
  | .bk s'=>∀ H' σ' ts',ts'.map TL.er=s'→Cf R ix hd H' σ' ts' fr→D.bk σ' H'
  | .ct s'=>∀ H' σ' ts',ts'.map TL.er=s'→Cf R ix hd H' σ' ts' fr→D.ct σ' H'
  | .ex C s'=>∀ H' σ' ts',ts'.map TL.er=s'→Cf R ix hd H' σ' ts' fr→R.EX σ' (.ref (R.ad C)) none H'
  | .no=>False)→hsT K R ix hs (.ref (R.ad C)) D σ H
 | [],h=>h
 | (x,f)::r,h=>by
  simp only [tryH] at h
  cases e:exm C x with
  | none=>rw [e] at h;exact h.elim
  | some b =>
   rw [e] at h
   refine ⟨b,hex C x b e,?_⟩
   cases b with
   | true=>rw [if_pos rfl];exact ⟨hd,ts,fr,Cc,h⟩
   | false=>rw [if_neg Ql];exact ZaA hex Cc h
theorem Cf.ex{EX:L2.St→XK}(C:Cf R ix hd H σ ts fr):Cf { R with EX:=EX } ix hd H σ ts fr:=⟨C.ok,C.fok,C.nd,C.sep,C.rd,C.g,C.bg,C.bor,C.ixs,C.sl,C.hdi,C.hdx,C.len,C.hdn⟩
theorem Cf.unex{EX:L2.St→XK}(C:Cf { R with EX:=EX } ix hd H σ ts fr):Cf R ix hd H σ ts fr:=⟨C.ok,C.fok,C.nd,C.sep,C.rd,C.g,C.bg,C.bor,C.ixs,C.sl,C.hdi,C.hdx,C.len,C.hdn⟩
theorem ZbH{exm:Str→Str→Option Bool}{body:List Stmt}{h0:ExceptHandler}{hl:List ExceptHandler}{pos:Pos}{b:SF}{hs:List (Str×SF)}(hex:∀ C x b,exm C x=some b→PySem.W.exmOne X.K (.ref (R.ad C)) (.ref (R.ad x))=some b)(hstk:X.stack=X.env::X.outer)(hfr:X.env.frame=some X.env.locals)
  (hb:∀ (pn:List (Addr×Obj)) (xe:Value→Shared→Prop) (EX:L2.St→XK),Z10 (X.tr pn xe) EX→PSs (X.tr pn xe) body (lS { R with EX:=EX } ix b)) (hh:PHs X (h0::hl) (hsT X.K R ix hs)):PS X (.Try body (h0::hl) [] [] pos) (lS R ix (sTry exm b hs)):=by
 refine psM (Zfl (tb:=fun EX=>lS { R with EX:=EX } ix b) hstk hfr hb hh) fun D σ H h=>?_
 obtain ⟨hd,ts,fr,C,h⟩:=h
 refine ⟨hd,ts,fr,C.ex,?_⟩
 unfold sTry at h
 cases eb:b (ts.map TL.er) with
 | nx s'=>rw [eb] at h;intro H' σ' ts' e C';exact h H' σ' ts' e C'.unex
 | rt r s'=>rw [eb] at h;intro H' σ' ts' tv v e e2 hv C';exact h H' σ' ts' tv v e e2 hv C'.unex
 | bk s'=>rw [eb] at h;intro H' σ' ts' e C';exact h H' σ' ts' e C'.unex
 | ct s'=>rw [eb] at h;intro H' σ' ts' e C';exact h H' σ' ts' e C'.unex
 | no=>rw [eb] at h;exact h
 | ex E s' =>
  rw [eb] at h
  intro H' σ' ts' e C'
  subst e
  exact ZaA hex C'.unex h
theorem ZbG:PHs X [] (hsT X.K R ix []):=Zfh
theorem Z4y{x:Str}{np hpos:Pos}{b0:Stmt}{suite:List Stmt}{rest:List ExceptHandler}{f:SF}{hs:List (Str×SF)}(hm:X.mg x=some (.ref (R.ad x)))(hsu:∀ ea,PSs (X.inH ea) (b0::suite) (lS R ix f))(hr:PHs X rest (hsT X.K R ix hs))
  (hg:Gl X x:=by rfl) (hdb:(x == ("__debug__":Str))=false:=by decide):PHs X (.ExceptHandler (some (.Name x np)) none (b0::suite) hpos::rest) (hsT X.K R ix ((x,f)::hs)):=ZdM hm hsu hr hg hdb

noncomputable def tgN:Sd→List DV→Option Sd
 | s,[]=>some s
 | _,_=>none
noncomputable def tgC(b:Sd→DV→Option Sd)(g:Sd→List DV→Option Sd):Sd→List DV→Option Sd
 | s,r::rs=>(match b s r with | some s1=>g s1 rs | none=>none)
 | _,[]=>none
noncomputable def tgT(g:Sd→List DV→Option Sd):Sd→DV→Option Sd
 | s,.val (.nd .tup l)=>if D.imms l then g s (l.map .val) else none
 | _,_=>none
end
end RM

namespace RM
open PySem PySem.Spec PyProof.Rows L2
theorem Z1X{t:T}{v:V}(h:t.er=.at v)(hv:Z07 v=true):t=.at v:=by
 cases t with
 | nd a k l=>cases h
 | «at» u =>
  cases u with
  | ref a=>cases h;cases hv
  | _=>cases h;rfl
theorem Za0{v:V}(h:Z07 v=true):cl v=v:=by cases v <;> first | rfl | cases h
section
variable {X:Cx}{R:RC}{ix:List Nat}{H H':Hp}{σ:L2.St}
theorem gNw1{h:List D→Option D}{x:V}{Q:VK}(q:gNw h [x] H Q):∃ t:T,t.ok H∧t.val=x∧∃ d,h [t.er]=some d∧∀ t' H',t'.er=d→NewOk H H' [t] t'→Q t'.val H':=by
 obtain ⟨l,ok,hv,q⟩:=q
 obtain ⟨t,rfl,rfl⟩:=map1 hv
 exact ⟨t,ok.1,rfl,q⟩
theorem gNw2{h:List D→Option D}{x y:V}{Q:VK}(q:gNw h [x,y] H Q):∃ t u:T,t.ok H∧u.ok H∧t.val=x∧u.val=y∧∃ d,h [t.er,u.er]=some d∧∀ t' H',t'.er=d→NewOk H H' [t,u] t'→Q t'.val H':=by
 obtain ⟨l,ok,hv,q⟩:=q
 obtain ⟨t,u,rfl,rfl,rfl⟩:=map2 hv
 exact ⟨t,u,ok.1,ok.2.1,rfl,rfl,q⟩
theorem OpR.or{f:Value→Value→Sem Value}{r r':R2}(h:OpR X f r)(h':OpR X f r'):OpR X f fun x y H Q=>r x y H Q∨r' x y H Q:=fun pins s σ H x y v u Q I rx ry q=>q.elim (h pins s σ H x y v u Q I rx ry) (h' pins s σ H x y v u Q I rx ry)
theorem Z0o.or{f:Value}{r r':List V→Hp→VK→Prop}(h:Z0o X f r)(h':Z0o X f r'):Z0o X f fun x H Q=>r x H Q∨r' x H Q:=fun pins s σ H x u Q I rx q=>q.elim (h pins s σ H x u Q I rx) (h' pins s σ H x u Q I rx)

noncomputable def hI(C:Int→Int→Bool)(g:Int→Int→V):List D→Option D
 | [.at (.int i),.at (.int j)]=>if C i j then some (.at (g i j)) else none
 | _=>none
theorem Za9{C:Int→Int→Bool}{g:Int→Int→V}{a b d:D}(h:hI C g [a,b]=some d):∃ i j,a=.at (.int i)∧b=.at (.int j)∧C i j=true∧d=.at (g i j):=by
 unfold hI at h
 split at h
 case h_1 i j e =>
  cases e
  split at h
  ·cases h;exact ⟨i,j,rfl,rfl,by assumption,rfl⟩
  ·cases h
 case h_2=>cases h
theorem on_hI{f:Value→Value→Sem Value}{Cp:Int→Int→Prop}{C:Int→Int→Bool}{g:Int→Int→V}(ho:OpR X f (rI Cp g))(hC:∀ i j,C i j=true→Cp i j)(hg:∀ i j,Z07 (g i j)=true):OpR X f (oNw (hI C g)):=opM ho fun x y H Q q=>by
 obtain ⟨t,u,ht,hu,rfl,rfl,d,hh,q⟩:=gNw2 q
 obtain ⟨i,j,e1,e2,c,rfl⟩:=Za9 hh
 cases Z1X e1 rfl
 cases Z1X e2 rfl
 exact ⟨i,j,rfl,rfl,hC i j c,q (.at (g i j)) H (by rw [T.er,Za0 (hg i j)]) (.atom _)⟩
theorem Z7t{f:Value→Value→Sem Value}{g:Int→Int→V}(ho:OpR X f (rI0 g))(hg:∀ i j,Z07 (g i j)=true):OpR X f (oNw (hI (fun _ _=>true) g)):=opM ho fun x y H Q q=>by
 obtain ⟨t,u,ht,hu,rfl,rfl,d,hh,q⟩:=gNw2 q
 obtain ⟨i,j,e1,e2,c,rfl⟩:=Za9 hh
 cases Z1X e1 rfl
 cases Z1X e2 rfl
 exact ⟨i,j,rfl,rfl,q (.at (g i j)) H (by rw [T.er,Za0 (hg i j)]) (.atom _)⟩
noncomputable abbrev hSub:List D→Option D:=hI (fun _ _=>true) fun i j=>.int (i - j)
noncomputable abbrev hMul:List D→Option D:=hI (fun i j=>decide (-(2 ^ 64) < i∧i < 2 ^ 64) || decide (-(2 ^ 64) < j∧j < 2 ^ 64)) fun i j=>.int (i * j)
noncomputable abbrev hDiv:List D→Option D:=hI (fun _ j=>decide (0 < j) && decide (j < 1073741824)) fun i j=>.int (i / j)
noncomputable abbrev hMod:List D→Option D:=hI (fun _ j=>decide (0 < j)) fun i j=>.int (i % j)
noncomputable abbrev hLt:List D→Option D:=hI (fun _ _=>true) fun i j=>.bl (decide (i < j))
noncomputable abbrev hGt:List D→Option D:=hI (fun _ _=>true) fun i j=>.bl (decide (j < i))
noncomputable abbrev hGe:List D→Option D:=hI (fun _ _=>true) fun i j=>.bl (decide (j≤i))
theorem Z9u:OpR X (binaryOp .Sub) (oNw hSub):=Z7t Zfa fun _ _=>rfl
theorem Z5H:OpR X (binaryOp .Mult) (oNw hMul):=on_hI Zf9 (fun i j h=>by simpa [CMul] using h) fun _ _=>rfl
theorem Z1A:OpR X (binaryOp .FloorDiv) (oNw hDiv):=on_hI ZdG (fun i j h=>by simpa [CDiv] using h) fun _ _=>rfl
theorem Z00:OpR X (binaryOp .Mod) (oNw hMod):=on_hI Zf8 (fun i j h=>by simpa using h) fun _ _=>rfl
theorem on_lt:OpR X (compareOp .Lt) (oNw hLt):=Z7t op_lt fun _ _=>rfl
theorem on_gt:OpR X (compareOp .Gt) (oNw hGt):=Z7t op_gt fun _ _=>rfl
theorem on_ge:OpR X (compareOp .GtE) (oNw hGe):=Z7t op_ge fun _ _=>rfl

noncomputable def hEq(neg:Bool):List D→Option D
 | [.at x,.at y]=>if Z07 x && Z07 y && scal x y then some (.at (.bl (decide (x=y) != neg))) else none
 | _=>none
theorem Zco{neg:Bool}{a b d:D}(h:hEq neg [a,b]=some d):∃ x y,a=.at x∧b=.at y∧Z07 x=true∧Z07 y=true∧scal x y=true∧d=.at (.bl (decide (x=y) != neg)):=by
 unfold hEq at h
 split at h
 case h_1 x y e =>
  cases e
  split at h
  case isTrue z =>
   simp only [Qw] at z
   cases h;exact ⟨x,y,rfl,rfl,z.1.1,z.1.2,z.2,rfl⟩
  case isFalse=>cases h
 case h_2=>cases h
theorem on_eq:OpR X (compareOp .Eq) (oNw (hEq false)):=opM op_eq fun x y H Q q=>by
 obtain ⟨t,u,ht,hu,rfl,rfl,d,hh,q⟩:=gNw2 q
 obtain ⟨i,j,e1,e2,f1,f2,c,rfl⟩:=Zco hh
 cases Z1X e1 f1
 cases Z1X e2 f2
 exact ⟨c,q (.at (.bl (decide (i=j)))) H (by simp [T.er,cl]) (.atom _)⟩
noncomputable def hIsN(neg:Bool):List D→Option D
 | [.at x,.at .non]=>some (.at (.bl (decide (x=.non) != neg)))
 | [.nd _ _,.at .non]=>some (.at (.bl neg))
 | _=>none

theorem Z6K{l:List T}{k:NK}{ch:List T}{p:Addr}{o:HO}(hp:H p=none)(ho:NodeOk (upd H p o) p k (ch.map T.val))(hk:k.mut=true∨k=.tup)(hc:∀ t∈ch,t.ok H∧t.own=[])(hr:∀ a∈T.ros ch,a∈T.ros l):NewOk H (upd H p o) l (.nd p k ch):=by
 have hown:T.owns ch=[]:=by
  refine Wl.mpr fun a z=>?_
  obtain ⟨t,h1,h2⟩:=T.mem_owns.mp z
  rw [(hc t h1).2] at h2;cases h2
 have there:∀ a∈T.ros ch,a≠p:=fun a z e=>by
  obtain ⟨t,h1,h2⟩:=T.mem_ros.mp z
  exact T.there (hc t h1).1 (.inr h2) (by rw [e];exact hp)
 refine ⟨⟨ho,T.oks_iff.mpr fun t ht=>T.keep (hc t ht).1 fun a z=>?_⟩,?_,fun a z=>?_,fun a z=>?_,fun a z=>?_,fun a z=>Zb (by rintro rfl;exact z hp)⟩
 ·refine Zb ?_
  rcases z with z | z
  ·rw [(hc t ht).2] at z;cases z
  ·exact there a (T.mem_ros.mpr ⟨t,ht,z⟩)
 ·rw [T.own,hown];cases k.mut <;> simp
 ·rw [T.own,hown] at z
  have:a=p:=by revert z;cases k.mut <;> simp
  rw [this];exact hp
 ·rw [T.ro] at z
  rcases Qf.mp z with z | z
  ·left
   have:a=p:=by revert z;cases k.mut <;> simp
   rw [this];exact hp
  ·exact .inr (hr a z)
 ·rw [T.ro] at z
  rw [T.own,hown]
  rcases Qf.mp z with z | z
  ·revert z;cases k.mut <;> simp
  ·intro q
   have:a=p:=by revert q;cases k.mut <;> simp
   exact there a z this
theorem Z7W{l:List T}(h:D.imms (T.ers l)=true):∀ t∈l,t.own=[]:=fun t ht=>by
 have:=T.imms_own h
 refine Wl.mpr fun a z=>?_
 have:a∈T.owns l:=T.mem_owns.mpr ⟨t,ht,z⟩
 rw [T.imms_own h] at this;cases this
theorem Z7p{t:T}{m:Bool}{l:List D}(h:t.er=.nd (.lst m) l):∃ a ch,t=.nd a (.lst m) ch∧l=T.ers ch:=by
 cases t with
 | «at» v=>cases h
 | nd a k ch=>cases h;exact ⟨a,ch,rfl,rfl⟩
theorem ZbO{t:T}{l:List D}(h:t.er=.nd .tup l):∃ a ch,t=.nd a .tup ch∧l=T.ers ch:=by
 cases t with
 | «at» v=>cases h
 | nd a k ch=>cases h;exact ⟨a,ch,rfl,rfl⟩
theorem ZfZ(l m:List T):T.ers (l++m)=T.ers l++T.ers m:=by rw [T.ers_eq,T.ers_eq,T.ers_eq,Jk]
theorem Z1C(l:List T):(T.ers l).length=l.length:=by rw [T.ers_eq,Qo]

noncomputable def Z0j:List D→Option D
 | [.at (.int i),.at (.int j)]=>some (.at (.int (i + j)))
 | [.at (.str x),.at (.str y)]=>if x.length + y.length≤sizeLine then some (.at (.str (x++y))) else none
 | _=>none
theorem Zcm{i j:Int}:Z0j [.at (.int i),.at (.int j)]=some (.at (.int (i + j))):=rfl
theorem Zcn{x y:Str}:Z0j [.at (.str x),.at (.str y)]=if x.length + y.length≤sizeLine then some (.at (.str (x++y))) else none:=rfl
theorem Z0f:OpR X (binaryOp .Add) (oNw Z0j):=opM (OpR.or Zf7 ZaN) fun x y H Q q=>by
 obtain ⟨t,u,ht,hu,rfl,rfl,d,hh,q⟩:=gNw2 q
 cases t with
 | nd a k c=>cases hh
 | «at» v=>cases v with
  | int i=>cases u with
   | nd a k c=>cases hh
   | «at» w=>cases w with
    | int j=>cases hh;exact .inl ⟨i,j,rfl,rfl,q (.at (.int (i + j))) H rfl (.atom _)⟩
    | _=>cases hh
  | str i=>cases u with
   | nd a k c=>cases hh
   | «at» w=>cases w with
    | str j =>
     by_cases hz:i.length + j.length≤sizeLine
     ·cases (if_pos hz).symm.trans hh
      exact .inr ⟨i,j,rfl,rfl,hz,q (.at (.str (i++j))) H rfl (.atom _)⟩
     ·cases (if_neg hz).symm.trans hh
    | _=>cases hh
  | _=>cases hh
open Classical in
noncomputable def hLen(K:Qa):List D→Option D
 | [.at (.str x)]=>if x.length≤sizeLine then some (.at (.int x.length)) else none
 | [.nd (.lst _) l]=>some (.at (.int l.length))
 | [.nd .tup l]=>some (.at (.int l.length))
 | [.nd (.dic _ _) l]=>some (.at (.int l.length))
 | [.nd (.kst K') l]=>if K'=K then some (.at (.int l.length)) else none
 | _=>none
theorem Z0L:Z0o X (.builtin "len") (gNw (hLen X.K)):=callM (Z0o.or call_len ZaX) fun vs H Q q=>by
 obtain ⟨l,ok,hv,q⟩:=q
 obtain ⟨d,hh,q⟩:=q
 match l,ok,hv,hh,q with
 | [],_,_,hh,_=>cases hh
 | _::_::_,_,_,hh,_=>simp [T.ers,hLen] at hh
 | [t],ok,hv,hh,q =>
  subst hv
  simp only [T.ers] at hh
  cases t with
  | «at» v =>
   cases v with
   | str x =>
    simp only [T.er,cl,hLen] at hh
    split at hh
    ·cases hh
     exact .inl ⟨.str x,x.length,rfl,⟨by assumption,rfl⟩,q (.at (.int x.length)) H rfl (.atom _)⟩
    ·cases hh
   | _=>simp [T.er,cl,hLen] at hh
  | nd a k ch =>
   cases k with
   | lst m =>
    simp only [T.er,hLen,Option.some.injEq,Z1C] at hh
    subst hh
    exact .inl ⟨.ref a,ch.length,rfl,.inl ⟨_,ok.1.1.sqL,by simp⟩,q (.at (.int ch.length)) H rfl (.atom _)⟩
   | tup =>
    simp only [T.er,hLen,Option.some.injEq,Z1C] at hh
    subst hh
    exact .inl ⟨.ref a,ch.length,rfl,.inr ⟨_,ok.1.1.sqT,by simp⟩,q (.at (.int ch.length)) H rfl (.atom _)⟩
   | dic m ks =>
    simp only [T.er,hLen,Option.some.injEq,Z1C] at hh
    subst hh
    obtain ⟨h1,_,h2⟩:=ok.1.1
    refine .inr ⟨a,ks.zip (ch.map T.val),rfl,h2,?_⟩
    have:(ks.zip (ch.map T.val)).length=ch.length:=by
     simp only [Qo] at h1
     simp [h1]
    rw [this]
    exact q (.at (.int ch.length)) H rfl (.atom _)
   | kst K' =>
    simp only [T.er,hLen,Z1C] at hh
    split at hh
    case isTrue e =>
     subst e
     cases hh
     exact .inl ⟨.ref a,ch.length,rfl,.inl ⟨_,.inr ok.1.1,by simp⟩,q (.at (.int ch.length)) H rfl (.atom _)⟩
    case isFalse=>cases hh
   | _=>simp [T.er,hLen] at hh
theorem rc_b{x:Str}{id:String}{h:List D→Option D}{p pos:Pos}{e:Expr}{es:List Expr}{f:AF}(hc:Z0o X (.builtin id) (gNw h))(hg:Gl X x)(hm:X.mg x=none)(hv:bootBuiltins x=some (.builtin id))(ha:PA X (e::es) (lA R ix f))(hn:x ≠ "__name__":=by decide)(hdb:(x == ("__debug__":Str))=false:=by decide)
  (he:starEach (e::es) X.env=(false,eval e X.env)::starEach es X.env:=by rfl) (hpl:(backTo pos (starEach es X.env)).any (·.1)=false:=by rfl):PE X (.Call (.Name x p) (e::es) [] pos) (lE R ix (eNw h f)) :=
 peM (Z0h hc hg hm hv ha hn hdb he hpl) fun σ H Q q=>Z1v σ H Q q
theorem rc_ty{x:Str}{Ty:String}{h:List D→Option D}{p pos:Pos}{e:Expr}{es:List Expr}{f:AF}(hc:Z0o X (.type Ty) (gNw h))(hg:Gl X x)(hm:X.mg x=none)(hv:bootBuiltins x=some (.type Ty))(ha:PA X (e::es) (lA R ix f))(hn:x ≠ "__name__":=by decide)(hdb:(x == ("__debug__":Str))=false:=by decide)
  (he:starEach (e::es) X.env=(false,eval e X.env)::starEach es X.env:=by rfl) (hpl:(backTo pos (starEach es X.env)).any (·.1)=false:=by rfl):PE X (.Call (.Name x p) (e::es) [] pos) (lE R ix (eNw h f)) :=
 peM (Zbz hc hg hm hv ha hn hdb he hpl) fun σ H Q q=>Z1v σ H Q q
noncomputable def hList:List D→Option D
 | [.nd (.lst _) l]=>if D.imms l then some (.nd (.lst true) l) else none
 | [.nd .tup l]=>if D.imms l then some (.nd (.lst true) l) else none
 | _=>none
theorem Za2:Z0o X (.type "list") (gNw hList):=callM Z95 fun vs H Q q=>by
 obtain ⟨l,ok,hv,d,hh,q⟩:=q
 match l,ok,hv,hh,q with
 | [],_,_,hh,_=>cases hh
 | _::_::_,_,_,hh,_=>simp [T.ers,hList] at hh
 | [t],ok,hv,hh,q =>
  subst hv
  simp only [T.ers] at hh
  cases t with
  | «at» v=>simp [T.er,hList] at hh
  | nd a k ch =>
   have main:(SqL X.K H a (ch.map T.val)∨SqT X.K H a (ch.map T.val))→D.imms (T.ers ch)=true→d=.nd (.lst true) (T.ers ch)→(∀ b∈T.ros ch,b∈T.ros [T.nd a k ch])→∃ p ys,[(T.nd a k ch).val]=[V.ref p]∧(SqL X.K H p ys∨SqT X.K H p ys)∧∀ l,H l=none→Q (.ref l) (upd H l (.lst ys)):=by
    rintro hs hi rfl hr
    exact ⟨a,ch.map T.val,rfl,hs,fun p hp=>q (.nd p (.lst true) ch) _ rfl (Z6K hp Zm (.inl rfl) (fun t ht=>⟨T.oks_iff.mp ok.1.2 t ht,Z7W hi t ht⟩) hr)⟩
   cases k with
   | lst m =>
    simp only [T.er,hList] at hh
    split at hh
    ·cases hh
     exact main (.inl ok.1.1.sqL) (by assumption) rfl fun b hb=>by simp [T.ros,T.ro,hb]
    ·cases hh
   | tup =>
    simp only [T.er,hList] at hh
    split at hh
    ·cases hh
     exact main (.inr ok.1.1.sqT) (by assumption) rfl fun b hb=>by simp [T.ros,T.ro,hb]
    ·cases hh
   | _=>simp [T.er,hList] at hh
end
end RM

namespace RM
open PySem PySem.Spec PyProof.Rows L2
section
variable {X:Cx}{R:RC}{ix:List Nat}{H H':Hp}{σ:L2.St}{K:Qa}
theorem gCh2{h:List D→Option Sel}{x y:V}{Q:VK}(q:gCh h [x,y] H Q):∃ t u:T,t.ok H∧u.ok H∧t.val=x∧u.val=y∧∃ c v,h [t.er,u.er]=some c∧selT [t,u] c=some v∧Q v H:=by
 obtain ⟨l,ok,hv,q⟩:=q
 obtain ⟨t,u,rfl,rfl,rfl⟩:=map2 hv
 exact ⟨t,u,ok.1,ok.2.1,rfl,rfl,q⟩
open Classical in
noncomputable def hIx(K:Qa):List D→Option Sel
 | [.nd (.lst _) l,.at (.int i)]=>(ixN l.length i).map .ch
 | [.nd .tup l,.at (.int i)]=>(ixN l.length i).map .ch
 | [.nd (.kst K') l,.at (.int i)]=>if K'=K then (ixN l.length i).map .ch else none
 | [.at (.str z),.at (.int i)]=>if z.length≤sizeLine then (atI z.cps.toList i).map fun c=>.cs (.str ⟨#[c]⟩) else none
 | _=>none
theorem ixM{r r':R2}(h:IxR X r)(m:∀ x y H Q,r' x y H Q→r x y H Q):IxR X r':=fun v sl pins s σ H x y ov u Q I rx ry q hs=>h v sl pins s σ H x y ov u Q I rx ry (m _ _ _ _ q) hs
theorem ix_h:IxR X fun x y H Q=>gCh (hIx X.K) [x,y] H Q:=ixM ix_seq fun x y H Q q=>by
 obtain ⟨t,u,ht,hu,rfl,rfl,c,v,hh,hs,qq⟩:=gCh2 q
 have hi:∃ i,u=.at (.int i):=by
  cases u with
  | nd a k l=>cases t with
   | nd b k' l'=>cases k' <;> simp [T.er,hIx] at hh
   | «at» w=>cases w <;> simp [T.er,hIx,cl] at hh
  | «at» w=>cases w with
   | int i=>exact ⟨i,rfl⟩
   | _=>cases t with
    | nd b k' l'=>cases k' <;> simp [T.er,hIx,cl] at hh
    | «at» w=>cases w <;> simp [T.er,hIx,cl] at hh
 obtain ⟨i,rfl⟩:=hi
 have seq:∀ {a:Addr} {k:NK} {ch:List T},T.nd a k ch=t→(ixN (T.ers ch).length i).map Sel.ch=some c→atI (ch.map T.val) i=some v:=by
  rintro a k ch rfl h
  rw [Z1C] at h
  cases e:ixN ch.length i with
  | none=>rw [e] at h;cases h
  | some j =>
   rw [e] at h
   cases h
   unfold atI
   rw [Qo,e]
   simpa [selT] using hs
 cases t with
 | nd a k ch =>
  cases k with
  | lst m=>exact .inl ⟨a,ch.map T.val,i,v,rfl,rfl,ht.1.sqL,seq rfl (by simpa [T.er,hIx,cl] using hh),qq⟩
  | tup=>exact .inr (.inl ⟨a,ch.map T.val,i,v,rfl,rfl,ht.1.sqT,seq rfl (by simpa [T.er,hIx,cl] using hh),qq⟩)
  | kst K' =>
   have e:K'=X.K:=by
    by_cases e:K'=X.K
    ·exact e
    ·simp [T.er,hIx,cl,e] at hh
   subst e
   exact .inl ⟨a,ch.map T.val,i,v,rfl,rfl,.inr ht.1,seq rfl (by simpa [T.er,hIx,cl] using hh),qq⟩
  | _=>simp [T.er,hIx] at hh
 | «at» w =>
  cases w with
  | str z =>
   simp only [T.er,cl,hIx] at hh
   split at hh
   ·cases e:atI z.cps.toList i with
    | none=>rw [e] at hh;cases hh
    | some ch =>
     rw [e] at hh
     cases hh
     cases hs
     exact .inr (.inr ⟨z,i,ch,rfl,rfl,by assumption,e,qq⟩)
   ·cases hh
  | _=>simp [T.er,hIx,cl] at hh
theorem ZC{a b:Expr}{pos:Pos}{fa fb:EF}(ha:PE X a (lE R ix fa))(hb:PE X b (lE R ix fb))(hs:PlainIx b):PE X (.Subscript a b pos) (lE R ix (eCh (hIx X.K) (Z0 fa (Z0 fb Z1)))) :=
 peM (pe_ix ix_h ha hb hs) fun σ H Q q=>lA_2 (lA_ch σ H Q q)

noncomputable def idx(f:Str)(ns:List Str):Option Nat:=ns.findIdx? (· == f)
theorem Z4T{f:Str}{j:Nat}:∀ {ns:List Str} {vs:List V},ns.length=vs.length→idx f ns=some j→∃ v,vs[j]?=some v∧(ns.zip vs).lookup f=some v
 | [],_,_,h=>by cases h
 | n::ns,[],hl,_=>by simp at hl
 | n::ns,v::vs,hl,h=>by
  unfold idx at h
  rw [Ny] at h
  cases e:n == f with
  | true =>
   rw [e,if_pos rfl] at h
   cases h
   refine ⟨v,rfl,?_⟩
   have:f == n:=by rw [beq_iff_eq] at e ⊢;exact e.symm
   simp [Jm,this]
  | false =>
   rw [e,if_neg Ql] at h
   cases e2:ns.findIdx? (· == f) with
   | none=>rw [e2] at h;cases h
   | some k =>
    rw [e2] at h
    cases h
    obtain ⟨w,h1,h2⟩:=Z4T (f:=f) (j:=k) (ns:=ns) (vs:=vs) (by simpa using hl) e2
    refine ⟨w,by simpa using h1,?_⟩
    have:(f == n)=false:=by
     cases e3:f == n with
     | false=>rfl
     | true=>rw [beq_iff_eq] at e3;rw [e3] at e;simp at e
    simp only [Wm,Jm,this]
    exact h2
noncomputable def Z0J(C:Addr)(f:Str):List D→Option Sel
 | [.nd (.ins _ C' ns) _]=>if C'=C then (idx f ns).map .ch else none
 | _=>none
theorem Z0i{C:Addr}{f:Str}{e:Expr}{pos:Pos}{fe:EF}(c:Cls K C)(n:Zy K C f)(he:PE X e (lE R ix fe))(hb:attributeBase e f X.env (eval e X.env)=eval e X.env:=by rfl)(hK:X.K=K:=by rfl):PE X (.Attribute e f pos) (lE R ix (eCh (Z0J C f) (Z0 fe Z1))) :=
 peM (Z64 c n he hb hK) fun σ H Q q=>by
  refine Zj (fun v H1 q=>?_) (lA_1 (lA_ch σ H Q q))
  obtain ⟨l,ok,hv,sl,w,hh,hs,q⟩:=q
  obtain ⟨t,rfl,rfl⟩:=map1 hv
  simp only [T.ers] at hh
  cases t with
  | «at» u=>simp [T.er,Z0J] at hh
  | nd a k ch =>
   cases k with
   | ins m C' ns =>
    simp only [T.er,Z0J] at hh
    by_cases hC:C'=C
    ·subst hC
     rw [if_pos rfl] at hh
     cases ei:idx f ns with
     | none=>rw [ei] at hh;cases hh
     | some j =>
      rw [ei] at hh
      cases hh
      obtain ⟨h1,dx,h2⟩:=ok.1.1
      obtain ⟨u,u1,u2⟩:=Z4T h1 ei
      have:u=w:=by
       rw [Qc] at u1
       simp only [selT] at hs
       rw [u1] at hs
       cases hs;rfl
      subst this
      exact ⟨a,dx,_,u,rfl,h2,u2,q⟩
    ·rw [if_neg hC] at hh;cases hh
   | _=>simp [T.er,Z0J] at hh

noncomputable def keyD:D→Option Key
 | .at (.int i)=>some (.inl i)
 | .at (.str x)=>some (.inr x)
 | _=>none
theorem Z9n{t:T}{k:Key}(h:keyD t.er=some k):t=.at (kV k):=by
 cases t with
 | nd a q l=>simp [T.er,keyD] at h
 | «at» v=>cases v <;> simp [T.er,cl,keyD] at h <;> (subst h;rfl)
noncomputable def keysD:List D→Option (List Key)
 | []=>some []
 | d::r=>match keyD d,keysD r with | some k,some ks=>some (k::ks) | _,_=>none
theorem Z84:∀ {l:List T} {ks:List Key},keysD (T.ers l)=some ks→l.map T.val=ks.map kV
 | [],ks,h=>by cases h;rfl
 | t::l,ks,h=>by
  simp only [T.ers,keysD] at h
  cases e1:keyD t.er with
  | none=>simp [e1] at h
  | some k=>cases e2:keysD (T.ers l) with
   | none=>simp [e1,e2] at h
   | some r =>
    simp only [e1,e2,Option.some.injEq] at h
    subst h
    rw [Z9n e1,Qi,Qi,Z84 e2];rfl
noncomputable def idk{κ:Type}[DecidableEq κ](k:κ)(ks:List κ):Option Nat:=ks.findIdx? fun x=>decide (x=k)
theorem Z3U{κ:Type}[DecidableEq κ](k:κ):∀ {ks:List κ} {vs:List V},ks.length=vs.length→valV (ks.zip vs) k=(idk k ks).bind fun j=>vs[j]?
 | [],vs,h=>by cases vs with | nil=>rfl | cons=>simp at h
 | x::ks,[],h=>by simp at h
 | x::ks,v::vs,h=>by
  have ih:=Z3U k (ks:=ks) (vs:=vs) (by simpa using h)
  unfold idk at *
  rw [Wm,Ny]
  by_cases e:x=k
  ·rw [Z5a (by exact e),decide_eq_true e];rfl
  ·rw [Z59 (by exact e),decide_eq_false e,if_neg Ql,ih]
   cases List.findIdx? (fun x=>decide (x=k)) ks <;> rfl
noncomputable def Z0U:D→D→Option (Option Nat)
 | .nd (.dic _ ks) _,k=>(keyD k).map fun k=>idk k ks
 | .nd (.dit _ ks) _,.nd .tup l=>(keysD l).map fun k=>idk k ks
 | _,_=>none
theorem Z6x{t u:T}{o:Option Nat}(ht:t.ok H)(hu:u.ok H)(h:Z0U t.er u.er=some o):∃ a k ch,t=.nd a k ch∧DGet H a u.val (o.bind fun j=>(ch.map T.val)[j]?):=by
 cases t with
 | «at» v=>simp [T.er,Z0U] at h
 | nd a k ch =>
  cases k with
  | dic m ks =>
   refine ⟨a,_,ch,rfl,?_⟩
   simp only [T.er,Z0U] at h
   cases e:keyD u.er with
   | none=>rw [e] at h;cases h
   | some key =>
    rw [e] at h
    cases h
    obtain ⟨h1,_,h2⟩:=ht.1
    rw [Z9n e,← Z3U key h1]
    exact DGet.k h2
  | dit m ks =>
   refine ⟨a,_,ch,rfl,?_⟩
   cases u with
   | «at» v=>simp [T.er,Z0U] at h
   | nd b k' l =>
    cases k' with
    | tup =>
     simp only [T.er,Z0U] at h
     cases e:keysD (T.ers l) with
     | none=>rw [e] at h;cases h
     | some key =>
      rw [e] at h
      cases h
      obtain ⟨h1,_,h2⟩:=ht.1
      rw [← Z3U key h1]
      refine DGet.t h2 ?_
      rw [← Z84 e];exact hu.1
    | _=>simp [T.er,Z0U] at h
  | _=>simp [T.er,Z0U] at h
noncomputable def hDGet:List D→Option Sel
 | [d,k]=>match Z0U d k with | some (some j)=>some (.ch j) | _=>none
 | _=>none
theorem Zat{o i:Expr}{pos:Pos}{fo fi:EF}(hu:X.A.units + 1 < cLine)(ho:PE X o (lE R ix fo))(hi:PE X i (lE R ix fi))(hs:NoSl i):PE X (.Subscript o i pos) (lE R ix (eCh hDGet (Z0 fo (Z0 fi Z1)))) :=
 peM (ZdH hu ho hi hs) fun σ H Q q=>by
  refine Zj (fun x H1 q=>Zj (fun y H2 q=>?_) q) (lA_2 (lA_ch σ H Q q))
  obtain ⟨t,u,ht,hu',rfl,rfl,c,v,hh,hs',qq⟩:=gCh2 q
  simp only [hDGet] at hh
  split at hh
  case h_1 j e =>
   cases hh
   obtain ⟨a,k,ch,rfl,g⟩:=Z6x ht hu' e
   refine ⟨a,v,rfl,?_,qq⟩
   have:(some j).bind (fun j=>(ch.map T.val)[j]?)=some v:=by simpa [selT] using hs'
   rwa [this] at g
  case h_2=>cases hh
noncomputable def hDIn(neg:Bool):List D→Option D
 | [k,d]=>match Z0U d k with | some o=>some (.at (.bl (o.isSome != neg))) | none=>none
 | _=>none
theorem Z8u{neg:Bool}{k d r:D}(h:hDIn neg [k,d]=some r):∃ o,Z0U d k=some o∧r=.at (.bl (o.isSome != neg)):=by
 simp only [hDIn] at h
 split at h
 case h_1 o e=>cases h;exact ⟨o,e,rfl⟩
 case h_2=>cases h
theorem Z6m{o:Option Nat}{ch:List T}{k:NK}{a:Addr}{u:T}(h:Z0U (T.nd a k ch).er u.er=some o)(hok:(T.nd a k ch).ok H):(o.bind fun j=>(ch.map T.val)[j]?).isSome=o.isSome:=by
 cases o with
 | none=>rfl
 | some j =>
  have hj:j < ch.length:=by
   cases k with
   | dic m ks =>
    simp only [T.er,Z0U] at h
    cases e:keyD u.er with
    | none=>rw [e] at h;cases h
    | some key =>
     rw [e] at h
     simp only [Option.map_some,Option.some.injEq] at h
     have:=(Jz.mp h).1
     have h1:=hok.1.1
     simp only [Qo] at h1
     omega
   | dit m ks =>
    cases u with
    | «at» v=>simp [T.er,Z0U] at h
    | nd b k' l =>
     cases k' with
     | tup =>
      simp only [T.er,Z0U] at h
      cases e:keysD (T.ers l) with
      | none=>rw [e] at h;cases h
      | some key =>
       rw [e] at h
       simp only [Option.map_some,Option.some.injEq] at h
       have:=(Jz.mp h).1
       have h1:=hok.1.1
       simp only [Qo] at h1
       omega
     | _=>simp [T.er,Z0U] at h
   | _=>simp [T.er,Z0U] at h
  simp [hj]
theorem Z9I{i o:Expr}{fi fo:EF}(hu:X.A.units + 1 < cLine)(hi:PE X i (lE R ix fi))(ho:PE X o (lE R ix fo)):PC X .In i o (lE R ix (eNw (hDIn false) (Z0 fi (Z0 fo Z1)))):=fun pins s σ H Q I q=>Zfb hu hi ho pins s σ H Q I (by
 refine Zj (fun x H1 q=>Zj (fun y H2 q=>?_) q) (lA_2 (Z1v σ H Q q))
 obtain ⟨t,u,ht,hu',rfl,rfl,d,hh,qq⟩:=gNw2 q
 obtain ⟨oo,e,rfl⟩:=Z8u hh
 obtain ⟨a,k,ch,rfl,g⟩:=Z6x hu' ht e
 refine ⟨a,_,rfl,g,?_⟩
 rw [Z6m e hu']
 exact qq (.at (.bl oo.isSome)) H2 (by simp [T.er,cl]) (.atom _))
theorem ZdW{i o:Expr}{fi fo:EF}(hu:X.A.units + 1 < cLine)(hi:PE X i (lE R ix fi))(ho:PE X o (lE R ix fo)):PC X .NotIn i o (lE R ix (eNw (hDIn true) (Z0 fi (Z0 fo Z1)))):=fun pins s σ H Q I q=>Zby hu hi ho pins s σ H Q I (by
 refine Zj (fun x H1 q=>Zj (fun y H2 q=>?_) q) (lA_2 (Z1v σ H Q q))
 obtain ⟨t,u,ht,hu',rfl,rfl,d,hh,qq⟩:=gNw2 q
 obtain ⟨oo,e,rfl⟩:=Z8u hh
 obtain ⟨a,k,ch,rfl,g⟩:=Z6x hu' ht e
 refine ⟨a,_,rfl,g,?_⟩
 rw [Z6m e hu']
 exact qq (.at (.bl (!oo.isSome))) H2 (by simp [T.er,cl]) (.atom _))

noncomputable def hGet2:List D→Option Sel
 | [d,k,_]=>match Z0U d k with | some (some j)=>some (.ch j) | some none=>some (.ar 2) | none=>none
 | _=>none
noncomputable def isDic:D→Bool
 | .nd (.dic _ _) _=>true | .nd (.dit _ _) _=>true | _=>false
end
end RM

namespace RM
open PySem PySem.Spec PyProof.Rows L2
noncomputable def vals:List DV→Option (List D)
 | []=>some []
 | .val d::r=>(match vals r with | some l=>some (d::l) | none=>none)
 | .plc _ _::_=>none
noncomputable def Z04(k:NK)(f:AF):EF:=fun s=>match f s with
 | .ok rs s1=>(match vals rs with | some l=>if l.length≤sizeLine then .ok (.val (.nd k l)) s1 else .no | none=>.no)
 | .ex C s1=>.ex C s1
 | .no=>.no
section
variable {X:Cx}{R:RC}{ix:List Nat}{hd:List (Nat×Addr)}{H H':Hp}{σ:L2.St}{K:Qa}{ts:Ts}{fr:List T}
theorem Zc5:∀ {tvs:List TV} {vs:List V} {l:List D},vals (tvs.map TV.er)=some l→TvsOk ts vs tvs→∃ ch:List T,trs tvs=ch∧T.ers ch=l∧ch.map T.val=vs
 | [],_,_,h,.nil=>by cases h;exact ⟨[],rfl,rfl,rfl⟩
 | tv::tvs,_,l,h,.cons hv hr=>by
  cases tv with
  | plc k p a=>simp [TV.er,vals] at h
  | val t =>
   simp only [Qi,TV.er,vals] at h
   cases e:vals (tvs.map TV.er) with
   | none=>rw [e] at h;cases h
   | some r =>
    rw [e] at h
    cases h
    obtain ⟨ch,h1,h2,h3⟩:=Zc5 e hr
    refine ⟨t::ch,?_,by rw [T.ers,h2],by rw [Qi,h3,hv]⟩
    show [t]++trs tvs=t::ch
    rw [h1];rfl
theorem Cf.wrap{ch:List T}{k:NK}{p:Addr}{o:HO}(C:Cf R ix hd H σ ts (ch++fr))(hp:H p=none)(ho:NodeOk (upd H p o) p k (ch.map T.val))(hko:k.out=false:=by rfl):Cf R ix hd (upd H p o) σ ts (.nd p k ch::fr):=by
 obtain ⟨f1,f2,f3,f4,f5,f6⟩:=C.fresh hp
 have ok:=T.oks_app.mp C.fok
 have kp:∀ a,H a≠none→upd H p o a=H a:=fun a z=>Zb (by rintro rfl;exact z hp)
 rw [T.owns_app] at f4
 rw [T.ros_app] at f5
 simp only [Qf,not_or] at f4 f5
 have eo:T.owns (.nd p k ch::fr)=(if k.mut then [p] else [])++(T.owns ch++T.owns fr):=by rw [T.owns_cons,T.own,Qp]
 have er:T.ros (.nd p k ch::fr)=(if k.mut then [] else [p])++(T.ros ch++T.ros fr):=by rw [T.ros_cons,T.ro,hko,Bool.or_false,Qp]
 have hin:∀ a,a∈(if k.mut then [p] else [])→a=p:=fun a z=>by revert z;cases k.mut <;> simp
 have hin':∀ a,a∈(if k.mut then [] else [p])→a=p∧k.mut=false:=fun a z=>by revert z;cases k.mut <;> simp
 refine ⟨fun w t z=>T.keep (C.ok w t z) fun a q=>kp a (T.there (C.ok w t z) q),⟨⟨ho,T.keeps ok.1 fun a q=>kp a (T.theres ok.1 q)⟩,T.keeps ok.2 fun a q=>kp a (T.theres ok.2 q)⟩,?_,fun a z=>?_,fun a z=>?_,fun a z=>?_,C.bg,C.bor,C.ixs,C.sl,C.hdi,C.hdx,C.len,C.hdn⟩
 ·rw [eo]
  have nd:=C.nd
  rw [T.owns_app] at nd
  have n1:=Qm.mp nd
  refine Qm.mpr ⟨n1.1,Qm.mpr ⟨by cases k.mut <;> simp,n1.2.1,fun a za b zb e=>?_⟩,fun a za b zb e=>?_⟩
  ·subst e
   rw [hin a za] at zb
   exact (Qf.mp zb).elim f4.1 f4.2
  ·subst e
   rcases Qf.mp zb with zb | zb
   ·rw [hin a zb] at za;exact f1 za
   ·exact n1.2.2 a za a zb rfl
 ·rw [eo]
  rw [er] at z
  have zz:=z
  have main:∀ a,a∈roS ts∨a∈T.ros (ch++fr)→a∉Zc ts∧a∉(if k.mut then [p] else [])++(T.owns ch++T.owns fr)∧¬ R.B a:=by
   clear z
   intro a z
   obtain ⟨s1,s2,s3⟩:=C.sep a z
   rw [T.owns_app] at s2
   refine ⟨s1,fun q=>?_,s3⟩
   rcases Qf.mp q with q | q
   ·have e:=hin a q
    rw [e] at z
    rcases z with z | z
    ·exact f2 z
    ·rw [T.ros_app] at z;exact (Qf.mp z).elim f5.1 f5.2
   ·exact s2 q
  rcases zz with z | z
  ·exact main a (.inl z)
  ·rcases Qf.mp z with z | z
   ·obtain ⟨rfl,hm⟩:=hin' a z
    refine ⟨f1,fun q=>?_,fun q=>f6 (C.bg a q)⟩
    rw [hm] at q
    simp only [Wz,if_false,Js] at q
    exact (Qf.mp q).elim f4.1 f4.2
   ·exact main a (.inr (by rw [T.ros_app];exact z))
 ·rw [eo]
  obtain ⟨s1,s2⟩:=C.rd a z
  rw [T.owns_app] at s2
  refine ⟨s1,fun q=>?_⟩
  rcases Qf.mp q with q | q
  ·rw [hin a q] at z;exact f3 z
  ·exact s2 q
 ·rw [eo]
  obtain ⟨g1,g2,g3,g4⟩:=C.g a z
  rw [T.owns_app] at g4
  refine ⟨(kp a g2).trans g1,by rw [kp a g2];exact g2,g3,fun q=>?_⟩
  rcases Qf.mp q with q | q
  ·rw [hin a q] at z;exact f6 z
  ·exact g4 q
theorem Zaj{k:NK}{f:AF}{o:List V→HO}(hko:k.out=false)(hk:∀ (H:Hp) p vs,NodeOk (upd H p (o vs)) p k vs)(σ:L2.St)(H:Hp)(Q:VK)(q:lE R ix (Z04 k f) σ H Q):lA R ix f σ H fun vs H1=>vs.length≤sizeLine∧∀ p,H1 p=none→Q (.ref p) (upd H1 p (o vs)):=by
 obtain ⟨hd,ts,fr,C,q⟩:=q
 refine ⟨hd,ts,fr,C,?_⟩
 unfold Z04 at q
 cases ef:f (ts.map TL.er) with
 | no=>rw [ef] at q;exact q
 | ex E s1=>rw [ef] at q;exact q
 | ok rs s1 =>
  rw [ef] at q
  intro H1 ts1 tvs vs e1 e2 hv C1
  subst e1 e2
  dsimp only at q
  cases ev:vals (tvs.map TV.er) with
  | none=>rw [ev] at q;exact q.elim
  | some l =>
   rw [ev] at q
   obtain ⟨ch,c1,c2,c3⟩:=Zc5 ev hv
   subst c2 c3
   rw [c1] at C1
   dsimp only at q
   by_cases hz:(T.ers ch).length≤sizeLine
   ·rw [if_pos hz] at q
    refine ⟨by rw [Z1C] at hz;simpa using hz,fun p hp=>?_⟩
    exact q _ ts1 (.val (.nd p k ch)) (.ref p) rfl rfl rfl (C1.wrap hp (hk H1 p _) hko)
   ·rw [if_neg hz] at q;exact q.elim
theorem Z3J{es:List Expr}{x1}{pos:Pos}{f:AF}(h:PA X es (lA R ix f)):PE X (.Tuple es x1 pos) (lE R ix (Z04 .tup f)):=peM (Z9y h) fun σ H Q q=>Zaj (k:=.tup) (o:=HO.tup) rfl (fun _ _ _=>Zm) σ H Q q
theorem Z2H{es:List Expr}{pos:Pos}{f:AF}(h:PA X es (lA R ix f)):PE X (.List es pos) (lE R ix (Z04 (.lst true) f)):=peM (Zfd h) fun σ H Q q=>Zaj (k:=.lst true) (o:=HO.lst) rfl (fun _ _ _=>Zm) σ H Q q
theorem Z4x{pos:Pos}:PE X (.Dict [] [] pos) (lE R ix (Z04 (.dic true []) Z1)):=peM ZcH fun σ H Q q=>by
 obtain ⟨hd,ts,fr,C,q⟩:=q
 intro p hp
 refine q _ ts (.val (.nd p (.dic true []) [])) (.ref p) rfl rfl rfl (Cf.wrap (ch:=[]) C hp ⟨rfl,Wr,Zm⟩)
theorem ZdV{pos:Pos}:PE X (.Dict [] [] pos) (lE R ix (Z04 (.dit true []) Z1)):=peM ZcI fun σ H Q q=>by
 obtain ⟨hd,ts,fr,C,q⟩:=q
 intro p hp
 refine q _ ts (.val (.nd p (.dit true []) [])) (.ref p) rfl rfl rfl (Cf.wrap (ch:=[]) C hp ⟨rfl,Wr,Zm⟩)

noncomputable def ZQ(C:Addr)(f:Str):List D→Option Mu
 | [_,.nd (.ins true C' ns) l]=>if C'=C∧l.length < 1000 then (match idx f ns with | some j=>some (.set j 0) | none=>some (.add (.ins true C (ns++[f])) 0)) else none
 | _=>none
theorem Z9C{f:Str}{v:V}:∀ {ns:List Str} {vs:List V},ns.length=vs.length→Z19 f v (ns.zip vs)=match idx f ns with | some j=>ns.zip (vs.set j v) | none=>(ns++[f]).zip (vs++[v])
 | [],[],_=>rfl
 | [],_::_,h=>by simp at h
 | _::_,[],h=>by simp at h
 | n::ns,u::vs,h=>by
  have ih:=Z9C (f:=f) (v:=v) (ns:=ns) (vs:=vs) (by simpa using h)
  unfold idx at *
  rw [Wm,Ny]
  cases e:n == f with
  | true =>
   rw [if_pos rfl]
   have:n=f:=by simpa using e
   subst this
   simp [Z19]
  | false =>
   rw [if_neg Ql]
   have hne:¬ n=f:=by simpa using e
   have:Z19 f v ((n,u)::ns.zip vs)=(n,u)::Z19 f v (ns.zip vs):=by simp [Z19,hne]
   rw [this,ih]
   cases ns.findIdx? (· == f) <;> rfl
theorem ZP{C:Addr}{f:Str}{o value:Expr}{pos pos':Pos}{fo fv:EF}(c:Cls K C)(n:Zy K C f)(ho:PE X o (lE R ix fo))(hv:PE X value (lE R ix fv))(hs:swapsWith value (some (.Attribute o f pos')) pos.line X.env=pure false:=by rfl)(hK:X.K=K:=by rfl) :
  PS X (.Assign [.Attribute o f pos'] value pos) (lS R ix (sE (eMu 1 (ZQ C f) (Z0 fv (Z0 fo Z1))))):=psM (ZdQ c n ho hv hs hK) fun D σ H h=>by
 have h1:=lA_2 (lA_mu σ H (fun _ H1=>D.nx σ H1) (lS_e D σ H h))
 refine Zj (fun y H1 q=>Zj (fun x H2 q=>?_) q) h1
 obtain ⟨l,ok,hvl,a,kd,ch,op,hl,hm,hh,q⟩:=q
 obtain ⟨tv,to,rfl,rfl,rfl⟩:=map2 hvl
 cases hl
 simp only [T.ers,T.er] at hh
 cases kd with
 | ins m C' ns =>
  cases m with
  | false=>simp [ZQ] at hh
  | true =>
   simp only [ZQ] at hh
   split at hh
   case isFalse=>cases hh
   case isTrue z =>
    obtain ⟨rfl,hlt⟩:=z
    obtain ⟨h1,dx,h2⟩:=ok.2.1.1
    rw [Z1C] at hlt
    refine ⟨a,dx,_,rfl,h2,?_,?_⟩
    ·simp only [Nr,Qo] at h1 ⊢;omega
    ·rw [Z9C h1]
     cases ei:idx f ns with
     | none =>
      rw [ei] at hh
      cases hh
      obtain ⟨x,hx,q⟩:=q
      cases hx
      refine q _ ⟨by simp at h1 ⊢;omega,dx,rfl⟩
     | some j =>
      rw [ei] at hh
      cases hh
      obtain ⟨x,hx,_,q⟩:=q
      cases hx
      exact q _ ⟨by simpa using h1,dx,rfl⟩
 | _=>simp [ZQ] at hh

noncomputable def Z1J:List D→Option Mu
 | [_,.nd (.dic true ks) l,k]=>if l.length < sizeLine then (match keyD k with | some k=>(match idk k ks with | some j=>some (.set j 0) | none=>some (.add (.dic true (ks++[k])) 0)) | none=>none) else none
 | [_,.nd (.dit true ks) l,.nd .tup kl]=>if l.length < sizeLine then (match keysD kl with | some k=>(match idk k ks with | some j=>some (.set j 0) | none=>some (.add (.dit true (ks++[k])) 0)) | none=>none) else none
 | _=>none
theorem Z9D{κ:Type}[DecidableEq κ]{k:κ}{v:V}:∀ {ks:List κ} {vs:List V},ks.length=vs.length→ks.Nodup→putK (ks.zip vs) k v=match idk k ks with | some j=>ks.zip (vs.set j v) | none=>(ks++[k]).zip (vs++[v]):=by
 intro ks vs hl hn
 cases e:idk k ks with
 | none =>
  have:valV (ks.zip vs) k=none:=by rw [Z3U k hl,e];rfl
  rw [ZcL v this]
  dsimp only
  rw [List.zip_append hl];rfl
 | some j =>
  have hj:=Jz.mp e
  obtain ⟨h1,h2,h3⟩:=hj
  have hk:ks[j]=k:=by simpa using h2
  have hv:valV (ks.zip vs) k=some (vs[j]'(by omega)):=by
   rw [Z3U k hl,e]
   simp [show j < vs.length by omega]
  unfold putK
  rw [Z58,hv]
  simp only [Option.isSome_some,if_true]
  refine Wf fun i=>?_
  rw [Qc,Qab,Qab,Wh,Wh,Qn]
  by_cases hij:j=i
  ·subst hij
   rw [if_pos rfl,if_pos (by omega),Qj h1,Qj (show j < vs.length by omega)]
   simp [hk]
  ·rw [if_neg hij]
   cases e1:ks[i]? with
   | none=>rfl
   | some x =>
    cases e2:vs[i]? with
    | none=>rfl
    | some y =>
     have hx:x≠k:=by
      rintro rfl
      obtain ⟨hi,rfl⟩:=Qe.mp e1
      exact hij ((Gh hn).mp hk)
     simp [hx]
theorem Z9j{κ:Type}[DecidableEq κ]{k:κ}{ks:List κ}(h:idk k ks=none):k∉ks:=fun z=>by
 have:=Gf.mp h k z
 simp at this
theorem Zfo{Q:Hp→Prop}{v d k:T}(hk:k.ok H){a:Addr}{kd:NK}{ch:List T}{op:Mu}(hd:d=.nd a kd ch)(ok:(T.nd a kd ch).ok H)(hh:Z1J [v.er,(T.nd a kd ch).er,k.er]=some op)
  (q:match op with
   | .add kd' m=>∃ x,[v,d,k][m]?=some x∧∀ o,HoOk o kd' (ch.map T.val++[x.val])→Q (upd H a o)
   | .set j m=>∃ x,[v,d,k][m]?=some x∧j < ch.length∧∀ o,HoOk o kd ((ch.map T.val).set j x.val)→Q (upd H a o)):∃ H4,DPut H a k.val v.val H4∧Q H4:=by
 subst hd
 cases kd with
 | dic m ks =>
  cases m with
  | false=>simp [T.er,Z1J] at hh
  | true =>
   simp only [T.er,Z1J] at hh
   split at hh
   case isFalse=>cases hh
   case isTrue hz =>
    cases ek:keyD k.er with
    | none=>rw [ek] at hh;cases hh
    | some key =>
     rw [ek] at hh
     obtain ⟨h1,h2,h3⟩:=ok.1
     have hzl:(ks.zip (ch.map T.val)).length < sizeLine:=by
      rw [Z1C] at hz
      simp only [Nr];simp only [Qo] at h1 ⊢;omega
     refine ⟨_,by rw [Z9n ek];exact DPut.k h3 hzl,?_⟩
     rw [Z9D h1 h2]
     dsimp only at hh
     cases ei:idk key ks with
     | none =>
      rw [ei] at hh
      cases hh
      obtain ⟨x,hx,q⟩:=q
      cases hx
      refine q _ ⟨by simp at h1 ⊢;omega,Z86 h2 (Z9j ei),rfl⟩
     | some j =>
      rw [ei] at hh
      cases hh
      obtain ⟨x,hx,_,q⟩:=q
      cases hx
      exact q _ ⟨by simpa using h1,h2,rfl⟩
 | dit m ks =>
  cases m with
  | false=>cases k with
   | «at» u=>simp [T.er,Z1J] at hh
   | nd b k' l=>cases k' <;> simp [T.er,Z1J] at hh
  | true =>
   cases k with
   | «at» u=>simp [T.er,Z1J] at hh
   | nd b k' kl =>
    cases k' with
    | tup =>
     simp only [T.er,Z1J] at hh
     split at hh
     case isFalse=>cases hh
     case isTrue hz =>
      cases ek:keysD (T.ers kl) with
      | none=>rw [ek] at hh;cases hh
      | some key =>
       rw [ek] at hh
       obtain ⟨h1,h2,h3⟩:=ok.1
       have hzl:(ks.zip (ch.map T.val)).length < sizeLine:=by
        rw [Z1C] at hz
        simp only [Nr];simp only [Qo] at h1 ⊢;omega
       refine ⟨_,DPut.t h3 (show H b=some (.tup (key.map kV)) by rw [← Z84 ek];exact hk.1) hzl,?_⟩
       rw [Z9D h1 h2]
       dsimp only at hh
       cases ei:idk key ks with
       | none =>
        rw [ei] at hh
        cases hh
        obtain ⟨x,hx,q⟩:=q
        cases hx
        refine q _ ⟨by simp at h1 ⊢;omega,Z86 h2 (Z9j ei),rfl⟩
       | some j =>
        rw [ei] at hh
        cases hh
        obtain ⟨x,hx,_,q⟩:=q
        cases hx
        exact q _ ⟨by simpa using h1,h2,rfl⟩
    | _=>simp [T.er,Z1J] at hh
 | _=>cases k with
  | «at» u=>simp [T.er,Z1J] at hh
  | nd b k' l=>cases k' <;> simp [T.er,Z1J] at hh
theorem Zav{o i value:Expr}{pos pos':Pos}{fo fi fv:EF}(hu:X.A.units + 1 < cLine)(ho:PE X o (lE R ix fo))(hi:PE X i (lE R ix fi))(hv:PE X value (lE R ix fv))(hs:swapsWith value (some (.Subscript o i pos')) pos.line X.env=pure false:=by rfl) :
  PS X (.Assign [.Subscript o i pos'] value pos) (lS R ix (sE (eMu 1 Z1J (Z0 fv (Z0 fo (Z0 fi Z1)))))):=psM (ZdO hu ho hi hv hs) fun D σ H h=>by
 have h1:=lA_3 (lA_mu σ H (fun _ H1=>D.nx σ H1) (lS_e D σ H h))
 refine Zj (fun v H1 q=>Zj (fun x H2 q=>Zj (fun y H3 q=>?_) q) q) h1
 obtain ⟨l,ok,hvl,a,kd,ch,op,hl,hm,hh,qq⟩:=q
 obtain ⟨tv,r,rfl,e1⟩:∃ t r,l=t::r∧r.map T.val=[x,y]:=by
  cases l with
  | nil=>cases hvl
  | cons t r=>exact ⟨t,r,rfl,(Jt.inj hvl).2⟩
 obtain ⟨td,tk,rfl,rfl,rfl⟩:=map2 e1
 cases (Jt.inj hvl).1
 cases hl
 obtain ⟨H4,p1,p2⟩:=Zfo (Q:=fun H1=>D.nx σ H1) (v:=tv) (k:=tk) ok.2.2.1 rfl ok.2.1 hh (by cases op <;> exact qq)
 exact ⟨a,H4,rfl,p1,p2⟩

noncomputable def Z15:D→Bool
 | .nd (.lst _) _=>true | _=>false
noncomputable def hApp:List D→Option Mu
 | [.nd (.lst true) l,_]=>if l.length < sizeLine then some (.add (.lst true) 1) else none
 | _=>none
theorem Z5J{o e:Expr}{apos cpos:Pos}{fo fe:EF}(ho:PE X o (lE R ix fo))(he:PE X e (lE R ix fe))(hbase:attributeBase o "append" X.env (eval o X.env)=eval o X.env:=by rfl)
  (hfew:((backTo cpos (starEach [e] X.env)).all (fun x=>!x.1) && (backToKw cpos (keywordEach [] X.env)).all (fun x=>x.1.isSome) && decide ([e].length + ([]:List Keyword).length + (if ([]:List Keyword).isEmpty then 0 else 1) < 30))=true:=by rfl)
  (hline:(apos.endLine == cpos.line)=true:=by rfl) (hs:starEach [e] X.env=(false,eval e X.env)::starEach [] X.env:=by rfl) (hplain:(backTo cpos (starEach [] X.env)).any (·.1)=false:=by rfl) :
  PE X (.Call (.Attribute o "append" apos) [e] [] cpos) (lE R ix (eMu 0 hApp (Z0 (Zn Z15 fo) (Z0 fe Z1)))) :=
 peM (pe_bm PySem.F.plainAttrs_list PySem.F.slot_list_append PySem.F.type_list_append Z5A ho (Zk he Z01 hs) hbase hfew hline hs hplain) fun σ H Q q=>by
  have q1:=lA_2 (lA_mu σ H Q q)
  refine Zj (fun x H1 q=>?_) (Z3C q1)
  obtain ⟨⟨t0,rfl,t2,t3⟩,q⟩:=q
  obtain ⟨a,k,ch,rfl,hD⟩:∃ a m ch,t0=.nd a (.lst m) ch∧SqL X.K H1 a (ch.map T.val):=by
   cases t0 with
   | «at» v=>simp [T.er,Z15] at t3
   | nd a k ch=>cases k with
    | lst m=>exact ⟨a,m,ch,rfl,t2.1.sqL⟩
    | _=>simp [T.er,Z15] at t3
  refine ⟨.inl ⟨rfl,_,hD⟩,Zj (fun y H2 q=>?_) q⟩
  obtain ⟨l,ok,hvl,a',kd,ch',op,hl,hm,hh,q⟩:=q
  obtain ⟨tl,te,rfl,e1,rfl⟩:=map2 hvl
  cases hl
  cases e1
  simp only [T.ers,T.er] at hh
  cases kd with
  | lst m =>
   cases m with
   | false=>simp [hApp] at hh
   | true =>
    simp only [hApp] at hh
    split at hh
    case isFalse=>cases hh
    case isTrue hz =>
     cases hh
     obtain ⟨x,hx,q⟩:=q
     cases hx
     exact ⟨a,ch'.map T.val,te.val,rfl,rfl,ok.1.1,by rw [Z1C] at hz;simpa using hz,q _ rfl⟩
  | _=>simp [hApp] at hh
end
theorem ZS{X:Cx}{R:RC}{ix:List Nat}{a b:Expr}{op:CmpOp}{pos:Pos}{h:List D→Option D}{fa fb:EF}(ho:OpR X (compareOp op) (oNw h))(ha:PE X a (lE R ix fa))(hb:PE X b (lE R ix fb))(hm:behindInMarks op b=false):PT X (.Compare a [op] [b] pos) (lT R ix (bV (eNw h (Z0 fa (Z0 fb Z1))))) :=
 ptM (Z2W ho ha hb hm) fun σ H Q q=>lA_2 (Z1v σ H _ (lT_v σ H Q q))
theorem Z67{X:Cx}{R:RC}{ix:List Nat}{a b:Expr}{op:CmpOp}{pos:Pos}{fe:EF}(h:PC X op a b (lE R ix fe))(h1:behindInMarks op b=false:=by first | exact nobehind _ (by decide) (by decide) | rfl):PT X (.Compare a [op] [b] pos) (lT R ix (bV fe)) :=
 ptM (Zfm h h1) fun σ H Q q=>lT_v σ H Q q
end RM

namespace RM
open PySem PySem.Spec PyProof.Rows L2
noncomputable def augGo(k:Nat)(p:List Nat)(sel:D→Option Nat)(g:Int→Int→Int)(fe:EF)(s1:Sd):SR:=match Zw s1 (.plc k p),s1[k]? with
 | some (.nd kd l),some (.own true _)=>(match sel (.nd kd l) with
  | some j=>(match l[j]? with
   | some (.at (.int x))=>(match fe (s1++[.bor k p]) with
    | .ok (.val (.at (.int y))) s2=>(match unh s1.length k p s2 with
     | some s3=>(match Zw s3 (.plc k p),s3[k]? with
      | some (.nd kd' l'),some (.own true _)=>(match sel (.nd kd' l') with
       | some j'=>if kd'.mut=true∧j' < l'.length then .nx (wr s3 k p (.nd kd' (l'.set j' (.at (.int (g x y))))) fun i=>i != j') else .no
       | none=>.no)
      | _,_=>.no)
     | none=>.no)
    | .ok _ _=>.no
    | .ex C s2=>(match unx s1.length s2 with | some s3=>.ex C s3 | none=>.no)
    | .no=>.no)
   | _=>.no)
  | none=>.no)
 | _,_=>.no
noncomputable def selF(C:Addr)(f:Str):D→Option Nat
 | .nd (.ins true C' ns) l=>if C'=C∧l.length < 1000 then idx f ns else none
 | _=>none
noncomputable def selI(i:Int):D→Option Nat
 | .nd (.lst true) l=>if 0≤i∧i < l.length then some i.toNat else none
 | _=>none
noncomputable def sAugF(C:Addr)(f:Str)(g:Int→Int→Int)(fo fe:EF):SF:=fun s=>match fo s with
 | .ok (.plc k p) s1=>augGo k p (selF C f) g fe s1
 | .ok _ _=>.no
 | .ex C s1=>.ex C s1
 | .no=>.no
noncomputable def sAugI(g:Int→Int→Int)(fo fi fe:EF):SF:=fun s=>match Z0 fo (Z0 fi Z1) s with
 | .ok [.plc k p,.val (.at (.int i))] s1=>augGo k p (selI i) g fe s1
 | .ok _ _=>.no
 | .ex C s1=>.ex C s1
 | .no=>.no
section
variable {X:Cx}{R:RC}{ix:List Nat}{hd:List (Nat×Addr)}{H H':Hp}{σ:L2.St}{K:Qa}{ts:Ts}{fr:List T}
end
section
variable {X:Cx}{R:RC}{ix:List Nat}{hd:List (Nat×Addr)}{H H':Hp}{σ:L2.St}{K:Qa}{ts:Ts}{fr:List T}
theorem Cf.fill{p:Addr}{kd kd':NK}{l l' m:List T}{x:List Addr}{o:HO}(C:Cf R ix hd H σ ts (.nd p kd l::(m++fr)))(hm:kd.mut=true)(hm':kd'.mut=true)(ho:NodeOk (upd H p o) p kd' (l'.map T.val))(hl:∀ t∈l',t.ok H)(hown:(T.owns l++T.owns m).Perm (T.owns l'++x))(hro:∀ a∈T.ros l',a∈T.ros l∨a∈T.ros m):Cf R ix hd (upd H p o) σ ts (.nd p kd' l'::fr):=by
 have eo:T.owns (.nd p kd l::(m++fr))=p::(T.owns l++(T.owns m++T.owns fr)):=by rw [T.owns_cons,T.own,hm,T.owns_app];simp
 have er:T.ros (.nd p kd l::(m++fr))=T.ros l++(T.ros m++T.ros fr):=by rw [T.ros_cons,T.ro,hm,T.ros_app];simp
 have eo':T.owns (.nd p kd' l'::fr)=p::(T.owns l'++T.owns fr):=by rw [T.owns_cons,T.own,hm'];simp
 have er':T.ros (.nd p kd' l'::fr)=T.ros l'++T.ros fr:=by rw [T.ros_cons,T.ro,hm'];simp
 have nd:=C.nd
 rw [eo] at nd
 have pm:(Zc ts++p::(T.owns l++(T.owns m++T.owns fr))).Perm ((Zc ts++p::(T.owns l'++T.owns fr))++x):=by
  refine Qs.mpr fun b=>?_
  have:=Qs.mp hown b
  simp only [Jd,List.count_cons] at this ⊢;omega
 have nd2:=Qm.mp (pm.nodup_iff.mp nd)
 have n1:=Qm.mp nd
 have n2:=Jr.mp n1.2.1
 have pS:p∉Zc ts:=fun z=>n1.2.2 p z p Qy rfl
 have pro:∀ a,a∈roS ts∨a∈T.ros l++(T.ros m++T.ros fr)→a≠p:=fun a z e=>by
  have:=(C.sep a (by rw [er];exact z)).2.1
  rw [eo,e] at this
  exact this Qy
 have prd:∀ a,a∈rdS ts→a≠p:=fun a z e=>by
  have:=(C.rd a z).2
  rw [eo,e] at this
  exact this Qy
 have sub:∀ a,a∈p::(T.owns l'++T.owns fr)→a∈p::(T.owns l++(T.owns m++T.owns fr)):=fun a z=>by
  rcases Qx.mp z with rfl | z
  ·exact Qy
  ·refine Qt _ ?_
   rcases Qf.mp z with z | z
   ·have:=hown.mem_iff.mpr (Qh x z)
    simp only [Qf] at this ⊢
    rcases this with z | z <;> simp [z]
   ·simp [z]
 have fok:=C.fok
 have ffr:=(T.oks_app.mp fok.2).2
 refine ⟨fun w t z=>T.keep (C.ok w t z) fun a q=>Zb ?_,⟨⟨ho,T.oks_iff.mpr fun t ht=>T.keep (hl t ht) fun a q=>Zb ?_⟩,T.keeps ffr fun a q=>Zb ?_⟩,?_,fun a z=>?_,fun a z=>?_,fun a z=>?_,C.bg,C.bor,C.ixs,C.sl,C.hdi,C.hdx,C.len,C.hdn⟩
 ·rintro rfl
  rcases q with q | q
  ·cases w with
   | true=>exact pS (Z18.mpr ⟨t,z,q⟩)
   | false=>exact prd a (Z3v.mpr ⟨t,z,q⟩) rfl
  ·exact pro a (.inl (Z1j.mpr ⟨w,t,z,q⟩)) rfl
 ·rintro rfl
  rcases q with q | q
  ·have:=hown.mem_iff.mpr (Qh x (T.mem_owns.mpr ⟨t,ht,q⟩))
   apply n2.1
   simp only [Qf] at this ⊢
   rcases this with z | z <;> simp [z]
  ·refine pro a (.inr ?_) rfl
   have:=hro a (T.mem_ros.mpr ⟨t,ht,q⟩)
   simp only [Qf]
   rcases this with z | z <;> simp [z]
 ·rintro rfl
  rcases q with q | q
  ·exact n2.1 (by simp [q])
  ·exact pro a (.inr (by simp [q])) rfl
 ·rw [eo'];exact nd2.1
 ·rw [eo']
  rw [er'] at z
  have:a∈roS ts∨a∈T.ros (.nd p kd l::(m++fr)):=by
   rw [er]
   simp only [Qf] at z ⊢
   rcases z with z | z | z
   ·exact .inl z
   ·rcases hro a z with z | z <;> simp [z]
   ·simp [z]
  obtain ⟨s1,s2,s3⟩:=C.sep a this
  rw [eo] at s2
  exact ⟨s1,fun q=>s2 (sub a q),s3⟩
 ·rw [eo']
  obtain ⟨s1,s2⟩:=C.rd a z
  rw [eo] at s2
  exact ⟨s1,fun q=>s2 (sub a q)⟩
 ·rw [eo']
  obtain ⟨g1,g2,g3,g4⟩:=C.g a z
  rw [eo] at g4
  have:a≠p:=by rintro rfl;exact g4 Qy
  rw [Zb this]
  exact ⟨g1,g2,g3,fun q=>g4 (sub a q)⟩

noncomputable def pairsA:List (EF×EF)→AF
 | []=>Z1
 | (k,v)::r=>Z0 k (Z0 v (pairsA r))
noncomputable def kvD:List D→Option (List Key×List D)
 | []=>some ([],[])
 | k::v::r=>(match keyD k,kvD r with | some k,some (ks,vs)=>some (k::ks,v::vs) | _,_=>none)
 | [_]=>none
noncomputable def eDict(fs:List (EF×EF)):EF:=fun s=>match pairsA fs s with
 | .ok rs s1=>(match vals rs with
  | some l=>(match kvD l with | some (ks,vs)=>if ks.Nodup∧ks.length≤15 then .ok (.val (.nd (.dic true ks) vs)) s1 else .no | none=>.no)
  | none=>.no)
 | .ex C s1=>.ex C s1
 | .no=>.no
end
section
variable {X:Cx}{R:RC}{ix:List Nat}{hd:List (Nat×Addr)}{H H':Hp}{σ:L2.St}{K:Qa}{ts:Ts}{fr:List T}

noncomputable def eAppT(f:AF):EF:=fun s=>match f s with
 | .ok [.val (.nd (.lst true) l),.val _] s1=>if l.length < sizeLine then .ok (.val (.at .non)) s1 else .no
 | .ok _ _=>.no
 | .ex C s1=>.ex C s1
 | .no=>.no

noncomputable def killN(j:Nat)(s:Sd):Sd:=(s.map (Z1l j)).set j .non
theorem Cf.killN{i j:Nat}(C:Cf R ix hd H σ ts fr)(hix:ix[i]?=some j):Cf R ix hd H σ ((ts.map (Zh j)).set j .non) fr:=by
 have hj:j < ts.length:=C.ixs j (Qg hix)
 obtain ⟨y0,hy0⟩:∃ y0,ts[j]?=some y0:=⟨ts[j],Qj hj⟩
 have hy0':(ts.map (Zh j))[j]?=some (Zh j y0):=by rw [Qc,hy0];rfl
 obtain ⟨x1,z1,o1,o2⟩:=Z1h (f:=TL.own1) hy0'
 obtain ⟨x2,z2,r1,r2⟩:=Z1h (f:=TL.ro1) hy0'
 obtain ⟨x3,z3,d1,d2⟩:=Z1h (f:=TL.rd1) hy0'
 rw [Z2A (by intros;rfl)] at o1 r1 d1
 have fO:Zc ts=x1++((Zh j y0).own1++z1):=o1
 have fR:roS ts=x2++((Zh j y0).ro1++z2):=r1
 have fD:rdS ts=x3++((Zh j y0).rd1++z3):=d1
 have gO:Zc ((ts.map (Zh j)).set j .non)=x1++z1:=by unfold Zc;rw [o2];rfl
 have gR:roS ((ts.map (Zh j)).set j .non)=x2++z2:=by unfold roS;rw [r2];rfl
 have gD:rdS ((ts.map (Zh j)).set j .non)=x3++z3:=by unfold rdS;rw [d2];rfl
 have s1:∀ a,a∈x1++z1→a∈Zc ts:=fun a z=>by rw [fO];simp only [Qf] at z ⊢;rcases z with z | z <;> simp [z]
 have s2:∀ a,a∈x2++z2→a∈roS ts:=fun a z=>by rw [fR];simp only [Qf] at z ⊢;rcases z with z | z <;> simp [z]
 have s3:∀ a,a∈x3++z3→a∈rdS ts:=fun a z=>by rw [fD];simp only [Qf] at z ⊢;rcases z with z | z <;> simp [z]
 have slot:∀ (j':Nat) (s:TL),((ts.map (Zh j)).set j .non)[j']?=some s→(j'=j∧s=.non)∨(j'≠j∧∃ s0,ts[j']?=some s0∧s=Zh j s0):=by
  intro j' s hs
  rw [Qn] at hs
  by_cases h:j=j'
  ·subst h
   rw [if_pos rfl,if_pos (by simpa using hj)] at hs
   cases hs;exact .inl ⟨rfl,rfl⟩
  ·rw [if_neg h,Qc] at hs
   cases e:ts[j']? with
   | none=>rw [e] at hs;cases hs
   | some s0=>rw [e] at hs;cases hs;exact .inr ⟨Ne.symm h,s0,rfl,rfl⟩
 have vv:∀ (j':Nat) (s:TL) (v:V),((ts.map (Zh j)).set j .non)[j']?=some s→s.v=some v→∃ s0,ts[j']?=some s0∧s0.v=some v:=by
  intro j' s v hs hv
  rcases slot j' s hs with ⟨rfl,rfl⟩ | ⟨_,s0,h0,rfl⟩
  ·cases hv
  ·refine ⟨s0,h0,?_⟩
   rcases Z02 (j:=j) s0 with ⟨e',_⟩ | ⟨e',_⟩
   ·rwa [e'] at hv
   ·rw [e'] at hv;cases hv
 have lenS:((ts.map (Zh j)).set j TL.non).length=ts.length:=by simp
 refine ⟨fun w u hu=>?_,C.fok,?_,fun b z=>?_,fun b z=>?_,fun b z=>?_,C.bg,fun j' k q b hj'=>?_,fun j' hj'=>by rw [lenS];exact C.ixs j' hj',fun i' j' s u h1 h2 h3=>?_,fun j' b hb=>by rw [lenS];exact C.hdi j' b hb,C.hdx,C.len,fun j' b hb s u h2 h3=>?_⟩
 ·obtain ⟨j',hj'⟩:=Ja.mp hu
  rcases slot j' _ hj' with ⟨rfl,e⟩ | ⟨_,s0,h0,e⟩
  ·cases e
  ·rcases Z02 (j:=j) s0 with ⟨e',_⟩ | ⟨e',_⟩
   ·rw [e'] at e;subst e;exact C.ok w u (Qg h0)
   ·rw [e'] at e;cases e
 ·rw [gO]
  have nd:=C.nd
  rw [fO] at nd
  have pm:((x1++((Zh j y0).own1++z1))++T.owns fr).Perm ((x1++z1++T.owns fr)++(Zh j y0).own1):=by
   refine Qs.mpr fun b=>?_
   simp only [Jd];omega
  exact (Qm.mp (pm.nodup_iff.mp nd)).1
 ·rw [gO]
  obtain ⟨q1,q2,q3⟩:=C.sep b (z.imp (fun z=>s2 b (by rwa [gR] at z)) id)
  exact ⟨fun q=>q1 (s1 b q),q2,q3⟩
 ·rw [gO]
  rw [gD] at z
  obtain ⟨q1,q2⟩:=C.rd b (s3 b z)
  exact ⟨fun q=>q1 (s1 b q),q2⟩
 ·rw [gO]
  obtain ⟨g1,g2,g3,g4⟩:=C.g b z
  exact ⟨g1,g2,fun q=>g3 (s1 b q),g4⟩
 ·rcases slot j' _ hj' with ⟨rfl,e⟩ | ⟨_,s0,h0,e⟩
  ·cases e
  ·rcases Z02 (j:=j) s0 with ⟨e',hne⟩ | ⟨e',_⟩
   ·rw [e'] at e
    subst e
    obtain ⟨w,u,s,q1,q2,q3⟩:=C.bor j' k q b h0
    have hk:k≠j:=fun z=>hne q b (by rw [z])
    exact ⟨w,u,s,by rw [Qn,if_neg (Ne.symm hk),Qc,q1];rfl,q2,q3⟩
   ·rw [e'] at e;cases e
 ·obtain ⟨s0,q1,q2⟩:=vv j' s u h2 h3
  exact C.sl i' j' s0 u h1 q1 q2
 ·obtain ⟨s0,q1,q2⟩:=vv j' s u h2 h3
  exact C.hdn j' b hb s0 u q1 q2
noncomputable def Z1L(js:List Nat)(s:Sd):Sd:=js.foldl (fun s j=>killN j s) s
theorem Cf.Z1L{js:List Nat}:∀ {ts:Ts},(∀ j∈js,j∈ix)→Cf R ix hd H σ ts fr→∃ ts',ts'.map TL.er=RM.Z1L js (ts.map TL.er)∧Cf R ix hd H σ ts' fr:=by
 induction js with
 | nil=>intro ts _ C;exact ⟨ts,rfl,C⟩
 | cons j js ih =>
  intro ts h C
  obtain ⟨i,hi⟩:=Ja.mp (h j Qy)
  obtain ⟨ts',e,C'⟩:=ih (fun x z=>h x (Qt _ z)) (C.killN hi)
  refine ⟨ts',?_,C'⟩
  rw [e]
  show RM.Z1L js _=RM.Z1L js (RM.killN j (ts.map TL.er))
  congr 1
  unfold RM.killN
  rw [Jw,Jf,Jf]
  exact congrArg (fun l=>List.set l j DL.non) (Wc fun s _=>Z48 s)
noncomputable def sKill(js:List Nat)(f:SF):SF:=fun s=>match f s with
 | .nx s1=>.nx (Z1L js s1)
 | .ct s1=>.ct (Z1L js s1)
 | .bk s1=>.bk (Z1L js s1)
 | r=>r
theorem Z3K{js:List Nat}{sts:List Stmt}{f:SF}(hj:∀ j∈js,j∈ix)(h:PSs X sts (lS R ix f)):PSs X sts (lS R ix (sKill js f)):=pssM h fun D σ H q=>by
 obtain ⟨hd,ts,fr,C,q⟩:=q
 refine ⟨hd,ts,fr,C,?_⟩
 unfold sKill at q
 cases ef:f (ts.map TL.er) with
 | nx s=>rw [ef] at q;intro H' σ' ts' e C';subst e;obtain ⟨t2,e2,C2⟩:=C'.Z1L hj;exact q H' σ' t2 e2 C2
 | ct s=>rw [ef] at q;intro H' σ' ts' e C';subst e;obtain ⟨t2,e2,C2⟩:=C'.Z1L hj;exact q H' σ' t2 e2 C2
 | bk s=>rw [ef] at q;intro H' σ' ts' e C';subst e;obtain ⟨t2,e2,C2⟩:=C'.Z1L hj;exact q H' σ' t2 e2 C2
 | rt r s=>rw [ef] at q;exact q
 | ex E s=>rw [ef] at q;exact q
 | no=>rw [ef] at q;exact q

noncomputable def Scr(K:Qa)(k:NK):Prop:=k=.lst false∨k=.kst K
noncomputable def scD(k:NK)(ns:List Int):D:=.nd k (ns.map fun n=>.at (.int n))
noncomputable def spLaw(K:Qa):Sp:=fun vs H Q _=>∃ (a:Addr) (ns:List Int),vs=[.ref a]∧SqL K H a (ns.map V.int)∧ns.length≤63∧∀ H',Q (.bl true) H'
theorem ZbL{a:Addr}{ns:List Int}{E:XK}(hl:ns.length≤63)(hS:SqL K H a (ns.map V.int)):spLaw K [.ref a] H (fun v _=>v=.bl true) E:=⟨a,ns,rfl,hS,hl,fun _=>rfl⟩
theorem Zf3{ad:Str→Addr}{fn:Fn}(h:∀ k ns,Scr K k→ns.length≤63→∃ ds,fn [scD k ns]=.ok (.val (.at (.bl true))) ds){vs:List V}{Q:VK}{E:XK}(q:spLaw K vs H Q E):spR ad [false] fn vs H Q E:=by
 obtain ⟨a,ns,rfl,hS,hl,q⟩:=q
 have main:∀ k,Scr K k→NodeOk H a k (ns.map V.int)→spR ad [false] fn [.ref a] H Q E:=by
  intro k hk hn
  obtain ⟨ds,e⟩:=h k ns hk hl
  have vm:(ns.map fun n=>T.at (.int n)).map T.val=ns.map V.int:=by rw [Jf];rfl
  have em:T.ers (ns.map fun n=>T.at (.int n))=ns.map fun n=>D.at (.int n):=by rw [T.ers_eq,Jf];rfl
  refine ⟨[.nd a k (ns.map fun n=>.at (.int n))],fun _=>False,rfl,⟨rfl,⟨⟨by rw [vm];exact hn,T.oks_iff.mpr fun t ht=>?_⟩,trivial⟩,Wr,fun b _=>⟨by simp [Zf,T.owns],fun z=>z⟩,fun b _=>by simp [Zf,T.owns],fun b z=>z.elim⟩,?_⟩
  ·obtain ⟨n,_,rfl⟩:=Jx.mp ht;trivial
  ·have:T.ers [T.nd a k (ns.map fun n=>.at (.int n))]=[scD k ns]:=by simp only [T.ers,T.er,em,scD]
   rw [this,e]
   intro H' l' rt v _ e2 hr _
   cases rt with
   | arg _ _ _=>cases e2
   | val t =>
    simp only [RT.er,RV.val.injEq] at e2
    have:=Z1X e2 rfl
    subst this
    cases hr
    exact q H'
 rcases hS with hS | hS
 ·exact main (.lst false) (.inl rfl) hS
 ·exact main (.kst K) (.inr rfl) hS
theorem DefX.imp{P:Program}{w:World}{mg:Str→Option Value}{base:Heap}{x:Str}{k:Nat}{ps:List Str}{sp sp':Sp}(D:DefX P w K mg base x k ps sp)(h:∀ vs H Q E,sp' vs H Q E→sp vs H Q E):DefX P w K mg base x k ps sp':=by
 obtain ⟨f,fd,G,rest⟩:=D.ex
 exact ⟨f,fd,G.imp h,rest⟩
end
end RM

namespace RM
open PySem PySem.Spec PyProof.Rows L2
mutual
noncomputable def toDt:D→Option Dt
 | .at .non=>some .non
 | .at (.bl b)=>some (.bl b)
 | .at (.int i)=>some (.int i)
 | .at (.str x)=>some (.str x)
 | .at _=>none
 | .nd (.lst true) l=>if l.length < sizeLine then (match Z2K l with | some r=>some (.lst r) | none=>none) else none
 | .nd .tup l=>if l.length < sizeLine then (match Z2K l with | some r=>some (.tup r) | none=>none) else none
 | .nd _ _=>none
noncomputable def Z2K:List D→Option (List Dt)
 | []=>some []
 | d::l=>match toDt d,Z2K l with | some x,some r=>some (x::r) | _,_=>none
end
mutual
theorem Z9H{H:Hp}:∀ {t:T} {d:Dt},t.ok H→toDt t.er=some d→RelD H d t.val
 | .at v,d,_,h=>by
  cases v <;> simp only [T.er,cl,toDt,Option.some.injEq,reduceCtorEq] at h <;> (subst h;rfl)
 | .nd a k l,d,ok,h=>by
  cases k with
  | lst m =>
   cases m with
   | false=>simp [T.er,toDt] at h
   | true =>
    simp only [T.er,toDt] at h
    split at h
    case isFalse=>cases h
    case isTrue hz =>
     cases e:Z2K (T.ers l) with
     | none=>rw [e] at h;cases h
     | some r =>
      rw [e] at h
      cases h
      refine ⟨a,l.map T.val,rfl,ok.1,?_,Z8f ok.2 e⟩
      rw [T.ers_eq,Qo] at hz
      simpa using hz
  | tup =>
   simp only [T.er,toDt] at h
   split at h
   case isFalse=>cases h
   case isTrue hz =>
    cases e:Z2K (T.ers l) with
    | none=>rw [e] at h;cases h
    | some r =>
     rw [e] at h
     cases h
     refine ⟨a,l.map T.val,rfl,ok.1,?_,Z8f ok.2 e⟩
     rw [T.ers_eq,Qo] at hz
     simpa using hz
  | _=>simp [T.er,toDt] at h
theorem Z8f{H:Hp}:∀ {l:List T} {r:List Dt},T.oks H l→Z2K (T.ers l)=some r→Z0S H r (l.map T.val)
 | [],r,_,h=>by simp only [T.ers,Z2K,Option.some.injEq] at h;subst h;trivial
 | t::l,r,ok,h=>by
  simp only [T.ers,Z2K] at h
  cases e1:toDt t.er with
  | none=>simp [e1] at h
  | some x =>
   cases e2:Z2K (T.ers l) with
   | none=>simp [e1,e2] at h
   | some r' =>
    simp only [e1,e2,Option.some.injEq] at h
    subst h
    exact ⟨Z9H ok.1 e1,Z8f ok.2 e2⟩
end
noncomputable def sameF(n:Nat):Fn
 | [a,b]=>match toDt a,toDt b with | some d,some d'=>if d'.dep≤n then .ok (.val (.at (.bl (Dt.eq d d')))) [a,b] else .no | _,_=>.no
 | _=>.no
theorem ZcQ{ad:Str→Addr}{n:Nat}{vs:List V}{H:Hp}{Q:VK}{E:XK}(h:spR ad [false,false] (sameF n) vs H Q E):∃ (x y:V) (d d':Dt),vs=[x,y]∧RelD H d x∧RelD H d' y∧d'.dep≤n∧∀ H',Z0V H H'→Q (.bl (Dt.eq d d')) H':=by
 obtain ⟨l,B,rfl,en,h⟩:=h
 have hl:l.length=2:=en.len.symm
 match l,hl,en,h with
 | [t,u],_,en,h =>
  simp only [T.ers,sameF] at h
  cases e1:toDt t.er with
  | none=>simp only [e1] at h
  | some d =>
   cases e2:toDt u.er with
   | none=>simp only [e1,e2] at h
   | some d' =>
    simp only [e1,e2] at h
    by_cases hd:d'.dep≤n
    case neg=>rw [if_neg hd] at h;exact h.elim
    rw [if_pos hd] at h
    refine ⟨t.val,u.val,d,d',rfl,Z9H en.ok.1 e1,Z9H en.ok.2.1 e2,hd,fun H' sm=>?_⟩
    refine h H' [t,u] (.val (.at (.bl (Dt.eq d d')))) _ rfl rfl rfl ⟨rfl,rfl,trivial,⟨trivial,trivial⟩,by simp [Zf,T.owns,RT.tr,T.own],fun a z=>?_,fun a z=>?_,fun a hn _=>?_⟩
    ·simp [Zf,T.owns,RT.tr,T.own] at z
    ·simp [Zf,T.ros,RT.tr,T.ro] at z
    ·cases e:H a with
     | none=>exact absurd e hn
     | some o=>exact sm a o e
section
variable {R:RC}{ix:List Nat}{X:Cx}{pos:Pos}
end
end RM

namespace RM
open PySem PySem.Spec PyProof.Rows L2
section
variable {s:Sd}{f g:SF}{e e':EF}{c d:BF}{a b:AF}{v:V}{j k:Nat}{p:List Nat}
theorem Zb6:Zd f g s=(match f s with | .nx s1=>g s1 | r=>r):=id rfl
theorem ev_if:sIf c f g s=(match c s with | .ok true s1=>f s1 | .ok false s1=>g s1 | .ex C s1=>.ex C s1 | .no=>.no):=id rfl
theorem ev_e:sE e s=(match e s with | .ok _ s1=>.nx s1 | .ex C s1=>.ex C s1 | .no=>.no):=id rfl
theorem Zez:Z03 e s=(match e s with | .ok r s1=>.rt r s1 | .ex C s1=>.ex C s1 | .no=>.no):=id rfl
theorem Zdl:sRetN s=.rt (.val (.at .non)) s:=id rfl
theorem Zdk:ZZ s=.nx s:=id rfl
theorem Zet:sBrk s=.bk s:=id rfl
theorem ev_ct:sCt s=.ct s:=id rfl
theorem Zes{w:Sd→DV→Option Sd}:ZV e w s=(match e s with | .ok r s1=>(match w s1 r with | some s2=>.nx s2 | none=>.no) | .ex C s1=>.ex C s1 | .no=>.no):=id rfl
theorem Zeu:eIf c e e' s=(match c s with | .ok true s1=>e s1 | .ok false s1=>e' s1 | .ex C s1=>.ex C s1 | .no=>.no):=id rfl
theorem ev_v:bV e s=(match e s with | .ok (.val (.at (.bl b))) s1=>.ok b s1 | .ok _ _=>.no | .ex C s1=>.ex C s1 | .no=>.no):=id rfl
theorem Zex:bNot c s=(match c s with | .ok b s1=>.ok (!b) s1 | r=>r):=id rfl
theorem Zer:bAnd c d s=(match c s with | .ok true s1=>d s1 | r=>r):=id rfl
theorem ev_or:bOr c d s=(match c s with | .ok false s1=>d s1 | r=>r):=id rfl
theorem ev_C:eC v s=.ok (.val (.at v)) s:=id rfl
theorem ZeC:Z3 j s=(match s[j]? with
 | some (.own _ d)=>.ok (mkV j [] d) s
 | some (.bor k p)=>(match Zw s (.plc k p) with | some d=>.ok (mkV k p d) s | none=>.no)
 | _=>.no):=id rfl
theorem Zew:Z1 s=.ok [] s:=id rfl
theorem Zdb:Z0 e a s=(match e s with
 | .ok (.val d) s1=>(match a s1 with | .ok rs s2=>.ok (.val d::rs) s2 | .ex C s2=>.ex C s2 | .no=>.no)
 | .ok (.plc k p) s1=>(match a (s1++[.bor k p]) with
  | .ok rs s2=>(match unh s1.length k p s2 with | some s3=>.ok (.plc k p::rs) s3 | none=>.no)
  | .ex C s2=>(match unx s1.length s2 with | some s3=>.ex C s3 | none=>.no) | .no=>.no)
 | .ex C s1=>.ex C s1
 | .no=>.no):=id rfl
theorem ev_nw{h:List D→Option D}:eNw h a s=(match a s with
 | .ok rs s1=>(match Z0z s1 rs with | some ds=>(match h ds with | some d=>.ok (.val d) s1 | none=>.no) | none=>.no)
 | .ex C s1=>.ex C s1
 | .no=>.no):=id rfl
theorem ev_ch{h:List D→Option Sel}:eCh h a s=(match a s with
 | .ok rs s1=>(match Z0z s1 rs with | some ds=>(match h ds with | some c=>pick rs ds s1 c | none=>.no) | none=>.no)
 | .ex C s1=>.ex C s1
 | .no=>.no):=id rfl
theorem Zdd{k:NK}:Z04 k a s=(match a s with
 | .ok rs s1=>(match vals rs with | some l=>if l.length≤sizeLine then .ok (.val (.nd k l)) s1 else .no | none=>.no)
 | .ex C s1=>.ex C s1
 | .no=>.no):=id rfl
theorem Zdc{fs:List (EF×EF)}:eDict fs s=(match pairsA fs s with
 | .ok rs s1=>(match vals rs with
  | some l=>(match kvD l with | some (ks,vs)=>if ks.Nodup∧ks.length≤15 then .ok (.val (.nd (.dic true ks) vs)) s1 else .no | none=>.no)
  | none=>.no)
 | .ex C s1=>.ex C s1
 | .no=>.no):=id rfl
theorem ev_mu{ri:Nat}{h:List D→Option Mu}:eMu ri h a s=(match a s with
 | .ok rs s1=>(match Z0z s1 rs,rs[ri]? with
  | some ds,some (.plc k p)=>(match s1[k]?,ds[ri]?,h ds with
   | some (.own true _),some (.nd kd l),some (.add kd' m)=>if kd.mut then (match rs[m]? with | some (.val x)=>.ok (.val (.at .non)) (wr s1 k p (.nd kd' (l++[x])) fun _=>true) | _=>.no) else .no
   | some (.own true _),some (.nd kd l),some (.set j m)=>if kd.mut∧j < l.length then (match rs[m]? with | some (.val x)=>.ok (.val (.at .non)) (wr s1 k p (.nd kd (l.set j x)) fun i=>i != j) | _=>.no) else .no
   | _,_,_=>.no)
  | _,_=>.no)
 | .ex C s1=>.ex C s1
 | .no=>.no):=id rfl
theorem Zd7:eAppT a s=(match a s with
 | .ok [.val (.nd (.lst true) l),.val _] s1=>if l.length < sizeLine then .ok (.val (.at .non)) s1 else .no
 | .ok _ _=>.no
 | .ex C s1=>.ex C s1
 | .no=>.no):=id rfl
theorem Zcc{chk:D→Bool}:Zn chk e s=(match e s with
 | .ok r s1=>(match Zw s1 r with | some d=>if chk d then .ok r s1 else .no | none=>.no)
 | .ex C s1=>.ex C s1
 | .no=>.no):=id rfl
theorem Zda{ms:List Bool}{fn:Fn}:Zq ms fn a s=(match a s with
 | .ok rs s1=>(match takes rs ms s1 with
  | some (sh,l)=>(match fills sh rs l with
   | some ds=>(match fn ds with
    | .ok rv ds'=>retV rs ms (gives rs ms ds' sh) rv
    | .ex C ds'=>.ex C (gives rs ms ds' sh)
    | .no=>.no)
   | none=>.no)
  | none=>.no)
 | .ex C s1=>.ex C s1
 | .no=>.no):=id rfl
theorem ev_mk{C:Addr}{ms:List Bool}{fn:Fn}:eMk C ms fn a s=(match a s with
 | .ok rs s1=>(match takes rs ms s1 with
  | some (sh,l)=>(match fills sh rs l with
   | some ds=>(match fn (.nd (.ins true C []) []::ds) with
    | .ok (.val (.at .non)) (d0::ds')=>.ok (.val d0) (gives rs ms ds' sh)
    | _=>.no)
   | none=>.no)
  | none=>.no)
 | .ex C s1=>.ex C s1
 | .no=>.no):=id rfl
theorem Zd8{C:Addr}{x:Str}{o:Int→Int→Int}:sAugF C x o e e' s=(match e s with
 | .ok (.plc k p) s1=>augGo k p (selF C x) o e' s1
 | .ok _ _=>.no
 | .ex C s1=>.ex C s1
 | .no=>.no):=id rfl
theorem Zd9{o:Int→Int→Int}{ei:EF}:sAugI o e ei e' s=(match Z0 e (Z0 ei Z1) s with
 | .ok [.plc k p,.val (.at (.int i))] s1=>augGo k p (selI i) o e' s1
 | .ok _ _=>.no
 | .ex C s1=>.ex C s1
 | .no=>.no):=id rfl
theorem Zdj{js:List Nat}:sKill js f s=(match f s with
 | .nx s1=>.nx (Z1L js s1)
 | .ct s1=>.ct (Z1L js s1)
 | .bk s1=>.bk (Z1L js s1)
 | r=>r):=id rfl
theorem Zdh{w:Sd→DV→Option Sd}:sForR a w f s=(match a s with
 | .ok [.val (.at (.int j))] s1=>if -(2 ^ 62)≤j∧j < 2 ^ 62 then Zx (itR 0 j.toNat) w f (j.toNat + 1) 0 s1 else .no
 | .ok [.val (.at (.int i)),.val (.at (.int j))] s1=>if -(2 ^ 62)≤i∧i < 2 ^ 62∧-(2 ^ 62)≤j∧j < 2 ^ 62 then Zx (itR i (j - i).toNat) w f ((j - i).toNat + 1) 0 s1 else .no
 | .ok _ _=>.no
 | .ex C s1=>.ex C s1
 | .no=>.no):=id rfl
theorem Zdg{w:Sd→DV→Option Sd}:sForL e w f s=(match e s with
 | .ok (.plc k p) s1=>(match seqOf (Zw s1 (.plc k p)) with
  | some (t,m)=>fin s1.length (Zx (itP t s1.length k p) w f (m + 1) 0 (s1++[.bor k p]))
  | none=>.no)
 | .ok (.val d) s1=>(match seqOf (some d) with
  | some (t,m)=>fin s1.length (Zx (itP t s1.length s1.length []) w f (m + 1) 0 (s1++[.own true d]))
  | none=>.no)
 | .ex C s1=>.ex C s1
 | .no=>.no):=id rfl
theorem ZeB{exm:Str→Str→Option Bool}{hs:List (Str×SF)}:sTry exm f hs s=(match f s with | .ex C s1=>tryH exm hs C s1 | r=>r):=id rfl
theorem Zch{C:Str}:Z16 C a s=(match a s with
 | .ok rs s1=>if rs.length≤1000 then .ex C s1 else .no
 | .ex C' s1=>.ex C' s1
 | .no=>.no):=id rfl
theorem ZeA{n:Nat}{ms:List Bool}{ds:List D}:Zr n ms f ds=(match f (ini n ms ds) with
 | .nx s=>ends n ms ds (.val (.at .non)) s
 | .rt r s=>ends n ms ds r s
 | .ex C s=>(match outs s n ms ds with | some ds'=>.ex C ds' | none=>.no)
 | _=>.no):=id rfl
end
theorem ZeP{k:Nat}{p:List Nat}{kp:Nat→Bool}{w:Bool}{d:D}:killD k p kp (.own w d)=.own w d:=rfl
theorem ZeO{k:Nat}{p:List Nat}{kp:Nat→Bool}:killD k p kp .non=.non:=rfl
theorem ZeN{k:Nat}{p:List Nat}{kp:Nat→Bool}{k':Nat}{q:List Nat}:killD k p kp (.bor k' q)=if decide (k'=k) && (match RM.sub p q with | some i=>!kp i | none=>false) then .non else .bor k' q:=rfl
theorem ZbU{j:Nat}{w:Bool}{d:D}:Z1l j (.own w d)=.own w d:=rfl
theorem ZbT{j:Nat}:Z1l j .non=.non:=rfl
theorem ZfF{j k:Nat}{q:List Nat}:Z1l j (.bor k q)=if k=j then .non else .bor k q:=rfl
theorem ZfE:RM.sub [] []=none:=rfl
theorem ZfD{i:Nat}{q:List Nat}:RM.sub [] (i::q)=some i:=rfl
theorem sub_cn{i:Nat}{q:List Nat}:RM.sub (i::q) []=none:=rfl
theorem ZfC{x y:Nat}{p q:List Nat}:RM.sub (x::p) (y::q)=if x=y then RM.sub p q else none:=rfl
theorem Z85{it:Nat→Sd→Option (Option DV)}{b:Sd→DV→Option Sd}{body:SF}{P:Nat→Sd→Prop}{n:Nat}
  (hs:∀ i s,i < n→P i s→∃ r s1 s2,it i s=some (some r)∧b s r=some s1∧(body s1=.nx s2∨body s1=.ct s2)∧P (i + 1) s2) (he:∀ s,P n s→it n s=some none) :
  ∀ m i s,i + m=n→P i s→∃ s',Zx it b body (m + 1) i s=.nx s'∧P n s'
 | 0,i,s,hi,h=>by
  have:i=n:=by omega
  subst this
  exact ⟨s,by simp only [Zx,he s h],h⟩
 | m + 1,i,s,hi,h=>by
  obtain ⟨r,s1,s2,h1,h2,h3,h4⟩:=hs i s (by omega) h
  obtain ⟨s',h5,h6⟩:=Z85 hs he m (i + 1) s2 (by omega) h4
  refine ⟨s',?_,h6⟩
  rw [← h5,Zx,h1]
  dsimp only
  rw [h2]
  dsimp only
  rcases h3 with h3 | h3 <;> rw [h3]
theorem Z9p{lo:Int}{n:Nat}{b:Sd→DV→Option Sd}{body:SF}{s:Sd}(P:Nat→Sd→Prop)(h0:P 0 s)
  (hs:∀ (i:Nat) s,i < n→P i s→∃ s1 s2,b s (.val (.at (.int (lo + i))))=some s1∧(body s1=.nx s2∨body s1=.ct s2)∧P (i + 1) s2) :
  ∃ s',Zx (itR lo n) b body (n + 1) 0 s=.nx s'∧P n s' :=
 Z85 (P:=P) (fun i s hi h=>by
  obtain ⟨s1,s2,h1,h2,h3⟩:=hs i s hi h
  exact ⟨_,s1,s2,by unfold itR;rw [if_pos hi],h1,h2,h3⟩) (fun s h=>by unfold itR;rw [if_neg (Jo _)]) n 0 s (by omega) h0
theorem ZcB{t:Bool}{n k:Nat}{p:List Nat}{l:List D}{kd:NK}{b:Sd→DV→Option Sd}{body:SF}{s:Sd}(hk:t=false∧(∃ m,kd=.lst m)∨t=true∧kd=.tup)(P:Nat→Sd→Prop)(h0:P 0 s)
  (hh:∀ i s,P i s→held n k p s=true∧Zw s (.plc k p)=some (.nd kd l))
  (hs:∀ (i:Nat) s c,l[i]?=some c→P i s→∃ s1 s2,b s (mkV k (p++[i]) c)=some s1∧(body s1=.nx s2∨body s1=.ct s2)∧P (i + 1) s2) :
  ∃ s',Zx (itP t n k p) b body (l.length + 1) 0 s=.nx s'∧P l.length s':=by
 have it:∀ i s,P i s→itP t n k p i s=some ((l[i]?).map (mkV k (p++[i]))):=by
  intro i s h
  obtain ⟨h1,h2⟩:=hh i s h
  unfold itP
  rw [h1,h2]
  rcases hk with ⟨rfl,m,rfl⟩ | ⟨rfl,rfl⟩ <;> rfl
 refine Z85 (P:=P) (fun i s hi h=>?_) (fun s h=>?_) l.length 0 s (by omega) h0
 ·obtain ⟨s1,s2,h1,h2,h3⟩:=hs i s l[i] (Qj hi) h
  exact ⟨_,s1,s2,by rw [it i s h,Qj hi];rfl,h1,h2,h3⟩
 ·rw [it _ s h,We (Qq _)];rfl

noncomputable def DtN(n:Nat)(a:D):Prop:=∃ d,toDt a=some d∧d.dep≤n
theorem Z9b{n:Nat}{i:Int}:DtN (n + 1) (.at (.int i)):=⟨.int i,rfl,by simp [Dt.dep]⟩
theorem Z6T{n:Nat}{i:Str}:DtN (n + 1) (.at (.str i)):=⟨.str i,rfl,by simp [Dt.dep]⟩
theorem Z7K{n:Nat}:∀ {l:List D},(∀ x∈l,DtN n x)→∃ r,Z2K l=some r∧Dt.deps r≤n
 | [],_=>⟨[],rfl,Wq _⟩
 | x::l,h=>by
  obtain ⟨d,h1,h2⟩:=h x Qy
  obtain ⟨r,h3,h4⟩:=Z7K fun y hy=>h y (Qt _ hy)
  exact ⟨d::r,by rw [Z2K,h1,h3],Nat.max_le.mpr ⟨h2,h4⟩⟩
theorem Zen{n:Nat}{l:List D}(hl:l.length < sizeLine)(h:∀ x∈l,DtN n x):DtN (n + 1) (.nd (.lst true) l):=by
 obtain ⟨r,h1,h2⟩:=Z7K h
 exact ⟨.lst r,by rw [toDt,if_pos hl,h1],Gi h2⟩
theorem Zb4{n:Nat}{l:List D}(hl:l.length < sizeLine)(h:∀ x∈l,DtN n x):DtN (n + 1) (.nd .tup l):=by
 obtain ⟨r,h1,h2⟩:=Z7K h
 exact ⟨.tup r,by rw [toDt,if_pos hl,h1],Gi h2⟩
theorem ZcR{n:Nat}{a:D}(h:DtN n a):sameF n [a,a]=.ok (.val (.at (.bl true))) [a,a]:=by
 obtain ⟨d,h1,h2⟩:=h
 simp only [sameF,h1,if_pos h2,(Dt.eq_iff d d).mpr rfl]
theorem ixN_0{n:Nat}(h:0 < n):ixN n 0=some 0:=by unfold ixN;rw [if_pos (by omega),if_pos (by omega)];rfl
theorem ixN_1{n:Nat}(h:1 < n):ixN n 1=some 1:=by unfold ixN;rw [if_pos (by omega),if_pos (by omega)];rfl
theorem ixN_2{n:Nat}(h:2 < n):ixN n 2=some 2:=by unfold ixN;rw [if_pos (by omega),if_pos (by omega)];rfl
theorem ixN_3{n:Nat}(h:3 < n):ixN n 3=some 3:=by unfold ixN;rw [if_pos (by omega),if_pos (by omega)];rfl
theorem ixN_4{n:Nat}(h:4 < n):ixN n 4=some 4:=by unfold ixN;rw [if_pos (by omega),if_pos (by omega)];rfl
theorem ixN_5{n:Nat}(h:5 < n):ixN n 5=some 5:=by unfold ixN;rw [if_pos (by omega),if_pos (by omega)];rfl
theorem ixN_6{n:Nat}(h:6 < n):ixN n 6=some 6:=by unfold ixN;rw [if_pos (by omega),if_pos (by omega)];rfl
theorem ixN_7{n:Nat}(h:7 < n):ixN n 7=some 7:=by unfold ixN;rw [if_pos (by omega),if_pos (by omega)];rfl
theorem ixN_8{n:Nat}(h:8 < n):ixN n 8=some 8:=by unfold ixN;rw [if_pos (by omega),if_pos (by omega)];rfl
theorem ixN_9{n:Nat}(h:9 < n):ixN n 9=some 9:=by unfold ixN;rw [if_pos (by omega),if_pos (by omega)];rfl
theorem ZeI{n:Nat}(h:10 < n):ixN n 10=some 10:=by unfold ixN;rw [if_pos (by omega),if_pos (by omega)];rfl
theorem ZeJ{n:Nat}(h:11 < n):ixN n 11=some 11:=by unfold ixN;rw [if_pos (by omega),if_pos (by omega)];rfl
theorem ZeK{n:Nat}(h:12 < n):ixN n 12=some 12:=by unfold ixN;rw [if_pos (by omega),if_pos (by omega)];rfl
section
variable {K:Qa}
theorem Zcs{x:Str}:hLen K [.at (.str x)]=if x.length≤sizeLine then some (.at (.int x.length)) else none:=rfl
theorem Zcr{m:Bool}{l:List D}:hLen K [.nd (.lst m) l]=some (.at (.int l.length)):=rfl
theorem Zct{l:List D}:hLen K [.nd .tup l]=some (.at (.int l.length)):=rfl
theorem Zcp{m:Bool}{ks:List Key}{l:List D}:hLen K [.nd (.dic m ks) l]=some (.at (.int l.length)):=rfl
theorem Zcq{l:List D}:hLen K [.nd (.kst K) l]=some (.at (.int l.length)):=if_pos rfl
theorem Zdo{m:Bool}{l:List D}{i:Int}:hIx K [.nd (.lst m) l,.at (.int i)]=(ixN l.length i).map .ch:=rfl
theorem Zdq{l:List D}{i:Int}:hIx K [.nd .tup l,.at (.int i)]=(ixN l.length i).map .ch:=rfl
theorem Zdn{l:List D}{i:Int}:hIx K [.nd (.kst K) l,.at (.int i)]=(ixN l.length i).map .ch:=if_pos rfl
theorem Zdp{z:Str}{i:Int}:hIx K [.at (.str z),.at (.int i)]=if z.length≤sizeLine then (atI z.cps.toList i).map fun c=>.cs (.str ⟨#[c]⟩) else none:=rfl
end
theorem sz:sizeLine=16777216:=by decide
theorem Z6C{α:Type}{f:α→D}(h:∀ a,(f a).imm=true):∀ l:List α,D.imms (l.map f)=true
 | []=>rfl
 | a::l=>by rw [Qi,D.imms,h,Z6C h l];rfl
end RM

namespace RM
open PySem PySem.Spec PyProof.Rows L2
section
variable {X:Cx}{R:RC}{ix:List Nat}{hd:List (Nat×Addr)}{H H':Hp}{σ:L2.St}{ts:Ts}{fr:List T}{e:Expr}{pos:Pos}

noncomputable def tFmt(te:TE):TE:=fun σ H Q=>te σ H fun v H1=>(∃ i,v=.int i∧i.natAbs.log2 < 1920∧Q (.str (toString i)) H1)∨(∃ x,v=.str x∧x.length≤sizeLine∧Q (.str x) H1)
theorem ZdI{te:TE}(he:PE X e te):PE X (.FormattedValue e (-1) none pos) (tFmt te):=by
 intro pins s σ H Q I h
 refine wpAny_FormattedValue_plain (thn (he pins s σ H _ I h) fun u s1 ⟨v,H1,I1,r1,q⟩=>?_)
 rcases q with ⟨i,rfl,hz,q⟩ | ⟨x,rfl,hz,q⟩
 ·obtain ⟨t,rfl⟩:=(show ∃ t,u=Value.int i t from r1)
  exact wpAny_formatField_int hz ⟨.str (toString i),H1,I1.tok _,⟨_,rfl⟩,q⟩
 ·obtain ⟨t,rfl⟩:=(show ∃ t,u=Value.str x t from r1)
  exact wpAny_formatField_str ⟨.str x,H1,I1,⟨_,rfl⟩,q⟩ ⟨.str x,H1,I1.tok _,⟨_,rfl⟩,q⟩ hz
noncomputable def Z0K:List D→Option D
 | [.at (.int i)]=>if i.natAbs.log2 < 1920 then some (.at (.str (toString i))) else none
 | [.at (.str x)]=>if x.length≤sizeLine then some (.at (.str x)) else none
 | _=>none
theorem ers2{l:List T}{a b:D}(h:T.ers l=[a,b]):∃ t u,l=[t,u]∧t.er=a∧u.er=b:=by
 rw [T.ers_eq] at h
 exact map2 h
theorem Z0W{f:EF}(he:PE X e (lE R ix f)):PE X (.FormattedValue e (-1) none pos) (lE R ix (eNw Z0K (Z0 f Z1))) :=
 peM (ZdI he) fun σ H Q q=>Zj (fun x H1 q=>by
  obtain ⟨t,ok,rfl,d,hh,q⟩:=gNw1 q
  unfold Z0K at hh
  split at hh
  case h_1 i e1 =>
   simp only [Jt.injEq,and_true] at e1
   split at hh
   case isTrue hz=>cases hh;cases Z1X e1 rfl;exact .inl ⟨i,rfl,hz,q (.at (.str (toString i))) H1 rfl (.atom _)⟩
   case isFalse=>cases hh
  case h_2 x e1 =>
   simp only [Jt.injEq,and_true] at e1
   split at hh
   case isTrue hz=>cases hh;cases Z1X e1 rfl;exact .inr ⟨x,rfl,hz,q (.at (.str x)) H1 rfl (.atom _)⟩
   case isFalse=>cases hh
  case h_3=>cases hh) (lA_1 (Z1v σ H Q q))

noncomputable def tJoin:List TE→Str→TE
 | [],acc=>fun σ H Q=>acc.length≤sizeLine∧Q (.str acc) H
 | te::r,acc=>fun σ H Q=>te σ H fun v H1=>∃ y,v=.str y∧(acc++y).length≤sizeLine∧tJoin r (acc++y) σ H1 Q
inductive PJ(X:Cx):List Expr→List TE→Prop where
 | nil:PJ X [] []
 | cons {e:Expr} {es:List Expr} {t:TE} {ts:List TE}:PE X e t→PJ X es ts→PJ X (e::es) (t::ts)
theorem Z9m{pins:List (Addr×Obj)}{Q:VK}:∀ {es:List Expr} {tl:List TE} {acc:Str} {s:Shared} {H:Hp},PJ X es tl→Inv X pins σ H s→tJoin tl acc σ H Q →
  Joins (model X.prog X.w) X.A X.xe (evalEach es X.env) acc (fun out s1=>out.length≤sizeLine∧EP X pins σ Q (.str out s1.toks) { s1 with toks:=s1.toks + 1 }) s
 | _,_,acc,s,H,.nil,I,h=>⟨h.1,.str acc,H,I.tok _,⟨_,rfl⟩,h.2⟩
 | _,_,acc,s,H,.cons he hr,I,h=>by
  show wpAny _ _ (eval _ X.env) _ _ s
  refine thn (he pins s σ H _ I h) fun u s1 ⟨v,H1,I1,r1,y,e1,hz,q⟩=>?_
  subst e1
  obtain ⟨t,rfl⟩:=(show ∃ t,u=Value.str y t from r1)
  exact ⟨y,t,rfl,hz,Z9m hr I1 q⟩
theorem ZdK{e1 e2:Expr}{es:List Expr}{tl:List TE}(h:PJ X (e1::e2::es) tl):PE X (.JoinedStr (e1::e2::es) pos) (tJoin tl Str.empty):=fun pins s σ H Q I q=>wpAny_JoinedStr (Z9m h I q)
theorem Z2o{f:EF}(he:PE X e (lE R ix f)):PE X (.JoinedStr [e] pos) (lE R ix f):=fun pins s σ H Q I q=>wpAny_JoinedStr_one (he pins s σ H Q I q)
noncomputable def Z1a:List EF→Str→EF
 | [],acc=>fun s=>if acc.length≤sizeLine then .ok (.val (.at (.str acc))) s else .no
 | f::r,acc=>fun s=>match f s with
  | .ok (.val (.at (.str y))) s1=>if (acc++y).length≤sizeLine then Z1a r (acc++y) s1 else .no
  | .ok _ _=>.no
  | .ex C s1=>.ex C s1
  | .no=>.no
theorem Zak(σ:L2.St)(Q:VK):∀ (fs:List EF) (acc:Str) (H:Hp),lE R ix (Z1a fs acc) σ H Q→tJoin (fs.map (lE R ix)) acc σ H Q
 | [],acc,H,q=>by
  obtain ⟨hd,ts,fr,C,q⟩:=q
  unfold Z1a at q
  by_cases hz:acc.length≤sizeLine
  ·rw [if_pos hz] at q
   exact ⟨hz,q H ts (.val (.at (.str acc))) (.str acc) rfl rfl rfl (C.at _)⟩
  ·rw [if_neg hz] at q;exact q.elim
 | f::r,acc,H,q=>by
  obtain ⟨hd,ts,fr,C,q⟩:=q
  refine ⟨hd,ts,fr,C,?_⟩
  unfold Z1a at q
  cases ef:f (ts.map TL.er) with
  | no=>rw [ef] at q;exact q
  | ex E s1=>rw [ef] at q;exact q
  | ok rv s1 =>
   rw [ef] at q
   intro H1 ts1 tv v e1 e2 hv C1
   cases rv with
   | plc k p=>exact q.elim
   | val d =>
    obtain ⟨t,rfl,e3,rfl⟩:=hv.er_val e2
    cases d with
    | nd k l=>exact q.elim
    | «at» w=>cases w with
     | str y =>
      cases Z1X e3 rfl
      dsimp only at q
      by_cases hz:(acc++y).length≤sizeLine
      ·rw [if_pos hz] at q
       exact ⟨y,rfl,hz,Zak σ Q r (acc++y) H1 ⟨hd,ts1,fr,C1.drop,by rw [e1];exact q⟩⟩
      ·rw [if_neg hz] at q;exact q.elim
     | _=>exact q.elim
theorem ZdU{e1 e2:Expr}{es:List Expr}{fs:List EF}(h:PJ X (e1::e2::es) (fs.map (lE R ix))):PE X (.JoinedStr (e1::e2::es) pos) (lE R ix (Z1a fs Str.empty)):=peM (ZdK h) fun σ H Q q=>Zak σ Q fs Str.empty H q
noncomputable def RJ(X:Cx)(R:RC)(ix:List Nat)(es:List Expr)(fs:List EF):Prop:=PJ X es (fs.map (lE R ix))
theorem Z4z:RJ X R ix [] []:=.nil
theorem Z0c{f:EF}{es:List Expr}{fs:List EF}(h:PE X e (lE R ix f))(hr:RJ X R ix es fs):RJ X R ix (e::es) (f::fs):=.cons h hr
theorem Z2X{e1 e2:Expr}{es:List Expr}{fs:List EF}(h:RJ X R ix (e1::e2::es) fs):PE X (.JoinedStr (e1::e2::es) pos) (lE R ix (Z1a fs Str.empty)):=ZdU h

noncomputable def hNeg:List D→Option D
 | [.at (.int i)]=>some (.at (.int (-i)))
 | _=>none
noncomputable def hInt:List D→Option D
 | [.at (.int i)]=>some (.at (.int i))
 | [.at (.bl b)]=>some (.at (.int (if b then 1 else 0)))
 | _=>none
noncomputable def hStrI:List D→Option D
 | [.at (.int i)]=>if i.natAbs.log2 < 1920 then some (.at (.str (toString i))) else none
 | _=>none
noncomputable def hMax:List D→Option D
 | [.at (.int i),.at (.int j)]=>some (.at (.int (if j > i then j else i)))
 | _=>none
noncomputable def hMin:List D→Option D
 | [.at (.int i),.at (.int j)]=>some (.at (.int (if j < i then j else i)))
 | _=>none
end
end RM

namespace RM
open PySem PySem.Spec PyProof.Rows L2
section
variable {X:Cx}{pins:List (Addr×Obj)}{σ:L2.St}{H:Hp}{s:Shared}{a:Addr}{kvs:List (Key×V)}{A:Around}{E:Value→Shared→Prop}{k:Key}{u r:Value}{d:V}
end
noncomputable def setG2(s1:Sd)(k:Nat)(p:List Nat)(x:D)(ky:D):D→ER DV
  | .nd (.dic true ks) l=>(match s1[k]?,keyD ky with
   | some (.own true _),some key=>(match idk key ks with
    | some j=>(match l[j]? with | some c=>.ok (mkV k (p++[j]) c) s1 | none=>.no)
    | none=>if l.length < sizeLine then .ok (mkV k (p++[l.length]) x) (wr s1 k p (.nd (.dic true (ks++[key])) (l++[x])) fun _=>true) else .no)
   | _,_=>.no)
  | _=>.no
noncomputable def setG1(s1:Sd)(k:Nat)(p:List Nat)(x:D):Option (List D)→ER DV
  | some [d0,ky,_]=>setG2 s1 k p x ky d0
  | _=>.no
noncomputable def setGo(s1:Sd):List DV→ER DV
  | [.plc k p,r1,.val x]=>setG1 s1 k p x (Z0z s1 [.plc k p,r1,.val x])
  | _=>.no
noncomputable def eSetD(f:AF):EF:=fun s=>match f s with
 | .ok rs s1=>setGo s1 rs
 | .ex C s1=>.ex C s1
 | .no=>.no
section
variable {R:RC}{ix:List Nat}{hd:List (Nat×Addr)}{X:Cx}{e:Expr}{H H':Hp}{σ:L2.St}{ts:Ts}{fr:List T}
end

section
variable {X:Cx}{R:RC}{ix:List Nat}{e:Expr}{st:Stmt}
end

theorem Zdm{a:AF}{s:Sd}:eSetD a s=(match a s with
 | .ok rs s1=>setGo s1 rs
 | .ex C s1=>.ex C s1
 | .no=>.no):=id rfl
theorem Zck{s1:Sd}{k:Nat}{p:List Nat}{r1:DV}{x:D}:setGo s1 [.plc k p,r1,.val x]=setG1 s1 k p x (Z0z s1 [.plc k p,r1,.val x]):=id rfl
theorem Zci{s1:Sd}{k:Nat}{p:List Nat}{x d0 ky dx:D}:setG1 s1 k p x (some [d0,ky,dx])=setG2 s1 k p x ky d0:=id rfl
theorem Zcj{s1:Sd}{k:Nat}{p:List Nat}{x ky:D}{ks:List Key}{l:List D}:setG2 s1 k p x ky (.nd (.dic true ks) l)=(match s1[k]?,keyD ky with
   | some (.own true _),some key=>(match idk key ks with
    | some j=>(match l[j]? with | some c=>.ok (mkV k (p++[j]) c) s1 | none=>.no)
    | none=>if l.length < sizeLine then .ok (mkV k (p++[l.length]) x) (wr s1 k p (.nd (.dic true (ks++[key])) (l++[x])) fun _=>true) else .no)
   | _,_=>.no):=id rfl
theorem Zcg{C C':Addr}{m:Str}{b:Bool}{ns:List Str}{l:List D}:Zo C m (.nd (.ins b C' ns) l)=(decide (C'=C) && !ns.contains m):=rfl
theorem Zcf{m:Bool}{l:List D}:Z15 (.nd (.lst m) l)=true:=rfl
theorem Zcd{m:Bool}{ks:List Key}{l:List D}:isDic (.nd (.dic m ks) l)=true:=rfl
theorem Zce{m:Bool}{ks:List (List Key)}{l:List D}:isDic (.nd (.dit m ks) l)=true:=rfl
theorem ZdD{i:Int}(h:i.natAbs < 2 ^ 64):i.natAbs.log2 < 1920:=by
 by_cases h0:i.natAbs=0
 ·rw [h0];decide
 ·exact Qv ((Nat.log2_lt h0).mpr h) (by decide)
theorem ZdC{i:Int}(h:i.natAbs < 2 ^ 64):(Str.ofString (toString i)).length≤65:=by
 have h1:i.natAbs.log2 < 64:=by
  by_cases h0:i.natAbs=0
  ·rw [h0];decide
  ·exact (Nat.log2_lt h0).mpr h
 have:=int_text_length_le (k:=64) (by decide) h1
 rw [PySem.ofString_length];omega
end RM

namespace RM
open PySem PySem.Spec PyProof.Rows L2
noncomputable def bYes:BF:=fun s=>.ok true s
noncomputable def Z0M(it:Nat→Sd→Option (Option DV))(n:Nat)(c:BF)(e:EF):Nat→Nat→List D→Sd→ER (List D)
 | 0,_,_,_=>.no
 | m + 1,i,acc,s=>match it i s with
  | none=>.no
  | some none=>.ok acc s
  | some (some r)=>match Zt n s r with
   | none=>.no
   | some s1=>match c s1 with
    | .ok true s2=>(match e s2 with
     | .ok (.val d) s3=>if acc.length < sizeLine then Z0M it n c e m (i + 1) (acc++[d]) s3 else .no
     | _=>.no)
    | .ok false s2=>Z0M it n c e m (i + 1) acc s2
    | _=>.no
noncomputable def Z3y(n:Nat):ER (List D)→ER DV
 | .ok l s=>(match popD n s with | some s1=>.ok (.val (.nd (.lst true) l)) s1 | none=>.no)
 | _=>.no
noncomputable def Z3z(n:Nat):ER (List D)→ER DV
 | .ok l s=>(match popD (n + 1) s with | some s1=>(match popD n s1 with | some s2=>.ok (.val (.nd (.lst true) l)) s2 | none=>.no) | none=>.no)
 | _=>.no
noncomputable def eCompL(f:EF)(c:Nat→BF)(e:Nat→EF):EF:=fun s=>match f s with
 | .ok (.plc k p) s1=>(match seqOf (Zw s1 (.plc k p)) with
  | some (t,m)=>Z3z s1.length (Z0M (itP t s1.length k p) (s1.length + 1) (c (s1.length + 1)) (e (s1.length + 1)) (m + 1) 0 [] (s1++[.bor k p,.non]))
  | none=>.no)
 | .ok (.val d) s1=>(match seqOf (some d) with
  | some (t,m)=>Z3z s1.length (Z0M (itP t s1.length s1.length []) (s1.length + 1) (c (s1.length + 1)) (e (s1.length + 1)) (m + 1) 0 [] (s1++[.own true d,.non]))
  | none=>.no)
 | .ex C s1=>.ex C s1
 | .no=>.no
section
variable {R:RC}{ix:List Nat}{hd:List (Nat×Addr)}{X:Cx}{H H':Hp}{σ:L2.St}{ts:Ts}{fr:List T}
noncomputable def RC.q(R:RC):RC:={ R with EX:=fun _=>E0 }
theorem Cf.enter(C:Cf R ix hd H σ ts fr):Cf R.q (ts.length::ix) hd H (none::σ) (ts++[.non]) fr:=by
 have e1:Zc (ts++[.non])=Zc ts:=by rw [Z0R];simp [Zc,TL.own1]
 have e2:roS (ts++[.non])=roS ts:=by rw [Z2Y];simp [roS,TL.ro1]
 have e3:rdS (ts++[.non])=rdS ts:=by rw [Z21];simp [rdS,TL.rd1]
 have old:∀ {j:Nat} {s:TL},(ts++[TL.non])[j]?=some s→s≠.non→ts[j]?=some s:=by
  intro j s h hn
  rcases Nv j ts.length with hj | hj
  ·rwa [Qk hj] at h
  ·rw [Qu hj] at h
   have:j - ts.length=0:=by
    have:=(Qe.mp h).1
    simp at this;omega
   rw [this] at h
   cases h
   exact absurd rfl hn
 refine ⟨fun w t z=>?_,C.fok,by rw [e1];exact C.nd,by rw [e1,e2];exact C.sep,by rw [e1,e3];exact C.rd,by rw [e1];exact C.g,C.bg,fun j k p a z=>?_,fun j z=>?_,fun i j s v z1 z2 z3=>?_,fun j a z=>?_,fun j a z=>?_,?_,fun j a z s v z2 z3=>?_⟩
 ·rcases Qf.mp z with z | z
  ·exact C.ok w t z
  ·simp at z
 ·exact (C.bor j k p a (old z (by intro q;cases q))).app _
 ·rcases Qx.mp z with rfl | z
  ·simp
  ·simpa using Wa (C.ixs j z)
 ·have hs:s≠.non:=by rintro rfl;cases z3
  cases i with
  | zero =>
   simp only [Jy,Option.some.injEq] at z1
   have:=(Qe.mp (old z2 hs)).1
   omega
  | succ i=>exact C.sl i j s v (by simpa using z1) (old z2 hs) z3
 ·simpa using Wa (C.hdi j a z)
 ·intro q
  rcases Qx.mp q with rfl | q
  ·exact absurd (C.hdi _ a z) (Jo _)
  ·exact C.hdx j a z q
 ·simpa using C.len
 ·exact C.hdn j a z s v (old z2 (by rintro rfl;cases z3)) z3
theorem Cf.leave{n:Nat}{y:Option V}(C:Cf R.q (n::ix) hd H (y::σ) ts fr):Cf R ix hd H σ ts fr :=
 ⟨C.ok,C.fok,C.nd,C.sep,C.rd,C.g,C.bg,C.bor,fun j z=>C.ixs j (Qt _ z),fun i j s v z1 z2 z3=>C.sl (i + 1) j s v (by simpa using z1) z2 z3,C.hdi,fun j a z q=>C.hdx j a z (Qt _ q),by simpa using C.len,C.hdn⟩
theorem Zc7{i j:Nat}{v:V}{tv:TV}{s':Sd}(hix:ix[i]?=some j)(hnd:ix.Nodup)(C:Cf R ix hd H σ ts (tv.tr++fr))(hv:ZX ts v tv)(hs:Zt j (ts.map TL.er) tv.er=some s'):∃ ts',ts'.map TL.er=s'∧Cf R ix hd H (σ.set i (some v)) ts' fr:=by
 have er1:∀ y:TL,((ts.map (Zh j)).set j y).map TL.er=((ts.map TL.er).map (Z1l j)).set j y.er:=fun y=>by
  rw [Jw,Jf,Jf]
  exact congrArg (fun l=>List.set l j y.er) (Wc fun s _=>Z48 s)
 cases tv with
 | val t =>
  cases hv
  cases hs
  exact ⟨_,er1 (.own true t),Cf.slot (y:=.own true t) C hix hnd rfl (.inl ⟨t,rfl,rfl⟩)⟩
 | plc k p a =>
  obtain ⟨rfl,hp⟩:=hv
  simp only [TV.er,Zt] at hs
  by_cases hk:k=j
  ·subst hk
   rw [if_pos rfl] at hs
   by_cases hp0:p=[]
   ·subst hp0
    rw [if_pos rfl] at hs
    cases hs
    have:σ.set i (some (.ref a))=σ:=by
     obtain ⟨w,t,s,h1,h2,h3⟩:=hp
     cases h2
     have h4:=C.sl i k _ _ hix h1 rfl
     rw [h3] at h4
     refine Wf fun n=>?_
     rw [Qn]
     by_cases hn:i=n
     ·subst hn
      rw [if_pos rfl,if_pos (Qe.mp h4).1,h4]
     ·rw [if_neg hn]
    rw [this]
    exact ⟨ts,rfl,C⟩
   ·rw [if_neg hp0] at hs;cases hs
  ·rw [if_neg hk] at hs
   cases hs
   exact ⟨_,er1 (.bor k p a),Cf.slot (y:=.bor k p a) (m:=[]) C hix hnd rfl (.inr ⟨rfl,k,p,a,rfl,hk,hp⟩)⟩
theorem Cf.grow{D:Addr}{acc:List T}{t:T}(C:Cf R ix hd H σ ts (t::.nd D (.lst true) acc::fr)):H D=some (.lst (acc.map T.val))∧Cf R ix hd (upd H D (.lst ((acc++[t]).map T.val))) σ ts (.nd D (.lst true) (acc++[t])::fr):=by
 have hok:=C.fok
 refine ⟨hok.2.1.1,?_⟩
 have C2:Cf R ix hd H σ ts (.nd D (.lst true) acc::([t]++fr)):=C.less (x:=[]) ⟨hok.2.1,hok.1,hok.2.2⟩ (by
  simp only [T.owns_cons,Jg,Nk]
  rw [← Qp,← Qp]
  exact List.Perm.append_right _ Jv) fun a z=>.inl (by
  simp only [T.ros_cons,Nk,Qf] at z ⊢
  rcases z with z | z | z <;> simp [z])
 refine Cf.fill (kd:=.lst true) (kd':=.lst true) (l:=acc) (l':=acc++[t]) (m:=[t]) (x:=[]) C2 rfl rfl (by show upd H D _ D=_;exact Zm) (fun u hu=>?_) (by rw [T.owns_app,Jg]) (fun a z=>by rw [T.ros_app] at z;exact Qf.mp z)
 rcases Qf.mp hu with hu | hu
 ·exact T.oks_iff.mp hok.2.1.2 u hu
 ·rw [Je.mp hu];exact hok.1
noncomputable def PostC(R:RC)(ix:List Nat)(hd:List (Nat×Addr))(fr:List T)(σ:L2.St)(D:Addr)(Q:Hp→Prop):ER (List RM.D)→Prop
 | .ok l s=>∀ H' y ts' acc,ts'.map TL.er=s→T.ers acc=l→Cf R ix hd H' (y::σ) ts' (.nd D (.lst true) acc::fr)→Q H'
 | _=>False
noncomputable def xE(R:RC)(ix:List Nat)(e:Nat→EF):TE:=fun σ H Q=>∃ n,(∀ j∈ix,j < n)∧lE R.q (n::ix) (e n) σ H Q
noncomputable def xT(R:RC)(ix:List Nat)(c:Nat→BF):TT:=fun σ H Q=>∃ n,(∀ j∈ix,j < n)∧lT R.q (n::ix) (c n) σ H Q
theorem px_e{e:Expr}{f:Nat→EF}(h:∀ n,(∀ j∈ix,j < n)→PE X e (lE R.q (n::ix) (f n))):PE X e (xE R ix f):=fun pins s σ H Q I ⟨n,hn,q⟩=>h n hn pins s σ H Q I q
theorem Zfq:PF X [] (xT R ix fun _=>bYes):=fun pins s σ H Q I ⟨n,hn,hd,ts,fr,C,q⟩=>Z9z pins s σ H Q I (q H ts rfl C)
theorem ZaG{J:It}{it:Nat→Sd→Option (Option DV)}{n m:Nat}{c:Nat→BF}{e:Nat→EF}{Q:VK}{R:RC}{ix:List Nat}{hd:List (Nat×Addr)}{σ:L2.St}{ts:Ts}{fr:List T}{H:Hp}{y0:Option V}
  (hn:∀ j∈ix,j < n) (ok:∀ i H τ ts fr,Cf R.q (n::ix) hd H τ ts fr→(it i (ts.map TL.er)=some none→J.stop i H)∧∀ r,it i (ts.map TL.er)=some (some r)→J.go i H∧∀ x H',J.yld i H x H'→∃ tv,tv.er=r∧ZX ts x tv∧Cf R.q (n::ix) hd H' τ ts (tv.tr++fr))
  (hnd:ix.Nodup) (C:Cf R.q (n::ix) hd H (y0::σ) ts fr) (P:∀ D,H D=none→PostC R.q (n::ix) hd fr σ D (fun H'=>Q (.ref D) H') (Z0M it n (c n) (e n) m 0 [] (ts.map TL.er))) (hy:y0=none) :
  Z31 J 1 (Z1I 0) (xT R ix c) (xE R ix e) σ H Q:=by
 intro D hD
 subst hy
 have hnd:(n::ix).Nodup:=Jr.mpr ⟨fun z=>Jo _ (hn n z),hnd⟩
 refine ⟨fun i m ys τ H=>∃ y ts acc,τ=y::σ∧Cf R.q (n::ix) hd H τ ts (.nd D (.lst true) acc::fr)∧acc.map T.val=ys∧PostC R.q (n::ix) hd fr σ D (fun H'=>Q (.ref D) H') (Z0M it n (c n) (e n) m i (T.ers acc) (ts.map TL.er)),⟨m,none,ts,[],rfl,Cf.wrap (ch:=[]) C hD (by show upd H D _ D=_;exact Zm),rfl,P D hD⟩,?_⟩
 rintro i m ys τ H ⟨y,ts,acc,rfl,C,rfl,P⟩
 cases m with
 | zero=>exact P.elim
 | succ m =>
  unfold Z0M at P
  obtain ⟨o1,o2⟩:=ok i H _ ts _ C
  cases ei:it i (ts.map TL.er) with
  | none=>rw [ei] at P;exact P.elim
  | some z =>
   rw [ei] at P
   cases z with
   | none=>exact .inl ⟨o1 ei,P H y ts acc rfl rfl C⟩
   | some r =>
    obtain ⟨g1,g2⟩:=o2 r ei
    refine .inr ⟨g1,fun zs τ' H'=>∃ y ts acc,τ'=y::σ∧Cf R.q (n::ix) hd H' τ' ts (.nd D (.lst true) acc::fr)∧acc.map T.val=zs∧PostC R.q (n::ix) hd fr σ D (fun H'=>Q (.ref D) H') (Z0M it n (c n) (e n) m (i + 1) (T.ers acc) (ts.map TL.er)),fun zs τ' H' z=>⟨m,Wk m,z⟩,fun x H' hy=>?_⟩
    obtain ⟨tv,rfl,hv,C'⟩:=g2 x H' hy
    dsimp only at P
    cases eb:Zt n (ts.map TL.er) tv.er with
    | none=>rw [eb] at P;exact P.elim
    | some s1 =>
     rw [eb] at P
     obtain ⟨ts1,rfl,C1⟩:=Zc7 (i:=0) rfl hnd C' hv eb
     have C1:Cf R.q (n::ix) hd H' (some x::σ) ts1 (.nd D (.lst true) acc::fr):=C1
     show xT R ix c (some x::σ) H' _
     refine ⟨n,hn,hd,ts1,_,C1,?_⟩
     dsimp only at P
     cases ec:c n (ts1.map TL.er) with
     | no=>rw [ec] at P;exact P.elim
     | ex E s2=>rw [ec] at P;exact P.elim
     | ok b s2 =>
      rw [ec] at P
      intro H2 ts2 e2 C2
      subst e2
      cases b with
      | false =>
       dsimp only at P
       rw [if_neg Ql]
       exact ⟨some x,ts2,acc,rfl,C2,rfl,P⟩
      | true =>
       dsimp only at P
       rw [if_pos rfl]
       refine ⟨n,hn,hd,ts2,_,C2,?_⟩
       cases ee:e n (ts2.map TL.er) with
       | no=>rw [ee] at P;exact P.elim
       | ex E s3=>rw [ee] at P;exact P.elim
       | ok r s3 =>
        rw [ee] at P
        intro H3 ts3 tv v e3 e4 hv3 C3
        subst e3
        cases r with
        | plc k p=>exact P.elim
        | val d =>
         obtain ⟨t,rfl,rfl,rfl⟩:=hv3.er_val e4
         dsimp only at P
         by_cases hz:(T.ers acc).length < sizeLine
         case neg=>rw [if_neg hz] at P;exact P.elim
         rw [if_pos hz] at P
         obtain ⟨q1,q2⟩:=Cf.grow C3
         refine ⟨q1,by simpa [T.ers_eq] using hz,some x,ts3,acc++[t],rfl,?_,by simp,?_⟩
         ·simpa using q2
         ·simpa [T.ers_eq] using P
theorem Zb8{n:Nat}{r:ER (List RM.D)}{Q:VK}{σ:L2.St}{fr:List T}{n1:Nat}(hi:∀ j∈ix,j < n)(hj:∀ j a,(j,a)∈hd→j < n)
  (q:match Z3y n r with
   | .ok r s'=>∀ H' ts' tv v,ts'.map TL.er=s'→tv.er=r→ZX ts' v tv→Cf R ix hd H' σ ts' (tv.tr++fr)→Q v H'
   | .ex C s'=>∀ H' ts',ts'.map TL.er=s'→Cf R ix hd H' σ ts' fr→R.EX σ (.ref (R.ad C)) none H'
   | .no=>False) (D:Addr):PostC R.q (n1::ix) hd fr σ D (fun H'=>Q (.ref D) H') r:=by
 cases r with
 | no=>exact q.elim
 | ex E s=>exact q.elim
 | ok l s =>
  simp only [Z3y] at q
  cases e1:popD n s with
  | none=>rw [e1] at q;exact q.elim
  | some s1 =>
   rw [e1] at q
   intro H' y ts' acc f1 f2 C
   have C1:=C.leave
   obtain ⟨ts0,x,rfl,hl,f3⟩:=Z37 e1 f1
   have C2:Cf R ix (hd++[]) H' σ (ts0++[x]) (.nd D (.lst true) acc::fr):=by rw [Jg];exact C1
   have C3:=C2.popAny (fun j z=>by have:=hi j z;omega) (fun j b z=>by have:=hj j b z;omega)
   rw [hl] at C3
   exact q H' _ (.val (.nd D (.lst true) acc)) (.ref D) f3 (by simp only [TV.er,T.er,f2]) rfl C3
end

theorem len1{α:Type}{l:List α}(h:l.length=1):∃ a0,l=[a0]:=match l,h with | [a0],_=>⟨a0,rfl⟩
theorem len2{α:Type}{l:List α}(h:l.length=2):∃ a0 a1,l=[a0,a1]:=match l,h with | [a0,a1],_=>⟨a0,a1,rfl⟩
theorem len3{α:Type}{l:List α}(h:l.length=3):∃ a0 a1 a2,l=[a0,a1,a2]:=match l,h with | [a0,a1,a2],_=>⟨a0,a1,a2,rfl⟩
theorem len4{α:Type}{l:List α}(h:l.length=4):∃ a0 a1 a2 a3,l=[a0,a1,a2,a3]:=match l,h with | [a0,a1,a2,a3],_=>⟨a0,a1,a2,a3,rfl⟩
theorem len5{α:Type}{l:List α}(h:l.length=5):∃ a0 a1 a2 a3 a4,l=[a0,a1,a2,a3,a4]:=match l,h with | [a0,a1,a2,a3,a4],_=>⟨a0,a1,a2,a3,a4,rfl⟩

section
variable {X:Cx}
end
end RM

namespace RM
open PySem PySem.Spec PyProof.Rows L2
section
variable {s s1 s2 s3:Sd}{f g:SF}{e e':EF}{c c':BF}{a:AF}{v:V}{j k m n:Nat}{p:List Nat}{d d':D}{ds l:List D}{r r':DV}{rs:List DV}{w b:Bool}{R:SR}{C:Str}






end
end RM

namespace RM
open PySem PySem.Spec PyProof.Rows L2
noncomputable def Z3r(f:EF)(c:Nat→BF)(e:Nat→EF):EF:=fun s=>match f s with
 | .ok (.val (.at (.int j))) s1=>if -(2 ^ 62)≤j∧j < 2 ^ 62 then Z3y s1.length (Z0M (itR 0 j.toNat) s1.length (c s1.length) (e s1.length) (j.toNat + 1) 0 [] (s1++[.non])) else .no
 | .ok _ _=>.no
 | .ex C s1=>.ex C s1
 | .no=>.no
section
variable {R:RC}{ix:List Nat}{hd:List (Nat×Addr)}{X:Cx}{H H':Hp}{σ:L2.St}{ts:Ts}{fr:List T}
theorem Zbm{f:EF}{c:Nat→BF}{e:Nat→EF}(hnd:ix.Nodup)(σ:L2.St)(H:Hp)(Q:VK)(h:lE R ix (Z3r f c e) σ H Q) :
  lE R ix f σ H fun v H1=>∃ j,v=.int j∧-(2 ^ 62)≤j∧j < 2 ^ 62∧Z31 (Itr 0 j.toNat) 1 (Z1I 0) (xT R ix c) (xE R ix e) σ H1 Q:=by
 obtain ⟨hd,ts,fr,C,h⟩:=h
 refine ⟨hd,ts,fr,C,?_⟩
 unfold Z3r at h
 cases ef:f (ts.map TL.er) with
 | no=>rw [ef] at h;exact h
 | ex E s1=>rw [ef] at h;exact h
 | ok r s1 =>
  rw [ef] at h
  intro H1 ts1 tv v e1 e2 hv C1
  subst e1
  cases r with
  | plc k p=>exact h.elim
  | val d =>
   obtain ⟨t,rfl,rfl,rfl⟩:=hv.er_val e2
   cases t with
   | nd a k l=>exact h.elim
   | «at» u =>
    cases u with
    | int j =>
     have hlen:(ts1.map TL.er).length=ts1.length:=by simp
     simp only [T.er,cl] at h
     by_cases hj:-(2 ^ 62)≤j∧j < 2 ^ 62
     ·rw [if_pos hj,hlen] at h
      refine ⟨j,rfl,hj.1,hj.2,?_⟩
      have C2:=(C1.drop).enter
      refine ZaG (it:=itR 0 j.toNat) (m:=j.toNat + 1) C1.ixs (fun i H τ ts fr C=>Z9l i H τ ts C) hnd C2 (fun D _=>?_) rfl
      have:=Zb8 (n1:=ts1.length) C1.ixs C1.hdi h D
      simpa [TL.er] using this
     ·rw [if_neg hj] at h;exact h.elim
    | _=>exact h.elim
theorem ZbF{N:List Str}{scope:Scope}{tg a elt:Expr}{ifs:List Expr}{p pos rpos:Pos}{f:EF}{c:Nat→BF}{e:Nat→EF}(hc:X.calm=true)(hnd:ix.Nodup)(hgl:Gl X "range")(hm:X.mg "range"=none)(ha:PE X a (lE R ix f))(S:CompSc X 1 N scope)
  (hg:∀ cl C s H fp,PG (cxC X N scope cl C s H fp) tg (Z1I 0)) (hf:∀ cl C s H fp,PF (cxC X N scope cl C s H fp) ifs (xT R ix c)) (he:∀ cl C s H fp,PE (cxC X N scope cl C s H fp) elt (xE R ix e))
  (hst:starEach [a] X.env=[(false,eval a X.env)]:=by rfl) (hs:∀ x,foldedSetIterable (.Call (.Name "range" p) [a] [] rpos) X.env x=pure x:=by intro _;rfl) :
  PE X (.ListComp elt [⟨tg,.Call (.Name "range" p) [a] [] rpos,ifs,0⟩] scope pos) (lE R ix (Z3r f c e)):=by
 refine peM (Z8e hc (Z5I (ta:=Z2J (lE R ix f) tNil) hgl hm (Zk ha Z01 hst) hst) S hg hf he hs) fun σ H Q h=>?_
 refine Zj (fun v H1 q=>?_) (Zbm hnd σ H Q h)
 obtain ⟨j,rfl,b1,b2,q⟩:=q
 exact ⟨j,rfl,b1,b2,q⟩
end
end RM

namespace RM
open PySem PySem.Spec PyProof.Rows L2
section
variable {R:RC}{ix:List Nat}{X:Cx}{H:Hp}{σ:L2.St}
end
end RM

namespace RM
open PySem PySem.Spec PyProof.Rows L2
section
variable {R:RC}{ix:List Nat}{hd:List (Nat×Addr)}{X:Cx}{H H1:Hp}{σ:L2.St}{ts1:Ts}{fr1:List T}
theorem set_list{k:Nat}{p:List Nat}{a2:Addr}{ch cs:List T}{u:T}(C1:Cf R ix hd H1 σ ts1 fr1)(hk:ts1[k]?=some (.own true u))(hp:u.get p=some (.nd a2 (.lst true) ch))
  (hcs:∀ c∈cs,c.own=[]∧c.ok H1∧∀ b∈c.ro,b∈roS ts1∨b∈T.ros fr1) :
  Cf R ix hd (upd H1 a2 (.lst (cs.map T.val))) σ ((ts1.set k (.own true (T.put (.nd a2 (.lst true) cs) p u))).map (ZM k p fun _=>false)) fr1:=by
 have ha2:a2∈Zc ts1:=by
  obtain ⟨c,r,K⟩:=T.ctx hp
  exact Z18.mpr ⟨u,Qg hk,K.own.mem_iff.mpr (Qd _ (by simp [T.own,NK.mut]))⟩
 have hn:T.owns cs=[]:=Wl.mpr fun a z=>by
  obtain ⟨t,ht,hz⟩:=T.mem_owns.mp z
  rw [(hcs t ht).1] at hz;cases hz
 refine Cf.write (kd:=.lst true) (kd':=.lst true) (l:=ch) (l':=cs) (fr':=fr1) (x:=T.owns ch) (o:=.lst (cs.map T.val)) (keep:=fun _=>false) C1 hk hp rfl rfl ⟨Zm,T.oks_iff.mpr fun c hc=>?_⟩ (T.oks_iff.mpr fun y hy=>?_) ?_ (fun b hb=>?_) (fun i c h _=>by cases h)
 ·refine T.keep (hcs c hc).2.1 fun b hb=>Zb ?_
  rintro rfl
  rcases hb with hb | hb
  ·rw [(hcs c hc).1] at hb;cases hb
  ·exact (C1.sep b ((hcs c hc).2.2 b hb)).1 ha2
 ·refine T.keep (T.oks_iff.mp C1.fok y hy) fun b hb=>Zb ?_
  rintro rfl
  rcases hb with hb | hb
  ·exact (Qm.mp C1.nd).2.2 b ha2 b (T.mem_owns.mpr ⟨y,hy,hb⟩) rfl
  ·exact (C1.sep b (.inr (T.mem_ros.mpr ⟨y,hy,hb⟩))).1 ha2
 ·rw [hn,Js]
  exact Jv
 ·rcases hb with hb | hb
  ·obtain ⟨c,hc,hz⟩:=T.mem_ros.mp hb
   rcases (hcs c hc).2.2 b hz with z | z
   ·exact .inr (.inr (.inl z))
   ·exact .inr (.inl z)
  ·exact .inr (.inl hb)
end
end RM

namespace RM
open PySem PySem.Spec PyProof.Rows L2
section
variable {R:RC}{ix:List Nat}{hd:List (Nat×Addr)}{X:Cx}{H H1:Hp}{σ:L2.St}{ts:Ts}{fr:List T}

end
end RM

namespace RM
open PySem PySem.Spec PyProof.Rows L2
section
variable {R:RC}{ix:List Nat}{hd:List (Nat×Addr)}{X:Cx}{H H1:Hp}{σ:L2.St}{ts:Ts}{fr:List T}
end
end RM

namespace RM
open PySem PySem.Spec PyProof.Rows L2
section
variable {R:RC}{ix:List Nat}{hd:List (Nat×Addr)}{X:Cx}{H H1:Hp}{σ:L2.St}{ts:Ts}{fr:List T}
end
end RM

namespace RM
open PySem PySem.Spec PyProof.Rows L2
section
variable {X:Cx}{pins:List (Addr×Obj)}{σ:L2.St}{H:Hp}{s:Shared}{h':Heap}
end
noncomputable def itE(n k:Nat)(p:List Nat)(i:Nat)(s:Sd):Option (Option DV):=match itP false n k p i s with
 | some (some (.val d))=>some (some (.val (.nd .tup [.at (.int i),d])))
 | some none=>some none
 | _=>none
noncomputable def lenOf:Option D→Option Nat
 | some (.nd (.lst _) l)=>some l.length
 | _=>none
noncomputable def sForE(f:EF)(b:Sd→DV→Option Sd)(body:SF):SF:=fun s=>match f s with
 | .ok (.plc k p) s1=>(match lenOf (Zw s1 (.plc k p)) with
  | some m=>fin s1.length (Zx (itE s1.length k p) b body (m + 1) 0 (s1++[.bor k p]))
  | none=>.no)
 | .ok (.val d) s1=>(match lenOf (some d) with
  | some m=>fin s1.length (Zx (itE s1.length s1.length []) b body (m + 1) 0 (s1++[.own true d]))
  | none=>.no)
 | .ex C s1=>.ex C s1
 | .no=>.no
section
variable {K:Qa}{R:RC}{ix:List Nat}{hd hm:List (Nat×Addr)}{X:Cx}{e:Expr}{H H':Hp}{σ:L2.St}{ts:Ts}{fr:List T}{D:Ends}
theorem Zdf{e:EF}{f:SF}{s:Sd}{w:Sd→DV→Option Sd}:sForE e w f s=(match e s with
 | .ok (.plc k p) s1=>(match lenOf (Zw s1 (.plc k p)) with
  | some m=>fin s1.length (Zx (itE s1.length k p) w f (m + 1) 0 (s1++[.bor k p]))
  | none=>.no)
 | .ok (.val d) s1=>(match lenOf (some d) with
  | some m=>fin s1.length (Zx (itE s1.length s1.length []) w f (m + 1) 0 (s1++[.own true d]))
  | none=>.no)
 | .ex C s1=>.ex C s1
 | .no=>.no):=id rfl
end
end RM

namespace RM
open PySem PySem.Spec PyProof.Rows L2
theorem Z6U{t:T}{i:Int}(h:t.er=.at (.int i)):t=.at (.int i):=by
 cases t with
 | nd a k l=>cases h
 | «at» u=>cases u with
  | int j=>cases h;rfl
  | _=>cases h
section
variable {X:Cx}
variable {R:RC}{ix:List Nat}
end
end RM

namespace RM
open PySem PySem.Spec PyProof.Rows L2
section
variable {R:RC}{ix:List Nat}{X:Cx}
end
section
variable {s:Sd}{e f:EF}{a:AF}{j:Nat}
theorem Zcb{c:Nat→BF}{g:Nat→EF}:eCompL f c g s=(match f s with
 | .ok (.plc k p) s1=>(match seqOf (Zw s1 (.plc k p)) with
  | some (t,m)=>Z3z s1.length (Z0M (itP t s1.length k p) (s1.length + 1) (c (s1.length + 1)) (g (s1.length + 1)) (m + 1) 0 [] (s1++[.bor k p,.non]))
  | none=>.no)
 | .ok (.val d) s1=>(match seqOf (some d) with
  | some (t,m)=>Z3z s1.length (Z0M (itP t s1.length s1.length []) (s1.length + 1) (c (s1.length + 1)) (g (s1.length + 1)) (m + 1) 0 [] (s1++[.own true d,.non]))
  | none=>.no)
 | .ex C s1=>.ex C s1
 | .no=>.no):=id rfl
end
section
variable {s:Sd}{f:EF}
theorem Zb5{c:Nat→BF}{g:Nat→EF}:Z3r f c g s=(match f s with
 | .ok (.val (.at (.int j))) s1=>if -(2 ^ 62)≤j∧j < 2 ^ 62 then Z3y s1.length (Z0M (itR 0 j.toNat) s1.length (c s1.length) (g s1.length) (j.toNat + 1) 0 [] (s1++[.non])) else .no
 | .ok _ _=>.no
 | .ex C s1=>.ex C s1
 | .no=>.no):=id rfl
theorem Z7J{it:Nat→Sd→Option (Option DV)}{n:Nat}{c:BF}{e:EF}{P:Nat→List D→Sd→Prop}{N:Nat}
  (hs:∀ i acc s,i < N→P i acc s→∃ r s1,it i s=some (some r)∧Zt n s r=some s1∧((∃ s2 d s3,c s1=.ok true s2∧e s2=.ok (.val d) s3∧acc.length < sizeLine∧P (i + 1) (acc++[d]) s3)∨(∃ s2,c s1=.ok false s2∧P (i + 1) acc s2)))
  (he:∀ acc s,P N acc s→it N s=some none):∀ m i acc s,i + m=N→P i acc s→∃ l s',Z0M it n c e (m + 1) i acc s=.ok l s'∧P N l s'
 | 0,i,acc,s,hi,h=>by
  have:i=N:=by omega
  subst this
  exact ⟨acc,s,by simp only [Z0M,he acc s h],h⟩
 | m + 1,i,acc,s,hi,h=>by
  obtain ⟨r,s1,h1,h2,h3⟩:=hs i acc s (by omega) h
  rcases h3 with ⟨s2,d,s3,h4,h5,h6,h7⟩ | ⟨s2,h4,h5⟩
  ·obtain ⟨l,s',h8,h9⟩:=Z7J hs he m (i + 1) (acc++[d]) s3 (by omega) h7
   refine ⟨l,s',?_,h9⟩
   rw [Z0M]
   simp only [h1,h2,h4,h5,if_pos h6,h8]
  ·obtain ⟨l,s',h8,h9⟩:=Z7J hs he m (i + 1) acc s2 (by omega) h5
   refine ⟨l,s',?_,h9⟩
   rw [Z0M]
   simp only [h1,h2,h4,h8]
end
end RM

namespace RM
open PySem PySem.Spec PyProof.Rows L2
section
variable {R:RC}{ix:List Nat}{hd:List (Nat×Addr)}{X:Cx}{H H1:Hp}{σ:L2.St}{ts:Ts}{fr:List T}
end
end RM

namespace RM
open PySem PySem.Spec PyProof.Rows L2
noncomputable def intsD:List D→Option (List Int)
 | []=>some []
 | .at (.int i)::r=>(match intsD r with | some ns=>some (i::ns) | none=>none)
 | _=>none
theorem Zae:∀ {l:List T} {ns:List Int},intsD (T.ers l)=some ns→l.map T.val=ns.map V.int
 | [],ns,h=>by cases h;rfl
 | t::l,ns,h=>by
  simp only [T.ers] at h
  unfold intsD at h
  split at h
  case h_1 e=>cases e
  case h_3=>cases h
  case h_2 i r e =>
   simp only [Jt.injEq] at e
   cases Z6U e.1
   rw [← e.2] at h
   cases en:intsD (T.ers l) with
   | none=>rw [en] at h;cases h
   | some ms=>rw [en] at h;cases h;rw [Qi,Zae en];rfl
theorem vals_ints:∀ {ns:List Int} {its:List Value},Vals (ns.map V.int) its→∃ xs:List (Int×Tok),its=xs.map (fun p=>Value.int p.1 p.2)∧xs.map (·.1)=ns
 | [],_,.nil=>⟨[],rfl,rfl⟩
 | n::ns,_,.cons ⟨t,e⟩ r=>by
  obtain ⟨xs,h1,h2⟩:=vals_ints r
  subst e
  exact ⟨(n,t)::xs,by rw [h1];rfl,by rw [Qi,h2]⟩

noncomputable def Z3S(ns:List Int):Str:=(PyData.list (ns.map PyData.int)).shown
theorem Z6t{B:Nat}:∀ (ts:List Str) (k:Nat) (acc:Str),(∀ t∈ts,t.length≤B)→(textFrom k acc ts).length≤acc.length + ts.length * (B + 2)
 | [],k,acc,_=>by simp [textFrom]
 | t::r,k,acc,h=>by
  have h1:=Z6t r (k + 1) (acc++(if k > 0 then ", " else "":String)++t) fun u hu=>h u (Qt _ hu)
  have h2:=h t Qy
  rw [textFrom]
  rw [strLen_append,strLen_append] at h1
  have h3:(Str.ofString (if k > 0 then ", " else "")).length≤2:=by split <;> decide
  rw [Jp,Nat.succ_mul]
  omega
theorem shownAll_ints:∀ ns:List Int,PyData.shownAll (ns.map PyData.int)=ns.map fun i:Int=>Str.ofString (toString i)
 | []=>rfl
 | n::ns=>by rw [Qi,PyData.shownAll,shownAll_ints ns];rfl
theorem ZbJ(ns:List Int)(hl:ns.length≤1000)(h:∀ n∈ns,n.natAbs.log2 < 1920):(Z3S ns).length≤sizeLine:=by
 unfold Z3S
 rw [PyData.shown,shownAll_ints]
 unfold listText
 rw [strLen_append]
 have h1:=Z6t (B:=1921) (ns.map fun i:Int=>Str.ofString (toString i)) 0 "[" (by
  intro t ht
  obtain ⟨n,hn,rfl⟩:=Jx.mp ht
  have e:=int_text_length_le (k:=1920) (by decide) (h n hn)
  rw [PySem.ofString_length];omega)
 rw [Qo] at h1
 have h2:ns.length * 1923≤1000 * 1923:=Nat.mul_le_mul_right _ hl
 have h3:(Str.ofString "[").length=1:=by decide
 have h4:(Str.ofString "]").length=1:=by decide
 rw [sizeLine_eq]
 omega
theorem readsAll_ints{h:Heap}:∀ xs:List (Int×Tok),ReadsAll h (xs.map fun p=>Value.int p.1 p.2) ((xs.map (·.1)).map PyData.int) []
 | []=>.nil
 | (n,t)::xs=>.cons (.int n t) (readsAll_ints xs)
theorem Z5T:∀ ns:List Int,(∀ n∈ns,n.natAbs.log2 < 1920)→PyData.showableAll (ns.map PyData.int)=true
 | [],_=>rfl
 | n::ns,h=>by
  rw [Qi,PyData.showableAll,Z5T ns fun m hm=>h m (Qt _ hm),PyData.showable]
  simp [h n Qy]
section
variable {X:Cx}{R:RC}{ix:List Nat}{e:Expr}{pos:Pos}
noncomputable def tRepr(K:Qa)(te:TE):TE:=fun σ H Q=>te σ H fun v H1=>∃ a ns,v=.ref a∧SqL K H1 a (ns.map V.int)∧ns.length≤1000∧(∀ n∈ns,n.natAbs.log2 < 1920)∧Q (.str (Z3S ns)) H1
theorem ZcJ{te:TE}(hg:X.A.guards=some [])(hu:X.A.units + 64 < cLine)(he:PE X e te):PE X (.FormattedValue e 114 none pos) (tRepr X.K te):=by
 intro pins s σ H Q I h
 refine wpAny_FormattedValue_repr (thn (he pins s σ H _ I h) fun u s1 ⟨v,H1,I1,r1,q⟩=>?_)
 obtain ⟨a,ns,rfl,hq,hl,hn,q⟩:=q
 cases r1
 obtain ⟨its,rv,p,hz⟩:=I1.list hq
 obtain ⟨xs,e1,e2⟩:=vals_ints rv
 obtain ⟨o,ho,hc,n,hd⟩:=p.isList
 have rd:Reads s1.heap (.ref a) (.list (ns.map PyData.int)) (a::[]):=.list ho hc hd (by rw [show its.toArray.toList=its from rfl,e1,← e2];exact readsAll_ints xs)
 have hle:=ZbJ ns hl hn
 have hdep:(PyData.list (ns.map PyData.int)).depth≤2:=by
  have:∀ ns:List Int,PyData.depthAll (ns.map PyData.int)≤1:=by
   intro ns
   induction ns with
   | nil=>exact Wq _
   | cons n ns ih=>rw [Qi,PyData.depthAll];exact Nat.max_le.mpr ⟨by simp [PyData.depth],ih⟩
  have:=this ns
  rw [PyData.depth];omega
 refine pyReprObj_of_reads rd (by rw [PyData.showable];exact Z5T ns hn) (by
  have:∀ ns:List Int,PyData.hasDictAll (ns.map PyData.int)=false:=by
   intro ns
   induction ns with
   | nil=>rfl
   | cons n ns ih=>rw [Qi,PyData.hasDictAll,ih];rfl
  intro z;rw [PyData.hasDict,this] at z;cases z) hg (by omega) (fun _ _ z=>z) (fun h' u tk hk=>?_) hle
 exact wpAny_formatField_str ⟨.str (Z3S ns),H1,I1.kept hk,⟨_,rfl⟩,q⟩ ⟨.str (Z3S ns),H1,(I1.kept hk).tok _,⟨_,rfl⟩,q⟩ hle
noncomputable def hRepr:List D→Option D
 | [.nd (.lst _) l]=>(match intsD l with | some ns=>if ns.length≤1000∧∀ n∈ns,n.natAbs.log2 < 1920 then some (.at (.str (Z3S ns))) else none | none=>none)
 | _=>none
theorem Z9G{f:EF}(hg:X.A.guards=some [])(hu:X.A.units + 64 < cLine)(he:PE X e (lE R ix f)):PE X (.FormattedValue e 114 none pos) (lE R ix (eNw hRepr (Z0 f Z1))) :=
 peM (ZcJ hg hu he) fun σ H Q q=>Zj (fun x H1 q=>by
  obtain ⟨t,ok,rfl,d,hh,q⟩:=gNw1 q
  unfold hRepr at hh
  split at hh
  case h_2=>cases hh
  case h_1 m l e1 =>
   simp only [Jt.injEq,and_true] at e1
   obtain ⟨a,ch,rfl,rfl⟩:=Z7p e1
   cases en:intsD (T.ers ch) with
   | none=>rw [en] at hh;cases hh
   | some ns =>
    rw [en] at hh
    dsimp only at hh
    split at hh
    case isFalse=>cases hh
    case isTrue hz =>
     cases hh
     exact ⟨a,ns,rfl,by rw [← Zae en];exact ok.1.sqL,hz.1,hz.2,q (.at (.str (Z3S ns))) H1 rfl (.atom _)⟩) (lA_1 (Z1v σ H Q q))


noncomputable def hCut(lo:Bool):List D→Option D
 | [.nd (.lst _) l,.at (.int i)]=>if D.imms l=true∧0≤i then some (.nd (.lst true) (if lo then l.drop i.toNat else l.take i.toNat)) else none
 | _=>none
theorem Zei{xs:List V}{i:Int}(h:0≤i):cutV xs none (some i)=xs.take i.toNat:=by
 have e:HT.sIx xs.length xs.length (some i)=min i.toNat xs.length:=if_neg (by omega)
 unfold cutV
 rw [e,show HT.sIx xs.length 0 none=0 from rfl]
 simp only [List.drop_zero,Nat.sub_zero]
 rcases Nat.le_total i.toNat xs.length with z | z
 ·rw [Nat.min_eq_left z]
 ·rw [Nat.min_eq_right z,Ju (Qq _),Ju z]
theorem Zej{xs:List V}{i:Int}(h:0≤i):cutV xs (some i) none=xs.drop i.toNat:=by
 have e:HT.sIx xs.length 0 (some i)=min i.toNat xs.length:=if_neg (by omega)
 unfold cutV
 rw [e,show HT.sIx xs.length xs.length none=xs.length from rfl]
 rcases Nat.le_total i.toNat xs.length with z | z
 ·rw [Nat.min_eq_left z,Ju (by simp)]
 ·rw [Nat.min_eq_right z,Gs z,Gs (Qq _)];simp
theorem Zd5{lo:Bool}{x y:V}{H:Hp}{Q:VK}(h:gNw (hCut lo) [x,y] H Q):∃ (a:Addr) (ch:List T) (i:Int),x=.ref a∧y=.int i∧0≤i∧SqL X.K H a (ch.map T.val)∧∀ p,H p=none→Q (.ref p) (upd H p (.lst (if lo then (ch.map T.val).drop i.toNat else (ch.map T.val).take i.toNat))):=by
 obtain ⟨t,u,ht,hu,rfl,rfl,d,hh,q⟩:=gNw2 h
 unfold hCut at hh
 split at hh
 case h_2=>cases hh
 case h_1 m l i e =>
  simp only [Jt.injEq,and_true] at e
  obtain ⟨a,ch,rfl,rfl⟩:=Z7p e.1
  cases Z6U e.2
  split at hh
  case isFalse=>cases hh
  case isTrue hz =>
   cases hh
   refine ⟨a,ch,i,rfl,rfl,hz.2,ht.1.sqL,fun p hp=>?_⟩
   have hsub:∀ c:List T,(∀ t∈c,t∈ch)→NewOk H (upd H p (.lst (c.map T.val))) [T.nd a (.lst m) ch,.at (.int i)] (.nd p (.lst true) c):=fun c hc =>
    Z6K hp Zm (.inl rfl) (fun t z=>⟨T.oks_iff.mp ht.2 t (hc t z),Z7W hz.1 t (hc t z)⟩) fun b hb=>by
     obtain ⟨t,h1,h2⟩:=T.mem_ros.mp hb
     have:b∈T.ros ch:=T.mem_ros.mpr ⟨t,hc t h1,h2⟩
     simp [T.ros,T.ro,this]
   cases lo with
   | true =>
    have:=q (.nd p (.lst true) (ch.drop i.toNat)) _ (by simp [T.er,T.ers_eq]) (hsub _ fun t z=>Ws z)
    simpa [T.val] using this
   | false =>
    have:=q (.nd p (.lst true) (ch.take i.toNat)) _ (by simp [T.er,T.ers_eq]) (hsub _ fun t z=>Np z)
    simpa [T.val] using this
theorem ZcM{a:Expr}{p2:Pos}{f g:EF}(he:PE X e (lE R ix f))(ha:PE X a (lE R ix g)):PE X (.Subscript e (.Slice none (some a) none p2) pos) (lE R ix (eNw (hCut false) (Z0 f (Z0 g Z1)))) :=
 peM (Z4Z Ze1 he Z65 (Z66 ha)) fun σ H Q q=>Zj (fun x H1 z=>Zj (fun y H2 z=>by
  obtain ⟨a,ch,i,rfl,rfl,hi,hs,q⟩:=Zd5 (X:=X) z
  refine ⟨i,rfl,a,_,rfl,hs,fun p hp=>?_⟩
  rw [Zei hi]
  exact q p hp) z) (lA_2 (Z1v σ H Q q))
end
section
variable {X:Cx}
end
end RM

namespace RM
open PySem PySem.Spec PyProof.Rows L2
noncomputable def eAnd(f g:EF):EF:=fun s=>match f s with
 | .ok (.val (.at (.bl b))) s1=>if b=true then g s1 else .ok (.val (.at (.bl false))) s1
 | .ok _ _=>.no
 | .ex C s1=>.ex C s1
 | .no=>.no
theorem Zde{f g:EF}{s:Sd}:eAnd f g s=(match f s with
 | .ok (.val (.at (.bl b))) s1=>if b=true then g s1 else .ok (.val (.at (.bl false))) s1
 | .ok _ _=>.no
 | .ex C s1=>.ex C s1
 | .no=>.no):=id rfl
section
variable {X:Cx}{R:RC}{ix:List Nat}{a b:Expr}{rest:List Expr}{pos:Pos}
theorem ZeW{f g:EF}(σ:L2.St)(H:Hp)(Q:VK)(h:lE R ix (eAnd f g) σ H Q):tAndV (lE R ix f) (lE R ix g) σ H Q:=by
 obtain ⟨hd,ts,fr,C,h⟩:=h
 refine ⟨hd,ts,fr,C,?_⟩
 unfold eAnd at h
 cases ef:f (ts.map TL.er) with
 | no=>rw [ef] at h;exact h
 | ex E s1=>rw [ef] at h;exact h
 | ok r s1 =>
  rw [ef] at h
  intro H1 ts1 tv v e1 e2 hv C1
  subst e1
  cases r with
  | plc _ _=>exact h.elim
  | val d =>
   obtain ⟨t,rfl,rfl,rfl⟩:=hv.er_val e2
   cases t with
   | nd a k l=>exact h.elim
   | «at» u =>
    cases u with
    | bl c =>
     refine ⟨c,rfl,?_⟩
     simp only [T.er,cl] at h
     cases c with
     | true=>rw [if_pos rfl] at h ⊢;exact ⟨hd,ts1,fr,C1.drop,h⟩
     | false=>rw [if_neg Ql] at h ⊢;exact h H1 ts1 (.val (.at (.bl false))) (.bl false) rfl rfl rfl (C1.drop.at _)
    | _=>exact h.elim
theorem ZdS{f:EF}(h:PE X a (lE R ix f)):PE X (.BoolOp .And [a] pos) (lE R ix f):=Z7x h
theorem Zfs{f g:EF}(ha:PE X a (lE R ix f))(hb:PE X (.BoolOp .And (b::rest) pos) (lE R ix g)):PE X (.BoolOp .And (a::b::rest) pos) (lE R ix (eAnd f g)):=peM (Z7w ha hb) ZeW
end
end RM

namespace RM
open PySem PySem.Spec PyProof.Rows L2
theorem Zel{t:T}{m:Bool}{ks:List Key}{l:List D}(h:t.er=.nd (.dic m ks) l):∃ a ch,t=.nd a (.dic m ks) ch∧l=T.ers ch:=by
 cases t with
 | «at» v=>cases h
 | nd a k ch=>cases h;exact ⟨a,ch,rfl,rfl⟩
section
variable {X:Cx}{R:RC}{ix:List Nat}{H:Hp}

noncomputable def Z1z:List D→Option (List V)
 | []=>some []
 | .at v::r=>if Z07 v=true then (match Z1z r with | some vs=>some (v::vs) | none=>none) else none
 | _=>none
theorem Z4J:∀ {l:List T} {vs:List V},Z1z (T.ers l)=some vs→l.map T.val=vs∧vs.all Z07=true
 | [],vs,h=>by cases h;exact ⟨rfl,rfl⟩
 | t::l,vs,h=>by
  simp only [T.ers] at h
  unfold Z1z at h
  split at h
  case h_1 e=>cases e
  case h_3=>cases h
  case h_2 v r e =>
   simp only [Jt.injEq] at e
   split at h
   case isFalse=>cases h
   case isTrue hf =>
    rw [← e.2] at h
    cases en:Z1z (T.ers l) with
    | none=>rw [en] at h;cases h
    | some ms =>
     rw [en] at h;cases h
     cases Z1X e.1 hf
     obtain ⟨h1,h2⟩:=Z4J en
     exact ⟨by rw [Qi,h1];rfl,by rw [Wv,hf,h2];rfl⟩
noncomputable def hIn(neg:Bool):List D→Option D
 | [.at x,.nd (.lst _) l]=>if Z07 x=true then (match Z1z l with | some vs=>some (.at (.bl (if neg then !inV x vs else inV x vs))) | none=>none) else none
 | [.at x,.nd .tup l]=>if Z07 x=true then (match Z1z l with | some vs=>some (.at (.bl (if neg then !inV x vs else inV x vs))) | none=>none) else none
 | _=>none
theorem Z9h{neg:Bool}{t u:T}{d:D}(ht:t.ok H)(hu:u.ok H)(h:hIn neg [t.er,u.er]=some d):∃ x p vs,t=.at x∧u.val=.ref p∧(SqL X.K H p vs∨SqT X.K H p vs)∧Z07 x=true∧vs.all Z07=true∧d=.at (.bl (if neg then !inV x vs else inV x vs)):=by
 unfold hIn at h
 split at h
 case h_3=>cases h
 case h_1 x m l e =>
  simp only [Jt.injEq,and_true] at e
  obtain ⟨a,ch,rfl,rfl⟩:=Z7p e.2
  split at h
  case isFalse=>cases h
  case isTrue hf =>
   cases en:Z1z (T.ers ch) with
   | none=>rw [en] at h;cases h
   | some vs =>
    rw [en] at h;cases h
    obtain ⟨h1,h2⟩:=Z4J en
    exact ⟨x,a,vs,Z1X e.1 hf,rfl,.inl (by rw [← h1];exact hu.1.sqL),hf,h2,rfl⟩
 case h_2 x l e =>
  simp only [Jt.injEq,and_true] at e
  obtain ⟨a,ch,rfl,rfl⟩:=ZbO e.2
  split at h
  case isFalse=>cases h
  case isTrue hf =>
   cases en:Z1z (T.ers ch) with
   | none=>rw [en] at h;cases h
   | some vs =>
    rw [en] at h;cases h
    obtain ⟨h1,h2⟩:=Z4J en
    exact ⟨x,a,vs,Z1X e.1 hf,rfl,.inr (by rw [← h1];exact hu.1.sqT),hf,h2,rfl⟩
theorem on_in:OpR X (compareOp .In) (oNw (hIn false)):=opM Zbw fun x y H Q q=>by
 obtain ⟨t,u,ht,hu,rfl,rfl,d,hh,q⟩:=gNw2 q
 obtain ⟨x,p,vs,rfl,e1,h1,h2,h3,rfl⟩:=Z9h (X:=X) ht hu hh
 exact ⟨p,vs,e1,h1,h2,h3,q (.at (.bl _)) H rfl (.atom _)⟩
theorem Z9t:OpR X (compareOp .NotIn) (oNw (hIn true)):=opM Z9v fun x y H Q q=>by
 obtain ⟨t,u,ht,hu,rfl,rfl,d,hh,q⟩:=gNw2 q
 obtain ⟨x,p,vs,rfl,e1,h1,h2,h3,rfl⟩:=Z9h (X:=X) ht hu hh
 exact ⟨p,vs,e1,h1,h2,h3,q (.at (.bl _)) H rfl (.atom _)⟩
end
end RM

namespace RM
open PySem PySem.Spec PyProof.Rows L2
section
variable {R:RC}{ix:List Nat}{hd:List (Nat×Addr)}{X:Cx}{H:Hp}{σ:L2.St}{ts:Ts}{fr:List T}
end
end RM

namespace RM
open PySem PySem.Spec PyProof.Rows L2
theorem ZaC{α β:Type}:∀ {l:List α} {m:List β},l.length=m.length→(l.zip m).map (·.2)=m
 | [],[],_=>rfl
 | _::_,_::_,h=>by simp only [Wm,Qi];rw [ZaC (by simpa using h)]
section
variable {X:Cx}
theorem Zbs:MtR X "dict.values" (fun x xs H Q=>∃ a kvs,x=.ref a∧xs=[]∧H a=some (.dK kvs)∧∀ p,H p=none→Q (.ref p) (upd H p (.ext fun h=>h.IsValuesView p a))):=by
 intro pins s σ H x xs v us Q I rx r h
 obtain ⟨a,kvs,rfl,rfl,ha,q⟩:=h
 cases r
 cases rx
 obtain ⟨z,hd,vs,rel,dd⟩:=dk_rd I.hok (.inl ha)
 refine call_meetsIn PySem.F.slot_dict_values dd.typeIs PySem.F.entry_dict_values (PySem.F.args_dict_values_1 _) (meets_dict_values (Z0n X.prog X.w) a hd) ⟨⟨vs,dd⟩,?_⟩
 refine ⟨.ref s.heap.objs.size,_,I.laid (t':=s.toks) (fun b o e=>Heap.get?_push_of_some _ e) (Qq _) ?_,rfl,q _ (I.hok.fresh (Qq _))⟩
 refine ⟨⟨_,Heap.get?_push_size _ rfl,rfl,rfl⟩,⟨_,Heap.get?_push_size _ rfl⟩,fun h1 h2 ⟨o,e,x⟩ k=>⟨o,k o e,x⟩⟩
variable {R:RC}{ix:List Nat}
end
end RM

namespace RM
open PySem PySem.Spec PyProof.Rows L2
section
variable {R:RC}{ix:List Nat}{hd:List (Nat×Addr)}{X:Cx}{H H1:Hp}{σ:L2.St}{ts1:Ts}{fr:List T}
end
end RM

namespace RM
open PySem PySem.Spec PyProof.Rows L2
section
variable {X:Cx}{e st:Expr}{te ts:TE}{p2 pos:Pos}
end
section
variable {X:Cx}{R:RC}{ix:List Nat}{e st:Expr}{p2 pos:Pos}
end
end RM

namespace RM
open PySem PySem.Spec PyProof.Rows L2
section
variable {R:RC}{ix:List Nat}{hd:List (Nat×Addr)}{X:Cx}{H H':Hp}{σ:L2.St}{ts:Ts}{fr:List T}
end
end RM

namespace RM
open PySem PySem.Spec PyProof.Rows L2
section
variable {X:Cx}{R:RC}{ix:List Nat}
end
end RM

namespace RM
open PySem PySem.Spec PyProof.Rows L2
theorem Zal{it:Nat→Sd→Option (Option DV)}{b:Sd→DV→Option Sd}{body:SF}{P:Nat→Sd→Prop}{Q:SR→Prop}{n:Nat}
  (hs:∀ i s,i < n→P i s→∃ r s1,it i s=some (some r)∧b s r=some s1∧((∃ s2,(body s1=.nx s2∨body s1=.ct s2)∧P (i + 1) s2)∨∃ x s2,body s1=.rt x s2∧Q (.rt x s2))) (he:∀ s,P n s→it n s=some none) :
  ∀ m i s,i + m=n→P i s→(∃ s',Zx it b body (m + 1) i s=.nx s'∧P n s')∨∃ x s',Zx it b body (m + 1) i s=.rt x s'∧Q (.rt x s')
 | 0,i,s,hi,h=>by
  have:i=n:=by omega
  subst this
  exact .inl ⟨s,by simp only [Zx,he s h],h⟩
 | m + 1,i,s,hi,h=>by
  obtain ⟨r,s1,h1,h2,h3⟩:=hs i s (by omega) h
  rcases h3 with ⟨s2,h3,h4⟩ | ⟨x,s2,h3,h4⟩
  ·have e:Zx it b body (m + 1 + 1) i s=Zx it b body (m + 1) (i + 1) s2:=by
    conv=>lhs;unfold Zx
    rw [h1];dsimp only;rw [h2];dsimp only
    rcases h3 with h3 | h3 <;> rw [h3]
   rw [e]
   exact Zal hs he m (i + 1) s2 (by omega) h4
  ·refine .inr ⟨x,s2,?_,h4⟩
   conv=>lhs;unfold Zx
   rw [h1];dsimp only;rw [h2];dsimp only;rw [h3]
end RM

namespace RM
open PySem PySem.Spec PyProof.Rows L2
section
variable {R:RC}{ix:List Nat}{hd:List (Nat×Addr)}{X:Cx}{H H1:Hp}{σ:L2.St}{ts:Ts}{fr:List T}
end
end RM

namespace RM
open PySem PySem.Spec PyProof.Rows L2
noncomputable def del(H:Hp)(a:Addr):Hp:=fun b=>if b=a then none else H b
theorem Z9a{H:Hp}{a:Addr}:del H a a=none:=if_pos rfl
theorem Z1O{H:Hp}{a b:Addr}(h:b≠a):del H a b=H b:=if_neg h
theorem Z4L{H:Hp}{a b:Addr}(h:H b=none):del H a b=none:=by
 unfold del;split
 ·rfl
 ·exact h
theorem Zf5{H:Hp}{a b:Addr}{u:HO}(h:del H a b=some u):b≠a∧H b=some u:=by
 by_cases e:b=a
 ·subst e;rw [Z9a] at h;cases h
 ·rw [Z1O e] at h;exact ⟨e,h⟩
theorem Zbl{k:Key}{y:V}:∀ {kvs:List (Key×V)} {vs:List (Key×Value)} {i:Nat},KV kvs vs→kvs[i]?=some (k,y)→∃ u,vs[i]?=some (k,u)∧RelV y u
 | _,_,0,.cons (a:=p) (b:=q) h _,e=>by
  cases e
  obtain ⟨k',u⟩:=q
  cases h.1
  exact ⟨u,rfl,h.2⟩
 | _,_,i + 1,.cons _ r,e=>Zbl (i:=i) r (by simpa using e)
section
variable {X:Cx}{pins:List (Addr×Obj)}{σ σ0:L2.St}{H H0:Hp}{s s0:Shared}{a:Addr}{o:Obj}{kvs:List (Key×V)}
theorem Zdr(I:Inv X pins σ H s){u:HO}(ha:H a=some u):a∉X.fs:=fun hb=>by
 obtain ⟨_,ob,ho,_⟩:=I.ok.funs.mem hb
 rw [I.base.free a ob ho (I.ok.frf a hb) fun z=>I.ok.exfs a z hb] at ha
 cases ha
theorem Zbf(I:Inv X pins σ H s)(ha:H a=some (.dK kvs))(ho:s.heap.get? a=some o)(hd:∀ v,o.data≠.cell v):Inv X (pins++[(a,o)]) σ (del H a) s:=by
 have neL:a≠X.env.locals:=fun z=>by rw [z,I.free] at ha;cases ha
 refine ⟨I.ok,I.os,I.bare,⟨I.base.keep,I.base.slot,fun b ob e n hx=>Z4L (I.base.free b ob e n hx),I.base.there,fun b xs e=>?_,fun b ob u e=>?_,fun b ps e=>?_⟩,I.loc,I.cell,Z4L I.free,fun x c e=>Z4L (I.freeC x c e),fun p hp=>?_,fun b u e=>?_,I.len⟩
 ·have z:=I.base.tups b xs e
  rw [Z1O (by rintro rfl;rw [ha] at z;cases z)];exact z
 ·have z:=I.base.frzs b ob u e
  rw [Z1O (by rintro rfl;rw [ha] at z;cases z)];exact z
 ·obtain ⟨m,z⟩:=I.base.tbls b ps e
  exact ⟨m,by rw [Z1O (by rintro rfl;rw [ha] at z;cases z)];exact z⟩
 ·rw [← Qp] at hp
  rcases Qf.mp hp with hp | hp
  ·obtain ⟨h1,h2,h3⟩:=I.pin p hp
   exact ⟨h1,Z4L h2,h3⟩
  ·have e:p=(a,o):=by simpa using hp
   subst e
   exact ⟨ho,Z9a,neL,Zdr I ha,hd⟩
 ·obtain ⟨ne,e⟩:=Zf5 e
  refine (I.hok b u e).stay (fun c v _ q=>q) (fun c q=>?_) fun c xs q=>?_
  ·rw [Z1O (by rintro rfl;rw [ha] at q;cases q)];exact q
  ·rw [Z1O (by rintro rfl;rw [ha] at q;cases q)];exact q
theorem Zcy(I0:Inv X pins σ0 H0 s0)(ha:H0 a=some (.dK kvs))(ho:s0.heap.get? a=some o)(I:Inv X (pins++[(a,o)]) σ H s):Inv X pins σ (upd H a (.dK kvs)) s:=by
 have pa:=I.pin (a,o) (by simp)
 have hn:H a=none:=pa.2.1
 refine ⟨I.ok,I.os,I.bare,⟨I.base.keep,I.base.slot,fun b ob e n hx=>?_,I.base.there,fun b xs e=>?_,fun b ob u e=>?_,fun b ps e=>?_⟩,I.loc,I.cell,?_,fun x c e=>?_,fun p hp=>?_,fun b u e=>?_,I.len⟩
 ·have z:=I0.base.free b ob e n hx
  rw [Zb (by rintro rfl;rw [ha] at z;cases z)];exact I.base.free b ob e n hx
 ·have z:=I.base.tups b xs e
  rw [Zb (by rintro rfl;rw [hn] at z;cases z)];exact z
 ·have z:=I.base.frzs b ob u e
  rw [Zb (by rintro rfl;rw [hn] at z;cases z)];exact z
 ·obtain ⟨m,z⟩:=I.base.tbls b ps e
  exact ⟨m,by rw [Zb (by rintro rfl;rw [hn] at z;cases z)];exact z⟩
 ·rw [Zb (Ne.symm pa.2.2.1)];exact I.free
 ·have z:=I0.freeC x c e
  rw [Zb (by rintro rfl;rw [ha] at z;cases z)];exact I.freeC x c e
 ·have z:=(I0.pin p hp).2.1
  have q:=I.pin p (by rw [← Qp];exact Qh _ hp)
  exact ⟨q.1,by rw [Zb (by intro e;rw [e,ha] at z;cases z)];exact q.2.1,q.2.2⟩
 ·by_cases hb:b=a
  ·subst hb
   rw [Zm] at e
   cases e
   obtain ⟨z,hd,vs,rel,ob,es,ep,e1,r⟩:=dk_rd I0.hok (.inl ha)
   rw [ho] at e1
   cases e1
   exact ⟨z,hd,vs,rel,_,es,ep,pa.1,r⟩
  ·rw [Zb hb] at e
   refine (I.hok b u e).stay (fun c v _ q=>q) (fun c q=>?_) fun c xs q=>?_
   ·rw [Zb (by rintro rfl;rw [hn] at q;cases q)];exact q
   ·rw [Zb (by rintro rfl;rw [hn] at q;cases q)];exact q
end

section
variable {K:Qa}{R:RC}{ix:List Nat}{hd hm:List (Nat×Addr)}{X:Cx}{H H':Hp}{σ:L2.St}{ts:Ts}{fr:List T}{D:Ends}
theorem zip_get{α β:Type}{x:α}{y:β}:∀ {l:List α} {m:List β} {i:Nat},(l.zip m)[i]?=some (x,y)→l[i]?=some x∧m[i]?=some y
 | [],_,_,h=>by simp at h
 | _::_,[],_,h=>by simp at h
 | a::l,b::m,0,h=>by simp at h;simp [h.1,h.2]
 | a::l,b::m,i + 1,h=>by
  have:=zip_get (l:=l) (m:=m) (i:=i) (by simpa using h)
  simpa using this
end
end RM

namespace RM
open PySem PySem.Spec PyProof.Rows L2
section
variable {R:RC}{ix:List Nat}{hd hm:List (Nat×Addr)}{X:Cx}{H H':Hp}{σ:L2.St}{ts:Ts}{fr:List T}{D:Ends}
end

section
variable {X:Cx}
end
end RM

namespace RM
open PySem PySem.Spec PyProof.Rows L2
noncomputable def tyD:D→Option String
 | .at .non=>some "NoneType"
 | .at (.bl _)=>some "bool"
 | .at (.int _)=>some "int"
 | .at (.str _)=>some "str"
 | .nd (.lst true) _=>some "list"
 | .nd .tup _=>some "tuple"
 | .nd (.dic _ _) _=>some "dict"
 | _=>none
noncomputable def hIs:List D→Option D
 | [d,.at (.ty T)]=>(match tyD d with | some N=>if (kit0 N T).isSome=true then some (.at (.bl (subT N T))) else none | none=>none)
 | _=>none
section
variable {X:Cx}
theorem tyD_t{H:Hp}{t:T}{N:String}(ok:t.ok H)(h:tyD t.er=some N):IsTy H t.val N:=by
 cases t with
 | «at» v=>cases v <;> first | (cases h;rfl) | cases h
 | nd a k l =>
  cases k with
  | tup=>cases h;exact .inr (.inl ⟨rfl,_,ok.1⟩)
  | lst m=>cases m with
   | true=>cases h;exact .inl ⟨rfl,_,ok.1⟩
   | false=>cases h
  | dic m ks=>cases h;exact .inr (.inr ⟨rfl,_,ok.1.2.2⟩)
  | _=>cases h
theorem er_ty{t:T}{n:String}(h:t.er=.at (.ty n)):t=.at (.ty n):=by
 cases t with
 | nd a k l=>cases h
 | «at» u=>cases u with
  | ty j=>cases h;rfl
  | _=>cases h
theorem cn_is:Z0o X (.builtin "isinstance") (gNw hIs):=callM Z1o fun vs H Q q=>by
 obtain ⟨l,ok,hv,d,hh,q⟩:=q
 unfold hIs at hh
 split at hh
 case h_2=>cases hh
 case h_1 d0 T el =>
  obtain ⟨x0,x1,rfl,g0,g1⟩:=ers2 el
  cases er_ty g1
  cases en:tyD d0 with
  | none=>rw [en] at hh;cases hh
  | some N =>
   rw [en] at hh
   dsimp only at hh
   split at hh
   case isFalse=>cases hh
   case isTrue hk =>
    cases hh
    subst hv
    exact ⟨x0.val,T,N,rfl,tyD_t ok.1 (by rw [g0];exact en),hk,q (.at (.bl (subT N T))) H rfl (.atom _)⟩
end

section
variable {X:Cx}{R:RC}{ix:List Nat}{a:Expr}{pos:Pos}
end
end RM

namespace RM
open PySem PySem.Spec PyProof.Rows L2
section
variable {R:RC}{ix:List Nat}{hd:List (Nat×Addr)}{X:Cx}{H:Hp}{σ:L2.St}{ts:Ts}{fr:List T}
end
end RM

namespace RM
open PySem PySem.Spec PyProof.Rows L2
section
variable {R:RC}{ix:List Nat}{hd:List (Nat×Addr)}{X:Cx}{H:Hp}{σ:L2.St}{ts:Ts}{fr:List T}
end
end RM

namespace RM
open PySem PySem.Spec PyProof.Rows L2
section
variable {R:RC}{ix:List Nat}{hd:List (Nat×Addr)}{X:Cx}{H H1:Hp}{σ:L2.St}{ts:Ts}{fr:List T}
end
end RM

namespace RM
open PySem PySem.Spec PyProof.Rows L2
noncomputable def itS(y:Str)(i:Nat)(_:Sd):Option (Option DV):=some ((y.cps[i]?).map fun c=>.val (.at (.str ⟨#[c]⟩)))
noncomputable def sForS(f:EF)(b:Sd→DV→Option Sd)(body:SF):SF:=fun s=>match f s with
 | .ok (.val (.at (.str y))) s1=>Zx (itS y) b body (y.cps.size + 1) 0 s1
 | .ex C s1=>.ex C s1
 | _=>.no
theorem Zdi{f:EF}{b:Sd→DV→Option Sd}{body:SF}{s:Sd}:sForS f b body s=(match f s with
 | .ok (.val (.at (.str y))) s1=>Zx (itS y) b body (y.cps.size + 1) 0 s1
 | .ex C s1=>.ex C s1
 | _=>.no):=id rfl
section
variable {R:RC}{ix:List Nat}{hd:List (Nat×Addr)}{X:Cx}{H H':Hp}{σ:L2.St}{ts:Ts}{fr:List T}{D:Ends}
theorem ZeH{y:Str}(i:Nat)(H:Hp)(σ:L2.St)(ts:Ts)(C:Cf R ix hd H σ ts fr):(itS y i (ts.map TL.er)=some none→(Its y).stop i H)∧∀ r,itS y i (ts.map TL.er)=some (some r)→(Its y).go i H∧∀ x H',(Its y).yld i H x H'→∃ tv,tv.er=r∧ZX ts x tv∧Cf R ix hd H' σ ts (tv.tr++fr):=by
 unfold itS
 cases e:y.cps[i]? with
 | none=>exact ⟨fun _=>by have:=Array.getElem?_eq_none_iff.mp e;exact this,fun r z=>by cases z⟩
 | some c =>
  refine ⟨(fun z=>by cases z),fun r z=>?_⟩
  cases z
  refine ⟨(Array.getElem?_eq_some_iff.mp e).1,?_⟩
  rintro x _ ⟨rfl,c',hc,rfl⟩
  rw [e] at hc
  cases hc
  exact ⟨.val (.at (.str ⟨#[c]⟩)),rfl,rfl,C.at _⟩
theorem Zdx{f:EF}{b:Sd→DV→Option Sd}{body:SF}(D:Ends)(σ:L2.St)(H:Hp)(h:lS R ix (sForS f b body) D σ H):tFor (iStr (lE R ix f)) (lG R ix b) (lS R ix body) D σ H:=by
 obtain ⟨hd,ts,fr,C,h⟩:=h
 refine ⟨hd,ts,fr,C,?_⟩
 unfold sForS at h
 cases ef:f (ts.map TL.er) with
 | no=>rw [ef] at h;exact h
 | ex E s1=>rw [ef] at h;intro H1 ts1 e1 C1;exact h H1 σ ts1 e1 C1
 | ok r s1 =>
  rw [ef] at h
  intro H1 ts1 tv v e1 e2 hv C1
  subst e1
  cases r with
  | plc _ _=>exact h.elim
  | val d =>
   obtain ⟨t,rfl,rfl,rfl⟩:=hv.er_val e2
   cases t with
   | nd a k l=>exact h.elim
   | «at» u =>
    cases u with
    | str y =>
     refine ⟨y,rfl,?_⟩
     exact Z1w ZeH C1.drop (Post.of (f:=fun s=>Zx (itS y) b body (y.cps.size + 1) 0 s) h (fun s=>(Z1m _ _ _ s).1) fun s=>(Z1m _ _ _ s).2)
    | _=>exact h.elim
theorem Zaw{tg l:Expr}{bs:List Stmt}{f:EF}{b:Sd→DV→Option Sd}{body:SF}{fpos:Pos}(hp:PassesOwn (model X.prog X.w) X.A X.env X.xe)(hc:X.calm=true)(hl:PE X l (lE R ix f))(hg:PG X tg (lG R ix b))(hb:PSs X bs (lS R ix body))
  (hs:∀ x,foldedSetIterable l X.env x=pure x:=by intro _;rfl):PS X (.For tg l bs [] fpos) (lS R ix (sForS f b body)) :=
 psM (Z7y hp hc (Zfj hl) hg hb hs) Zdx
theorem ZcC{y:Str}{b:Sd→DV→Option Sd}{body:SF}{s:Sd}(P:Nat→Sd→Prop)(Q:SR→Prop)(h0:P 0 s)
  (hs:∀ (i:Nat) s c,y.cps[i]?=some c→P i s→∃ s1,b s (.val (.at (.str ⟨#[c]⟩)))=some s1∧((∃ s2,(body s1=.nx s2∨body s1=.ct s2)∧P (i + 1) s2)∨∃ x s2,body s1=.rt x s2∧Q (.rt x s2))) :
  (∃ s',Zx (itS y) b body (y.cps.size + 1) 0 s=.nx s'∧P y.cps.size s')∨∃ x s',Zx (itS y) b body (y.cps.size + 1) 0 s=.rt x s'∧Q (.rt x s'):=by
 refine Zal (P:=P) (fun i s hi h=>?_) (fun s h=>?_) y.cps.size 0 s (by omega) h0
 ·have e:y.cps[i]?=some y.cps[i]:=Array.getElem?_eq_getElem hi
  obtain ⟨s1,h1,h2⟩:=hs i s _ e h
  exact ⟨_,s1,by unfold itS;rw [e];rfl,h1,h2⟩
 ·unfold itS
  rw [Array.getElem?_eq_none (Qq _)];rfl
end

noncomputable def hInS(neg:Bool):List D→Option D
 | [.at (.str x),.at (.str y)]=>some (.at (.bl (if neg then !(!(Builtin.Str.occurrences y x 0 y.length 1).isEmpty) else !(Builtin.Str.occurrences y x 0 y.length 1).isEmpty)))
 | _=>none
section
variable {X:Cx}{H:Hp}
theorem Z9d{t:T}{i:Str}(h:t.er=.at (.str i)):t=.at (.str i):=by
 cases t with
 | nd a k l=>cases h
 | «at» u=>cases u with
  | str j=>cases h;rfl
  | _=>cases h
theorem Zcv{neg:Bool}{t u:T}{d:D}(h:hInS neg [t.er,u.er]=some d):∃ x y,t=.at (.str x)∧u=.at (.str y)∧d=.at (.bl (if neg then !(!(Builtin.Str.occurrences y x 0 y.length 1).isEmpty) else !(Builtin.Str.occurrences y x 0 y.length 1).isEmpty)):=by
 unfold hInS at h
 split at h
 case h_2=>cases h
 case h_1 x y e =>
  simp only [Jt.injEq,and_true] at e
  cases h
  exact ⟨x,y,Z9d e.1,Z9d e.2,rfl⟩
theorem Zar:OpR X (compareOp .NotIn) (oNw (hInS true)):=opM Z9w fun x y H Q q=>by
 obtain ⟨t,u,ht,hu,rfl,rfl,d,hh,q⟩:=gNw2 q
 obtain ⟨x,y,rfl,rfl,rfl⟩:=Zcv hh
 exact ⟨x,y,rfl,rfl,q (.at (.bl _)) H rfl (.atom _)⟩
end
end RM

namespace RM
open PySem PySem.Spec PyProof.Rows L2
section
variable {X:Cx}{R:RC}{ix:List Nat}{e:Expr}{pos:Pos}
theorem ZbK:SlR X (fun x lo hi H Q=>∃ y,x=.str y∧y.length≤sizeLine∧Q (.str (Txt.slice y lo hi)) H):=by
 intro pins s σ H x v vl vu lo hi sl Q I rx hs pl pu h
 obtain ⟨y,rfl,hz,q⟩:=h
 obtain ⟨t,rfl⟩:=rx
 refine ⟨"str",_,F.slot_str_getitem.lookup,typeIs_str _ _ _,?_⟩
 obtain ⟨o,ho,hc,hd⟩:=hs
 have fin:∀ t' k,EP X pins σ Q (.str (Txt.slice y lo hi) t') { s with toks:=k }:=fun t' k=>⟨.str (Txt.slice y lo hi),H,I.tok k,⟨t',rfl⟩,q⟩
 have hle:=Jc (Txt.slice_le y lo hi) hz
 cases pl with
 | none=>cases pu with
  | none=>exact wpAny_getItem_str_slice (l:=none) (u:=none) (st:=none) ⟨o,ho,hc,hd⟩ rfl (post_val_or_str ⟨hle,fin⟩)
  | int j uj=>exact wpAny_getItem_str_slice (l:=none) (u:=some (j,uj)) (st:=none) ⟨o,ho,hc,hd⟩ rfl (post_val_or_str ⟨hle,fin⟩)
 | int i ui=>cases pu with
  | none=>exact wpAny_getItem_str_slice (l:=some (i,ui)) (u:=none) (st:=none) ⟨o,ho,hc,hd⟩ rfl (post_val_or_str ⟨hle,fin⟩)
  | int j uj=>exact wpAny_getItem_str_slice (l:=some (i,ui)) (u:=some (j,uj)) (st:=none) ⟨o,ho,hc,hd⟩ rfl (post_val_or_str ⟨hle,fin⟩)
noncomputable def Z1s(lo:Bool):List D→Option D
 | [.at (.str x),.at (.int i)]=>if x.length≤sizeLine then some (.at (.str (if lo then Txt.slice x (some i) none else Txt.slice x none (some i)))) else none
 | _=>none
theorem Z99{lo:Bool}{x y:V}{H:Hp}{Q:VK}(h:gNw (Z1s lo) [x,y] H Q):∃ (z:Str) (i:Int),x=.str z∧y=.int i∧z.length≤sizeLine∧Q (.str (if lo then Txt.slice z (some i) none else Txt.slice z none (some i))) H:=by
 obtain ⟨t,u,ht,hu,rfl,rfl,d,hh,q⟩:=gNw2 h
 unfold Z1s at hh
 split at hh
 case h_2=>cases hh
 case h_1 z i e =>
  simp only [Jt.injEq,and_true] at e
  cases Z9d e.1
  cases Z6U e.2
  split at hh
  case isFalse=>cases hh
  case isTrue hz =>
   cases hh
   exact ⟨z,i,rfl,rfl,hz,q (.at (.str _)) H rfl (.atom _)⟩
theorem Z2x{a:Expr}{p2:Pos}{f g:EF}(he:PE X e (lE R ix f))(ha:PE X a (lE R ix g)):PE X (.Subscript e (.Slice (some a) none none p2) pos) (lE R ix (eNw (Z1s true) (Z0 f (Z0 g Z1)))) :=
 peM (Z4Z ZbK he (Z66 ha) Z65) fun σ H Q q=>Zj (fun x H1 z=>Zj (fun y H2 z=>by
  obtain ⟨s,i,rfl,rfl,hs,q⟩:=Z99 z
  exact ⟨i,rfl,s,rfl,hs,q⟩) z) (lA_2 (Z1v σ H Q q))
theorem Z8z{a:Expr}{p2:Pos}{f g:EF}(he:PE X e (lE R ix f))(ha:PE X a (lE R ix g)):PE X (.Subscript e (.Slice none (some a) none p2) pos) (lE R ix (eNw (Z1s false) (Z0 f (Z0 g Z1)))) :=
 peM (Z4Z ZbK he Z65 (Z66 ha)) fun σ H Q q=>Zj (fun x H1 z=>Zj (fun y H2 z=>by
  obtain ⟨s,i,rfl,rfl,hs,q⟩:=Z99 z
  exact ⟨i,rfl,s,rfl,hs,q⟩) z) (lA_2 (Z1v σ H Q q))
end
end RM

namespace RM
open PySem PySem.Spec PyProof.Rows L2
section
variable {X:Cx}{R:RC}{ix:List Nat}
theorem Za3{x:V}:∀ {xs:List V} {us:List Value},Vals xs us→xs.all Z07=true→us.countP (eqU x)=xs.countP fun y=>eqV y x
 | _,_,.nil,_=>rfl
 | y::xs,u::us,.cons r t,f=>by
  rw [Wv,Qw] at f
  rw [Gk,Gk,Z9c r f.1,Za3 t f.2]
theorem ZcE:MtR X "list.count" (fun x vs H Q=>∃ l xs v,x=.ref l∧vs=[v]∧H l=some (.lst xs)∧Z07 v=true∧xs.all Z07=true∧Q (.int ((xs.countP fun y=>eqV y v:Nat):Int)) H):=by
 intro pins s σ H x vs v us Q I rx rv h
 obtain ⟨l,xs,w,rfl,rfl,hH,fw,fs,q⟩:=h
 cases rx
 obtain ⟨u,rfl,ru⟩:=rv.one
 obtain ⟨z,its,n,r,hl,e⟩:=I.lstM hH
 refine call_meets F.slot_list_count ⟨_,e,rfl⟩ F.entry_list_count (F.args_list_count_2 _ _) (SeqAt.list_countAt l its.toArray n none #[] u (eqU w)) ⟨e,fun y hy=>Z2U ru fw r fs y (by simpa using hy),?_⟩
 refine ⟨.int _,H,I.tok _,⟨_,rfl⟩,?_⟩
 rw [show its.toArray.toList=its from rfl,Za3 r fs]
 exact q
noncomputable def hCount:List D→Option D
 | [.nd (.lst true) l,.at x]=>if Z07 x=true then (match Z1z l with | some vs=>some (.at (.int ((vs.countP fun y=>eqV y x:Nat):Int))) | none=>none) else none
 | _=>none
theorem Zft{o e:Expr}{apos cpos:Pos}{fo fe:EF}(ho:PE X o (lE R ix fo))(he:PE X e (lE R ix fe))(hbase:attributeBase o "count" X.env (eval o X.env)=eval o X.env:=by rfl)
  (hfew:((backTo cpos (starEach [e] X.env)).all (fun x=>!x.1) && (backToKw cpos (keywordEach [] X.env)).all (fun x=>x.1.isSome) && decide ([e].length + ([]:List Keyword).length + (if ([]:List Keyword).isEmpty then 0 else 1) < 30))=true:=by rfl)
  (hline:(apos.endLine == cpos.line)=true:=by rfl) (hs:starEach [e] X.env=(false,eval e X.env)::starEach [] X.env:=by rfl) (hplain:(backTo cpos (starEach [] X.env)).any (·.1)=false:=by rfl) :
  PE X (.Call (.Attribute o "count" apos) [e] [] cpos) (lE R ix (eNw hCount (Z0 (Zn Z15 fo) (Z0 fe Z1)))) :=
 peM (pe_bm PySem.F.plainAttrs_list PySem.F.slot_list_count PySem.F.type_list_count ZcE ho (Zk he Z01 hs) hbase hfew hline hs hplain) fun σ H Q q=>by
  have q1:=lA_2 (Z1v σ H Q q)
  refine Zj (fun x H1 q=>?_) (Z3C q1)
  obtain ⟨⟨t0,rfl,t2,t3⟩,q⟩:=q
  obtain ⟨a,k,ch,rfl,hD⟩:∃ a m ch,t0=.nd a (.lst m) ch∧SqL X.K H1 a (ch.map T.val):=by
   cases t0 with
   | «at» v=>simp [T.er,Z15] at t3
   | nd a k ch=>cases k with
    | lst m=>exact ⟨a,m,ch,rfl,t2.1.sqL⟩
    | _=>simp [T.er,Z15] at t3
  refine ⟨.inl ⟨rfl,_,hD⟩,Zj (fun y H2 q=>?_) q⟩
  obtain ⟨t,u,ht,hu,e1,e2,d,hh,q⟩:=gNw2 q
  unfold hCount at hh
  split at hh
  case h_2=>cases hh
  case h_1 l w el =>
   simp only [Jt.injEq,and_true] at el
   obtain ⟨b,cs,rfl,rfl⟩:=Z7p el.1
   by_cases fw:Z07 w=true
   case neg=>rw [if_neg fw] at hh;cases hh
   rw [if_pos fw] at hh
   cases ea:Z1z (T.ers cs) with
   | none=>rw [ea] at hh;cases hh
   | some vs =>
    rw [ea] at hh
    cases hh
    obtain ⟨g1,g2⟩:=Z4J ea
    have eu:u.val=w:=by
     cases u with
     | nd _ _ _=>cases el.2
     | «at» z=>cases z <;> cases el.2 <;> (try rfl) <;> exact absurd fw Ql
    cases e1
    refine ⟨a,cs.map T.val,u.val,rfl,by rw [← e2],ht.1,by rw [eu];exact fw,by rw [g1];exact g2,?_⟩
    rw [g1,eu]
    exact q (.at (.int _)) H2 rfl (.atom _)
end
end RM

namespace RM
open PySem PySem.Spec PyProof.Rows L2
noncomputable def sameS(x y:Str):Bool:=y.cps.toList == x.cps.toList
noncomputable def Z0C(ys:List Str)(x:Str):Nat:=ys.findIdx (sameS x)
noncomputable def eqS(x:Str):Value→Bool
 | .str y _=>sameS x y
 | _=>false
theorem Z8F:∀ {ys:List Str} {us:List Value},Vals (ys.map V.str) us→∀ (m:Nat) (u:Value),us[m]?=some u→∃ y t,ys[m]?=some y∧u=.str y t
 | [],_,r,m,u,h=>by cases r;simp at h
 | y::ys,_,r,m,u,h=>by
  rw [Qi] at r
  cases r with
  | cons r1 r2 =>
   obtain ⟨t,rfl⟩:=r1
   cases m with
   | zero=>cases h;exact ⟨y,t,rfl,rfl⟩
   | succ m=>exact Z8F r2 m u (by simpa using h)
theorem Zbo{α β:Type}(f:α→β):∀ (l:List α) (i:Nat),(l.eraseIdx i).map f=(l.map f).eraseIdx i
 | [],_=>rfl
 | a::l,0=>rfl
 | a::l,i + 1=>by simp only [Gm,Qi,Zbo f l i]
section
variable {X:Cx}{R:RC}{ix:List Nat}{H H1:Hp}{σ:L2.St}{ts:Ts}{fr:List T}
theorem Zbr:MtR X "list.remove" (fun x vs H Q=>∃ l ys z,x=.ref l∧vs=[.str z]∧H l=some (.lst (ys.map V.str))∧Z0C ys z < ys.length∧Q .non (upd H l (.lst ((ys.eraseIdx (Z0C ys z)).map V.str)))):=by
 intro pins s σ H x vs v us Q I rx rv h
 obtain ⟨l,ys,w,rfl,rfl,hH,hj,q⟩:=h
 cases rx
 obtain ⟨u,rfl,ru⟩:=rv.one
 obtain ⟨t,rfl⟩:=ru
 obtain ⟨z,its,n,r,hl,e⟩:=I.lstM hH
 have hlen:its.length=ys.length:=by rw [← hl,Qo]
 have at':∀ (m:Nat) (hm:m < its.toArray.size),∃ y t,ys[m]?=some y∧its.toArray[m]=.str y t:=fun m hm=>by
  have hm':m < its.length:=by simpa using hm
  obtain ⟨y,t,h1,h2⟩:=Z8F r m its[m] (Qj hm')
  exact ⟨y,t,h1,by simpa using h2⟩
 refine call_meets F.slot_list_remove ⟨_,e,rfl⟩ F.entry_list_remove (F.args_list_remove_2 _ _)
  (MeetsSeq.list_remove l its.toArray n (.str w t) (eqS w) (fun y hy=>?_) (Z0C ys w) (by rw [Qz,hlen];exact hj) ?_ (fun m hm hlt=>?_) (by rw [Qz];omega)) ⟨e,?_⟩
 ·obtain ⟨m,hm,rfl⟩:=Array.mem_iff_getElem.mp hy
  obtain ⟨y,t',h1,h2⟩:=at' m hm
  rw [h2]
  exact SeqRoads2.EqGives.str y w t' t
 ·obtain ⟨y,t',h1,h2⟩:=at' (Z0C ys w) (by rw [Qz,hlen];exact hj)
  rw [h2]
  have:=List.findIdx_getElem (p:=sameS w) (xs:=ys) (w:=hj)
  rw [Qj hj] at h1
  cases h1
  exact this
 ·obtain ⟨y,t',h1,h2⟩:=at' m hm
  rw [h2]
  have hm':m < ys.length:=by omega
  have:=List.not_of_lt_findIdx (p:=sameS w) (xs:=ys) (i:=m) hlt
  rw [Qj hm'] at h1
  cases h1
  simpa [eqS] using this
 ·refine ⟨.non,_,I.lset (its':=its.eraseIdx (Z0C ys w)) hH e ?_ (r.eraseIdx _) ?_,rfl,?_⟩
  ·show its.toArray.eraseIdxIfInBounds _=(its.eraseIdx _).toArray
   rw [List.eraseIdxIfInBounds_toArray]
  ·have:=Z8x (ys.map V.str) (Z0C ys w)
   omega
  ·rw [Zbo] at q
   exact q
noncomputable def strsD:List D→Option (List Str)
 | []=>some []
 | .at (.str y)::r=>(match strsD r with | some ys=>some (y::ys) | none=>none)
 | _=>none
theorem Zaz:∀ {l:List T} {ys:List Str},strsD (T.ers l)=some ys→l=ys.map fun y=>T.at (.str y)
 | [],ys,h=>by cases h;rfl
 | t::l,ys,h=>by
  cases t with
  | nd a k c=>cases h
  | «at» v =>
   cases v with
   | str y =>
    simp only [T.ers,T.er,cl,strsD] at h
    cases e:strsD (T.ers l) with
    | none=>rw [e] at h;cases h
    | some zs=>rw [e] at h;cases h;rw [Zaz e];rfl
   | _=>cases h
noncomputable def remR(s1:Sd)(k:Nat)(p:List Nat)(x:Str):Option D→Option DL→ER DV
 | some (.nd (.lst true) l),some (.own true _)=>(match strsD l with
  | some ys=>if Z0C ys x < ys.length then .ok (.val (.at .non)) (wr s1 k p (.nd (.lst true) ((ys.eraseIdx (Z0C ys x)).map fun y=>.at (.str y))) fun _=>false) else .no
  | none=>.no)
 | _,_=>.no
noncomputable def remGo(s1:Sd):List DV→ER DV
 | [.plc k p,.val (.at (.str x))]=>remR s1 k p x (Zw s1 (.plc k p)) s1[k]?
 | _=>.no
noncomputable def eRem(f:AF):EF:=fun s=>match f s with
 | .ok rs s1=>remGo s1 rs
 | .ex C s1=>.ex C s1
 | .no=>.no
theorem Zey{f:AF}{s:Sd}:eRem f s=(match f s with
 | .ok rs s1=>remGo s1 rs
 | .ex C s1=>.ex C s1
 | .no=>.no):=id rfl
theorem ZeV{f:AF}(σ:L2.St)(H:Hp)(Q:VK)(q:lE R ix (eRem f) σ H Q):lA R ix f σ H fun vs H1=>∃ a ys x,vs=[.ref a,.str x]∧H1 a=some (.lst (ys.map V.str))∧Z0C ys x < ys.length∧Q .non (upd H1 a (.lst ((ys.eraseIdx (Z0C ys x)).map V.str))):=by
 obtain ⟨hd,ts,fr,C,q⟩:=q
 refine ⟨hd,ts,fr,C,?_⟩
 unfold eRem at q
 cases ef:f (ts.map TL.er) with
 | no=>rw [ef] at q;exact q
 | ex E s1=>rw [ef] at q;exact q
 | ok rs s1 =>
  rw [ef] at q
  intro H1 ts1 tvs vs e1 e2 hv C1
  subst e1
  cases hv with
  | nil=>subst e2;exact q.elim
  | @cons v tv vs' tvs' hv1 hr =>
   cases hr with
   | nil=>subst e2;cases tv <;> exact q.elim
   | @cons v2 tv2 vs2 tvs2 hv2 hr2 =>
    cases hr2 with
    | @cons v3 tv3 vs3 tvs3 hv3 hr3=>subst e2;cases tv <;> (try exact q.elim) <;> cases tv2 <;> (try exact q.elim) <;> rename_i t <;> cases t <;> (try exact q.elim) <;> rename_i u <;> cases u <;> exact q.elim
    | nil =>
     subst e2
     cases tv with
     | val t=>exact q.elim
     | plc k p a =>
      cases tv2 with
      | plc _ _ _=>exact q.elim
      | val t2 =>
       cases t2 with
       | nd _ _ _=>exact q.elim
       | «at» u =>
        cases u with
        | str x =>
         obtain ⟨rfl,w,t,s,h1,h2,h3⟩:=hv1
         cases hv2
         have hd1:Zw (ts1.map TL.er) (.plc k p)=some s.er:=by simp only [Zw,Qc,h1,Option.map_some,TL.er,T.get_er,h2]
         have q':(match remR (ts1.map TL.er) k p x (Zw (ts1.map TL.er) (.plc k p)) (ts1.map TL.er)[k]? with
          | .ok r s'=>∀ H' ts' tv v,ts'.map TL.er=s'→tv.er=r→ZX ts' v tv→Cf R ix hd H' σ ts' (tv.tr++fr)→Q v H'
          | .ex C s'=>∀ H' ts',ts'.map TL.er=s'→Cf R ix hd H' σ ts' fr→R.EX σ (.ref (R.ad C)) none H'
          | .no=>False):=q
         rw [hd1,Qc,h1] at q'
         cases s with
         | «at» v=>exact q'.elim
         | nd b kd ch =>
          cases h3
          cases kd with
          | lst m=>cases m with
           | false=>exact q'.elim
           | true=>cases w with
            | false=>exact q'.elim
            | true =>
             simp only [Option.map_some,TL.er,T.er,remR] at q'
             cases es:strsD (T.ers ch) with
             | none=>rw [es] at q';exact q'.elim
             | some ys =>
              rw [es] at q'
              dsimp only at q'
              by_cases hj:Z0C ys x < ys.length
              case neg=>rw [if_neg hj] at q';exact q'.elim
              rw [if_pos hj] at q'
              have ech:=Zaz es
              subst ech
              have C2:Cf R ix hd H1 σ ts1 fr:=C1.drops
              have sok:=T.get_ok h2 (C2.ok true t (Qg h1))
              have hv:(ys.map fun y=>T.at (.str y)).map T.val=ys.map V.str:=by rw [Jf];rfl
              refine ⟨a,ys,x,rfl,by rw [← hv];exact sok.1,hj,?_⟩
              have W:=set_list (cs:=(ys.eraseIdx (Z0C ys x)).map fun y=>T.at (.str y)) C2 h1 h2 (fun c hc=>by
               obtain ⟨y,_,rfl⟩:=Jx.mp hc
               exact ⟨rfl,trivial,fun b hb=>by simp [T.ro] at hb⟩)
              have hv2:((ys.eraseIdx (Z0C ys x)).map fun y=>T.at (.str y)).map T.val=(ys.eraseIdx (Z0C ys x)).map V.str:=by rw [Jf];rfl
              rw [hv2] at W
              refine q' _ _ (.val (.at .non)) .non ?_ rfl rfl (W.at .non)
              rw [wr_er h1]
              have:(T.nd a (.lst true) ((ys.eraseIdx (Z0C ys x)).map fun y=>T.at (.str y))).er=.nd (.lst true) ((ys.eraseIdx (Z0C ys x)).map fun y=>.at (.str y)):=by simp [T.er,T.ers_eq,cl]
              rw [this]
          | _=>exact q'.elim
        | _=>exact q.elim
theorem Zfu{o e:Expr}{apos cpos:Pos}{fo fe:EF}(ho:PE X o (lE R ix fo))(he:PE X e (lE R ix fe))(hbase:attributeBase o "remove" X.env (eval o X.env)=eval o X.env:=by rfl)
  (hfew:((backTo cpos (starEach [e] X.env)).all (fun x=>!x.1) && (backToKw cpos (keywordEach [] X.env)).all (fun x=>x.1.isSome) && decide ([e].length + ([]:List Keyword).length + (if ([]:List Keyword).isEmpty then 0 else 1) < 30))=true:=by rfl)
  (hline:(apos.endLine == cpos.line)=true:=by rfl) (hs:starEach [e] X.env=(false,eval e X.env)::starEach [] X.env:=by rfl) (hplain:(backTo cpos (starEach [] X.env)).any (·.1)=false:=by rfl) :
  PE X (.Call (.Attribute o "remove" apos) [e] [] cpos) (lE R ix (eRem (Z0 (Zn Z15 fo) (Z0 fe Z1)))) :=
 peM (pe_bm PySem.F.plainAttrs_list PySem.F.slot_list_remove PySem.F.type_list_remove Zbr ho (Zk he Z01 hs) hbase hfew hline hs hplain) fun σ H Q q=>by
  have q1:=lA_2 (ZeV σ H Q q)
  refine Zj (fun x H1 q=>?_) (Z3C q1)
  obtain ⟨⟨t0,rfl,t2,t3⟩,q⟩:=q
  obtain ⟨a,k,ch,rfl,hD⟩:∃ a m ch,t0=.nd a (.lst m) ch∧SqL X.K H1 a (ch.map T.val):=by
   cases t0 with
   | «at» v=>simp [T.er,Z15] at t3
   | nd a k ch=>cases k with
    | lst m=>exact ⟨a,m,ch,rfl,t2.1.sqL⟩
    | _=>simp [T.er,Z15] at t3
  refine ⟨.inl ⟨rfl,_,hD⟩,Zj (fun y H2 q=>?_) q⟩
  obtain ⟨a',ys,x,hvs,hH,hj,q⟩:=q
  simp only [Jt.injEq,and_true] at hvs
  exact ⟨a',ys,x,hvs.1,by rw [hvs.2],hH,hj,q⟩
end
end RM

namespace RM
open PySem PySem.Spec PyProof.Rows L2
structure TurnP(P:Program)(w:World)(K:Qa)(tg:Expr)(J:It)(fp:List Addr)(it:Addr)(tn:Nat→Heap→Prop)(ao:Addr×Obj):Prop where
 obj:∀ i h,tn i h→∀ b∈fp,∃ o,h.get? b=some o∧∀ v,o.data≠.cell v
 keep:∀ i h h',tn i h→(∀ b∈fp,∀ o,h.get? b=some o→h'.get? b=some o)→tn i h'
 item:∀ (X:Cx),X.prog=P→X.w=w→X.K=K→X.calm=true→∀ (i:Nat) (pins:List (Addr×Obj)) (s:Shared) (σ:L2.St) (H:Hp) (E:Value→Shared→Prop),ao∈pins→Inv X pins σ H s→(∀ b∈fp,FpOk X pins H b)→tn i s.heap→J.go i H →
  wpAny (model P w) X.A (pyNext (.ref it)) (fun r s1=>∃ u,r=some u ∧
   wpAny (model P w) X.A (letOwnedTupleGo tg (.ref it) u) (fun _ s2=>∃ x H',Inv X pins σ H' s2∧RelV x u∧J.yld i H x H'∧tn (i + 1) s2.heap∧∀ b∈fp,H' b=none) E s1) E s
 done:∀ (X:Cx),X.prog=P→X.w=w→X.K=K→X.calm=true→∀ (i:Nat) (pins:List (Addr×Obj)) (s:Shared) (σ:L2.St) (H:Hp) (E:Value→Shared→Prop),ao∈pins→Inv X pins σ H s→(∀ b∈fp,FpOk X pins H b)→tn i s.heap→J.stop i H →
  wpAny (model P w) X.A (pyNext (.ref it)) (fun r s1=>r=none∧Inv X pins σ H s1) E s
 self:∀ (A:Around) (i:Nat) (s:Shared) (Q:Value→Shared→Prop) (E:Value→Shared→Prop),tn i s.heap→Q (.ref it) s→wpAny (model P w) A (pyIter (.ref it)) Q E s
noncomputable def Itv(kvs:List (Key×V)):It:=⟨fun i _=>i < kvs.length,fun i H x H'=>H'=H∧∃ k,kvs[i]?=some (k,x),fun i _=>kvs.length≤i⟩
theorem ZbP{P:Program}{w:World}{K:Qa}{tg:Expr}(a it:Addr)(oa:Obj)(ep:Nat){kvs:List (Key×V)}{vs:List (Key×Value)}(rel:KV kvs vs)(hat:∀ h:Heap,h.get? a=some oa→h.DictAt (Z0n P w) a vs ep):TurnP P w K tg (Itv kvs) [it] it (fun i h=>h.IsValIter it a i vs.length ep) (a,oa) where
 obj:=fun i h st b hb=>by
  have e:b=it:=by simpa using hb
  subst e
  obtain ⟨o,e,c,d⟩:=st
  exact ⟨o,e,fun v z=>by rw [d] at z;cases z⟩
 keep:=fun i h h' st k=>by
  obtain ⟨o,e,r⟩:=st
  exact ⟨o,k it (by simp) o e,r⟩
 item:=by
  intro X hP hw hK hc i pins s σ H E hao I hf st hg
  subst hP hw hK
  obtain ⟨⟨k,x⟩,hk⟩:∃ q,kvs[i]?=some q:=⟨_,Qj hg⟩
  obtain ⟨u,hu,ru⟩:=Zbl rel hk
  obtain ⟨f0,f1,f2,f3,f4,f5⟩:=hf it (by simp)
  have hd:=hat s.heap (I.pin (a,oa) (Qd _ hao)).1
  refine wpAny_pyNext_values_item st hd hu fun h' st' sb=>?_
  have I1:Inv X pins σ H { s with heap:=h' }:=I.turned (t':=s.toks) (fun b o hb e=>(sb.2 b hb).trans e) f0 f1 f3 f4 f5
  obtain ⟨o,e,c,d⟩:=id st'
  exact ⟨u,rfl,go_of (s:={ s with heap:=h' }) e c d (by decide) ⟨x,H,I1,ru,⟨rfl,k,hk⟩,st',fun b hb=>(hf b hb).1⟩⟩
 done:=by
  intro X hP hw hK hc i pins s σ H E hao I hf st hg
  subst hP hw hK
  obtain ⟨f0,f1,f2,f3,f4,f5⟩:=hf it (by simp)
  have hd:=hat s.heap (I.pin (a,oa) (Qd _ hao)).1
  have hl:=rel.length
  have hg':kvs.length≤i:=hg
  exact wpAny_pyNext_values_end (I.ok.hd hc) st hd (We (by omega)) fun h' eb=>⟨rfl,I.turned (t':=s.toks) (fun b o hb e=>eb b o hb e) f0 f1 f3 f4 f5⟩
 self:=fun _ _ _ _ _ st h=>wpAny_pyIter_valiter st h
section
variable {X:Cx}
theorem Z9Q{t:Nat}{N:List Str}{scope:Scope}{tg iter elt:Expr}{ifs:List Expr}{cl:List (Str×Addr)}{pos:Pos}{g:TG}{tt:TT}{te:TE}{pins:List (Addr×Obj)}{σ:L2.St}{H1:Hp}{s2:Shared}{E:Value→Shared→Prop}
  {it:Addr} {fp:List Addr} {tn:Nat→Heap→Prop} {J:It} {Q:VK} {RR:Value→Addr→Result→Shared→Prop}
  (hc:X.calm=true) (S:CompSc X t N scope) (q1:∀ n c,cl.lookup n=some c→X.env.cells.lookup n=some c) (q2:∀ n,(n,NameKind.free)∈scope.names→∃ c,cl.lookup n=some c)
  (hg:∀ C s H fp,PG (cxC X N scope cl C s H fp) tg g) (hf:∀ C s H fp,PF (cxC X N scope cl C s H fp) ifs tt) (he:∀ C s H fp,PE (cxC X N scope cl C s H fp) elt te)
  (I:Inv X pins σ H1 s2) {ao:Addr×Obj} (T:TurnP X.prog X.w X.K tg J fp it tn ao) (hao:ao∈pins) (st:tn 0 s2.heap) (f2:∀ b∈fp,FpOk X pins H1 b)
  (h:∀ D,H1 D=none→∃ W:Nat→Nat→List V→L2.St→Hp→Prop,(∃ m,W 0 m [] (List.replicate t none++σ) (upd H1 D (.lst [])))∧∀ i m ys τ H,W i m ys τ H →
   (J.stop i H∧Q (.ref D) H)∨(J.go i H∧∃ N:List V→L2.St→Hp→Prop,(∀ zs τ' H',N zs τ' H'→∃ m',m' < m∧W (i + 1) m' zs τ' H')∧∀ x H',J.yld i H x H'→g x τ H' fun τ2 H2=>tt τ2 H2 fun b H3 =>
    if b=true then te τ2 H3 fun y H4=>H4 D=some (.lst ys)∧ys.length < sizeLine∧N (ys++[y]) τ2 (upd H4 D (.lst (ys++[y]))) else N ys τ2 H3))
  (hR:∀ D C s' H',s2.heap.objs.size≤C→D≠C→Inv X pins σ H' s'→H' C=none→(∃ m,s'.heap.Ns C m)→Q (.ref D) H'→RR (.ref D) C (.ok .next) s') :
  wpAny (model X.prog X.w) X.A (newList []) (fun acc s₃=>wpAny (model X.prog X.w) X.A (newFunctionEnv scope X.env.globals cl [] X.env.qual none .none (some X.env)) (fun cenv s₄ =>
   codeAny (model X.prog X.w) X.A (.compStart (.ListComp elt [⟨tg,iter,ifs,0⟩] scope pos) 0 (.ref it) acc { cenv with scope:=relabel scope X.env }) (RR acc cenv.locals) s₄) E s₃) E s2:=by
 refine wpAny_newObj_type (wpAny_newFunctionEnv S.nocell (by intro y hy;simp at hy) (fun h₁ hns₁ hsb₁=>?_) S.kind)
 dsimp only at hns₁ hsb₁ ⊢
 generalize hH2:s2.heap.push { cls:=.type "list",dict:=none,data:=.seq ([]:List Value).toArray }=H2 at hns₁ hsb₁ ⊢
 have hCs:H2.objs.size=s2.heap.objs.size + 1:=by rw [← hH2,Heap.size_push]
 have hDC:s2.heap.objs.size≠H2.objs.size:=by rw [hCs];exact Jb (Wk _)
 have hCle:s2.heap.objs.size≤H2.objs.size:=by rw [hCs];exact Gy _
 have old:∀ b o,s2.heap.get? b=some o→h₁.get? b=some o:=fun b o e =>
  hsb₁.extBut b o (by rw [hCs];exact Jb (Wa (Heap.lt_size e))) (Heap.get?_push_of_some _ (hH2 ▸ Heap.get?_push_of_some _ e))
 have hacc:h₁.get? s2.heap.objs.size=some { cls:=.type "list",data:=.seq ([]:List Value).toArray }:=hsb₁.extBut _ _ hDC (Heap.get?_push_of_some _ (hH2 ▸ Heap.get?_push_size _ rfl))
 have hfp:∀ b∈fp,FpOk X pins H1 b∧b < s2.heap.objs.size:=fun b hb=>⟨f2 b hb,by obtain ⟨o,e,_⟩:=T.obj _ _ st b hb;exact Heap.lt_size e⟩
 have hns:h₁.Ns H2.objs.size fun _=>none:=hns₁
 have I4:=Z6R (tk:=s2.toks + ([]:List (Str×Value)).length) I S hCle (Qq _) hDC hfp q1 q2 hns old hacc
 have st1:tn 0 h₁:=T.keep _ _ _ st fun b _ o e=>old b o e
 obtain ⟨W,⟨m0,w0⟩,turn⟩:=h s2.heap.objs.size (I.hok.fresh (Qq _))
 generalize hY:cxC X N scope cl H2.objs.size s2 H1 fp=Y at I4
 have yfp:∀ {H':Hp},(∀ b∈fp,H' b=none)→∀ b∈fp,FpOk Y pins H' b:=fun hn b hb=>by
  obtain ⟨⟨_,g1,g2,g3,g4,g5⟩,gl⟩:=hfp b hb
  subst hY
  refine ⟨hn b hb,Jb (Qv gl hCle),fun z=>?_,.inl hb,fun x c e=>g4 x c (q1 x c e),g5⟩
  rcases Qx.mp (I.stkSub b z) with w | w
  ·exact g1 w
  ·exact g2 w
 have eP:Y.prog=X.prog:=by subst hY;rfl
 have ew:Y.w=X.w:=by subst hY;rfl
 have eK:Y.K=X.K:=by subst hY;rfl
 have eA:Y.A=X.A:=by subst hY;rfl
 have ecalm:Y.calm=true:=by subst hY;exact hc
 have loop:codeAny (model X.prog X.w) X.A (.compLoop (.ListComp elt [⟨tg,iter,ifs,0⟩] scope pos) 0 (.ref it) (.ref s2.heap.objs.size) (compEnvC scope cl H2.objs.size X.env))
    (RR (.ref s2.heap.objs.size) H2.objs.size) { s2 with heap:=h₁,toks:=s2.toks + ([]:List (Str×Value)).length }:=by
  refine Z5t (fun n s'=>∃ i ys τ H',Inv Y pins τ H' s'∧tn i s'.heap∧(∀ b∈fp,H' b=none)∧W i n ys τ H') ?_ m0 ⟨0,[],_,_,I4,st1,fun b hb=>?_,w0⟩
  ·rintro n s3 ⟨i,ys,τ,H3,I3,st3,fr3,w3⟩
   rcases turn i n ys τ H3 w3 with ⟨stop,qn⟩ | ⟨go,NN,hNN,step⟩
   ·have d:=T.done Y eP ew eK ecalm i pins s3 τ H3 (fun _ _=>False) hao I3 (yfp fr3) st3 stop
    rw [eA] at d
    refine thn d fun r s4 ⟨hr,I5⟩=>?_
    subst hr
    subst hY
    have J5:=Z97 (t:=t) I hCle hfp I5
    obtain ⟨m,hn,_⟩:=I5.loc
    exact hR _ _ s4 H3 hCle hDC J5 I5.free ⟨m,hn⟩ qn
   ·have d:=T.item Y eP ew eK ecalm i pins s3 τ H3 (fun _ _=>False) hao I3 (yfp fr3) st3 go
    rw [eA] at d
    refine thn d fun r s4 ⟨u,hr,h4⟩=>?_
    subst hr
    refine thn h4 fun _ s5 ⟨x,H5,I5,r5,y5,st5,fr5⟩=>?_
    have I5':=I5.pinned (yfp fr5) (T.obj _ _ st5)
    subst hY
    refine thn (hg _ _ _ _ _ s5 τ H5 x u _ I5' r5 (step x H5 y5)) fun _ s6 ⟨τ6,H6,I6,q6⟩=>?_
    refine thn (hf _ _ _ _ _ s6 τ6 H6 _ I6 q6) fun b s7 ⟨H7,I7,q7⟩=>?_
    have again:∀ {zs:List V} {σ7:L2.St} {H7:Hp} {s7:Shared},Inv (cxC X N scope cl H2.objs.size s2 H1 fp) (pins++Z4v fp s5.heap) σ7 H7 s7→(∃ m',m' < n∧W (i + 1) m' zs σ7 H7) →
      ∃ m,m < n∧∃ i ys τ H',Inv (cxC X N scope cl H2.objs.size s2 H1 fp) pins τ H' s7∧tn i s7.heap∧(∀ b∈fp,H' b=none)∧W i m ys τ H':=fun {zs σ7 H7 s7} I7 ⟨m',hm,w7⟩=>by
     refine ⟨m',hm,i + 1,zs,σ7,H7,I7.unpinned,T.keep _ _ _ st5 fun b hb o e=>(I7.pin (b,o) (Qd _ (Qd _ (Z1Z hb e)))).1,fun b hb=>?_,w7⟩
     obtain ⟨o,e,d⟩:=T.obj _ _ st5 b hb
     exact (I7.pin (b,o) (Qd _ (Qd _ (Z1Z hb e)))).2.1
    cases b with
    | false=>exact again I7 (hNN _ _ _ q7)
    | true =>
     have q7':=q7
     rw [if_pos rfl] at q7' ⊢
     refine thn (he _ _ _ _ _ s7 τ6 H7 _ I7 q7') fun v s8 ⟨y,H8,I8,r8,hl,hz,q8⟩=>?_
     refine thn (Z5A (X:=cxC X N scope cl H2.objs.size s2 H1 fp) _ s8 τ6 H8 (.ref s2.heap.objs.size) [y] (.ref s2.heap.objs.size) [v] (fun _ H9=>NN (ys++[y]) τ6 H9) I8 rfl (.cons r8 .nil) ⟨_,ys,y,rfl,rfl,hl,hz,q8⟩) fun _ s9 ⟨_,H9,I9,_,q9⟩=>?_
     exact again I9 (hNN _ _ _ q9)
  ·have z:=(hfp b hb).2
   rw [Zb (Jb z)]
   exact (f2 b hb).1
 exact codeAny_compStart_list loop (T.self _ 0 _ _ _ st1 loop)
noncomputable def tCompV(K:Qa)(t:Nat)(to:TE)(g:TG)(tt:TT)(te:TE):TE:=fun σ H Q=>to σ H fun x H1=>tyV K "dict" x H1∧∃ (a:Addr) (kvs:List (Key×V)),x=.ref a∧[]=([]:List V)∧H1 a=some (.dK kvs)∧∀ p,H1 p=none →
 Z31 (Itv kvs) t g tt te σ (del (upd H1 p (.ext fun h=>h.IsValuesView p a)) a) fun v H2=>H2 a=none→Q v (upd H2 a (.dK kvs))
noncomputable def ValsQ(t:Nat)(g:TG)(tt:TT)(te:TE)(σ:L2.St)(Q:VK):VK:=fun v H2=>∃ (p a:Addr) (kvs:List (Key×V)) (H1:Hp),v=.ref p∧H1 p=none∧H1 a=some (.dK kvs)∧H2=upd H1 p (.ext fun h=>h.IsValuesView p a)∧Z31 (Itv kvs) t g tt te σ (del H2 a) fun v H2=>H2 a=none→Q v (upd H2 a (.dK kvs))
theorem ZcG{t:Nat}{N:List Str}{scope:Scope}{tg oe elt:Expr}{ifs:List Expr}{apos cpos pos:Pos}{to:TE}{g:TG}{tt:TT}{te:TE}(hc:X.calm=true)(ho:PE X oe to)(S:CompSc X t N scope)
  (hg:∀ cl C s H fp,PG (cxC X N scope cl C s H fp) tg g) (hf:∀ cl C s H fp,PF (cxC X N scope cl C s H fp) ifs tt) (he:∀ cl C s H fp,PE (cxC X N scope cl C s H fp) elt te)
  (hmono:∀ σ H (Q Q':VK),(∀ x H1,Q x H1→Q' x H1)→to σ H Q→to σ H Q')
  (hbase:attributeBase oe "values" X.env (eval oe X.env)=eval oe X.env:=by rfl) (hline:(apos.endLine == cpos.line)=true:=by rfl)
  (hs:∀ x,foldedSetIterable (.Call (.Attribute oe "values" apos) [] [] cpos) X.env x=pure x:=by intro _;rfl):PE X (.ListComp elt [⟨tg,.Call (.Attribute oe "values" apos) [] [] cpos,ifs,0⟩] scope pos) (tCompV X.K t to g tt te):=by
 intro pins s σ H Q I h
 obtain ⟨cl,e,q1,q2⟩:=Z4l (env:=X.env) (scope:=scope) fun p hp hk=>I.ok.has p.1 (S.free p hp hk)
 have h':tBM0 X.K "dict" (fun x xs H Q=>∃ a kvs,x=.ref a∧xs=[]∧H a=some (.dK kvs)∧∀ p,H p=none→Q (.ref p) (upd H p (.ext fun h=>h.IsValuesView p a))) to σ H (ValsQ t g tt te σ Q):=by
  refine hmono _ _ _ _ (fun x H1 q=>?_) h
  obtain ⟨ty,a,kvs,e1,e2,e3,q⟩:=q
  exact ⟨ty,a,kvs,e1,e2,e3,fun p hp=>⟨p,a,kvs,H1,rfl,hp,e3,rfl,q p hp⟩⟩
 rw [eval_ListComp]
 refine wpAny_comprehension_free (use:=none) rfl hs e S.kind S.names (thn (Zfc PySem.F.plainAttrs_dict PySem.F.slot_dict_values PySem.F.type_dict_values Zbs ho hbase hline pins s σ H _ I h') fun v s1 ⟨x,H2,I1,r1,q3⟩=>?_)
 obtain ⟨p,a,kvs,H1,rfl,hpn,ha1,rfl,hW⟩:=q3
 cases r1
 have hpa:a≠p:=by rintro rfl;rw [hpn] at ha1;cases ha1
 have ha2:upd H1 p (.ext fun h=>h.IsValuesView p a) a=some (.dK kvs):=by rw [Zb hpa];exact ha1
 have hvw:s1.heap.IsValuesView p a:=(I1.hok p _ Zm).1
 obtain ⟨z,hd,vs,rel,dd⟩:=dk_rd I1.hok (.inl ha2)
 obtain ⟨oa,es,ep,e1,e2,e3,e4,e5,e6⟩:=id dd
 have hat:s1.heap.DictAt (Z0n X.prog X.w) a vs ep:=⟨oa,es,e1,e2,e3,e4,e5,e6⟩
 have It:Inv X (pins++[(a,oa)]) σ (del (upd H1 p (.ext fun h=>h.IsValuesView p a)) a) s1:=Zbf I1 ha2 e1 (fun v z=>by rw [e3] at z;cases z)
 refine wpAny_pyIter_values hvw hat ?_
 have fp:∀ {H':Hp},H' s1.heap.objs.size=none→FpOk X (pins++[(a,oa)]) H' s1.heap.objs.size:=fun hn=>It.fpOk (Qq _) hn
 have I2:Inv X (pins++[(a,oa)]) σ (del (upd H1 p (.ext fun h=>h.IsValuesView p a)) a) { s1 with heap:=s1.heap.push { cls:=.type "dict_valueiterator",data:=.fields #[.ref a,.int 0 0,.int vs.length 0,.int ep 0] } }:=It.kept (t':=s1.toks) (fun b o e=>Heap.get?_push_of_some _ e)
 refine Z9Q (Q:=fun v H2=>H2 a=none→Q v (upd H2 a (.dK kvs))) (RR:=fun acc C=>compPost (model X.prog X.w) X.A X.xe none (EP X pins σ Q) acc C) hc S q1 q2 (hg cl) (hf cl) (he cl) I2 (ZbP (tg:=tg) a s1.heap.objs.size oa ep rel fun h' z=>⟨oa,es,z,e2,e3,e4,e5,e6⟩) (by simp) ⟨_,Heap.get?_push_size _ rfl,rfl,rfl⟩ (fun b hb=>by
  have z:b=s1.heap.objs.size:=by simpa using hb
  subst z
  exact fp (It.hok.fresh (Qq _))) hW ?_
 intro D C s' H' hC hDC J1 hn hm q
 obtain ⟨m,hm⟩:=hm
 have pa:=J1.pin (a,oa) (by simp)
 exact ⟨m,hm,fun h' hs'=>⟨.ref D,_,Zcy I1 ha2 e1 (Z98 I2 hC J1 hn hs'),rfl,q pa.2.1⟩⟩
end
end RM

namespace RM
open PySem PySem.Spec PyProof.Rows L2
noncomputable def Z0g{α:Type}:List Bool→List α→List α
 | b::bs,x::xs=>if b then x::Z0g bs xs else Z0g bs xs
 | _,_=>[]
theorem Z2p{α β:Type}(f:α→β):∀ (bs:List Bool) (xs:List α),(Z0g bs xs).map f=Z0g bs (xs.map f)
 | [],xs=>by cases xs <;> rfl
 | b::bs,[]=>rfl
 | b::bs,x::xs=>by cases b <;> simp [Z0g,Z2p f bs xs]
theorem Z8C{α:Type}{b:Bool}{x:α}:∀ {bs:List Bool} {xs:List α},bs.length=xs.length→Z0g (bs++[b]) (xs++[x])=Z0g bs xs++(if b then [x] else [])
 | [],[],_=>by cases b <;> rfl
 | c::bs,y::xs,h=>by
  have:=Z8C (b:=b) (x:=x) (bs:=bs) (xs:=xs) (by simpa using h)
  cases c <;> simp [Z0g,this]
theorem Z68{α:Type}:∀ {bs:List Bool} {xs:List α},(Z0g bs xs).length≤xs.length
 | [],xs=>by cases xs <;> simp [Z0g]
 | b::bs,[]=>by simp [Z0g]
 | b::bs,x::xs=>by
  have:=Z68 (bs:=bs) (xs:=xs)
  cases b <;> simp [Z0g] <;> omega
noncomputable def fldD(C:Addr)(f:Str):D→Option D
 | .nd (.ins _ C' ns) l=>if C'=C then (match idx f ns with | some j=>l[j]? | none=>none) else none
 | _=>none
noncomputable def blD:Option D→Option Bool
 | some (.at (.bl b))=>some b | _=>none
noncomputable def stBs(CH:Addr)(G:Str):List D→Option (List Bool)
 | []=>some []
 | d::r=>match blD (fldD CH G d),stBs CH G r with | some b,some l=>some (b::l) | _,_=>none
noncomputable def stOf(C CH:Addr)(F G:Str)(d:D):Option (List D×List Bool):=match fldD C F d with
 | some (.nd (.dic _ _) hs)=>(match stBs CH G hs with | some bs=>some (hs,bs) | none=>none)
 | _=>none
theorem Z9e{C:Addr}{f:Str}{t:T}{d:D}{H:Hp}(h:fldD C f t.er=some d)(ok:t.ok H):∃ a dx fs u,t.val=.ref a∧H a=some (.ins C dx fs)∧fs.lookup f=some u.val∧u.er=d∧u.ok H∧T.get [] u=some u∧(∀ b∈u.ro,b∈t.ro):=by
 cases t with
 | «at» v=>cases h
 | nd a k ch =>
  cases k with
  | ins m C' ns =>
   simp only [T.er,fldD] at h
   by_cases hC:C'=C
   ·subst hC
    rw [if_pos rfl] at h
    cases ei:idx f ns with
    | none=>rw [ei] at h;cases h
    | some j =>
     rw [ei] at h
     dsimp only at h
     rw [T.ers_eq,Qc] at h
     cases ej:ch[j]? with
     | none=>rw [ej] at h;cases h
     | some u =>
      rw [ej] at h
      cases h
      obtain ⟨o1,o2⟩:=ok
      obtain ⟨n1,dx,n2⟩:=o1
      obtain ⟨v,v1,v2⟩:=Z4T (f:=f) (j:=j) n1 ei
      rw [Qc,ej] at v1
      cases v1
      refine ⟨a,dx,_,u,rfl,n2,v2,rfl,T.oks_iff.mp o2 u (Qg ej),rfl,fun b hb=>?_⟩
      rw [T.ro]
      exact Qd _ (T.mem_ros.mpr ⟨u,Qg ej,hb⟩)
   ·rw [if_neg hC] at h;cases h
  | _=>cases h
theorem Z9L{CH:Addr}{G:Str}:∀ {l:List D} {bs:List Bool} {i:Nat} {d:D},stBs CH G l=some bs→l[i]?=some d→∃ b,bs[i]?=some b∧blD (fldD CH G d)=some b
 | [],_,_,_,_,h=>by simp at h
 | d::r,bs,i,e,h,hi=>by
  unfold stBs at h
  split at h
  case h_2=>cases h
  case h_1 b l h1 h2 =>
   cases h
   cases i with
   | zero=>cases hi;exact ⟨b,rfl,h1⟩
   | succ i=>simpa using Z9L h2 (by simpa using hi)
theorem Z9M{CH:Addr}{G:Str}:∀ {l:List D} {bs:List Bool},stBs CH G l=some bs→bs.length=l.length
 | [],_,h=>by cases h;rfl
 | d::r,bs,h=>by
  unfold stBs at h
  split at h
  case h_2=>cases h
  case h_1 b l h1 h2=>cases h;simp [Z9M h2]
noncomputable def spSt(C CH:Addr)(F G:Str):Sp:=fun vs H Q _=>∃ (a dx b:Addr) (fs:List (Str×V)) (kvs:List (Key×V)) (bs:List Bool),vs=[.ref a]∧H a=some (.ins C dx fs)∧fs.lookup F=some (.ref b)∧H b=some (.dK kvs)∧kvs.length≤1000∧bs.length=kvs.length ∧
 (∀ (i:Nat) k x c,kvs[i]?=some (k,x)→bs[i]?=some c→∃ y dy gs,x=.ref y∧H y=some (.ins CH dy gs)∧gs.lookup G=some (.bl c)) ∧
 ∀ H' l,(∀ a,H a≠none→H' a=H a)→H l=none→H' l=some (.lst (Z0g bs (kvs.map (·.2))))→Q (.ref l) H'
theorem blD_t{d:Option D}{b:Bool}(h:blD d=some b):d=some (.at (.bl b)):=by
 unfold blD at h
 split at h
 ·cases h;rfl
 ·cases h
theorem at_bl{u:T}{b:Bool}(h:u.er=.at (.bl b)):u.val=.bl b:=by
 cases u with
 | nd _ _ _=>cases h
 | «at» v=>cases v <;> simp_all [T.er,cl,T.val]
theorem st_t{C CH:Addr}{F G:Str}{t:T}{H:Hp}{hs:List D}{bs:List Bool}(h:stOf C CH F G t.er=some (hs,bs))(ok:t.ok H)(hz:hs.length≤1000):∃ (a dx b:Addr) (fs:List (Str×V)) (kvs:List (Key×V)) (ch:List T),t.val=.ref a∧H a=some (.ins C dx fs)∧fs.lookup F=some (.ref b)∧H b=some (.dK kvs)∧kvs.length≤1000∧bs.length=kvs.length ∧
  (∀ (i:Nat) k x c,kvs[i]?=some (k,x)→bs[i]?=some c→∃ y dy gs,x=.ref y∧H y=some (.ins CH dy gs)∧gs.lookup G=some (.bl c))∧kvs.map (·.2)=ch.map T.val∧T.ers ch=hs∧T.oks H ch∧∀ a∈T.ros ch,a∈t.ro:=by
 unfold stOf at h
 split at h
 case h_2=>cases h
 case h_1 m ks l hf =>
  split at h
  case h_2=>cases h
  case h_1 bs' hb =>
   simp only [Option.some.injEq,Prod.mk.injEq] at h
   obtain ⟨rfl,rfl⟩:=h
   obtain ⟨a,dx,fs,u,u1,u2,u3,u4,u5,_,u6⟩:=Z9e hf ok
   obtain ⟨b,ch,rfl,rfl⟩:=Zel u4
   obtain ⟨n1,n2,n3⟩:=u5.1
   have hl:=Z9M hb
   rw [T.ers_eq,Qo] at hl hz
   have hk:(ks.zip (ch.map T.val)).length=ch.length:=by rw [Nr,n1];simp
   refine ⟨a,dx,b,fs,_,ch,u1,u2,u3,n3,by rw [hk];exact hz,by rw [hk];exact hl,fun i k x c h1 h2=>?_,ZaC n1,rfl,u5.2,fun y hy=>u6 y (by rw [T.ro];exact Qd _ hy)⟩
   obtain ⟨z1,z2⟩:=zip_get h1
   rw [Qc] at z2
   cases ei:ch[i]? with
   | none=>rw [ei] at z2;cases z2
   | some c1 =>
    rw [ei] at z2
    cases z2
    obtain ⟨b',b1,b2⟩:=Z9L hb (i:=i) (d:=c1.er) (by rw [T.ers_eq,Qc,ei];rfl)
    rw [h2] at b1
    cases b1
    obtain ⟨y,dy,gs,v,v1,v2,v3,v4,_⟩:=Z9e (blD_t b2) (T.oks_iff.mp u5.2 c1 (Qg ei))
    exact ⟨y,dy,gs,v1,v2,by rw [v3,at_bl v4]⟩
section
variable {X:Cx}{R:RC}{ix:List Nat}{H:Hp}{σ:L2.St}
theorem ZaZ{t:Nat}{kvs:List (Key×V)}{g:TG}{tt:TT}{te:TE}{Q:VK}{H1:Hp}(P:Addr→Nat→List V→L2.St→Hp→Prop)(h0:∀ D,H1 D=none→P D 0 [] (List.replicate t none++σ) (upd H1 D (.lst [])))
  (hs:∀ D i k x ys τ H,H1 D=none→kvs[i]?=some (k,x)→P D i ys τ H→g x τ H fun τ2 H2=>tt τ2 H2 fun b H3 =>
   if b=true then te τ2 H3 fun y H4=>H4 D=some (.lst ys)∧ys.length < sizeLine∧P D (i + 1) (ys++[y]) τ2 (upd H4 D (.lst (ys++[y]))) else P D (i + 1) ys τ2 H3)
  (hd:∀ D ys τ H,H1 D=none→P D kvs.length ys τ H→Q (.ref D) H):Z31 (Itv kvs) t g tt te σ H1 Q:=by
 intro D hD
 refine ⟨fun i m ys τ H=>m=kvs.length - i∧i≤kvs.length∧P D i ys τ H,⟨kvs.length,by simp,Wq _,h0 D hD⟩,?_⟩
 rintro i m ys τ H ⟨rfl,hi,p⟩
 by_cases hlt:i < kvs.length
 ·refine .inr ⟨hlt,P D (i + 1),fun zs τ' H' p'=>⟨kvs.length - (i + 1),by omega,rfl,hlt,p'⟩,fun x H' y=>?_⟩
  obtain ⟨e,k,y⟩:=y
  subst e
  exact hs D i k x ys τ _ hD y p
 ·have e:i=kvs.length:=by omega
  subst e
  exact .inl ⟨Qq _,hd D ys τ H hD p⟩
theorem Ze2{K:Qa}{C CH:Addr}{F G:Str}{vs:List V}{Q:VK}{E:XK}{N:List Str}(hN:vs.length=1→L2.start N vs=vs.map some)(h:spSt C CH F G vs H Q E):tRet (tCompV K 1 (tFldC C (tVar 0) F) (Z1I 0) (tB (tFldC CH (tVar 0) G)) (tVar 0)) { nx:=fun _ H'=>Q .non H',rt:=Q } (L2.start N vs) H:=by
 obtain ⟨a,dx,b,fs,kvs,bs,rfl,h1,h2,h3,hz,hl,hy,q⟩:=h
 rw [hN rfl]
 refine ⟨.ref a,rfl,a,dx,fs,.ref b,rfl,h1,h2,.inr (.inr (.inl ⟨rfl,.inl ⟨_,h3⟩⟩)),b,kvs,rfl,rfl,h3,fun p hp=>?_⟩
 have hbp:b≠p:=by rintro rfl;rw [h3] at hp;cases hp
 refine ZaZ (fun D i ys τ H'=>ys=Z0g (bs.take i) ((kvs.map (·.2)).take i)∧H'=upd (del (upd H p (.ext fun h=>h.IsValuesView p b)) b) D (.lst ys)∧∃ v0,τ=[v0,some (.ref a)]) (fun D hD=>⟨by simp [Z0g],rfl,none,rfl⟩) ?_ ?_
 ·rintro D i k x ys τ H' hD hi ⟨rfl,rfl,v0,rfl⟩
  obtain ⟨c,hc⟩:∃ c,bs[i]?=some c:=⟨bs[i]'(by rw [hl];exact (Qe.mp hi).1),Qj _⟩
  obtain ⟨y,dy,gs,rfl,y1,y2⟩:=hy i k x c hi hc
  have hyD:y≠D:=by
   rintro rfl
   have:del (upd H p (.ext fun h=>h.IsValuesView p b)) b y=some (.ins CH dy gs):=by
    rw [Z1O (by rintro rfl;rw [h3] at y1;cases y1),Zb (by rintro rfl;rw [hp] at y1;cases y1)];exact y1
   rw [this] at hD;cases hD
  have hn:((kvs.map (·.2)).take (i + 1))=(kvs.map (·.2)).take i++[.ref y]:=by
   rw [Nj,Qc,hi];rfl
  have hb:bs.take (i + 1)=bs.take i++[c]:=by rw [Nj,hc];rfl
  have hi':=(Qe.mp hi).1
  have hs:=Z8C (b:=c) (x:=V.ref y) (bs:=bs.take i) (xs:=(kvs.map (·.2)).take i) (by simp;omega)
  rw [← hn,← hb] at hs
  refine ⟨.ref y,rfl,y,dy,gs,.bl c,rfl,?_,y2,c,rfl,?_⟩
  ·rw [Zb hyD,Z1O (by rintro rfl;rw [h3] at y1;cases y1),Zb (by rintro rfl;rw [hp] at y1;cases y1)];exact y1
  ·cases c with
   | true =>
    rw [if_pos rfl]
    refine ⟨.ref y,rfl,Zm,?_,?_,?_,some (.ref y),rfl⟩
    ·have:=Z68 (bs:=bs.take i) (xs:=(kvs.map (·.2)).take i)
     simp only [Wg,Qo] at this
     have:sizeLine=16777216:=rfl
     omega
    ·rw [hs];simp
    ·funext z
     by_cases hz:z=D
     ·subst hz;rw [Zm,Zm]
     ·rw [Zb hz,Zb hz,Zb hz]
   | false =>
    rw [if_neg Ql]
    exact ⟨by rw [hs];simp,rfl,some (.ref y),rfl⟩
 ·rintro D ys τ H' hD ⟨rfl,rfl,v0,rfl⟩ hb
  have hDb:D≠b:=by rintro rfl;rw [Zm] at hb;cases hb
  refine q _ D (fun z hz=>?_) ?_ ?_
  ·by_cases e:z=b
   ·subst e;rw [Zm];exact h3.symm
   ·have hzD:z≠D:=by
     rintro rfl
     rw [Z1O e] at hD
     by_cases e2:z=p
     ·subst e2;exact hz hp
     ·rw [Zb e2] at hD;exact hz hD
    rw [Zb e,Zb hzD,Z1O e,Zb (by rintro rfl;exact hz hp)]
  ·rw [Z1O hDb] at hD
   by_cases e2:D=p
   ·subst e2;exact hp
   ·rwa [Zb e2] at hD
  ·rw [Zb hDb,Zm]
   congr 2
   rw [Ju (by omega),Ju (by simp)]
noncomputable def fSt(C CH:Addr)(F G:Str):Fn:=fun ds=>match ds with
 | [d]=>(match stOf C CH F G d with
  | some (hs,bs)=>if hs.length≤1000 then .ok (.val (.nd (.lst true) ((Z0g bs hs).map fun _=>hole))) [d] else .no
  | none=>.no)
 | _=>.no
theorem ZfB{C CH:Addr}{F G:Str}{ad:Str→Addr}{vs:List V}{Q:VK}{E:XK}(h:spR ad [false] (fSt C CH F G) vs H Q E):spSt C CH F G vs H Q E:=by
 obtain ⟨l,B,hv,en,h⟩:=h
 obtain ⟨t,rfl⟩:=len1 en.len.symm
 simp only [T.ers,fSt] at h
 cases e:stOf C CH F G t.er with
 | none=>rw [e] at h;exact h.elim
 | some y =>
  obtain ⟨hs,bs⟩:=y
  rw [e] at h
  dsimp only at h
  by_cases hz:hs.length≤1000
  ·rw [if_pos hz] at h
   obtain ⟨a,dx,b,fs,kvs,ch,t1,t2,t3,t4,t5,t6,t7,t8,t9,t10,t11⟩:=st_t e en.ok.1 hz
   refine ⟨a,dx,b,fs,kvs,bs,by rw [← hv,Qi,t1];rfl,t2,t3,t4,t5,t6,t7,fun H' x k1 k2 k3=>?_⟩
   rw [t8] at k3
   refine h H' [t] (.val (.nd x (.lst true) ((Z0g bs (ch.map T.val)).map T.at))) (.ref x) rfl ?_ rfl ?_
   ·simp only [RT.er,T.er,T.ers_eq,Jf]
    rw [← t9,T.ers_eq,Z2p,Z2p,Jf,Jf]
    congr 3
    refine Wc fun u hu=>?_
    have:∃ y,u.val=.ref y:=by
     obtain ⟨i,hi⟩:=Ja.mp hu
     have hv2:(kvs.map (·.2))[i]?=some u.val:=by rw [t8,Qc,hi];rfl
     rw [Qc] at hv2
     cases ek:kvs[i]? with
     | none=>rw [ek] at hv2;cases hv2
     | some kx =>
      rw [ek] at hv2
      obtain ⟨k',x'⟩:=kx
      have hlt:i < bs.length:=by rw [t6];exact (Qe.mp ek).1
      obtain ⟨y,_,_,rfl,_⟩:=t7 i k' x' bs[i] ek (Qj hlt)
      simp only [Option.map_some,Option.some.injEq] at hv2
      exact ⟨y,hv2.symm⟩
    obtain ⟨y,hy⟩:=this
    simp only [Function.comp,hy,T.er,cl,hole]
   ·have hat:∀ l:List V,T.owns (l.map T.at)=[]∧T.ros (l.map T.at)=[]∧(l.map T.at).map T.val=l∧T.oks H' (l.map T.at):=by
     intro l
     induction l with
     | nil=>exact ⟨rfl,rfl,rfl,trivial⟩
     | cons v r ih=>exact ⟨by simp [T.owns,T.own,ih.1],by simp [T.ros,T.ro,ih.2.1],by simp [T.val,ih.2.2.1],trivial,ih.2.2.2⟩
    obtain ⟨o1,o2,o3,o4⟩:=hat (Z0g bs (ch.map T.val))
    refine ⟨rfl,rfl,trivial,⟨⟨by rw [o3];exact k3,o4⟩,trivial⟩,?_,?_,?_,fun z hz _=>k1 z hz⟩
    ·simp [Zf,T.owns,RT.tr,T.own,o1,NK.mut]
    ·intro z hz
     have:z=x:=by simpa [Zf,T.owns,RT.tr,T.own,o1,NK.mut] using hz
     subst this;exact .inr k2
    ·intro z hz
     simp [Zf,T.ros,RT.tr,T.ro,o2,NK.mut] at hz
  ·rw [if_neg hz] at h;exact h.elim
noncomputable def nmD(CH:Addr)(fld:Str):List D→Option (List Str)
 | []=>some []
 | d::r=>match fldD CH fld d,nmD CH fld r with | some (.at (.str x)),some l=>some (x::l) | _,_=>none
noncomputable def hNm(C CH:Addr)(F G m fld:Str):List D→Option D
 | [d]=>if Zo C m d=true then (match stOf C CH F G d with
  | some (hs,bs)=>if hs.length≤1000 then (match nmD CH fld (Z0g bs hs) with | some l=>some (.nd (.lst true) (l.map fun x=>.at (.str x))) | none=>none) else none
  | none=>none) else none
 | _=>none
theorem Zan{CH:Addr}{fld:Str}:∀ {l:List D} {xs:List Str},nmD CH fld l=some xs→xs.length=l.length
 | [],_,h=>by cases h;rfl
 | d::r,xs,h=>by
  unfold nmD at h
  split at h
  case h_2=>cases h
  case h_1 x l h1 h2=>cases h;simp [Zan h2]
theorem Zam{CH:Addr}{fld:Str}:∀ {l:List D} {xs:List Str} {i:Nat} {d:D},nmD CH fld l=some xs→l[i]?=some d→∃ x,xs[i]?=some x∧fldD CH fld d=some (.at (.str x))
 | [],_,_,_,_,h=>by simp at h
 | d::r,xs,i,e,h,hi=>by
  unfold nmD at h
  split at h
  case h_2=>cases h
  case h_1 x l h1 h2 =>
   cases h
   cases i with
   | zero=>cases hi;exact ⟨x,rfl,h1⟩
   | succ i=>simpa using Zam h2 (by simpa using hi)
theorem ZaW{u:T}{x:Str}(h:u.er=.at (.str x)):u.val=.str x:=by
 cases u with
 | nd _ _ _=>cases h
 | «at» v=>cases v <;> simp_all [T.er,cl,T.val]
theorem Zeg{H':Hp}(l:List V):T.owns (l.map T.at)=[]∧T.ros (l.map T.at)=[]∧(l.map T.at).map T.val=l∧T.oks H' (l.map T.at):=by
 induction l with
 | nil=>exact ⟨rfl,rfl,rfl,trivial⟩
 | cons v r ih=>exact ⟨by simp [T.owns,T.own,ih.1],by simp [T.ros,T.ro,ih.2.1],by simp [T.val,ih.2.2.1],trivial,ih.2.2.2⟩
theorem ZaP{N:List Str}{scope:Scope}{C CH:Addr}{F G m fld:Str}{k:Nat}{ps:List Str}{tg o elt:Expr}{apos cpos pos:Pos}{fo:EF}{pl:Sem Bool}(D:MetX X.prog X.w X.K X.mg X.base C m k ps (spSt C CH F G))(c:Cls X.K C)(hr:Room k X.A)(hx:Z10 X R.EX)(hc:X.calm=true)(ho:PE X o (lE R ix fo))(S:CompSc X 1 N scope)
  (hg:∀ cl C s H fp,PG (cxC X N scope cl C s H fp) tg (Z1I 0)) (he:∀ cl C s H fp,PE (cxC X N scope cl C s H fp) elt (tFldC CH (tVar 0) fld))
  (ht:eval (.Call (.Attribute o m apos) [] [] cpos) X.env=(do
   let ov ← eval o X.env
   standAt apos.atName
   let (f,first) ← holding [ov] (getMethod ov m pl)
   callWith cpos f first (backTo cpos (starEach [] X.env)) (backToKw cpos (keywordEach [] X.env))):=by rfl)
  (hs:∀ x,foldedSetIterable (.Call (.Attribute o m apos) [] [] cpos) X.env x=pure x:=by intro _;rfl) :
  PE X (.ListComp elt [⟨tg,.Call (.Attribute o m apos) [] [] cpos,[],0⟩] scope pos) (lE R ix (eNw (hNm C CH F G m fld) (Z0 fo Z1))) :=
 peM (Z8e hc (ZdN (Z9x D c hr hx ho ht)) S hg (fun _ _ _ _ _=>Z9z) he hs) fun σ H Q q=>by
 refine Zj (fun v H1 h=>?_) (lA_1 (Z1v σ H Q q))
 obtain ⟨t,ok,rfl,d,hh,q⟩:=gNw1 h
 simp only [hNm] at hh
 by_cases ho:Zo C m t.er=true
 case neg=>rw [if_neg ho] at hh;cases hh
 case pos =>
  rw [if_pos ho] at hh
  ·skip
   split at hh
   case h_2=>cases hh
   case h_1 hs bs e =>
    split at hh
    case isFalse=>cases hh
    case isTrue hz =>
     split at hh
     case h_2=>cases hh
     case h_1 xs en =>
      cases hh
      obtain ⟨a,dx,b,fs,kvs,ch,t1,t2,t3,t4,t5,t6,t7,t8,t9,t10,t11⟩:=st_t e ok hz
      have hlk:fs.lookup m=none:=by
       cases t with
       | «at» v=>cases ho
       | nd a' kd ch' =>
        cases kd with
        | ins w C' ns =>
         simp only [T.er,Zo,Qw,decide_eq_true_eq,Wi] at ho
         obtain ⟨rfl,hcn⟩:=ho
         obtain ⟨⟨_,dx',hH⟩,_⟩:=ok
         cases t1
         rw [hH] at t2
         cases t2
         exact lookup_none hcn
        | _=>cases ho
      refine ⟨a,dx,fs,t1,t2,hlk,a,dx,b,fs,kvs,bs,by rw [t1],t2,t3,t4,t5,t6,t7,fun H3 l k1 k2 k3=>?_⟩
      rw [t8] at k3
      have hxl:=Zan en
      have hel:∀ (i:Nat) x,(Z0g bs (ch.map T.val))[i]?=some x→∃ y dy gs s,xs[i]?=some s∧x=.ref y∧H3 y=some (.ins CH dy gs)∧gs.lookup fld=some (.str s):=by
       intro i x hi
       rw [← Z2p,Qc] at hi
       cases ei:(Z0g bs ch)[i]? with
       | none=>rw [ei] at hi;cases hi
       | some u =>
        rw [ei] at hi
        cases hi
        obtain ⟨s,s1,s2⟩:=Zam en (i:=i) (d:=u.er) (by rw [← t9,T.ers_eq,← Z2p,Qc,ei];rfl)
        have hu:u∈ch:=by
         have:∀ (bs:List Bool) (l:List T),u∈Z0g bs l→u∈l:=by
          intro bs
          induction bs with
          | nil=>intro l h;cases l <;> simp [Z0g] at h
          | cons b bs ih =>
           intro l h
           cases l with
           | nil=>simp [Z0g] at h
           | cons z l =>
            cases b with
            | true =>
             simp only [Z0g,if_true,Qx] at h ⊢
             exact h.imp id (ih l)
            | false=>simp only [Z0g,Wz,if_false] at h;exact Qt _ (ih l h)
         exact this bs ch (Qg ei)
        obtain ⟨y,dy,gs,v,v1,v2,v3,v4,_⟩:=Z9e s2 (T.oks_iff.mp t10 u hu)
        exact ⟨y,dy,gs,s,s1,v1,by rw [k1 y (by rw [v2];simp)];exact v2,by rw [v3,ZaW v4]⟩
      have hsl:(Z0g bs (ch.map T.val)).length=xs.length:=by rw [hxl,← t9,T.ers_eq,← Z2p,← Z2p];simp
      have hx1:xs.length≤1000:=by
       rw [← hsl]
       have:=Z68 (bs:=bs) (xs:=ch.map T.val)
       have h2:ch.length≤1000:=by rw [← t9,T.ers_eq] at hz;simpa using hz
       simp only [Qo] at this;omega
      refine ⟨l,rfl,⟨_,.of k3⟩,?_⟩
      refine ZaY (xs:=Z0g bs (ch.map T.val)) (fun D i ys τ H'=>ys=(xs.take i).map V.str∧H'=upd H3 D (.lst ys)∧∃ v0,τ=v0::σ) (fun D hD=>⟨by simp,rfl,none,rfl⟩) ?_ ?_ ?_
      ·rintro D i ys τ H' hD hi ⟨rfl,rfl,v0,rfl⟩
       exact .of (by rw [Zb (by rintro rfl;rw [k3] at hD;cases hD)];exact k3)
      ·rintro D i x ys τ H' hD hi ⟨rfl,rfl,v0,rfl⟩
       obtain ⟨y,dy,gs,s,s1,rfl,s3,s4⟩:=hel i x hi
       have hyD:y≠D:=by rintro rfl;rw [s3] at hD;cases hD
       have htk:xs.take (i + 1)=xs.take i++[s]:=by rw [Nj,s1];rfl
       dsimp only [Z1I,tYes]
       rw [if_pos rfl]
       refine ⟨.ref y,rfl,y,dy,gs,.str s,rfl,by rw [Zb hyD];exact s3,s4,Zm,?_,?_,?_,some (.ref y),rfl⟩
       ·have:sizeLine=16777216:=rfl
        simp only [Qo,Wg];omega
       ·rw [htk];simp
       ·funext z
        by_cases hz:z=D
        ·subst hz;rw [Zm,Zm]
        ·rw [Zb hz,Zb hz,Zb hz]
      ·rintro D ys τ H' hD ⟨rfl,rfl,v0,rfl⟩
       have hD1:H1 D=none:=by
        cases e1:H1 D with
        | none=>rfl
        | some o=>rw [k1 D (by rw [e1];simp),e1] at hD;cases hD
       rw [Ju (by omega)]
       obtain ⟨o1,o2,o3,o4⟩:=Zeg (H':=upd H3 D (.lst (xs.map V.str))) (xs.map V.str)
       refine q (.nd D (.lst true) ((xs.map V.str).map T.at)) _ ?_ ⟨⟨by rw [o3];exact Zm,o4⟩,?_,?_,?_,?_,fun z hz=>?_⟩
       ·simp only [T.er,T.ers_eq,Jf];rfl
       ·rw [T.own,o1];simp [NK.mut]
       ·intro z hz
        rw [T.own,o1] at hz
        have:z=D:=by simpa [NK.mut] using hz
        subst this;exact hD1
       ·intro z hz;rw [T.ro,o2] at hz;simp [NK.mut] at hz
       ·intro z hz;rw [T.ro,o2] at hz;simp [NK.mut] at hz
       ·rw [Zb (by rintro rfl;exact hz hD1)];exact k1 z hz
end
section
variable {P:Program}{w:World}{K:Qa}{mg:Str→Option Value}{base:Heap}
theorem okSt{C CH:Addr}{F G m qual:Str}{st:Stmt}{k:Nat}(Fm:AtM K C m qual st ["self"])(S:FnScope ["self"] ["self"] (Z8 st))
  (hb:∀ (f:Addr) (cdv:Value) (A:Around) (outer:List Env) (s:Shared) (H:Hp) (E:XK),Room k (A.deeper (envOfC qual (Z8 st) s.heap.objs.size f cdv)) →
   PSs (ZL (CX1 P w) P w K mg base ["self"] qual (Z8 st) f cdv A outer s H E) (Z0e st) (tRet (tCompV K 1 (tFldC C (tVar 0) F) (Z1I 0) (tB (tFldC CH (tVar 0) G)) (tVar 0)))):MetX P w K mg base C m (k + 1) ["self"] (spSt C CH F G) :=
 Fm.okX S (fun vs H Q E h=>by obtain ⟨a,dx,b,fs,kvs,bs,rfl,_⟩:=h;rfl) fun f cdv A outer s H vs Q E hr h=>⟨_,hb f cdv A outer s H E hr,Ze2 (fun e=>by
  obtain ⟨v,rfl⟩:=len1 e
  rfl) h⟩
theorem Zb9{C:Addr}{F:Str}(σ:L2.St)(H:Hp)(Q Q':VK)(m:∀ x H1,Q x H1→Q' x H1)(h:tFldC C (tVar 0) F σ H Q):tFldC C (tVar 0) F σ H Q':=by
 obtain ⟨v,h,a,dx,fs,u,e1,e2,e3,q⟩:=h
 exact ⟨v,h,a,dx,fs,u,e1,e2,e3,m _ _ q⟩
theorem MetX.imp{C:Addr}{m:Str}{k:Nat}{ps:List Str}{sp sp':Sp}(D:MetX P w K mg base C m k ps sp)(h:∀ vs H Q E,sp' vs H Q E→sp vs H Q E):MetX P w K mg base C m k ps sp':=by
 obtain ⟨f,fd,G,rest⟩:=D.ex
 exact ⟨f,fd,G.imp h,rest⟩
end
end RM

namespace RM
open PySem PySem.Spec PyProof.Rows L2
noncomputable def nmD1:DV→DL
 | .val d=>.own true d | .plc k p=>.bor k p
noncomputable def nmT1:TV→TL
 | .val t=>.own true t | .plc k p a=>.bor k p a
noncomputable def nmS(n:Nat)(rs:List DV):Sd:=rs.map nmD1++List.replicate (n - rs.length) .non
noncomputable def nmT(n:Nat)(tvs:List TV):Ts:=tvs.map nmT1++List.replicate (n - tvs.length) .non
noncomputable def isF:V→Bool
 | .flt _=>true | _=>false
noncomputable def okS(L:Nat)(x y:DL):Prop:=(match y with | .bor k _=>k < L | _=>True)∧match x with
 | .own _ (.at v)=>isF v=false∧(match y with | .own _ (.at v')=>v'=v | _=>False)
 | .non=>y=.non
 | _=>True
noncomputable def okJ(L:Nat):Sd→Sd→Prop
 | [],[]=>True
 | x::xs,y::ys=>okS L x y∧okJ L xs ys
 | _,_=>False
noncomputable def okR(L:Nat):DV→Prop
 | .plc k _=>k < L | _=>True
open Classical in
noncomputable def finI(s1:Sd)(r:DV)(s2:Sd):ER DV:=if okJ s1.length s1 (s2.take s1.length)∧okR s1.length r then .ok r (s2.take s1.length) else .no
open Classical in
noncomputable def eInl(np n:Nat)(f:AF)(body:Nat→SF):EF:=fun s=>match f s with
 | .ok rs s1=>if rs.length=np then (match body s1.length (s1++nmS n rs) with
  | .nx s2=>finI s1 (.val (.at .non)) s2
  | .rt r s2=>finI s1 r s2
  | .ex C s2=>if okJ s1.length s1 (s2.take s1.length) then .ex C (s2.take s1.length) else .no
  | _=>.no) else .no
 | .ex C s1=>.ex C s1
 | .no=>.no
noncomputable def ixI(L n:Nat):List Nat:=(List.range n).map (L + ·)
noncomputable def ancI(ts:Ts)(ix:List Nat):List (Nat×Addr):=ix.filterMap fun j=>match ts[j]? with
 | some s=>(match s.v with | some (.ref a)=>some (j,a) | _=>none)
 | none=>none
noncomputable def PostI(R:RC)(hd:List (Nat×Addr))(fr:List T)(Q:VK)(r:DV)(s2:Sd):Prop:=∀ H' ts2 tv v,ts2.map TL.er=s2→tv.er=r→ZX ts2 v tv→Cf R [] hd H' [] ts2 (tv.tr++fr)→Q v H'
noncomputable def spI(ad:Str→Addr)(np n:Nat)(body:Nat→SF):Sp:=fun vs H Q E=>∃ (R:RC) (hd:List (Nat×Addr)) (ts:Ts) (fr:List T) (tvs:List TV),Cf R [] hd H [] ts (trs tvs++fr)∧TvsOk ts vs tvs∧tvs.length=np∧match body ts.length (ts.map TL.er++nmS n (tvs.map TV.er)) with
 | .nx s2=>PostI R hd fr Q (.val (.at .non)) s2
 | .rt r s2=>PostI R hd fr Q r s2
 | .ex C s2=>∀ H' ts2,ts2.map TL.er=s2→Cf R [] hd H' [] ts2 fr→E (.ref (ad C)) none H'
 | _=>False
theorem nm_er{n:Nat}{tvs:List TV}:(nmT n tvs).map TL.er=nmS n (tvs.map TV.er):=by
 unfold nmT nmS
 rw [Jk,Jf,Jf,Qo]
 congr 1
 ·exact Wc fun tv _=>by cases tv <;> rfl
 ·simp [TL.er]
section
variable {R:RC}{ix:List Nat}{hd:List (Nat×Addr)}{X:Cx}{H H':Hp}{σ:L2.St}{ts:Ts}{fr:List T}
theorem Z4U{j:Nat}{a:Addr}:(j,a)∈ancI ts ix↔j∈ix∧∃ s,ts[j]?=some s∧s.v=some (.ref a):=by
 unfold ancI
 rw [Jq]
 constructor
 ·rintro ⟨i,hi,h⟩
  cases e:ts[i]? with
  | none=>rw [e] at h;cases h
  | some s =>
   rw [e] at h
   dsimp only at h
   split at h
   case h_1 b hb=>cases h;exact ⟨hi,s,e,hb⟩
   case h_2=>cases h
 ·rintro ⟨hi,s,e,hv⟩
  exact ⟨j,hi,by rw [e];dsimp only;rw [hv]⟩
theorem Cf.bare(C:Cf R ix hd H σ ts fr):Cf R [] (hd++ancI ts ix) H [] ts fr:=by
 refine ⟨C.ok,C.fok,C.nd,C.sep,C.rd,C.g,C.bg,C.bor,by simp,by simp,fun j a z=>?_,by simp,by simp,fun j a z s v z2 z3=>?_⟩
 ·rcases Qf.mp z with z | z
  ·exact C.hdi j a z
  ·exact C.ixs j (Z4U.mp z).1
 ·rcases Qf.mp z with z | z
  ·exact C.hdn j a z s v z2 z3
  ·obtain ⟨_,s',e,h⟩:=Z4U.mp z
   rw [z2] at e
   cases e
   rw [z3] at h
   cases h
   rfl
theorem Cf.bare'(C:Cf R ix hd H σ ts fr):Cf R [] hd H [] ts fr :=
 ⟨C.ok,C.fok,C.nd,C.sep,C.rd,C.g,C.bg,C.bor,by simp,by simp,C.hdi,by simp,by simp,C.hdn⟩
theorem Cf.name{tv:TV}{v:V}{fr':List T}(C:Cf R [] hd H [] ts (tv.tr++fr'))(hv:ZX ts v tv):Cf R [] hd H [] (ts++[nmT1 tv]) fr':=by
 cases tv with
 | plc k p a =>
  have C1:=Cf.hide (k:=k) (p:=p) (a:=a) C hv.2
  exact ⟨C1.ok,C1.fok,C1.nd,C1.sep,C1.rd,C1.g,C1.bg,C1.bor,by simp,by simp,fun j a z=>C1.hdi j a (Qh _ z),by simp,by simp,fun j a z=>C1.hdn j a (Qh _ z)⟩
 | val t =>
  have e1:Zc (ts++[.own true t])=Zc ts++t.own:=by rw [Z0R];simp [Zc,TL.own1]
  have e2:roS (ts++[.own true t])=roS ts++t.ro:=by rw [Z2Y];simp [roS,TL.ro1]
  have e3:rdS (ts++[.own true t])=rdS ts:=by rw [Z21];simp [rdS,TL.rd1]
  have e4:T.owns (TV.tr (.val t)++fr')=t.own++T.owns fr':=rfl
  have e5:T.ros (TV.tr (.val t)++fr')=t.ro++T.ros fr':=rfl
  have cn:=C.nd
  have cs:=C.sep
  have cr:=C.rd
  have cg:=C.g
  rw [e4] at cn cs cr cg
  rw [e5] at cs
  refine ⟨fun w u z=>?_,C.fok.2,by rw [nmT1,e1,Qp];exact cn,fun a z=>?_,fun a z=>?_,fun a z=>?_,C.bg,fun j k p a z=>?_,by simp,by simp,fun j a z=>?_,by simp,by simp,fun j a z s v z2 z3=>?_⟩
  ·rcases Qf.mp z with z | z
   ·exact C.ok w u z
   ·simp only [nmT1,Je,TL.own.injEq] at z
    rw [z.2];exact C.fok.1
  ·rw [nmT1,e1]
   rw [nmT1,e2] at z
   have:=cs a (by
    rcases z with z | z
    ·rcases Qf.mp z with z | z
     ·exact .inl z
     ·exact .inr (Qh _ z)
    ·exact .inr (Qd _ z))
   simp only [Qf,not_or] at this ⊢
   exact ⟨⟨this.1,this.2.1.1⟩,this.2.1.2,this.2.2⟩
  ·rw [nmT1,e1]
   rw [nmT1,e3] at z
   have:=cr a z
   simp only [Qf,not_or] at this ⊢
   exact ⟨⟨this.1,this.2.1⟩,this.2.2⟩
  ·rw [nmT1,e1]
   have:=cg a z
   simp only [Qf,not_or] at this ⊢
   exact ⟨this.1,this.2.1,⟨this.2.2.1,this.2.2.2.1⟩,this.2.2.2.2⟩
  ·rcases Nv j ts.length with hj | hj
   ·rw [Qk hj] at z;exact (C.bor j k p a z).app _
   ·rw [Qu hj] at z
    have:=Qg z
    simp [nmT1] at this
  ·have:=C.hdi j a z;simp;omega
  ·have hj:=C.hdi j a z
   rw [Qk hj] at z2
   exact C.hdn j a z s v z2 z3
theorem Cf.nons(C:Cf R [] hd H [] ts fr):∀ n:Nat,Cf R [] hd H [] (ts++List.replicate n .non) fr
 | 0=>by simpa using C
 | n + 1=>by
  have:=(Cf.nons C n).enter
  rw [Qp,show ([TL.non]:Ts)=List.replicate 1 .non from rfl,List.replicate_append_replicate] at this
  have:=this.bare'
  exact this.unex
theorem ZX.app{v:V}{tv:TV}(h:ZX ts v tv)(b:Ts):ZX (ts++b) v tv:=by
 cases tv with
 | val t=>exact h
 | plc k p a=>exact ⟨h.1,h.2.app b⟩
theorem Cf.names:∀ {tvs:List TV} {vs:List V} {ts:Ts},Cf R [] hd H [] ts (trs tvs++fr)→TvsOk ts vs tvs→Cf R [] hd H [] (ts++tvs.map nmT1) fr
 | [],_,ts,C,_=>by simpa [trs] using C
 | tv::tvs,_,ts,C,.cons (vs:=vs) h1 h2=>by
  have C1:Cf R [] hd H [] (ts++[nmT1 tv]) (trs tvs++fr):=Cf.name (by simpa [trs] using C) h1
  have h2':TvsOk (ts++[nmT1 tv]) vs tvs:=by
   clear C C1
   induction h2 with
   | nil=>exact .nil
   | cons a _ ih=>exact .cons (a.app _) ih
  have:=Cf.names C1 h2'
  simpa using this
theorem nm_v{v:V}{tv:TV}(h:ZX ts v tv):(nmT1 tv).v=some v:=by
 cases tv with
 | val t=>rw [show v=t.val from h];rfl
 | plc k p a=>rw [h.1];rfl
theorem Cf.inl{tvs:List TV}{vs:List V}{N:List Str}(C:Cf R [] hd H [] ts (trs tvs++fr))(hv:TvsOk ts vs tvs)(hn:tvs.length≤N.length):Cf R (ixI ts.length N.length) hd H (L2.start N vs) (ts++nmT N.length tvs) fr:=by
 have C1:=(Cf.names C hv).nons (N.length - tvs.length)
 rw [Qp] at C1
 have hl:(nmT N.length tvs).length=N.length:=by unfold nmT;simp;omega
 have hvl:vs.length=tvs.length:=Z7H hv
 have e:ts++nmT N.length tvs=ts++(tvs.map nmT1++List.replicate (N.length - tvs.length) .non):=rfl
 rw [← e] at C1
 refine ⟨C1.ok,C1.fok,C1.nd,C1.sep,C1.rd,C1.g,C1.bg,C1.bor,fun j z=>?_,fun i j s v z1 z2 z3=>?_,C1.hdi,fun j a z q=>?_,?_,C1.hdn⟩
 ·unfold ixI at z
  obtain ⟨i,hi,rfl⟩:=Jx.mp z
  have:=Nx.mp hi
  rw [Jh,hl];omega
 ·unfold ixI at z1
  rw [Qc] at z1
  have hi:i < N.length:=by
   rcases Nv i N.length with h | h
   ·exact h
   ·rw [We (by simpa using h)] at z1;cases z1
  rw [List.getElem?_range hi] at z1
  cases z1
  rw [Qu (Nat.le_add_right _ _),show ts.length + i - ts.length=i by omega] at z2
  unfold nmT at z2
  by_cases hit:i < tvs.length
  ·rw [Qk (by simpa using hit),Qc] at z2
   obtain ⟨tv,ht⟩:∃ tv,tvs[i]?=some tv:=⟨tvs[i],Qj hit⟩
   rw [ht] at z2
   cases z2
   obtain ⟨u,u1,u2⟩:=TvsOk.get hv ht
   rw [nm_v u2] at z3
   cases z3
   unfold L2.start
   rw [Qk (by simp;omega),Qc,u1];rfl
  ·rw [Qu (by simpa using Nm hit)] at z2
   have:=Qg z2
   simp only [List.mem_replicate] at this
   rw [this.2] at z3;cases z3
 ·have h1:=C.hdi j a z
  unfold ixI at q
  obtain ⟨i,hi,rfl⟩:=Jx.mp q
  exact absurd h1 (Nat.not_lt.mpr (Nat.le_add_right _ _))
 ·unfold ixI L2.start;simp;omega
theorem Cf.cut{L:Nat}(C:Cf R [] hd H [] ts fr)(hj:∀ (j:Nat) a,(j,a)∈hd→j < L)(hb:∀ (k:Nat) p a,TL.bor k p a∈ts.take L→k < L):Cf R [] hd H [] (ts.take L) fr:=by
 have et:ts=ts.take L++ts.drop L:=(Gv L ts).symm
 have e1:Zc ts=Zc (ts.take L)++Zc (ts.drop L):=by rw [← Z0R,← et]
 have e2:roS ts=roS (ts.take L)++roS (ts.drop L):=by rw [← Z2Y,← et]
 have e3:rdS ts=rdS (ts.take L)++rdS (ts.drop L):=by rw [← Z21,← et]
 have cn:=C.nd
 have cs:=C.sep
 have cr:=C.rd
 have cg:=C.g
 rw [e1] at cn cs cr cg
 rw [e2] at cs
 rw [e3] at cr
 have lo:∀ {j:Nat} {s:TL},(ts.take L)[j]?=some s→ts[j]?=some s∧j < L:=fun {j s} h=>by
  rw [Nz] at h
  split at h
  ·exact ⟨h,by assumption⟩
  ·cases h
 refine ⟨fun w t z=>C.ok w t (Np z),C.fok,?_,fun a z=>?_,fun a z=>?_,fun a z=>?_,C.bg,fun j k p a z=>?_,by simp,by simp,fun j a z=>?_,by simp,by simp,fun j a z s v z2 z3=>C.hdn j a z s v (lo z2).1 z3⟩
 ·refine cn.sublist ?_
  exact List.Sublist.append (List.sublist_append_left _ _) (List.Sublist.refl _)
 ·have:=cs a (z.imp (Qh _) id)
  simp only [Qf,not_or] at this
  exact ⟨this.1.1,this.2⟩
 ·have:=cr a (Qh _ z)
  simp only [Qf,not_or] at this
  exact ⟨this.1.1,this.2⟩
 ·have:=cg a z
  simp only [Qf,not_or] at this
  exact ⟨this.1,this.2.1,this.2.2.1.1,this.2.2.2⟩
 ·obtain ⟨w,t,s,h1,h2,h3⟩:=C.bor j k p a (lo z).1
  have hk:=hb k p a (Qg z)
  exact ⟨w,t,s,by rw [Nz,if_pos hk];exact h1,h2,h3⟩
 ·have h1:=C.hdi j a z
  have h2:=hj j a z
  rw [Wg];omega
theorem Z89:∀ {L:Nat} {a b:Sd},okJ L a b→a.length=b.length
 | _,[],[],_=>rfl
 | L,x::xs,y::ys,h=>by simp [Z89 h.2]
 | _,[],_::_,h=>h.elim
 | _,_::_,[],h=>h.elim
theorem Z88:∀ {L:Nat} {a b:Sd} {i:Nat} {x y:DL},okJ L a b→a[i]?=some x→b[i]?=some y→okS L x y
 | _,[],[],_,_,_,_,h,_=>by simp at h
 | L,x::xs,y::ys,i,_,_,h,h1,h2=>by
  cases i with
  | zero=>cases h1;cases h2;exact h.1
  | succ i=>exact Z88 h.2 (by simpa using h1) (by simpa using h2)
 | _,[],_::_,_,_,_,h,_,_=>h.elim
 | _,_::_,[],_,_,_,h,_,_=>h.elim
theorem Cf.again{ts3:Ts}{fr3:List T}{L:Nat}(C:Cf R ix hd H σ ts fr)(C2:Cf R [] (hd++ancI ts ix) H' [] ts3 fr3)(hok:okJ L (ts.map TL.er) (ts3.map TL.er)):Cf R ix hd H' σ ts3 fr3:=by
 have hl:ts.length=ts3.length:=by simpa using Z89 hok
 refine ⟨C2.ok,C2.fok,C2.nd,C2.sep,C2.rd,C2.g,C2.bg,C2.bor,fun j z=>by rw [← hl];exact C.ixs j z,fun i j s v z1 z2 z3=>?_,fun j a z=>by rw [← hl];exact C.hdi j a z,C.hdx,C.len,fun j a z=>C2.hdn j a (Qh _ z)⟩
 have hj:j < ts.length:=C.ixs j (Qg z1)
 obtain ⟨s0,e0⟩:∃ s0,ts[j]?=some s0:=⟨ts[j],Qj hj⟩
 have ok:=Z88 hok (i:=j) (x:=s0.er) (y:=s.er) (by rw [Qc,e0];rfl) (by rw [Qc,z2];rfl)
 have anc:∀ a,s0.v=some (.ref a)→σ[i]?=some (some v):=fun a ha=>by
  have:=C2.hdn j a (Qd _ (Z4U.mpr ⟨Qg z1,s0,e0,ha⟩)) s v z2 z3
  subst this
  exact C.sl i j s0 _ z1 e0 ha
 cases s0 with
 | non =>
  have:=ok.2
  cases s with
  | non=>cases z3
  | own _ _=>cases this
  | bor _ _ _=>cases this
 | bor k p a=>exact anc a rfl
 | own w t =>
  cases t with
  | nd a kd ch=>exact anc a rfl
  | «at» v0 =>
   by_cases hr:∃ a,v0=.ref a
   ·obtain ⟨a,rfl⟩:=hr;exact anc a rfl
   ·have hc:cl v0=v0:=by cases v0 <;> first | rfl | exact absurd ⟨_,rfl⟩ hr
    have ok2:=ok.2
    simp only [TL.er,T.er,hc] at ok2
    cases s with
    | non=>exact ok2.2.elim
    | bor _ _ _=>exact ok2.2.elim
    | own w' t' =>
     cases t' with
     | nd _ _ _=>exact ok2.2.elim
     | «at» v' =>
      obtain ⟨hf,he⟩:=ok2
      have he':cl v'=v0:=he
      have:v'=v0:=by
       cases v' <;> first | exact he' | (rw [← he'] at hf;cases hf)
      subst this
      cases z3
      exact C.sl i j _ _ z1 e0 rfl
theorem Zaq{L:Nat}{a:Sd}(h:okJ L a (ts.map TL.er))(k:Nat)(p:List Nat)(b:Addr)(hm:TL.bor k p b∈ts):k < L:=by
 obtain ⟨i,hi⟩:=Ja.mp hm
 have hlt:i < a.length:=by rw [Z89 h,Qo];exact (Qe.mp hi).1
 exact (Z88 h (Qj hlt) (y:=.bor k p) (by rw [Qc,hi];rfl)).1
theorem ZX.cut{L:Nat}{v:V}{tv:TV}(h:ZX ts v tv)(hr:okR L tv.er):ZX (ts.take L) v tv:=by
 cases tv with
 | val t=>exact h
 | plc k p a =>
  obtain ⟨h0,w,t,s,h1,h2,h3⟩:=h
  exact ⟨h0,w,t,s,by rw [Nz,if_pos (show k < L from hr)];exact h1,h2,h3⟩
theorem ZeU{np n:Nat}{f:AF}{body:Nat→SF}(σ:L2.St)(H:Hp)(Q:VK)(q:lE R ix (eInl np n f body) σ H Q):lA R ix f σ H fun vs H1=>spI R.ad np n body vs H1 Q (R.EX σ):=by
 obtain ⟨hd,ts,fr,C,h⟩:=q
 refine ⟨hd,ts,fr,C,?_⟩
 unfold eInl at h
 cases ef:f (ts.map TL.er) with
 | no=>rw [ef] at h;exact h
 | ex E s1=>rw [ef] at h;exact h
 | ok rs s1 =>
  rw [ef] at h
  intro H1 ts1 tvs vs e1 e2 hv C1
  subst e1 e2
  dsimp only at h
  by_cases hn:(tvs.map TV.er).length=np
  case neg=>rw [if_neg hn] at h;exact h.elim
  rw [if_pos hn] at h
  have hlm:(ts1.map TL.er).length=ts1.length:=by simp
  rw [hlm] at h
  have hdl:∀ (j:Nat) a,(j,a)∈hd++ancI ts1 ix→j < ts1.length:=fun j a z=>by
   rcases Qf.mp z with z | z
   ·exact C1.hdi j a z
   ·exact C1.ixs j (Z4U.mp z).1
  refine ⟨R,hd++ancI ts1 ix,ts1,fr,tvs,C1.bare,hv,by simpa using hn,?_⟩
  have fin:∀ {r:DV} {s2:Sd},(match finI (ts1.map TL.er) r s2 with
   | .ok r s'=>∀ H' ts' tv v,ts'.map TL.er=s'→tv.er=r→ZX ts' v tv→Cf R ix hd H' σ ts' (tv.tr++fr)→Q v H'
   | .ex C s'=>∀ H' ts',ts'.map TL.er=s'→Cf R ix hd H' σ ts' fr→R.EX σ (.ref (R.ad C)) none H'
   | .no=>False)→PostI R (hd++ancI ts1 ix) fr Q r s2:=by
   intro r s2 h H' ts2 tv v e3 e4 hv2 C2
   subst e3 e4
   unfold finI at h
   rw [hlm,← Qac] at h
   by_cases hok:okJ ts1.length (ts1.map TL.er) ((ts2.take ts1.length).map TL.er)∧okR ts1.length tv.er
   ·rw [if_pos hok] at h
    exact h H' (ts2.take ts1.length) tv v rfl rfl (hv2.cut hok.2) (C1.again (C2.cut hdl (Zaq hok.1)) hok.1)
   ·rw [if_neg hok] at h;exact h.elim
  cases eb:body ts1.length (ts1.map TL.er++nmS n (tvs.map TV.er)) with
  | nx s2=>rw [eb] at h;exact fin h
  | rt r s2=>rw [eb] at h;exact fin h
  | bk _=>rw [eb] at h;exact h.elim
  | ct _=>rw [eb] at h;exact h.elim
  | no=>rw [eb] at h;exact h.elim
  | ex E s2 =>
   rw [eb] at h
   intro H' ts2 e3 C2
   subst e3
   dsimp only at h
   rw [← Qac] at h
   by_cases hok:okJ ts1.length (ts1.map TL.er) ((ts2.take ts1.length).map TL.er)
   ·rw [if_pos hok] at h
    exact h H' (ts2.take ts1.length) rfl (C1.drops.again (C2.cut hdl (Zaq hok)) hok)
   ·rw [if_neg hok] at h;exact h.elim
theorem ZaH{ad:Str→Addr}{N:List Str}{np:Nat}{body:Nat→SF}{vs:List V}{Q:VK}{E:XK}(hN:np≤N.length)(h:spI ad np N.length body vs H Q E) :
  ∃ (R:RC) (L:Nat),R.EX=(fun _=>E)∧R.ad=ad∧lS R (ixI L N.length) (body L) { nx:=fun _ H'=>Q .non H',rt:=Q } (L2.start N vs) H:=by
 obtain ⟨R,hd,ts,fr,tvs,C,hv,hn,h⟩:=h
 have C1:=Cf.inl (N:=N) C hv (by omega)
 refine ⟨{ R with EX:=fun _=>E,ad:=ad },ts.length,rfl,rfl,hd,ts++nmT N.length tvs,fr,⟨C1.ok,C1.fok,C1.nd,C1.sep,C1.rd,C1.g,C1.bg,C1.bor,C1.ixs,C1.sl,C1.hdi,C1.hdx,C1.len,C1.hdn⟩,?_⟩
 have back:∀ {H':Hp} {σ':L2.St} {ts':Ts} {fr':List T},Cf { R with EX:=fun _=>E,ad:=ad } (ixI ts.length N.length) hd H' σ' ts' fr'→Cf R [] hd H' [] ts' fr':=fun C=>⟨C.ok,C.fok,C.nd,C.sep,C.rd,C.g,C.bg,C.bor,by simp,by simp,C.hdi,by simp,by simp,C.hdn⟩
 rw [Jk,nm_er]
 cases eb:body ts.length (ts.map TL.er++nmS N.length (tvs.map TV.er)) with
 | nx s2=>rw [eb] at h;intro H' σ' ts' e C';exact h H' ts' (.val (.at .non)) .non e rfl rfl ((back C').at .non)
 | rt r s2=>rw [eb] at h;intro H' σ' ts' tv v e e2 hv' C';exact h H' ts' tv v e e2 hv' (back C')
 | ex D s2=>rw [eb] at h;intro H' σ' ts' e C';exact h H' ts' e (back C')
 | bk _=>rw [eb] at h;exact h.elim
 | ct _=>rw [eb] at h;exact h.elim
 | no=>rw [eb] at h;exact h.elim
theorem ZeG{C:Addr}{m:Str}{np n:Nat}{body:Nat→SF}{fo:EF}{f:AF}{Q:VK}(q:lE R ix (eInl np n (Z0 (Zn (Zo C m) fo) f) body) σ H Q):tMetT C m (spI R.ad np n body) R.EX (lE R ix fo) (lA R ix f) σ H Q:=by
 have q1:=Z3t σ H _ (ZeU σ H Q q)
 refine Zj (fun v H1 h=>?_) (Z3C q1)
 obtain ⟨⟨t,rfl,t2,t3⟩,h⟩:=h
 cases t with
 | «at» v=>cases t3
 | nd a kd ch =>
  cases kd with
  | ins w C' ns =>
   simp only [T.er,Zo,Qw,decide_eq_true_eq,Wi] at t3
   obtain ⟨rfl,hc⟩:=t3
   obtain ⟨_,dx,hH⟩:=t2.1
   exact ⟨a,dx,_,rfl,hH,lookup_none hc,h⟩
  | _=>cases t3
theorem Zfr{C:Addr}{m:Str}{k:Nat}{ps:List Str}{np n:Nat}{body:Nat→SF}{pos apos:Pos}{o e:Expr}{es:List Expr}{fo:EF}{f:AF}{pl:Sem Bool}(D:MetX X.prog X.w X.K X.mg X.base C m k ps (spI R.ad np n body))(c:Cls X.K C)(hr:Room k X.A)(hx:Z10 X R.EX)(ho:PE X o (lE R ix fo))(ha:PA X (e::es) (lA R ix f))
  (hst:starEach (e::es) X.env=(false,eval e X.env)::starEach es X.env:=by rfl) (hpl:(backTo pos (starEach es X.env)).any (·.1)=false:=by rfl)
  (ht:eval (.Call (.Attribute o m apos) (e::es) [] pos) X.env=(do
   let ov ← eval o X.env
   standAt apos.atName
   let (f,first) ← holding [ov] (getMethod ov m pl)
   callWith pos f first (backTo pos (starEach (e::es) X.env)) (backToKw pos (keywordEach [] X.env))):=by rfl) :
  PE X (.Call (.Attribute o m apos) (e::es) [] pos) (lE R ix (eInl np n (Z0 (Zn (Zo C m) fo) f) body)):=peM (Zas D c hr hx ho ha hst hpl ht) fun σ H Q q=>ZeG q
end
section
variable {P:Program}{w:World}{K:Qa}{mg:Str→Option Value}{base:Heap}
theorem okMI{C:Addr}{m qual:Str}{st:Stmt}{ps N:List Str}{k np:Nat}{body:Nat→SF}{ad:Str→Addr}(F:AtM K C m qual st ps)(S:FnScope N ps (Z8 st))(hps:np=ps.length)(hN:np≤N.length)
  (hb:∀ (f:Addr) (cdv:Value) (A:Around) (outer:List Env) (s:Shared) (H:Hp) (E:XK) (R:RC) (L:Nat),Room k (A.deeper (envOfC qual (Z8 st) s.heap.objs.size f cdv))→Z10 (ZL (CX1 P w) P w K mg base N qual (Z8 st) f cdv A outer s H E) R.EX→(∀ σ,R.EX σ=E)→R.ad=ad →
   PSs (ZL (CX1 P w) P w K mg base N qual (Z8 st) f cdv A outer s H E) (Z0e st) (lS R (ixI L N.length) (body L))):MetX P w K mg base C m (k + 1) ps (spI ad np N.length body) :=
 F.okX S (fun vs H Q E h=>by obtain ⟨R,hd,ts,fr,tvs,C,hv,hn,h⟩:=h;rw [Z7H hv,hn,hps]) fun f cdv A outer s H vs Q E hr h=>by
  obtain ⟨R,L,e,ea,q⟩:=ZaH hN h
  exact ⟨_,hb f cdv A outer s H E R L hr (by rw [e];exact passTX) (fun σ=>by rw [e]) ea,q⟩
end
theorem Zev{np n:Nat}{f:AF}{body:Nat→SF}{s:Sd}:eInl np n f body s=(match f s with
 | .ok rs s1=>if rs.length=np then (match body s1.length (s1++nmS n rs) with
  | .nx s2=>finI s1 (.val (.at .non)) s2
  | .rt r s2=>finI s1 r s2
  | .ex C s2=>@ite _ (okJ s1.length s1 (s2.take s1.length)) (Classical.propDecidable _) (.ex C (s2.take s1.length)) .no
  | _=>.no) else .no
 | .ex C s1=>.ex C s1
 | .no=>.no):=by
 unfold eInl
 cases f s with
 | ok rs s1=>by_cases h:rs.length=np <;> simp [h]
 | _=>rfl
end RM

namespace RM
open PySem PySem.Spec PyProof.Rows L2
section
variable {X:Cx}{R:RC}{ix:List Nat}{e:Expr}{pos:Pos}
theorem ZbB{te:TE}(he:PE X e te):PE X (.FormattedValue e 114 none pos) (fun σ H Q=>te σ H fun v H1=>∃ x,v=.str x∧(reprText x).length≤sizeLine∧Q (.str (reprText x)) H1):=by
 intro pins s σ H Q I h
 refine wpAny_FormattedValue_repr (thn (he pins s σ H _ I h) fun u s1 ⟨v,H1,I1,r1,q⟩=>?_)
 obtain ⟨x,rfl,hz,q⟩:=q
 obtain ⟨t,rfl⟩:=r1
 refine wpAny_pyReprObj_str ?_ hz
 exact wpAny_formatField_str ⟨.str (reprText x),H1,I1.tok _,⟨_,rfl⟩,q⟩ ⟨.str (reprText x),H1,(I1.tok _).tok _,⟨_,rfl⟩,q⟩ hz
noncomputable def Z4m:List D→Option D
 | [.at (.str x)]=>if x.length≤1000∧∀ c∈x.cps.toList,c < 16 ^ 8 then some (.at (.str (reprText x))) else none
 | _=>none
theorem Z5K{f:EF}(he:PE X e (lE R ix f)):PE X (.FormattedValue e 114 none pos) (lE R ix (eNw Z4m (Z0 f Z1))) :=
 peM (ZbB he) fun σ H Q q=>Zj (fun x H1 q=>by
  obtain ⟨t,ok,rfl,d,hh,q⟩:=gNw1 q
  unfold Z4m at hh
  split at hh
  case h_2=>cases hh
  case h_1 x e1 =>
   simp only [Jt.injEq,and_true] at e1
   split at hh
   case isFalse=>cases hh
   case isTrue hz =>
    cases hh
    refine ⟨x,ZaW e1,?_,q (.at (.str (reprText x))) H1 rfl (.atom _)⟩
    have h1:=PySem.StrLaws.reprText_len x hz.2
    have:sizeLine=16777216:=rfl
    omega) (lA_1 (Z1v σ H Q q))
noncomputable def hCutT:List D→Option D
 | [.nd .tup l,.at (.int i)]=>if D.imms l=true∧0 < i∧0 < l.length then some (.nd .tup (l.drop i.toNat)) else none
 | _=>none
theorem ZdT{a:Expr}{p2:Pos}{f g:EF}(he:PE X e (lE R ix f))(ha:PE X a (lE R ix g)):PE X (.Subscript e (.Slice (some a) none none p2) pos) (lE R ix (eNw hCutT (Z0 f (Z0 g Z1)))) :=
 peM (Z4Z ZfA he (Z66 ha) Z65) fun σ H Q q=>Zj (fun x H1 z=>Zj (fun y H2 z=>by
  obtain ⟨t,u,ht,hu,rfl,rfl,d,hh,q⟩:=gNw2 z
  unfold hCutT at hh
  split at hh
  case h_2=>cases hh
  case h_1 l i e =>
   simp only [Jt.injEq,and_true] at e
   obtain ⟨a,ch,rfl,rfl⟩:=ZbO e.1
   cases Z6U e.2
   split at hh
   case isFalse=>cases hh
   case isTrue hz =>
    cases hh
    obtain ⟨z1,z2,z3⟩:=hz
    rw [T.ers_eq,Qo] at z3
    refine ⟨i,rfl,a,_,rfl,ht.1.sqT,?_,fun p hp=>?_⟩
    ·rintro ⟨h1,_⟩
     have:HT.sIx (ch.map T.val).length 0 (some i)=min i.toNat (ch.map T.val).length:=if_neg (by omega)
     rw [this,Qo] at h1;omega
    ·rw [Zej (by omega)]
     have:=q (.nd p .tup (ch.drop i.toNat)) _ (by simp [T.er,T.ers_eq]) (Z6K (o:=.tup ((ch.drop i.toNat).map T.val)) hp Zm (.inr rfl) (fun t z=>⟨T.oks_iff.mp ht.2 t (Ws z),Z7W z1 t (Ws z)⟩) fun b hb=>by
      obtain ⟨t,h1,h2⟩:=T.mem_ros.mp hb
      have:b∈T.ros ch:=T.mem_ros.mpr ⟨t,Ws h1,h2⟩
      simp [T.ros,T.ro,this])
     simpa [T.val,List.map_drop] using this) z) (lA_2 (Z1v σ H Q q))
end
end RM

namespace RM
open PySem PySem.Spec PyProof.Rows L2
section
variable {K:Qa}{h:Heap}{mg:Str→Option Value}{x m qual:Str}{C:Addr}
theorem zb_(X:K.In h)(G:h.Ns mainGlobals mg)(a:PySem.W.nsIn K mainGlobals x=some none:=by walk_at "ki"):mg x=none:=PySem.W.mg_none_of X G a
theorem zg_{u:Value}{v:V}(X:K.In h)(G:h.Ns mainGlobals mg)(a:PySem.W.nsIn K mainGlobals x=some (some u):=by walk_at "ki")(r:RelV v u:=by exact ⟨_,rfl⟩):GIs mg x v:=⟨u,PySem.W.mg_of X G a,r⟩
theorem zc_(X:K.In h)(G:h.Ns mainGlobals mg)(a:PySem.W.nsIn K mainGlobals x=some (some (.ref C)):=by walk_at "ki"):mg x=some (.ref C):=PySem.W.mg_of X G a
theorem zl_(pg:PySem.W.plainGet K C Str.empty=true:=by walk_at "ki")(hd:PySem.W.hasDictIn K C=true:=by walk_at "ki")(po:PySem.W.plainOver K C=true:=by walk_at "ki")(sa:PySem.W.findIn K (.ref C) "__setattr__"=some (some (.builtin "object.__setattr__")):=by walk_at "ki"):Cls K C:=⟨pg,hd,po,sa⟩
theorem zn_(a:PySem.W.findIn K (.ref C) x=some none:=by walk_at "ki"):Zy K C x:=a
theorem zx_(X:K.In h)(G:h.Ns mainGlobals mg)(a:PySem.W.nsIn K mainGlobals x=some (some (.ref C)):=by walk_at "ki")(q:PySem.W.excIn K C bmV "ValueError.__new__"=true:=by walk_at "kq"):ExC K mg x C:=⟨PySem.W.mg_of X G a,q⟩
theorem ze_{C':Addr}{b:Bool}(a:PySem.W.exmOne K (.ref C) (.ref C')=some b:=by walk_at "kx"):PySem.W.exmOne K (.ref C) (.ref C')=some b:=a
variable {st:Stmt}{ps:List Str}{f:Addr}{oc kV dc pm cd ct:Value}{od an:Option Addr}{sl:Array (Option Value)}
theorem za_(X:K.In h)(G:h.Ns mainGlobals mg)(a:PySem.W.nsIn K mainGlobals x=some (some (.ref f)):=by walk_at "ki")(l:K.lookup f=some ⟨oc,od,.func (PySem.W.fnOf x x (Z1W st) (Z0e st) (Z8 st) .none kV dc pm an cd ct),sl⟩:=by walk_at "ki")(c:PySem.W.codeIn K cd x=true:=by walk_at "ki")(k:PySem.W.keepIn K (.ref f)=true:=by walk_at "ki")
  (b:∀ us:List Value,us.length=ps.length→bindArgs (PySem.W.fnOf x x (Z1W st) (Z0e st) (Z8 st) .none kV dc pm an cd ct) ⟨us,[]⟩=pure (ps.zip us):=by intro us hl;first | (obtain ⟨_,rfl⟩:=RM.len1 hl;rfl) | (obtain ⟨_,_,rfl⟩:=RM.len2 hl;rfl) | (obtain ⟨_,_,_,rfl⟩:=RM.len3 hl;rfl) | (obtain ⟨_,_,_,_,rfl⟩:=RM.len4 hl;rfl) | (obtain ⟨_,_,_,_,_,rfl⟩:=RM.len5 hl;rfl)):At K mg x st ps :=
 ⟨f,_,Z9f l c k,PySem.W.mg_of X G a,b⟩
theorem zm_(a:PySem.W.findIn K (.ref C) m=some (some (.ref f)):=by walk_at "ki")(i:PySem.W.isFn K (.ref f)=true:=by walk_at "ki")(l:K.lookup f=some ⟨oc,od,.func (PySem.W.fnOf m qual (Z1W st) (Z0e st) (Z8 st) .none kV dc pm an cd ct),sl⟩:=by walk_at "ki")(c:PySem.W.codeIn K cd qual=true:=by walk_at "ki")(k:PySem.W.keepIn K (.ref f)=true:=by walk_at "ki")
  (b:∀ us:List Value,us.length=ps.length→bindArgs (PySem.W.fnOf m qual (Z1W st) (Z0e st) (Z8 st) .none kV dc pm an cd ct) ⟨us,[]⟩=pure (ps.zip us):=by intro us hl;first | (obtain ⟨_,rfl⟩:=RM.len1 hl;rfl) | (obtain ⟨_,_,rfl⟩:=RM.len2 hl;rfl) | (obtain ⟨_,_,_,rfl⟩:=RM.len3 hl;rfl) | (obtain ⟨_,_,_,_,rfl⟩:=RM.len4 hl;rfl) | (obtain ⟨_,_,_,_,_,rfl⟩:=RM.len5 hl;rfl)):AtM K C m qual st ps :=
 ⟨f,_,Z9f l c k,⟨a,i,k⟩,b⟩
theorem zi_(a:PySem.W.findIn K (.ref C) "__init__"=some (some (.ref f)):=by walk_at "ki")(i:PySem.W.isFn K (.ref f)=true:=by walk_at "ki")(l:K.lookup f=some ⟨oc,od,.func (PySem.W.fnOf "__init__" qual (Z1W st) (Z0e st) (Z8 st) .none kV dc pm an cd ct),sl⟩:=by walk_at "ki")(c:PySem.W.codeIn K cd qual=true:=by walk_at "ki")(k:PySem.W.keepIn K (.ref f)=true:=by walk_at "ki")
  (mk:PySem.W.makesIn K C=true:=by walk_at "ki") (kc:PySem.W.keepIn K (.ref C)=true:=by walk_at "ki")
  (b:∀ us:List Value,us.length=ps.length→bindArgs (PySem.W.fnOf "__init__" qual (Z1W st) (Z0e st) (Z8 st) .none kV dc pm an cd ct) ⟨us,[]⟩=pure (ps.zip us):=by intro us hl;first | (obtain ⟨_,rfl⟩:=RM.len1 hl;rfl) | (obtain ⟨_,_,rfl⟩:=RM.len2 hl;rfl) | (obtain ⟨_,_,_,rfl⟩:=RM.len3 hl;rfl) | (obtain ⟨_,_,_,_,rfl⟩:=RM.len4 hl;rfl) | (obtain ⟨_,_,_,_,_,rfl⟩:=RM.len5 hl;rfl)):AtI K C qual st ps :=
 ⟨f,_,Z9f l c k,⟨mk,a,i,kc⟩,b⟩
end
theorem scM{N Q:List Str}{sc:Scope}(kind:sc.kind=.function:=by rfl)(co:sc.isCoroutine=false:=by rfl)(gen:sc.isGenerator=false:=by rfl)(nd:N.Nodup:=by decide +kernel)(pre:N.take Q.length=Q:=by rfl)(par:∀ x∈Q,sc.names.lookup x=some .local∨sc.names.lookup x=some .cell:=by decide +kernel)(nofree:∀ y∈sc.names,y.2≠.free:=by decide +kernel):FnScope N Q sc:=⟨kind,co,gen,nd,pre,par,nofree⟩
theorem al1{f:EF}:ALen 1 (Z0 f Z1):=Z34 Z93
theorem al2{f g:EF}:ALen 2 (Z0 f (Z0 g Z1)):=Z34 al1
theorem al3{f g h:EF}:ALen 3 (Z0 f (Z0 g (Z0 h Z1))):=Z34 al2
theorem al4{f g h i:EF}:ALen 4 (Z0 f (Z0 g (Z0 h (Z0 i Z1)))):=Z34 al3
theorem al5{f g h i j:EF}:ALen 5 (Z0 f (Z0 g (Z0 h (Z0 i (Z0 j Z1))))):=Z34 al4
end RM

namespace RM
open PySem PySem.Spec PyProof.Rows L2
section
variable {X:Cx}{R:RC}{ix:List Nat}{H H':Hp}{σ:L2.St}


end
end RM

namespace RM
open PySem PySem.Spec PyProof.Rows L2
section
variable {X:Cx}{R:RC}{ix:List Nat}{H:Hp}{σ:L2.St}
end
end RM

namespace RM
open PySem PySem.Spec PyProof.Rows L2
section
variable {prog:Program}{w:World}{A:Around}{E:Value→Shared→Prop}{s:Shared}
end
end RM

namespace RM
open PySem PySem.Spec PyProof.Rows L2
section
variable {prog:Program}{w:World}{A:Around}{E:Value→Shared→Prop}{s:Shared}
end
section
variable {X:Cx}{pins:List (Addr×Obj)}{σ:L2.St}{H:Hp}{s:Shared}{h':Heap}
end
structure ZApart(z TI TO i1 i2:Addr):Prop where
 TIz:TI≠z
 TOz:TO≠z
 i1z:i1≠z
 i2z:i2≠z
 TITO:TI≠TO
 TIi1:TI≠i1
 TIi2:TI≠i2
 TOi1:TO≠i1
 TOi2:TO≠i2
 i12:i1≠i2
end RM

namespace RM
open PySem PySem.Spec PyProof.Rows L2
section
variable {X:Cx}
end
section
variable {K:Qa}{R:RC}{ix:List Nat}{hd:List (Nat×Addr)}{X:Cx}{H H':Hp}{σ:L2.St}{ts:Ts}{fr:List T}
end
end RM

namespace RM
open PySem PySem.Spec PyProof.Rows L2
section
variable {X:Cx}{R:RC}{ix:List Nat}{pos:Pos}{x:Str}{j:Nat}
end
end RM

namespace RM
open PySem PySem.Spec PyProof.Rows L2
open Classical
section
variable {X:Cx}{R:RC}{ix:List Nat}{e:Expr}{pos:Pos}
end
end RM
open PySem PySem.Spec PyProof.Rows L2
local macro_rules | `(tactic| walk_at "rd")=>do
 let ls ← (("Zek cxC_K tSeq tIfS tOr tAnd tNot tTest tB tOp tCB Z2J tNil tVar tC tRet tRetN tNext tAsg Z1I tDrop tCall tCallT tMetT tMkT tFldC sFldC tRaise tRaiseA tLst tTup tBM tBM0 tAndV tOrV tNotV tIf tUn tBreak tCont rI0 rI rU rEq rNe L2.start hCons hNil Qi Jl Jj Js Jg List.replicate Jp List.length_nil Jy Nh Qad Wx Nat.reduceAdd Nat.reduceSub Nat.reduceLT Nat.reduceLeDiff Option.some.injEq exists_eq_left exists_eq_left' exists_eq_right exists_eq_right' exists_and_left exists_and_right exists_eq exists_const V.int.injEq V.str.injEq V.bl.injEq V.ref.injEq V.ty.injEq Jt.injEq and_assoc and_true true_and reduceCtorEq false_and and_false or_false false_or exists_false if_true if_false Wz decide_eq_true_eq".splitOn " ").toArray.map fun s=>Lean.mkIdent s.toName).mapM fun i=>`(Lean.Parser.Tactic.simpLemma| $i:ident)
 `(tactic| simp only [$[$ls:simpLemma],*])
local macro_rules | `(tactic| walk_at "sd")=>`(tactic| repeat (refine And.intro ?sd1 ?_;(case sd1=>first | assumption | decide | omega | rfl | (unfold CMul;omega) | (unfold CDiv;omega))))
namespace Pf
open PySem PySem.Spec PyProof.Rows L2 RM
noncomputable def top(i:Nat):Stmt:=PySem.Challenge.pw_papercircle_k13_joining.main.body.getD i (.Pass ⟨0,0,0,0⟩)
noncomputable abbrev Z3k:Stmt:=inClass (top 31) 3
noncomputable abbrev Z5h:Stmt:=inClass (top 31) 4
noncomputable abbrev Z3O:Stmt:=inClass (top 23) 0
noncomputable abbrev Z3l:Stmt:=inClass (top 32) 0
noncomputable abbrev Z3m:Stmt:=inClass (top 36) 0
noncomputable abbrev Z8B:Stmt:=top 28
noncomputable abbrev Z6s:Stmt:=top 29
noncomputable abbrev Z5j:Stmt:=top 38
noncomputable abbrev Z3j:Stmt:=inClass (top 39) 0
noncomputable abbrev Z4C:Stmt:=inClass (top 32) 4
noncomputable abbrev Z3N:Stmt:=inClass (top 32) 5
noncomputable abbrev Z2L:Stmt:=inClass (top 39) 9
noncomputable abbrev Z4B:Stmt:=inClass (top 39) 10
noncomputable abbrev Z4A:Stmt:=inClass (top 39) 3
noncomputable abbrev Z26:Stmt:=inClass (top 32) 6
noncomputable abbrev Z2I:Stmt:=inClass (top 39) 22
noncomputable abbrev Z8A:Stmt:=top 41
noncomputable abbrev Z4D:Stmt:=top 42
noncomputable abbrev Z3P:Stmt:=top 43
noncomputable abbrev Z7B:Stmt:=top 44
noncomputable abbrev Z5i:Stmt:=top 45
noncomputable abbrev Z6q:Stmt:=top 46
noncomputable abbrev Z7A:Stmt:=top 47
noncomputable abbrev Z4f:Stmt:=top 48
noncomputable abbrev Z3a:Stmt:=inClass (top 32) 1
noncomputable abbrev Z2N:Stmt:=inClass (top 32) 2
noncomputable abbrev Z39:Stmt:=inClass (top 25) 0
noncomputable abbrev Z3M:Stmt:=inClass (top 31) 0
noncomputable abbrev Z5L:Stmt:=inClass (top 32) 3
noncomputable abbrev Z2M:Stmt:=inClass (top 39) 8
noncomputable abbrev Z5g:Stmt:=inClass (top 39) 1
noncomputable abbrev Z6r:Stmt:=top 49
noncomputable abbrev Z43:Stmt:=inClass (top 39) 15
noncomputable abbrev Z3Q:Stmt:=top 50
noncomputable abbrev s_law:Stmt:=top 51
structure Adr where
 c_Account:Addr
 c_Circle:Addr
 c_House:Addr
 c_Houses:Addr
 c_Prices:Addr
 c_Shelf:Addr
 c_BadAges:Addr
 c_BadKinds:Addr
 c_BadName:Addr
 c_BookFull:Addr
 c_CircleFull:Addr
 c_KnownHouse:Addr
 c_LeftHouse:Addr
 c_UnknownHouse:Addr
 c_UnknownKind:Addr
noncomputable def adr(A:Adr):Str→Addr:=fun x=>if x = "BadAges" then A.c_BadAges else if x = "BadKinds" then A.c_BadKinds else if x = "BadName" then A.c_BadName else if x = "BookFull" then A.c_BookFull else if x = "CircleFull" then A.c_CircleFull else if x = "KnownHouse" then A.c_KnownHouse else if x = "LeftHouse" then A.c_LeftHouse else if x = "UnknownHouse" then A.c_UnknownHouse else if x = "UnknownKind" then A.c_UnknownKind else 0
structure Txt(K:Qa)(mg:Str→Option Value)(A:Adr):Prop where
 b_all:mg "all"=none
 b_bool:mg "bool"=none
 b_int:mg "int"=none
 b_isinstance:mg "isinstance"=none
 b_len:mg "len"=none
 b_list:mg "list"=none
 b_range:mg "range"=none
 b_str:mg "str"=none
 b_tuple:mg "tuple"=none
 g_DEEDS_MOST:GIs mg "DEEDS_MOST" (V.int 400)
 g_HOUSES_MOST:GIs mg "HOUSES_MOST" (V.int 20)
 g_JOINED_MOST:GIs mg "JOINED_MOST" (V.int 60)
 g_KINDS_MOST:GIs mg "KINDS_MOST" (V.int 4)
 g_LETTERS:GIs mg "LETTERS" (V.str "abcdefghijklmnopqrstuvwxyz")
 g_NAME_MOST:GIs mg "NAME_MOST" (V.int 12)
 g_OLDEST:GIs mg "OLDEST" (V.int 8)
 mc_Account:mg "Account"=some (.ref A.c_Account)
 cl_Account:Cls K A.c_Account
 n_Account_dues:Zy K A.c_Account "dues"
 n_Account_open_dues:Zy K A.c_Account "open_dues"
 n_Account_open_losses:Zy K A.c_Account "open_losses"
 n_Account_owed:Zy K A.c_Account "owed"
 n_Account_sent:Zy K A.c_Account "sent"
 mc_Circle:mg "Circle"=some (.ref A.c_Circle)
 cl_Circle:Cls K A.c_Circle
 n_Circle_deeds:Zy K A.c_Circle "deeds"
 n_Circle_kinds:Zy K A.c_Circle "kinds"
 n_Circle_members:Zy K A.c_Circle "members"
 n_Circle_past_weeks:Zy K A.c_Circle "past_weeks"
 n_Circle_prices:Zy K A.c_Circle "prices"
 n_Circle_shelf:Zy K A.c_Circle "shelf"
 n_Circle_week:Zy K A.c_Circle "week"
 mc_House:mg "House"=some (.ref A.c_House)
 cl_House:Cls K A.c_House
 n_House_account:Zy K A.c_House "account"
 n_House_held:Zy K A.c_House "held"
 n_House_kind:Zy K A.c_House "kind"
 n_House_least:Zy K A.c_House "least"
 n_House_most:Zy K A.c_House "most"
 n_House_name:Zy K A.c_House "name"
 n_House_papers:Zy K A.c_House "papers"
 n_House_stands:Zy K A.c_House "stands"
 mc_Houses:mg "Houses"=some (.ref A.c_Houses)
 cl_Houses:Cls K A.c_Houses
 n_Houses_joined:Zy K A.c_Houses "joined"
 mc_Prices:mg "Prices"=some (.ref A.c_Prices)
 cl_Prices:Cls K A.c_Prices
 n_Prices_told:Zy K A.c_Prices "told"
 mc_Shelf:mg "Shelf"=some (.ref A.c_Shelf)
 cl_Shelf:Cls K A.c_Shelf
 n_Shelf_gone:Zy K A.c_Shelf "gone"
 n_Shelf_made:Zy K A.c_Shelf "made"
 n_Shelf_many:Zy K A.c_Shelf "many"
 n_Shelf_numbers:Zy K A.c_Shelf "numbers"
 x_BadAges:ExC K mg "BadAges" A.c_BadAges
 x_BadKinds:ExC K mg "BadKinds" A.c_BadKinds
 x_BadName:ExC K mg "BadName" A.c_BadName
 x_BookFull:ExC K mg "BookFull" A.c_BookFull
 x_CircleFull:ExC K mg "CircleFull" A.c_CircleFull
 x_KnownHouse:ExC K mg "KnownHouse" A.c_KnownHouse
 x_LeftHouse:ExC K mg "LeftHouse" A.c_LeftHouse
 x_UnknownHouse:ExC K mg "UnknownHouse" A.c_UnknownHouse
 x_UnknownKind:ExC K mg "UnknownKind" A.c_UnknownKind
 e_BadAges_BadAges:PySem.W.exmOne K (.ref A.c_BadAges) (.ref A.c_BadAges)=some true
 e_BadAges_BadName:PySem.W.exmOne K (.ref A.c_BadAges) (.ref A.c_BadName)=some false
 e_BadAges_KnownHouse:PySem.W.exmOne K (.ref A.c_BadAges) (.ref A.c_KnownHouse)=some false
 e_BadAges_UnknownKind:PySem.W.exmOne K (.ref A.c_BadAges) (.ref A.c_UnknownKind)=some false
 e_BadName_BadName:PySem.W.exmOne K (.ref A.c_BadName) (.ref A.c_BadName)=some true
 e_KnownHouse_BadName:PySem.W.exmOne K (.ref A.c_KnownHouse) (.ref A.c_BadName)=some false
 e_KnownHouse_KnownHouse:PySem.W.exmOne K (.ref A.c_KnownHouse) (.ref A.c_KnownHouse)=some true
 e_UnknownHouse_UnknownHouse:PySem.W.exmOne K (.ref A.c_UnknownHouse) (.ref A.c_UnknownHouse)=some true
 e_UnknownKind_BadName:PySem.W.exmOne K (.ref A.c_UnknownKind) (.ref A.c_BadName)=some false
 e_UnknownKind_KnownHouse:PySem.W.exmOne K (.ref A.c_UnknownKind) (.ref A.c_KnownHouse)=some false
 e_UnknownKind_UnknownKind:PySem.W.exmOne K (.ref A.c_UnknownKind) (.ref A.c_UnknownKind)=some true
 X3:AtM K A.c_House "give_back" "House.give_back" Z3k ["self"]
 X4:AtM K A.c_House "leave" "House.leave" Z5h ["self"]
 X5:AtI K A.c_Shelf "Shelf.__init__" Z3O ["self", "many"]
 X6:AtI K A.c_Houses "Houses.__init__" Z3l ["self"]
 X7:AtI K A.c_Prices "Prices.__init__" Z3m ["self"]
 X8:At K mg "made_of" Z8B ["text", "signs", "most"]
 X10:At K mg "good_name" Z6s ["text"]
 X11:At K mg "check_kinds" Z5j ["kinds"]
 X12:AtI K A.c_Circle "Circle.__init__" Z3j ["self", "kinds"]
 X13:AtM K A.c_Houses "named" "Houses.named" Z4C ["self", "name"]
 X14:AtM K A.c_Houses "present" "Houses.present" Z3N ["self", "name"]
 X15:AtM K A.c_Circle "check_book" "Circle.check_book" Z2L ["self"]
 X16:AtM K A.c_Circle "write" "Circle.write" Z4B ["self", "row"]
 X17:AtM K A.c_Circle "leave" "Circle.leave" Z4A ["self", "house"]
 X18:AtM K A.c_Houses "standing" "Houses.standing" Z26 ["self"]
 X19:AtM K A.c_Circle "houses" "Circle.houses" Z2I ["self"]
 X20:At K mg "_law_at" Z8A ["_law_script", "_law_k"]
 X21:At K mg "_law_figures" Z4D ["_law_script", "_law_k", "_law_base", "_law_many"]
 X22:At K mg "_law_names" Z3P ["_law_cell", "_law_many"]
 X23:At K mg "_law_who" Z7B ["_law_figs", "_law_names_here"]
 X24:At K mg "_law_wanted" Z5i ["_law_figs", "_law_names_here", "_law_kinds"]
 X25:At K mg "_law_good" Z6q ["_law_name"]
 X26:At K mg "_law_due" Z7A ["_law_wishes", "_law_kinds", "_law_deed"]
 X27:At K mg "_law_same" Z4f ["_law_found", "_law_due_here"]
 X28:AtM K A.c_Houses "check_new" "Houses.check_new" Z3a ["self", "name"]
 X29:AtM K A.c_Houses "check_room" "Houses.check_room" Z2N ["self"]
 X30:AtI K A.c_Account "Account.__init__" Z39 ["self"]
 X31:AtI K A.c_House "House.__init__" Z3M ["self", "name", "kind", "least", "most"]
 X32:AtM K A.c_Houses "add" "Houses.add" Z5L ["self", "name", "kind", "least", "most"]
 X33:AtM K A.c_Circle "check_wish" "Circle.check_wish" Z2M ["self", "kind", "least", "most"]
 X34:AtM K A.c_Circle "join" "Circle.join" Z5g ["self", "house", "kind", "least", "most"]
 X35:At K mg "_law_join" Z6r ["_law_circle", "_law_deed"]
 X36:AtM K A.c_Circle "wished" "Circle.wished" Z43 ["self", "house"]
 X37:At K mg "_law_wish_told" Z3Q ["_law_circle", "_law_wishes", "_law_who_here"]
 X38:At K mg "law" s_law ["_law_script"]
noncomputable def exmT:Str→Str→Option Bool:=fun C x=>if C = "BadAges"∧x = "BadAges" then some true else if C = "BadAges"∧x = "BadName" then some false else if C = "BadAges"∧x = "KnownHouse" then some false else if C = "BadAges"∧x = "UnknownKind" then some false else if C = "BadName"∧x = "BadName" then some true else if C = "KnownHouse"∧x = "BadName" then some false else if C = "KnownHouse"∧x = "KnownHouse" then some true else if C = "UnknownHouse"∧x = "UnknownHouse" then some true else if C = "UnknownKind"∧x = "BadName" then some false else if C = "UnknownKind"∧x = "KnownHouse" then some false else if C = "UnknownKind"∧x = "UnknownKind" then some true else none
theorem Z1P{C x a b:Str}{v r:Option Bool}{w:Bool}{p:Prop}(h:(if C=a∧x=b then v else r)=some w)(h1:C=a→x=b→v=some w→p)(h2:r=some w→p):p:=by
 by_cases z:C=a∧x=b
 ·rw [if_pos z] at h;exact h1 z.1 z.2 h
 ·rw [if_neg z] at h;exact h2 h
theorem Zb7{K:Qa}{mg:Str→Option Value}{A:Adr}(T:Txt K mg A):∀ C x b,exmT C x=some b→PySem.W.exmOne K (.ref (adr A C)) (.ref (adr A x))=some b:=by
 intro C x b h
 refine Z1P h (fun e1 e2 e3=>by cases e3;rw [e1,e2];exact T.e_BadAges_BadAges) fun h=>?_
 refine Z1P h (fun e1 e2 e3=>by cases e3;rw [e1,e2];exact T.e_BadAges_BadName) fun h=>?_
 refine Z1P h (fun e1 e2 e3=>by cases e3;rw [e1,e2];exact T.e_BadAges_KnownHouse) fun h=>?_
 refine Z1P h (fun e1 e2 e3=>by cases e3;rw [e1,e2];exact T.e_BadAges_UnknownKind) fun h=>?_
 refine Z1P h (fun e1 e2 e3=>by cases e3;rw [e1,e2];exact T.e_BadName_BadName) fun h=>?_
 refine Z1P h (fun e1 e2 e3=>by cases e3;rw [e1,e2];exact T.e_KnownHouse_BadName) fun h=>?_
 refine Z1P h (fun e1 e2 e3=>by cases e3;rw [e1,e2];exact T.e_KnownHouse_KnownHouse) fun h=>?_
 refine Z1P h (fun e1 e2 e3=>by cases e3;rw [e1,e2];exact T.e_UnknownHouse_UnknownHouse) fun h=>?_
 refine Z1P h (fun e1 e2 e3=>by cases e3;rw [e1,e2];exact T.e_UnknownKind_BadName) fun h=>?_
 refine Z1P h (fun e1 e2 e3=>by cases e3;rw [e1,e2];exact T.e_UnknownKind_KnownHouse) fun h=>?_
 refine Z1P h (fun e1 e2 e3=>by cases e3;rw [e1,e2];exact T.e_UnknownKind_UnknownKind) fun h=>?_
 cases h
noncomputable abbrev Z0a:List Str:=(["dues", "owed", "open_dues", "open_losses", "sent"]:List Str)
theorem Z78:idx "dues" Z0a=some 0:=by decide
theorem Z7f:idx "dues" ([]:List Str)=none:=by decide
theorem Z79:idx "owed" Z0a=some 1:=by decide
theorem Z7g:idx "owed" (["dues"]:List Str)=none:=by decide
theorem Z4O:idx "open_dues" Z0a=some 2:=by decide
theorem Z4Q:idx "open_dues" (["dues", "owed"]:List Str)=none:=by decide
theorem Z4d:idx "open_losses" Z0a=some 3:=by decide
theorem Z4e:idx "open_losses" (["dues", "owed", "open_dues"]:List Str)=none:=by decide
theorem Z7a:idx "sent" Z0a=some 4:=by decide
theorem Z7h:idx "sent" (["dues", "owed", "open_dues", "open_losses"]:List Str)=none:=by decide
theorem Z6a:Z0a.contains "charge"=false:=by decide
theorem Z6Y:Z0a.contains "lose"=false:=by decide
theorem Z70:Z0a.contains "send"=false:=by decide
theorem Z7M:Z0a.contains "due"=false:=by decide
theorem Z6Z:Z0a.contains "owes"=false:=by decide
theorem Z6b:Z0a.contains "unsent"=false:=by decide
theorem Z6y:Z0a.contains "bills"=false:=by decide
noncomputable abbrev Ze:List Str:=(["kinds", "week", "members", "shelf", "prices", "past_weeks", "deeds"]:List Str)
theorem Z7c:idx "kinds" Ze=some 0:=by decide
theorem Z7j:idx "kinds" ([]:List Str)=none:=by decide
theorem Z7Y:idx "week" Ze=some 1:=by decide
theorem Z81:idx "week" (["kinds"]:List Str)=none:=by decide
theorem Z6e:idx "members" Ze=some 2:=by decide
theorem Z6f:idx "members" (["kinds", "week"]:List Str)=none:=by decide
theorem Z7d:idx "shelf" Ze=some 3:=by decide
theorem Z7k:idx "shelf" (["kinds", "week", "members"]:List Str)=none:=by decide
theorem Z6D:idx "prices" Ze=some 4:=by decide
theorem Z6G:idx "prices" (["kinds", "week", "members", "shelf"]:List Str)=none:=by decide
theorem Z4P:idx "past_weeks" Ze=some 5:=by decide
theorem Z4R:idx "past_weeks" (["kinds", "week", "members", "shelf", "prices"]:List Str)=none:=by decide
theorem Z7b:idx "deeds" Ze=some 6:=by decide
theorem Z7i:idx "deeds" (["kinds", "week", "members", "shelf", "prices", "past_weeks"]:List Str)=none:=by decide
theorem Z2S:Ze.contains "join"=false:=by decide
theorem Z7U:Ze.contains "wish"=false:=by decide
theorem Z3Y:Ze.contains "leave"=false:=by decide
theorem Z7R:Ze.contains "lose"=false:=by decide
theorem Z74:Ze.contains "price"=false:=by decide
theorem Z7N:Ze.contains "bill"=false:=by decide
theorem Z7Q:Ze.contains "deal"=false:=by decide
theorem Z1u:Ze.contains "check_wish"=false:=by decide
theorem Z1t:Ze.contains "check_book"=false:=by decide
theorem Z2D:Ze.contains "write"=false:=by decide
theorem Z4c:Ze.contains "deal_folders"=false:=by decide
theorem Z6c:Ze.contains "fitting"=false:=by decide
theorem Z5k:Ze.contains "papers_in"=false:=by decide
theorem Z5v:Ze.contains "hand_out"=false:=by decide
theorem Z2m:Ze.contains "wished"=false:=by decide
theorem Z73:Ze.contains "holds"=false:=by decide
theorem Z7T:Ze.contains "read"=false:=by decide
theorem Z7S:Ze.contains "owes"=false:=by decide
theorem Z6A:Ze.contains "unsent"=false:=by decide
theorem Z71:Ze.contains "bills"=false:=by decide
theorem Z8G:Ze.contains "due"=false:=by decide
theorem Z2l:Ze.contains "houses"=false:=by decide
theorem Z7P:Ze.contains "cost"=false:=by decide
theorem Z6z:Ze.contains "folder"=false:=by decide
theorem Z75:Ze.contains "trail"=false:=by decide
theorem Z5l:Ze.contains "past_week"=false:=by decide
theorem Z72:Ze.contains "dealt"=false:=by decide
theorem Z6d:Ze.contains "without"=false:=by decide
theorem Z8H:Ze.contains "why"=false:=by decide
theorem Z7O:Ze.contains "book"=false:=by decide
noncomputable abbrev Z0l:List Str:=(["name", "kind", "least", "most", "stands", "held", "papers", "account"]:List Str)
theorem Z5c:idx "name" Z0l=some 0:=by decide
theorem Z8W:idx "name" ([]:List Str)=none:=by decide
theorem Z8O:idx "kind" Z0l=some 1:=by decide
theorem Z8U:idx "kind" (["name"]:List Str)=none:=by decide
theorem Z7Z:idx "least" Z0l=some 2:=by decide
theorem Z82:idx "least" (["name", "kind"]:List Str)=none:=by decide
theorem Z8P:idx "most" Z0l=some 3:=by decide
theorem Z8V:idx "most" (["name", "kind", "least"]:List Str)=none:=by decide
theorem Z3Z:idx "stands" Z0l=some 4:=by decide
theorem Z7m:idx "stands" (["name", "kind", "least", "most"]:List Str)=none:=by decide
theorem Z8N:idx "held" Z0l=some 5:=by decide
theorem Z8T:idx "held" (["name", "kind", "least", "most", "stands"]:List Str)=none:=by decide
theorem Z7e:idx "papers" Z0l=some 6:=by decide
theorem Z7l:idx "papers" (["name", "kind", "least", "most", "stands", "held"]:List Str)=none:=by decide
theorem Z6E:idx "account" Z0l=some 7:=by decide
theorem Z6H:idx "account" (["name", "kind", "least", "most", "stands", "held", "papers"]:List Str)=none:=by decide
theorem Z4N:Z0l.contains "change_wish"=false:=by decide
theorem Z8I:Z0l.contains "take"=false:=by decide
theorem Z36:Z0l.contains "give_back"=false:=by decide
theorem Z4n:Z0l.contains "leave"=false:=by decide
noncomputable abbrev Z13:List Str:=(["joined"]:List Str)
theorem Z3A:idx "joined" Z13=some 0:=by decide
theorem Z6I:idx "joined" ([]:List Str)=none:=by decide
theorem Z1G:Z13.contains "check_new"=false:=by decide
theorem Z2E:Z13.contains "check_room"=false:=by decide
theorem Z5b:Z13.contains "add"=false:=by decide
theorem Z1K:Z13.contains "named"=false:=by decide
theorem Z3h:Z13.contains "present"=false:=by decide
theorem Z1R:Z13.contains "standing"=false:=by decide
noncomputable abbrev Z35:List Str:=(["told"]:List Str)
theorem Z80:idx "told" Z35=some 0:=by decide
theorem Z83:idx "told" ([]:List Str)=none:=by decide
theorem Z7V:Z35.contains "tell"=false:=by decide
theorem Z4o:Z35.contains "check_price"=false:=by decide
theorem Z9i:Z35.contains "at"=false:=by decide
noncomputable abbrev Z0w:List Str:=(["many", "made", "numbers", "gone"]:List Str)
theorem Z8S:idx "many" Z0w=some 0:=by decide
theorem Z8Z:idx "many" ([]:List Str)=none:=by decide
theorem Z8R:idx "made" Z0w=some 1:=by decide
theorem Z8Y:idx "made" (["many"]:List Str)=none:=by decide
theorem Z6F:idx "numbers" Z0w=some 2:=by decide
theorem Z6J:idx "numbers" (["many", "made"]:List Str)=none:=by decide
theorem Z8Q:idx "gone" Z0w=some 3:=by decide
theorem Z8X:idx "gone" (["many", "made", "numbers"]:List Str)=none:=by decide
theorem Z8J:Z0w.contains "fill"=false:=by decide
theorem Z4p:Z0w.contains "check_counts"=false:=by decide
theorem Z8M:Z0w.contains "make"=false:=by decide
theorem Z76:Z0w.contains "folder"=false:=by decide
theorem Z8L:Z0w.contains "lose"=false:=by decide
theorem Z4q:Z0w.contains "check_number"=false:=by decide
theorem Z6B:Z0w.contains "offered"=false:=by decide
theorem Z8K:Z0w.contains "kept"=false:=by decide
theorem Z5V:exmT "BadAges" "BadAges"=some true:=by decide
theorem Z5W:exmT "BadAges" "BadName"=some false:=by decide
theorem Z4G:exmT "BadAges" "KnownHouse"=some false:=by decide
theorem Z4h:exmT "BadAges" "UnknownKind"=some false:=by decide
theorem Z5X:exmT "BadName" "BadName"=some true:=by decide
theorem Z4H:exmT "KnownHouse" "BadName"=some false:=by decide
theorem Z3V:exmT "KnownHouse" "KnownHouse"=some true:=by decide
theorem Z2Z:exmT "UnknownHouse" "UnknownHouse"=some true:=by decide
theorem Z4i:exmT "UnknownKind" "BadName"=some false:=by decide
theorem Z3q:exmT "UnknownKind" "KnownHouse"=some false:=by decide
theorem Z3g:exmT "UnknownKind" "UnknownKind"=some true:=by decide
section
variable {P:Program}{w:World}{K:Qa}{mg:Str→Option Value}{base:Heap}{A:Adr}
theorem Z5N:FnScope ["self"] ["self"] (Z8 Z3k):=scM
noncomputable def Z23(K:Qa)(A:Adr):SF :=
  (sE (eMu 1 (ZQ A.c_House "held") (Z0 (eC .non) (Z0 (Z3 0) Z1))))
noncomputable def Z1c(K:Qa)(A:Adr):Fn:=Zr 1 [true] (Z23 K A)
theorem Z5C(T:Txt K mg A):MetX P w K mg base A.c_House "give_back" 1 ["self"] (spR (adr A) [true] (Z1c K A)) :=
 okM (k:=0) (N:=["self"]) (ms:=[true]) (body:=Z23 K A) T.X3 Z5N rfl (by decide) fun f cdv A' outer s H E R hr hx hE ha=>by
  have hu:=ZR hr
  refine Z9 ?_
  refine ZP T.cl_House T.n_House_held ?_ ?_
  exact Z2 (pv 0) (j:=0) rfl
  exact Z6 Z3G
theorem Z8i:FnScope ["self"] ["self"] (Z8 Z5h):=scM
noncomputable def Z3e(K:Qa)(A:Adr):SF :=
  (Zd (sE (Zq [true] (Z1c K A) (Z0 (Zn (Zo A.c_House "give_back") (Z3 0)) Z1)))
  (sE (eMu 1 (ZQ A.c_House "stands") (Z0 (eC (.bl false)) (Z0 (Z3 0) Z1)))))
noncomputable def Z2f(K:Qa)(A:Adr):Fn:=Zr 1 [true] (Z3e K A)
theorem Z8b(T:Txt K mg A):MetX P w K mg base A.c_House "leave" 2 ["self"] (spR (adr A) [true] (Z2f K A)) :=
 okM (k:=1) (N:=["self"]) (ms:=[true]) (body:=Z3e K A) T.X4 Z8i rfl (by decide) fun f cdv A' outer s H E R hr hx hE ha=>by
  have hu:=ZR hr
  refine Z5 ?_ ?_
  refine rs_e ?_
  refine Z2w (ms:=[true]) (by rw [ha];exact (Z5C T)) T.cl_House (hr.mono (by omega)) hx ?_ al1
  exact Z2 (pv 0) (j:=0) rfl
  refine Z9 ?_
  refine ZP T.cl_House T.n_House_stands ?_ ?_
  exact Z2 (pv 0) (j:=0) rfl
  exact Z6 Z1M
theorem Z6k:FnScope ["self", "many"] ["self", "many"] (Z8 Z3O):=scM
noncomputable def Z2k(K:Qa)(A:Adr):SF :=
  (Zd (sE (eMu 1 (ZQ A.c_Shelf "many") (Z0 (Z3 1) (Z0 (Z3 0) Z1))))
  (Zd (sE (eMu 1 (ZQ A.c_Shelf "made") (Z0 (Z04 (.lst true) Z1) (Z0 (Z3 0) Z1))))
  (Zd (sE (eMu 1 (ZQ A.c_Shelf "numbers") (Z0 (Z04 (.dit true []) Z1) (Z0 (Z3 0) Z1))))
  (sE (eMu 1 (ZQ A.c_Shelf "gone") (Z0 (Z04 (.dic true []) Z1) (Z0 (Z3 0) Z1)))))))
noncomputable def Z1r(K:Qa)(A:Adr):Fn:=Zr 2 [true,false] (Z2k K A)
theorem Z6i(T:Txt K mg A):InitX P w K mg base A.c_Shelf 1 ["self", "many"] (spR (adr A) [true,false] (Z1r K A)) :=
 okI (k:=0) (N:=["self", "many"]) (ms:=[true,false]) (body:=Z2k K A) T.X5 Z6k rfl (by decide) fun f cdv A' outer s H E R hr hx hE ha=>by
  have hu:=ZR hr
  refine Z5 ?_ ?_
  refine ZP T.cl_Shelf T.n_Shelf_many ?_ ?_
  exact Z2 (pv 0) (j:=0) rfl
  exact Z2 (pv 1) (j:=1) rfl
  refine Z5 ?_ ?_
  refine ZP T.cl_Shelf T.n_Shelf_made ?_ ?_
  exact Z2 (pv 0) (j:=0) rfl
  refine Z2H ?_
  exact Za
  refine Z5 ?_ ?_
  refine ZP T.cl_Shelf T.n_Shelf_numbers ?_ ?_
  exact Z2 (pv 0) (j:=0) rfl
  exact ZdV
  refine Z9 ?_
  refine ZP T.cl_Shelf T.n_Shelf_gone ?_ ?_
  exact Z2 (pv 0) (j:=0) rfl
  exact Z4x
theorem Z5O:FnScope ["self"] ["self"] (Z8 Z3l):=scM
noncomputable def Z24(K:Qa)(A:Adr):SF :=
  (sE (eMu 1 (ZQ A.c_Houses "joined") (Z0 (Z04 (.dic true []) Z1) (Z0 (Z3 0) Z1))))
noncomputable def Z1d(K:Qa)(A:Adr):Fn:=Zr 1 [true] (Z24 K A)
theorem Z5D(T:Txt K mg A):InitX P w K mg base A.c_Houses 1 ["self"] (spR (adr A) [true] (Z1d K A)) :=
 okI (k:=0) (N:=["self"]) (ms:=[true]) (body:=Z24 K A) T.X6 Z5O rfl (by decide) fun f cdv A' outer s H E R hr hx hE ha=>by
  have hu:=ZR hr
  refine Z9 ?_
  refine ZP T.cl_Houses T.n_Houses_joined ?_ ?_
  exact Z2 (pv 0) (j:=0) rfl
  exact Z4x
theorem Z5Q:FnScope ["self"] ["self"] (Z8 Z3m):=scM
noncomputable def Z25(K:Qa)(A:Adr):SF :=
  (sE (eMu 1 (ZQ A.c_Prices "told") (Z0 (Z04 (.dic true []) Z1) (Z0 (Z3 0) Z1))))
noncomputable def Z1f(K:Qa)(A:Adr):Fn:=Zr 1 [true] (Z25 K A)
theorem Z5F(T:Txt K mg A):InitX P w K mg base A.c_Prices 1 ["self"] (spR (adr A) [true] (Z1f K A)) :=
 okI (k:=0) (N:=["self"]) (ms:=[true]) (body:=Z25 K A) T.X7 Z5Q rfl (by decide) fun f cdv A' outer s H E R hr hx hE ha=>by
  have hu:=ZR hr
  refine Z9 ?_
  refine ZP T.cl_Prices T.n_Prices_told ?_ ?_
  exact Z2 (pv 0) (j:=0) rfl
  exact Z4x
theorem Z7D:FnScope ["text", "signs", "most", "sign"] ["text", "signs", "most"] (Z8 Z8B):=scM
noncomputable def Z3D(K:Qa)(A:Adr):SF :=
  (sKill [3] (sIf (bV (eNw (hInS true) (Z0 (Z3 3) (Z0 (Z3 1) Z1)))) (Z03 (eC (.bl false))) ZZ))
noncomputable def Z5r(K:Qa)(A:Adr):SF :=
  (Zd (sIf (bOr (bV (eNw hLt (Z0 (eNw (hLen K) (Z0 (Z3 0) Z1)) (Z0 (eC (.int (1))) Z1)))) (bV (eNw hGt (Z0 (eNw (hLen K) (Z0 (Z3 0) Z1)) (Z0 (Z3 2) Z1))))) (Z03 (eC (.bl false))) ZZ)
  (Zd (sForS (Z3 0) (Zt 3)
  (Z3D K A))
  (Z03 (eC (.bl true)))))
noncomputable def Z3X(K:Qa)(A:Adr):Fn:=Zr 4 [false,false,false] (Z5r K A)
theorem ZaM(T:Txt K mg A):DefX P w K mg base "made_of" 1 ["text", "signs", "most"] (spR (adr A) [false,false,false] (Z3X K A)) :=
 okD (k:=0) (N:=["text", "signs", "most", "sign"]) (ms:=[false,false,false]) (body:=Z5r K A) T.X8 Z7D rfl (by decide) fun f cdv A' outer s H E R hr hx hE ha=>by
  have hu:=ZR hr
  refine Z5 ?_ ?_
  refine Z05 ?_ ?_ ?_
  refine PW.pt ?_
  refine rw_or ?_ ?_
  refine ZS on_lt ?_ ?_ (ZJ _)
  refine rc_b Z0L (by rfl) T.b_len boot_len ?_
  refine Z4 ?_ ?_
  exact Z2 (pv 0) (j:=0) rfl
  exact Za
  exact Z6 Z7
  refine Z3L ?_
  refine ZS on_gt ?_ ?_ (ZJ _)
  refine rc_b Z0L (by rfl) T.b_len boot_len ?_
  refine Z4 ?_ ?_
  exact Z2 (pv 0) (j:=0) rfl
  exact Za
  exact Z2 (pv 2) (j:=2) rfl
  refine Z9 ?_
  refine ZK ?_
  exact Z6 Z1M
  exact ZD
  refine Z5 ?_ ?_
  refine Zaw Z2b rfl ?_ ?_ ?_
  exact Z2 (pv 0) (j:=0) rfl
  exact Zi (i:=3) Z7D.nd rfl (Or.inl rfl) rfl (by decide)
  refine Z3K (js:=[3]) (by decide) ?_
  refine Z9 ?_
  refine Z05 ?_ ?_ ?_
  refine ZS Zar ?_ ?_ rfl
  exact Z2 (pv 3) (j:=3) rfl
  exact Z2 (pv 1) (j:=1) rfl
  refine Z9 ?_
  refine ZK ?_
  exact Z6 Z1M
  exact ZD
  refine Z9 ?_
  refine ZK ?_
  exact Z6 Z1M
theorem Z9J:FnScope ["text"] ["text"] (Z8 Z6s):=scM
noncomputable def Z4a(K:Qa)(A:Adr):SF :=
  (Z03 (Zq [false,false,false] (Z3X K A) (Z0 (Z3 0) (Z0 (eC (V.str "abcdefghijklmnopqrstuvwxyz")) (Z0 (eC (V.int 12)) Z1)))))
noncomputable def Z2a(K:Qa)(A:Adr):Fn:=Zr 1 [false] (Z4a K A)
theorem Z5G(T:Txt K mg A):DefX P w K mg base "good_name" 2 ["text"] (spR (adr A) [false] (Z2a K A)) :=
 okD (k:=1) (N:=["text"]) (ms:=[false]) (body:=Z4a K A) T.X10 Z9J rfl (by decide) fun f cdv A' outer s H E R hr hx hE ha=>by
  have hu:=ZR hr
  refine Z9 ?_
  refine ZK ?_
  refine Z0p (ms:=[false,false,false]) (by rw [ha];exact (ZaM T)) (hr.mono (by omega)) hx ?_ al3
  refine Z4 ?_ ?_
  exact Z2 (pv 0) (j:=0) rfl
  refine Z4 ?_ ?_
  exact Z6 (Z2c T.g_LETTERS)
  refine Z4 ?_ ?_
  exact Z6 (Z2c T.g_NAME_MOST)
  exact Za
theorem Z4E:FnScope ["kinds", "kind"] ["kinds"] (Z8 Z5j):=scM
noncomputable def Z2n(K:Qa)(A:Adr):SF :=
  (sKill [1] (sIf (bOr (bNot (bV (Zq [false] (Z2a K A) (Z0 (Z3 1) Z1)))) (bV (eNw hGt (Z0 (eNw hCount (Z0 (Zn Z15 (Z3 0)) (Z0 (Z3 1) Z1))) (Z0 (eC (.int (1))) Z1))))) (Z16 "BadKinds" (Z0 (eNw hRepr (Z0 (Z3 0) Z1)) Z1)) ZZ))
noncomputable def Z3f(K:Qa)(A:Adr):SF :=
  (Zd (sIf (bOr (bV (eNw hLt (Z0 (eNw (hLen K) (Z0 (Z3 0) Z1)) (Z0 (eC (.int (1))) Z1)))) (bV (eNw hGt (Z0 (eNw (hLen K) (Z0 (Z3 0) Z1)) (Z0 (eC (V.int 4)) Z1))))) (Z16 "BadKinds" (Z0 (eNw hRepr (Z0 (Z3 0) Z1)) Z1)) ZZ)
  (sForL (Z3 0) (Zt 1)
  (Z2n K A)))
noncomputable def Z2g(K:Qa)(A:Adr):Fn:=Zr 2 [false] (Z3f K A)
theorem Z8d(T:Txt K mg A):DefX P w K mg base "check_kinds" 3 ["kinds"] (spR (adr A) [false] (Z2g K A)) :=
 okD (k:=2) (N:=["kinds", "kind"]) (ms:=[false]) (body:=Z3f K A) T.X11 Z4E rfl (by decide) fun f cdv A' outer s H E R hr hx hE ha=>by
  have hu:=ZR hr
  refine Z5 ?_ ?_
  refine Z05 ?_ ?_ ?_
  refine PW.pt ?_
  refine rw_or ?_ ?_
  refine ZS on_lt ?_ ?_ (ZJ _)
  refine rc_b Z0L (by rfl) T.b_len boot_len ?_
  refine Z4 ?_ ?_
  exact Z2 (pv 0) (j:=0) rfl
  exact Za
  exact Z6 Z7
  refine Z3L ?_
  refine ZS on_gt ?_ ?_ (ZJ _)
  refine rc_b Z0L (by rfl) T.b_len boot_len ?_
  refine Z4 ?_ ?_
  exact Z2 (pv 0) (j:=0) rfl
  exact Za
  exact Z6 (Z2c T.g_KINDS_MOST)
  refine Z9 ?_
  refine Z0D hE (by rw [ha];rfl) T.x_BadKinds ?_
  refine Z4 ?_ ?_
  refine Z2o ?_
  refine Z9G hr.gd hr.units ?_
  exact Z2 (pv 0) (j:=0) rfl
  exact Za
  exact ZD
  refine Z9 ?_
  refine ZdX Z2b rfl ?_ ?_ ?_
  exact Z2 (pv 0) (j:=0) rfl
  exact Zi (i:=1) Z4E.nd rfl (Or.inl rfl) rfl (by decide)
  refine Z3K (js:=[1]) (by decide) ?_
  refine Z9 ?_
  refine Z05 ?_ ?_ ?_
  refine PW.pt ?_
  refine rw_or ?_ ?_
  refine Z38 ?_
  refine rt_v ?_
  refine Z0p (ms:=[false]) (by rw [ha];exact (Z5G T)) (hr.mono (by omega)) hx ?_ al1
  refine Z4 ?_ ?_
  exact Z2 (pv 1) (j:=1) rfl
  exact Za
  refine Z3L ?_
  refine ZS on_gt ?_ ?_ (ZJ _)
  refine Zft ?_ ?_
  exact Z2 (pv 0) (j:=0) rfl
  exact Z2 (pv 1) (j:=1) rfl
  exact Z6 Z7
  refine Z9 ?_
  refine Z0D hE (by rw [ha];rfl) T.x_BadKinds ?_
  refine Z4 ?_ ?_
  refine Z2o ?_
  refine Z9G hr.gd hr.units ?_
  exact Z2 (pv 0) (j:=0) rfl
  exact Za
  exact ZD
theorem Z5M:FnScope ["self", "kinds"] ["self", "kinds"] (Z8 Z3j):=scM
noncomputable def Z22(K:Qa)(A:Adr):SF :=
  (Zd (sE (Zq [false] (Z2g K A) (Z0 (Z3 1) Z1)))
  (Zd (sE (eMu 1 (ZQ A.c_Circle "kinds") (Z0 (eNw hList (Z0 (Z3 1) Z1)) (Z0 (Z3 0) Z1))))
  (Zd (sE (eMu 1 (ZQ A.c_Circle "week") (Z0 (eC (.int (0))) (Z0 (Z3 0) Z1))))
  (Zd (sE (eMu 1 (ZQ A.c_Circle "members") (Z0 (eMk A.c_Houses [] (Z1d K A) Z1) (Z0 (Z3 0) Z1))))
  (Zd (sE (eMu 1 (ZQ A.c_Circle "shelf") (Z0 (eMk A.c_Shelf [false] (Z1r K A) (Z0 (eNw (hLen K) (Z0 (Z3 1) Z1)) Z1)) (Z0 (Z3 0) Z1))))
  (Zd (sE (eMu 1 (ZQ A.c_Circle "prices") (Z0 (eMk A.c_Prices [] (Z1f K A) Z1) (Z0 (Z3 0) Z1))))
  (Zd (sE (eMu 1 (ZQ A.c_Circle "past_weeks") (Z0 (Z04 (.lst true) Z1) (Z0 (Z3 0) Z1))))
  (sE (eMu 1 (ZQ A.c_Circle "deeds") (Z0 (Z04 (.lst true) Z1) (Z0 (Z3 0) Z1)))))))))))
noncomputable def Z1b(K:Qa)(A:Adr):Fn:=Zr 2 [true,false] (Z22 K A)
theorem Z5B(T:Txt K mg A):InitX P w K mg base A.c_Circle 4 ["self", "kinds"] (spR (adr A) [true,false] (Z1b K A)) :=
 okI (k:=3) (N:=["self", "kinds"]) (ms:=[true,false]) (body:=Z22 K A) T.X12 Z5M rfl (by decide) fun f cdv A' outer s H E R hr hx hE ha=>by
  have hu:=ZR hr
  refine Z5 ?_ ?_
  refine rs_e ?_
  refine Z0p (ms:=[false]) (by rw [ha];exact (Z8d T)) (hr.mono (by omega)) hx ?_ al1
  refine Z4 ?_ ?_
  exact Z2 (pv 1) (j:=1) rfl
  exact Za
  refine Z5 ?_ ?_
  refine ZP T.cl_Circle T.n_Circle_kinds ?_ ?_
  exact Z2 (pv 0) (j:=0) rfl
  refine rc_ty Za2 (by rfl) T.b_list boot_list ?_
  refine Z4 ?_ ?_
  exact Z2 (pv 1) (j:=1) rfl
  exact Za
  refine Z5 ?_ ?_
  refine ZP T.cl_Circle T.n_Circle_week ?_ ?_
  exact Z2 (pv 0) (j:=0) rfl
  exact Z6 Z7
  refine Z5 ?_ ?_
  refine ZP T.cl_Circle T.n_Circle_members ?_ ?_
  exact Z2 (pv 0) (j:=0) rfl
  exact Z9F (by rw [ha];exact (Z5D T)) (hr.mono (by omega)) T.mc_Houses
  refine Z5 ?_ ?_
  refine ZP T.cl_Circle T.n_Circle_shelf ?_ ?_
  exact Z2 (pv 0) (j:=0) rfl
  refine rc_mk (ms:=[false]) (by rw [ha];exact (Z6i T)) (hr.mono (by omega)) T.mc_Shelf ?_ al1
  refine Z4 ?_ ?_
  refine rc_b Z0L (by rfl) T.b_len boot_len ?_
  refine Z4 ?_ ?_
  exact Z2 (pv 1) (j:=1) rfl
  exact Za
  exact Za
  refine Z5 ?_ ?_
  refine ZP T.cl_Circle T.n_Circle_prices ?_ ?_
  exact Z2 (pv 0) (j:=0) rfl
  exact Z9F (by rw [ha];exact (Z5F T)) (hr.mono (by omega)) T.mc_Prices
  refine Z5 ?_ ?_
  refine ZP T.cl_Circle T.n_Circle_past_weeks ?_ ?_
  exact Z2 (pv 0) (j:=0) rfl
  refine Z2H ?_
  exact Za
  refine Z9 ?_
  refine ZP T.cl_Circle T.n_Circle_deeds ?_ ?_
  exact Z2 (pv 0) (j:=0) rfl
  refine Z2H ?_
  exact Za
theorem Z7C:FnScope ["self", "name"] ["self", "name"] (Z8 Z4C):=scM
noncomputable def Z1V(K:Qa)(A:Adr):SF :=
  (Zd (sIf (bV (eNw (hDIn true) (Z0 (Z3 1) (Z0 (eCh (Z0J A.c_Houses "joined") (Z0 (Z3 0) Z1)) Z1)))) (Z16 "UnknownHouse" (Z0 (eNw Z4m (Z0 (Z3 1) Z1)) Z1)) ZZ)
  (Z03 (eCh hDGet (Z0 (eCh (Z0J A.c_Houses "joined") (Z0 (Z3 0) Z1)) (Z0 (Z3 1) Z1)))))
noncomputable def Z0u(K:Qa)(A:Adr):Fn:=Zr 2 [true,false] (Z1V K A)
theorem Z41(T:Txt K mg A):MetX P w K mg base A.c_Houses "named" 1 ["self", "name"] (spR (adr A) [true,false] (Z0u K A)) :=
 okM (k:=0) (N:=["self", "name"]) (ms:=[true,false]) (body:=Z1V K A) T.X13 Z7C rfl (by decide) fun f cdv A' outer s H E R hr hx hE ha=>by
  have hu:=ZR hr
  refine Z5 ?_ ?_
  refine Z05 ?_ ?_ ?_
  refine Z67 ?_
  refine ZdW hu ?_ ?_
  exact Z2 (pv 1) (j:=1) rfl
  refine Z0i T.cl_Houses T.n_Houses_joined ?_
  exact Z2 (pv 0) (j:=0) rfl
  refine Z9 ?_
  refine Z0D hE (by rw [ha];rfl) T.x_UnknownHouse ?_
  refine Z4 ?_ ?_
  refine Z2o ?_
  refine Z5K ?_
  exact Z2 (pv 1) (j:=1) rfl
  exact Za
  exact ZD
  refine Z9 ?_
  refine ZK ?_
  refine Zat hu ?_ ?_ (fun _ _=>rfl)
  refine Z0i T.cl_Houses T.n_Houses_joined ?_
  exact Z2 (pv 0) (j:=0) rfl
  exact Z2 (pv 1) (j:=1) rfl
theorem Z3n:FnScope ["self", "name", "house"] ["self", "name"] (Z8 Z3N):=scM
noncomputable def Z2j(K:Qa)(A:Adr):SF :=
  (Zd (ZV (Zq [true,false] (Z0u K A) (Z0 (Zn (Zo A.c_Houses "named") (Z3 0)) (Z0 (Z3 1) Z1))) (Zt 2))
  (Zd (sIf (bNot (bV (eCh (Z0J A.c_House "stands") (Z0 (Z3 2) Z1)))) (Z16 "LeftHouse" (Z0 (eNw Z0K (Z0 (Z3 1) Z1)) Z1)) ZZ)
  (Z03 (Z3 2))))
noncomputable def Z1q(K:Qa)(A:Adr):Fn:=Zr 3 [true,false] (Z2j K A)
theorem Z6h(T:Txt K mg A):MetX P w K mg base A.c_Houses "present" 2 ["self", "name"] (spR (adr A) [true,false] (Z1q K A)) :=
 okM (k:=1) (N:=["self", "name", "house"]) (ms:=[true,false]) (body:=Z2j K A) T.X14 Z3n rfl (by decide) fun f cdv A' outer s H E R hr hx hE ha=>by
  have hu:=ZR hr
  refine Z5 ?_ ?_
  refine Zv ?_ ?_
  refine Z2d (ms:=[true,false]) (by rw [ha];exact (Z41 T)) T.cl_Houses (hr.mono (by omega)) hx ?_ ?_ al2
  exact Z2 (pv 0) (j:=0) rfl
  refine Z4 ?_ ?_
  exact Z2 (pv 1) (j:=1) rfl
  exact Za
  exact Zi (i:=2) Z3n.nd rfl (Or.inl rfl) rfl (by decide)
  refine Z5 ?_ ?_
  refine Z05 ?_ ?_ ?_
  refine Z38 ?_
  refine rt_v ?_
  refine Z0i T.cl_House T.n_House_stands ?_
  exact Z2 (pv 2) (j:=2) rfl
  refine Z9 ?_
  refine Z0D hE (by rw [ha];rfl) T.x_LeftHouse ?_
  refine Z4 ?_ ?_
  refine Z2o ?_
  refine Z0W ?_
  exact Z2 (pv 1) (j:=1) rfl
  exact Za
  exact ZD
  refine Z9 ?_
  refine ZK ?_
  exact Z2 (pv 2) (j:=2) rfl
theorem Z50:FnScope ["self"] ["self"] (Z8 Z2L):=scM
noncomputable def Z1E(K:Qa)(A:Adr):SF :=
  (sIf (bV (eNw hGe (Z0 (eNw (hLen K) (Z0 (eCh (Z0J A.c_Circle "deeds") (Z0 (Z3 0) Z1)) Z1)) (Z0 (eC (V.int 400)) Z1)))) (Z16 "BookFull" (Z0 (Z1a [(eNw Z0K (Z0 (eC (V.int 400)) Z1)),(eC (.str " deeds are done"))] Str.empty) Z1)) ZZ)
noncomputable def Z0r(K:Qa)(A:Adr):Fn:=Zr 1 [false] (Z1E K A)
theorem Z2F(T:Txt K mg A):MetX P w K mg base A.c_Circle "check_book" 1 ["self"] (spR (adr A) [false] (Z0r K A)) :=
 okM (k:=0) (N:=["self"]) (ms:=[false]) (body:=Z1E K A) T.X15 Z50 rfl (by decide) fun f cdv A' outer s H E R hr hx hE ha=>by
  have hu:=ZR hr
  refine Z9 ?_
  refine Z05 ?_ ?_ ?_
  refine ZS on_ge ?_ ?_ (ZJ _)
  refine rc_b Z0L (by rfl) T.b_len boot_len ?_
  refine Z4 ?_ ?_
  refine Z0i T.cl_Circle T.n_Circle_deeds ?_
  exact Z2 (pv 0) (j:=0) rfl
  exact Za
  exact Z6 (Z2c T.g_DEEDS_MOST)
  refine Z9 ?_
  refine Z0D hE (by rw [ha];rfl) T.x_BookFull ?_
  refine Z4 ?_ ?_
  refine Z2X ?_
  refine Z0c ?_ ?_
  refine Z0W ?_
  exact Z6 (Z2c T.g_DEEDS_MOST)
  refine Z0c ?_ ?_
  exact Z6 Zu
  exact Z4z
  exact Za
  exact ZD
theorem Z45:FnScope ["self", "row"] ["self", "row"] (Z8 Z4B):=scM
noncomputable def Z2Q(K:Qa)(A:Adr):SF :=
  (sE (eMu 0 hApp (Z0 (Zn Z15 (eCh (Z0J A.c_Circle "deeds") (Z0 (Z3 0) Z1))) (Z0 (Z3 1) Z1))))
noncomputable def Z1Y(K:Qa)(A:Adr):Fn:=Zr 2 [true,false] (Z2Q K A)
theorem Z7s(T:Txt K mg A):MetX P w K mg base A.c_Circle "write" 1 ["self", "row"] (spR (adr A) [true,false] (Z1Y K A)) :=
 okM (k:=0) (N:=["self", "row"]) (ms:=[true,false]) (body:=Z2Q K A) T.X16 Z45 rfl (by decide) fun f cdv A' outer s H E R hr hx hE ha=>by
  have hu:=ZR hr
  refine Z9 ?_
  refine rs_e ?_
  refine Z5J ?_ ?_
  refine Z0i T.cl_Circle T.n_Circle_deeds ?_
  exact Z2 (pv 0) (j:=0) rfl
  exact Z2 (pv 1) (j:=1) rfl
noncomputable def Z0E(K:Qa)(A:Adr)(L:Nat):SF:=(sE (eMu 0 hApp (Z0 (Zn Z15 (eCh (Z0J A.c_Circle "deeds") (Z0 (Z3 L) Z1))) (Z0 (Z3 (L + 1)) Z1))))
theorem Z7q(T:Txt K mg A):MetX P w K mg base A.c_Circle "write" 1 ["self", "row"] (spI (adr A) 2 2 (Z0E K A)) :=
 okMI (k:=0) (N:=["self", "row"]) (np:=2) (body:=Z0E K A) T.X16 Z45 rfl (by decide) fun f cdv A' outer s H E R L hr hx hE ha=>Z9 (rs_e (Z5J (Z0i T.cl_Circle T.n_Circle_deeds (Z2 (pv 0) (j:=L) rfl)) (Z2 (pv 1) (j:=L + 1) rfl)))
theorem Z44:FnScope ["self", "house", "member"] ["self", "house"] (Z8 Z4A):=scM
noncomputable def Z29(K:Qa)(A:Adr):SF :=
  (sE (Zq [true] (Z2f K A) (Z0 (Zn (Zo A.c_House "leave") (Z3 2)) Z1)))
noncomputable def Z28(K:Qa)(A:Adr):SF :=
  (Zd (sE (eInl 2 2 (Z0 (Zn (Zo A.c_Circle "write") (Z3 0)) (Z0 (Z1a [(eC (.str "leave ")),(eNw Z0K (Z0 (Z3 1) Z1))] Str.empty) Z1)) (Z0E K A)))
  (Z29 K A))
noncomputable def Z27(K:Qa)(A:Adr):SF :=
  (Zd (sE (Zq [false] (Z0r K A) (Z0 (Zn (Zo A.c_Circle "check_book") (Z3 0)) Z1)))
  (Z28 K A))
noncomputable def Z2P(K:Qa)(A:Adr):SF :=
  (Zd (ZV (Zq [true,false] (Z1q K A) (Z0 (Zn (Zo A.c_Houses "present") (eCh (Z0J A.c_Circle "members") (Z0 (Z3 0) Z1))) (Z0 (Z3 1) Z1))) (Zt 2))
  (Z27 K A))
noncomputable def Z1g(K:Qa)(A:Adr):Fn:=Zr 3 [true,false] (Z2P K A)
theorem Z7r(T:Txt K mg A):MetX P w K mg base A.c_Circle "leave" 3 ["self", "house"] (spR (adr A) [true,false] (Z1g K A)) :=
 okM (k:=2) (N:=["self", "house", "member"]) (ms:=[true,false]) (body:=Z2P K A) T.X17 Z44 rfl (by decide) fun f cdv A' outer s H E R hr hx hE ha=>by
  have hu:=ZR hr
  refine Z5 ?_ ?_
  refine Zv ?_ ?_
  refine Z2d (ms:=[true,false]) (by rw [ha];exact (Z6h T)) T.cl_Houses (hr.mono (by omega)) hx ?_ ?_ al2
  refine Z0i T.cl_Circle T.n_Circle_members ?_
  exact Z2 (pv 0) (j:=0) rfl
  refine Z4 ?_ ?_
  exact Z2 (pv 1) (j:=1) rfl
  exact Za
  exact Zi (i:=2) Z44.nd rfl (Or.inl rfl) rfl (by decide)
  refine Z5 ?_ ?_
  refine rs_e ?_
  refine Z2w (ms:=[false]) (by rw [ha];exact (Z2F T)) T.cl_Circle (hr.mono (by omega)) hx ?_ al1
  exact Z2 (pv 0) (j:=0) rfl
  refine Z5 ?_ ?_
  refine rs_e ?_
  refine Zfr (by rw [ha];exact (Z7q T)) T.cl_Circle (hr.mono (by omega)) hx ?_ ?_
  exact Z2 (pv 0) (j:=0) rfl
  refine Z4 ?_ ?_
  refine Z2X ?_
  refine Z0c ?_ ?_
  exact Z6 Zu
  refine Z0c ?_ ?_
  refine Z0W ?_
  exact Z2 (pv 1) (j:=1) rfl
  exact Z4z
  exact Za
  refine Z9 ?_
  refine rs_e ?_
  refine Z2w (ms:=[true]) (by rw [ha];exact (Z8b T)) T.cl_House (hr.mono (by omega)) hx ?_ al1
  exact Z2 (pv 2) (j:=2) rfl
theorem Z5P:FnScope ["self"] ["self"] (Z8 Z26):=scM
theorem Z3b(T:Txt K mg A):MetX P w K mg base A.c_Houses "standing" 1 ["self"] (spSt A.c_Houses A.c_House "joined" "stands") :=
 okSt (k:=0) T.X18 Z5P fun f cdv A' outer s H E hr=>Z2V (Z3H (ZcG (N:=["house", "self"]) rfl (Z64 T.cl_Houses T.n_Houses_joined (pv 0)) (CompSc.of (sc:=Z8 Z26) (N0:=["self"]) rfl rfl (by decide +kernel)) (fun cl C s H fp=>Z4u (i:=0) (show (["house", "self"]:List Str).Nodup from by decide +kernel) rfl (Or.inl rfl)) (fun cl C s H fp=>Zfg (Z9B (Z64 T.cl_House T.n_House_stands (pv 0)))) (fun cl C s H fp=>pv 0) Zb9))
noncomputable def Z1e(K:Qa)(A:Adr):Fn:=fSt A.c_Houses A.c_House "joined" "stands"
theorem Z5E(T:Txt K mg A):MetX P w K mg base A.c_Houses "standing" 1 ["self"] (spR (adr A) [false] (Z1e K A)):=RM.MetX.imp (Z3b T) fun vs H Q E h=>ZfB h
theorem Z6N:FnScope ["self"] ["self"] (Z8 Z2I):=scM
noncomputable def Z2B(K:Qa)(A:Adr):SF:=(Z03 (eNw (hNm A.c_Houses A.c_House "joined" "stands" "standing" "name") (Z0 (eCh (Z0J A.c_Circle "members") (Z0 (Z3 0) Z1)) Z1)))
noncomputable def Z12(K:Qa)(A:Adr):Fn:=Zr 1 [false] (Z2B K A)
theorem Z3F(T:Txt K mg A):MetX P w K mg base A.c_Circle "houses" 2 ["self"] (spR (adr A) [false] (Z12 K A)) :=
 okM (k:=1) (N:=["self"]) (ms:=[false]) (body:=Z2B K A) T.X19 Z6N rfl (by decide) fun f cdv A' outer s H E R hr hx hE ha=>Z9 (ZK (ZaP (N:=["member", "self"]) (Z3b T) T.cl_Houses (hr.mono (by omega)) hx rfl (Z0i T.cl_Circle T.n_Circle_members (Z2 (pv 0) (j:=0) rfl)) (CompSc.of (sc:=Z8 Z2I) (N0:=["self"]) rfl rfl (by decide +kernel)) (fun cl C s H fp=>Z4u (i:=0) (show (["member", "self"]:List Str).Nodup from by decide +kernel) rfl (Or.inl rfl)) (fun cl C s H fp=>Z64 T.cl_House T.n_House_name (pv 0))))
theorem ZaQ:FnScope ["_law_script", "_law_k"] ["_law_script", "_law_k"] (Z8 Z8A):=scM
noncomputable def Z5q(K:Qa)(A:Adr):SF :=
  (Zd (sIf (bV (eNw hLt (Z0 (Z3 1) (Z0 (eNw (hLen K) (Z0 (Z3 0) Z1)) Z1)))) (Z03 (eCh (hIx K) (Z0 (Z3 0) (Z0 (Z3 1) Z1)))) ZZ)
  (Z03 (eC (.int (0)))))
noncomputable def Z2v(K:Qa)(A:Adr):Fn:=Zr 2 [false,false] (Z5q K A)
theorem Z4Y(T:Txt K mg A):DefX P w K mg base "_law_at" 1 ["_law_script", "_law_k"] (spR (adr A) [false,false] (Z2v K A)) :=
 okD (k:=0) (N:=["_law_script", "_law_k"]) (ms:=[false,false]) (body:=Z5q K A) T.X20 ZaQ rfl (by decide) fun f cdv A' outer s H E R hr hx hE ha=>by
  have hu:=ZR hr
  refine Z5 ?_ ?_
  refine Z05 ?_ ?_ ?_
  refine ZS on_lt ?_ ?_ (ZJ _)
  exact Z2 (pv 1) (j:=1) rfl
  refine rc_b Z0L (by rfl) T.b_len boot_len ?_
  refine Z4 ?_ ?_
  exact Z2 (pv 0) (j:=0) rfl
  exact Za
  refine Z9 ?_
  refine ZK ?_
  refine ZC ?_ ?_ (fun _ _=>rfl)
  exact Z2 (pv 0) (j:=0) rfl
  exact Z2 (pv 1) (j:=1) rfl
  exact ZD
  refine Z9 ?_
  refine ZK ?_
  exact Z6 Z7
theorem Z0F:FnScope ["_law_script", "_law_k", "_law_base", "_law_many", "_law_cell", "_law_found", "_law_j", "_law_once"] ["_law_script", "_law_k", "_law_base", "_law_many"] (Z8 Z4D):=scM
noncomputable def Z0d(K:Qa)(A:Adr):SF :=
  (sKill [6,7] (sIf (bV (eNw (hEq false) (Z0 (eNw hMod (Z0 (Zq [false,false] (Z2v K A) (Z0 (Z3 0) (Z0 (eC (.int (0))) Z1))) (Z0 (eC (.int (2))) Z1))) (Z0 (eC (.int (0))) Z1)))) (Zd (sE (eMu 0 hApp (Z0 (Zn Z15 (Z3 5)) (Z0 (eNw hMod (Z0 (Z3 4) (Z0 (Z3 2) Z1))) Z1))))
  (ZV (eNw hDiv (Z0 (Z3 4) (Z0 (Z3 2) Z1))) (Zt 4))) (Zd (ZV (eNw hMod (Z0 (eNw hMul (Z0 (eNw Z0j (Z0 (eNw Z0j (Z0 (Z3 4) (Z0 (eNw hMul (Z0 (eC (.int (31))) (Z0 (Z3 6) Z1))) Z1))) (Z0 (eC (.int (1))) Z1))) (Z0 (eC (.int (48271))) Z1))) (Z0 (eC (.int (2147483647))) Z1))) (Zt 7))
  (sE (eMu 0 hApp (Z0 (Zn Z15 (Z3 5)) (Z0 (eNw hMod (Z0 (eNw hMod (Z0 (eNw hMul (Z0 (eNw Z0j (Z0 (eNw Z0j (Z0 (eNw Z0j (Z0 (Z3 7) (Z0 (eNw hMul (Z0 (eC (.int (7919))) (Z0 (Z3 1) Z1))) Z1))) (Z0 (Z3 6) Z1))) (Z0 (eC (.int (1))) Z1))) (Z0 (eC (.int (69621))) Z1))) (Z0 (eC (.int (2147483647))) Z1))) (Z0 (Z3 2) Z1))) Z1)))))))
noncomputable def Z2R(K:Qa)(A:Adr):SF :=
  (Zd (ZV (Zq [false,false] (Z2v K A) (Z0 (Z3 0) (Z0 (Z3 1) Z1))) (Zt 4))
  (Zd (ZV (Z04 (.lst true) Z1) (Zt 5))
  (Zd (sForR (Z0 (Z3 3) Z1) (Zt 6)
  (Z0d K A))
  (Z03 (Z3 5)))))
noncomputable def Z0v(K:Qa)(A:Adr):Fn:=Zr 8 [false,false,false,false] (Z2R K A)
theorem Z42(T:Txt K mg A):DefX P w K mg base "_law_figures" 2 ["_law_script", "_law_k", "_law_base", "_law_many"] (spR (adr A) [false,false,false,false] (Z0v K A)) :=
 okD (k:=1) (N:=["_law_script", "_law_k", "_law_base", "_law_many", "_law_cell", "_law_found", "_law_j", "_law_once"]) (ms:=[false,false,false,false]) (body:=Z2R K A) T.X21 Z0F rfl (by decide) fun f cdv A' outer s H E R hr hx hE ha=>by
  have hu:=ZR hr
  refine Z5 ?_ ?_
  refine Zv ?_ ?_
  refine Z0p (ms:=[false,false]) (by rw [ha];exact (Z4Y T)) (hr.mono (by omega)) hx ?_ al2
  refine Z4 ?_ ?_
  exact Z2 (pv 0) (j:=0) rfl
  refine Z4 ?_ ?_
  exact Z2 (pv 1) (j:=1) rfl
  exact Za
  exact Zi (i:=4) Z0F.nd rfl (Or.inl rfl) rfl (by decide)
  refine Z5 ?_ ?_
  refine Zv ?_ ?_
  refine Z2H ?_
  exact Za
  exact Zi (i:=5) Z0F.nd rfl (Or.inl rfl) rfl (by decide)
  refine Z5 ?_ ?_
  refine ZcN Z2b rfl rfl T.b_range ?_ ?_ ?_
  exact Z2 (pv 3) (j:=3) rfl
  exact Zi (i:=6) Z0F.nd rfl (Or.inl rfl) rfl (by decide)
  refine Z3K (js:=[6,7]) (by decide) ?_
  refine Z9 ?_
  refine Z05 ?_ ?_ ?_
  refine ZS on_eq ?_ ?_ (ZJ _)
  refine Zg Z00 ?_ ?_
  refine Z0p (ms:=[false,false]) (by rw [ha];exact (Z4Y T)) (hr.mono (by omega)) hx ?_ al2
  refine Z4 ?_ ?_
  exact Z2 (pv 0) (j:=0) rfl
  refine Z4 ?_ ?_
  exact Z6 Z7
  exact Za
  exact Z6 Z7
  exact Z6 Z7
  refine Z5 ?_ ?_
  refine rs_e ?_
  refine Z5J ?_ ?_
  exact Z2 (pv 5) (j:=5) rfl
  refine Zg Z00 ?_ ?_
  exact Z2 (pv 4) (j:=4) rfl
  exact Z2 (pv 2) (j:=2) rfl
  refine Z9 ?_
  refine Zv ?_ ?_
  refine Zg Z1A ?_ ?_
  exact Z2 (pv 4) (j:=4) rfl
  exact Z2 (pv 2) (j:=2) rfl
  exact Zi (i:=4) Z0F.nd rfl (Or.inl rfl) rfl (by decide)
  refine Z5 ?_ ?_
  refine Zv ?_ ?_
  refine Zg Z00 ?_ ?_
  refine Zg Z5H ?_ ?_
  refine Zg Z0f ?_ ?_
  refine Zg Z0f ?_ ?_
  exact Z2 (pv 4) (j:=4) rfl
  refine Zg Z5H ?_ ?_
  exact Z6 Z7
  exact Z2 (pv 6) (j:=6) rfl
  exact Z6 Z7
  exact Z6 Z7
  exact Z6 Z7
  exact Zi (i:=7) Z0F.nd rfl (Or.inl rfl) rfl (by decide)
  refine Z9 ?_
  refine rs_e ?_
  refine Z5J ?_ ?_
  exact Z2 (pv 5) (j:=5) rfl
  refine Zg Z00 ?_ ?_
  refine Zg Z00 ?_ ?_
  refine Zg Z5H ?_ ?_
  refine Zg Z0f ?_ ?_
  refine Zg Z0f ?_ ?_
  refine Zg Z0f ?_ ?_
  exact Z2 (pv 7) (j:=7) rfl
  refine Zg Z5H ?_ ?_
  exact Z6 Z7
  exact Z2 (pv 1) (j:=1) rfl
  exact Z2 (pv 6) (j:=6) rfl
  exact Z6 Z7
  exact Z6 Z7
  exact Z6 Z7
  exact Z2 (pv 2) (j:=2) rfl
  refine Z9 ?_
  refine ZK ?_
  exact Z2 (pv 5) (j:=5) rfl
theorem Z1B:FnScope ["_law_cell", "_law_many", "_law_stem", "_law_spot", "_law_signs", "_law_shift"] ["_law_cell", "_law_many"] (Z8 Z3P):=scM
noncomputable def Z46(K:Qa)(A:Adr):SF :=
  (Z03 (Z3r (Z3 1) (fun _=>bYes) (fun n1=>(eNw Z0j (Z0 (eNw Z0j (Z0 (eNw (Z1s false) (Z0 (Z3 2) (Z0 (Z3 3) Z1))) (Z0 (eCh (hIx K) (Z0 (Z3 4) (Z0 (eNw hMod (Z0 (eNw Z0j (Z0 (Z3 5) (Z0 (eNw hMul (Z0 (eC (.int (7))) (Z0 (Z3 n1) Z1))) Z1))) (Z0 (eC (.int (26))) Z1))) Z1))) Z1))) (Z0 (eNw (Z1s true) (Z0 (Z3 2) (Z0 (Z3 3) Z1))) Z1))))))
noncomputable def Z3x(K:Qa)(A:Adr):SF :=
  (Zd (ZV (eNw (Z1s false) (Z0 (eC (.str "papercircle")) (Z0 (eNw hMod (Z0 (Z3 0) (Z0 (eC (.int (12))) Z1))) Z1))) (Zt 2))
  (Zd (ZV (eNw hMod (Z0 (eNw hDiv (Z0 (Z3 0) (Z0 (eC (.int (12))) Z1))) (Z0 (eNw Z0j (Z0 (eNw (hLen K) (Z0 (Z3 2) Z1)) (Z0 (eC (.int (1))) Z1))) Z1))) (Zt 3))
  (Zd (ZV (eC (.str "abcdefghijklmnopqrstuvwxyz")) (Zt 4))
  (Zd (ZV (eNw hMod (Z0 (eNw hDiv (Z0 (Z3 0) (Z0 (eC (.int (156))) Z1))) (Z0 (eC (.int (26))) Z1))) (Zt 5))
  (Z46 K A)))))
noncomputable def Z1Q(K:Qa)(A:Adr):Fn:=Zr 6 [false,false] (Z3x K A)
theorem Z5f(T:Txt K mg A):DefX P w K mg base "_law_names" 1 ["_law_cell", "_law_many"] (spR (adr A) [false,false] (Z1Q K A)) :=
 okD (k:=0) (N:=["_law_cell", "_law_many", "_law_stem", "_law_spot", "_law_signs", "_law_shift"]) (ms:=[false,false]) (body:=Z3x K A) T.X22 Z1B rfl (by decide) fun f cdv A' outer s H E R hr hx hE ha=>by
  have hu:=ZR hr
  refine Z5 ?_ ?_
  refine Zv ?_ ?_
  refine Z8z ?_ ?_
  exact Z6 Zu
  refine Zg Z00 ?_ ?_
  exact Z2 (pv 0) (j:=0) rfl
  exact Z6 Z7
  exact Zi (i:=2) Z1B.nd rfl (Or.inr rfl) rfl (by decide)
  refine Z5 ?_ ?_
  refine Zv ?_ ?_
  refine Zg Z00 ?_ ?_
  refine Zg Z1A ?_ ?_
  exact Z2 (pv 0) (j:=0) rfl
  exact Z6 Z7
  refine Zg Z0f ?_ ?_
  refine rc_b Z0L (by rfl) T.b_len boot_len ?_
  refine Z4 ?_ ?_
  exact Z2 (pv 2) (j:=2) rfl
  exact Za
  exact Z6 Z7
  exact Zi (i:=3) Z1B.nd rfl (Or.inr rfl) rfl (by decide)
  refine Z5 ?_ ?_
  refine Zv ?_ ?_
  exact Z6 Zu
  exact Zi (i:=4) Z1B.nd rfl (Or.inr rfl) rfl (by decide)
  refine Z5 ?_ ?_
  refine Zv ?_ ?_
  refine Zg Z00 ?_ ?_
  refine Zg Z1A ?_ ?_
  exact Z2 (pv 0) (j:=0) rfl
  exact Z6 Z7
  exact Z6 Z7
  exact Zi (i:=5) Z1B.nd rfl (Or.inr rfl) rfl (by decide)
  refine Z9 ?_
  refine ZK ?_
  refine ZbF (N:=["_law_k", "_law_cell", "_law_many", "_law_stem", "_law_spot", "_law_signs", "_law_shift"]) rfl (by decide) rfl T.b_range ?_ (CompSc.of (sc:=Z8 Z3P) (N0:=["_law_cell", "_law_many", "_law_stem", "_law_spot", "_law_signs", "_law_shift"]) rfl rfl (by decide +kernel)) (fun cl C s H fp=>(Z4u (i:=0) (show (["_law_k", "_law_cell", "_law_many", "_law_stem", "_law_spot", "_law_signs", "_law_shift"]:List Str).Nodup from by decide +kernel) rfl (Or.inl rfl))) (fun cl C s H fp=>Zfq) (fun cl C s H fp=>px_e fun n1 hn1=>?_)
  exact Z2 (pv 1) (j:=1) rfl
  refine Zg Z0f ?_ ?_
  refine Zg Z0f ?_ ?_
  refine Z8z ?_ ?_
  exact Z2 (pv 3) (j:=2) rfl
  exact Z2 (pv 4) (j:=3) rfl
  refine ZC ?_ ?_ (fun _ _=>rfl)
  exact Z2 (pv 5) (j:=4) rfl
  refine Zg Z00 ?_ ?_
  refine Zg Z0f ?_ ?_
  exact Z2 (pv 6) (j:=5) rfl
  refine Zg Z5H ?_ ?_
  exact Z6 Z7
  exact Z2 (pv 0) (j:=n1) rfl
  exact Z6 Z7
  refine Z2x ?_ ?_
  exact Z2 (pv 3) (j:=2) rfl
  exact Z2 (pv 4) (j:=3) rfl
theorem Z4g:FnScope ["_law_figs", "_law_names_here", "_law_name", "_law_bad"] ["_law_figs", "_law_names_here"] (Z8 Z7B):=scM
noncomputable def Z2h(K:Qa)(A:Adr):SF :=
  (Zd (sIf (bV (eNw (hEq false) (Z0 (eNw hMod (Z0 (eCh (hIx K) (Z0 (Z3 0) (Z0 (eC (.int (1))) Z1))) (Z0 (eC (.int (5))) Z1))) (Z0 (eC (.int (1))) Z1)))) (Zd (ZV (Z04 (.lst true) (Z0 (eC (.str "")) (Z0 (eC (.str "abcdefghijklm")) (Z0 (eNw Z0j (Z0 (eC (.str "A")) (Z0 (eNw (Z1s true) (Z0 (Z3 2) (Z0 (eC (.int (1))) Z1))) Z1))) (Z0 (eNw Z0j (Z0 (eNw (Z1s true) (Z0 (Z3 2) (Z0 (eC (.int (1))) Z1))) (Z0 (eC (.str " ")) Z1))) (Z0 (eNw Z0j (Z0 (eC (.str "1")) (Z0 (eNw (Z1s true) (Z0 (Z3 2) (Z0 (eC (.int (1))) Z1))) Z1))) (Z0 (eNw Z0j (Z0 (eNw (Z1s true) (Z0 (Z3 2) (Z0 (eC (.int (1))) Z1))) (Z0 (eC (.str "{")) Z1))) (Z0 (eC (.str "nine9")) Z1)))))))) (Zt 3))
  (Z03 (eCh (hIx K) (Z0 (Z3 3) (Z0 (eNw hMod (Z0 (eNw hDiv (Z0 (eCh (hIx K) (Z0 (Z3 0) (Z0 (eC (.int (1))) Z1))) (Z0 (eC (.int (5))) Z1))) (Z0 (eC (.int (7))) Z1))) Z1))))) ZZ)
  (Z03 (Z3 2)))
noncomputable def Z4K(K:Qa)(A:Adr):SF :=
  (Zd (ZV (eCh (hIx K) (Z0 (Z3 1) (Z0 (eNw hMod (Z0 (eCh (hIx K) (Z0 (Z3 0) (Z0 (eC (.int (0))) Z1))) (Z0 (eC (.int (9))) Z1))) Z1))) (Zt 2))
  (Z2h K A))
noncomputable def Z3p(K:Qa)(A:Adr):Fn:=Zr 4 [false,false] (Z4K K A)
theorem Z9X(T:Txt K mg A):DefX P w K mg base "_law_who" 1 ["_law_figs", "_law_names_here"] (spR (adr A) [false,false] (Z3p K A)) :=
 okD (k:=0) (N:=["_law_figs", "_law_names_here", "_law_name", "_law_bad"]) (ms:=[false,false]) (body:=Z4K K A) T.X23 Z4g rfl (by decide) fun f cdv A' outer s H E R hr hx hE ha=>by
  have hu:=ZR hr
  refine Z5 ?_ ?_
  refine Zv ?_ ?_
  refine ZC ?_ ?_ (fun _ _=>rfl)
  exact Z2 (pv 1) (j:=1) rfl
  refine Zg Z00 ?_ ?_
  refine ZC ?_ ?_ (fun _ _=>rfl)
  exact Z2 (pv 0) (j:=0) rfl
  exact Z6 Z7
  exact Z6 Z7
  exact Zi (i:=2) Z4g.nd rfl (Or.inl rfl) rfl (by decide)
  refine Z5 ?_ ?_
  refine Z05 ?_ ?_ ?_
  refine ZS on_eq ?_ ?_ (ZJ _)
  refine Zg Z00 ?_ ?_
  refine ZC ?_ ?_ (fun _ _=>rfl)
  exact Z2 (pv 0) (j:=0) rfl
  exact Z6 Z7
  exact Z6 Z7
  exact Z6 Z7
  refine Z5 ?_ ?_
  refine Zv ?_ ?_
  refine Z2H ?_
  refine Z4 ?_ ?_
  exact Z6 Zu
  refine Z4 ?_ ?_
  exact Z6 Zu
  refine Z4 ?_ ?_
  refine Zg Z0f ?_ ?_
  exact Z6 Zu
  refine Z2x ?_ ?_
  exact Z2 (pv 2) (j:=2) rfl
  exact Z6 Z7
  refine Z4 ?_ ?_
  refine Zg Z0f ?_ ?_
  refine Z2x ?_ ?_
  exact Z2 (pv 2) (j:=2) rfl
  exact Z6 Z7
  exact Z6 Zu
  refine Z4 ?_ ?_
  refine Zg Z0f ?_ ?_
  exact Z6 Zu
  refine Z2x ?_ ?_
  exact Z2 (pv 2) (j:=2) rfl
  exact Z6 Z7
  refine Z4 ?_ ?_
  refine Zg Z0f ?_ ?_
  refine Z2x ?_ ?_
  exact Z2 (pv 2) (j:=2) rfl
  exact Z6 Z7
  exact Z6 Zu
  refine Z4 ?_ ?_
  exact Z6 Zu
  exact Za
  exact Zi (i:=3) Z4g.nd rfl (Or.inl rfl) rfl (by decide)
  refine Z9 ?_
  refine ZK ?_
  refine ZC ?_ ?_ (fun _ _=>rfl)
  exact Z2 (pv 3) (j:=3) rfl
  refine Zg Z00 ?_ ?_
  refine Zg Z1A ?_ ?_
  refine ZC ?_ ?_ (fun _ _=>rfl)
  exact Z2 (pv 0) (j:=0) rfl
  exact Z6 Z7
  exact Z6 Z7
  exact Z6 Z7
  exact ZD
  refine Z9 ?_
  refine ZK ?_
  exact Z2 (pv 2) (j:=2) rfl
theorem Z0x:FnScope ["_law_figs", "_law_names_here", "_law_kinds", "_law_kind", "_law_least", "_law_most"] ["_law_figs", "_law_names_here", "_law_kinds"] (Z8 Z5i):=scM
noncomputable def Z2t(K:Qa)(A:Adr):SF :=
  (Z03 (Z04 .tup (Z0 (Zq [false,false] (Z3p K A) (Z0 (Z3 0) (Z0 (Z3 1) Z1))) (Z0 (Z3 3) (Z0 (Z3 4) (Z0 (Z3 5) Z1))))))
noncomputable def Z1y(K:Qa)(A:Adr):SF :=
  (Zd (ZV (eNw Z0j (Z0 (eC (.int (1))) (Z0 (eNw hMod (Z0 (eCh (hIx K) (Z0 (Z3 0) (Z0 (eC (.int (3))) Z1))) (Z0 (eC (.int (8))) Z1))) Z1))) (Zt 4))
  (Zd (ZV (eNw Z0j (Z0 (Z3 4) (Z0 (eNw hMod (Z0 (eNw hDiv (Z0 (eCh (hIx K) (Z0 (Z3 0) (Z0 (eC (.int (3))) Z1))) (Z0 (eC (.int (8))) Z1))) (Z0 (eNw hSub (Z0 (eC (.int (9))) (Z0 (Z3 4) Z1))) Z1))) Z1))) (Zt 5))
  (Zd (sIf (bV (eNw (hEq false) (Z0 (eNw hMod (Z0 (eNw hDiv (Z0 (eCh (hIx K) (Z0 (Z3 0) (Z0 (eC (.int (4))) Z1))) (Z0 (eC (.int (72))) Z1))) (Z0 (eC (.int (3))) Z1))) (Z0 (eC (.int (1))) Z1)))) (Zd (ZV (eNw hSub (Z0 (eNw hMod (Z0 (eCh (hIx K) (Z0 (Z3 0) (Z0 (eC (.int (3))) Z1))) (Z0 (eC (.int (14))) Z1))) (Z0 (eC (.int (2))) Z1))) (Zt 4))
  (ZV (eNw hSub (Z0 (eNw hMod (Z0 (eNw hDiv (Z0 (eCh (hIx K) (Z0 (Z3 0) (Z0 (eC (.int (3))) Z1))) (Z0 (eC (.int (14))) Z1))) (Z0 (eC (.int (14))) Z1))) (Z0 (eC (.int (2))) Z1))) (Zt 5))) ZZ)
  (Z2t K A))))
noncomputable def Z2e(K:Qa)(A:Adr):SF :=
  (Zd (ZV (eCh (hIx K) (Z0 (Z3 2) (Z0 (eNw hMod (Z0 (eCh (hIx K) (Z0 (Z3 0) (Z0 (eC (.int (2))) Z1))) (Z0 (eNw (hLen K) (Z0 (Z3 2) Z1)) Z1))) Z1))) (Zt 3))
  (Zd (sIf (bV (eNw (hEq false) (Z0 (eNw hMod (Z0 (eNw hDiv (Z0 (eCh (hIx K) (Z0 (Z3 0) (Z0 (eC (.int (2))) Z1))) (Z0 (eC (.int (4))) Z1))) (Z0 (eC (.int (6))) Z1))) (Z0 (eC (.int (1))) Z1)))) (ZV (eCh (hIx K) (Z0 (Z04 (.lst true) (Z0 (eC (.str "")) (Z0 (eNw Z0j (Z0 (Z3 3) (Z0 (eC (.str "s")) Z1))) (Z0 (eNw (Z1s true) (Z0 (Z3 3) (Z0 (eC (.int (1))) Z1))) (Z0 (eC (.str "A")) Z1))))) (Z0 (eNw hMod (Z0 (eNw hDiv (Z0 (eCh (hIx K) (Z0 (Z3 0) (Z0 (eC (.int (2))) Z1))) (Z0 (eC (.int (24))) Z1))) (Z0 (eC (.int (4))) Z1))) Z1))) (Zt 3)) ZZ)
  (Z1y K A)))
noncomputable def Z0I(K:Qa)(A:Adr):Fn:=Zr 6 [false,false,false] (Z2e K A)
theorem Z8c(T:Txt K mg A):DefX P w K mg base "_law_wanted" 2 ["_law_figs", "_law_names_here", "_law_kinds"] (spR (adr A) [false,false,false] (Z0I K A)) :=
 okD (k:=1) (N:=["_law_figs", "_law_names_here", "_law_kinds", "_law_kind", "_law_least", "_law_most"]) (ms:=[false,false,false]) (body:=Z2e K A) T.X24 Z0x rfl (by decide) fun f cdv A' outer s H E R hr hx hE ha=>by
  have hu:=ZR hr
  refine Z5 ?_ ?_
  refine Zv ?_ ?_
  refine ZC ?_ ?_ (fun _ _=>rfl)
  exact Z2 (pv 2) (j:=2) rfl
  refine Zg Z00 ?_ ?_
  refine ZC ?_ ?_ (fun _ _=>rfl)
  exact Z2 (pv 0) (j:=0) rfl
  exact Z6 Z7
  refine rc_b Z0L (by rfl) T.b_len boot_len ?_
  refine Z4 ?_ ?_
  exact Z2 (pv 2) (j:=2) rfl
  exact Za
  exact Zi (i:=3) Z0x.nd rfl (Or.inl rfl) rfl (by decide)
  refine Z5 ?_ ?_
  refine Z05 ?_ ?_ ?_
  refine ZS on_eq ?_ ?_ (ZJ _)
  refine Zg Z00 ?_ ?_
  refine Zg Z1A ?_ ?_
  refine ZC ?_ ?_ (fun _ _=>rfl)
  exact Z2 (pv 0) (j:=0) rfl
  exact Z6 Z7
  exact Z6 Z7
  exact Z6 Z7
  exact Z6 Z7
  refine Z9 ?_
  refine Zv ?_ ?_
  refine ZC ?_ ?_ (fun _ _=>rfl)
  refine Z2H ?_
  refine Z4 ?_ ?_
  exact Z6 Zu
  refine Z4 ?_ ?_
  refine Zg Z0f ?_ ?_
  exact Z2 (pv 3) (j:=3) rfl
  exact Z6 Zu
  refine Z4 ?_ ?_
  refine Z2x ?_ ?_
  exact Z2 (pv 3) (j:=3) rfl
  exact Z6 Z7
  refine Z4 ?_ ?_
  exact Z6 Zu
  exact Za
  refine Zg Z00 ?_ ?_
  refine Zg Z1A ?_ ?_
  refine ZC ?_ ?_ (fun _ _=>rfl)
  exact Z2 (pv 0) (j:=0) rfl
  exact Z6 Z7
  exact Z6 Z7
  exact Z6 Z7
  exact Zi (i:=3) Z0x.nd rfl (Or.inl rfl) rfl (by decide)
  exact ZD
  refine Z5 ?_ ?_
  refine Zv ?_ ?_
  refine Zg Z0f ?_ ?_
  exact Z6 Z7
  refine Zg Z00 ?_ ?_
  refine ZC ?_ ?_ (fun _ _=>rfl)
  exact Z2 (pv 0) (j:=0) rfl
  exact Z6 Z7
  exact Z6 Z7
  exact Zi (i:=4) Z0x.nd rfl (Or.inl rfl) rfl (by decide)
  refine Z5 ?_ ?_
  refine Zv ?_ ?_
  refine Zg Z0f ?_ ?_
  exact Z2 (pv 4) (j:=4) rfl
  refine Zg Z00 ?_ ?_
  refine Zg Z1A ?_ ?_
  refine ZC ?_ ?_ (fun _ _=>rfl)
  exact Z2 (pv 0) (j:=0) rfl
  exact Z6 Z7
  exact Z6 Z7
  refine Zg Z9u ?_ ?_
  exact Z6 Z7
  exact Z2 (pv 4) (j:=4) rfl
  exact Zi (i:=5) Z0x.nd rfl (Or.inl rfl) rfl (by decide)
  refine Z5 ?_ ?_
  refine Z05 ?_ ?_ ?_
  refine ZS on_eq ?_ ?_ (ZJ _)
  refine Zg Z00 ?_ ?_
  refine Zg Z1A ?_ ?_
  refine ZC ?_ ?_ (fun _ _=>rfl)
  exact Z2 (pv 0) (j:=0) rfl
  exact Z6 Z7
  exact Z6 Z7
  exact Z6 Z7
  exact Z6 Z7
  refine Z5 ?_ ?_
  refine Zv ?_ ?_
  refine Zg Z9u ?_ ?_
  refine Zg Z00 ?_ ?_
  refine ZC ?_ ?_ (fun _ _=>rfl)
  exact Z2 (pv 0) (j:=0) rfl
  exact Z6 Z7
  exact Z6 Z7
  exact Z6 Z7
  exact Zi (i:=4) Z0x.nd rfl (Or.inl rfl) rfl (by decide)
  refine Z9 ?_
  refine Zv ?_ ?_
  refine Zg Z9u ?_ ?_
  refine Zg Z00 ?_ ?_
  refine Zg Z1A ?_ ?_
  refine ZC ?_ ?_ (fun _ _=>rfl)
  exact Z2 (pv 0) (j:=0) rfl
  exact Z6 Z7
  exact Z6 Z7
  exact Z6 Z7
  exact Z6 Z7
  exact Zi (i:=5) Z0x.nd rfl (Or.inl rfl) rfl (by decide)
  exact ZD
  refine Z9 ?_
  refine ZK ?_
  refine Z3J ?_
  refine Z4 ?_ ?_
  refine Z0p (ms:=[false,false]) (by rw [ha];exact (Z9X T)) (hr.mono (by omega)) hx ?_ al2
  refine Z4 ?_ ?_
  exact Z2 (pv 0) (j:=0) rfl
  refine Z4 ?_ ?_
  exact Z2 (pv 1) (j:=1) rfl
  exact Za
  refine Z4 ?_ ?_
  exact Z2 (pv 3) (j:=3) rfl
  refine Z4 ?_ ?_
  exact Z2 (pv 4) (j:=4) rfl
  refine Z4 ?_ ?_
  exact Z2 (pv 5) (j:=5) rfl
  exact Za
theorem Z5R:FnScope ["_law_name", "_law_sign"] ["_law_name"] (Z8 Z6q):=scM
noncomputable def Z2T(K:Qa)(A:Adr):SF :=
  (sKill [1] (sIf (bV (eNw (hInS true) (Z0 (Z3 1) (Z0 (eC (.str "abcdefghijklmnopqrstuvwxyz")) Z1)))) (Z03 (eC (.bl false))) ZZ))
noncomputable def Z49(K:Qa)(A:Adr):SF :=
  (Zd (sIf (bOr (bV (eNw hLt (Z0 (eNw (hLen K) (Z0 (Z3 0) Z1)) (Z0 (eC (.int (1))) Z1)))) (bV (eNw hGt (Z0 (eNw (hLen K) (Z0 (Z3 0) Z1)) (Z0 (eC (.int (12))) Z1))))) (Z03 (eC (.bl false))) ZZ)
  (Zd (sForS (Z3 0) (Zt 1)
  (Z2T K A))
  (Z03 (eC (.bl true)))))
noncomputable def Z32(K:Qa)(A:Adr):Fn:=Zr 2 [false] (Z49 K A)
theorem Z9r(T:Txt K mg A):DefX P w K mg base "_law_good" 1 ["_law_name"] (spR (adr A) [false] (Z32 K A)) :=
 okD (k:=0) (N:=["_law_name", "_law_sign"]) (ms:=[false]) (body:=Z49 K A) T.X25 Z5R rfl (by decide) fun f cdv A' outer s H E R hr hx hE ha=>by
  have hu:=ZR hr
  refine Z5 ?_ ?_
  refine Z05 ?_ ?_ ?_
  refine PW.pt ?_
  refine rw_or ?_ ?_
  refine ZS on_lt ?_ ?_ (ZJ _)
  refine rc_b Z0L (by rfl) T.b_len boot_len ?_
  refine Z4 ?_ ?_
  exact Z2 (pv 0) (j:=0) rfl
  exact Za
  exact Z6 Z7
  refine Z3L ?_
  refine ZS on_gt ?_ ?_ (ZJ _)
  refine rc_b Z0L (by rfl) T.b_len boot_len ?_
  refine Z4 ?_ ?_
  exact Z2 (pv 0) (j:=0) rfl
  exact Za
  exact Z6 Z7
  refine Z9 ?_
  refine ZK ?_
  exact Z6 Z1M
  exact ZD
  refine Z5 ?_ ?_
  refine Zaw Z2b rfl ?_ ?_ ?_
  exact Z2 (pv 0) (j:=0) rfl
  exact Zi (i:=1) Z5R.nd rfl (Or.inl rfl) rfl (by decide)
  refine Z3K (js:=[1]) (by decide) ?_
  refine Z9 ?_
  refine Z05 ?_ ?_ ?_
  refine ZS Zar ?_ ?_ rfl
  exact Z2 (pv 1) (j:=1) rfl
  exact Z6 Zu
  refine Z9 ?_
  refine ZK ?_
  exact Z6 Z1M
  exact ZD
  refine Z9 ?_
  refine ZK ?_
  exact Z6 Z1M
theorem Z9Y:FnScope ["_law_wishes", "_law_kinds", "_law_deed"] ["_law_wishes", "_law_kinds", "_law_deed"] (Z8 Z7A):=scM
noncomputable def Z0Z(K:Qa)(A:Adr):SF :=
  (Zd (sIf (bOr (bV (eNw hLt (Z0 (eCh (hIx K) (Z0 (Z3 2) (Z0 (eC (.int (2))) Z1))) (Z0 (eC (.int (1))) Z1)))) (bOr (bV (eNw hGt (Z0 (eCh (hIx K) (Z0 (Z3 2) (Z0 (eC (.int (2))) Z1))) (Z0 (eCh (hIx K) (Z0 (Z3 2) (Z0 (eC (.int (3))) Z1))) Z1)))) (bV (eNw hGt (Z0 (eCh (hIx K) (Z0 (Z3 2) (Z0 (eC (.int (3))) Z1))) (Z0 (eC (.int (8))) Z1)))))) (Z03 (Z04 .tup (Z0 (eC (.str "refused")) (Z0 (eC (.str "bad ages")) Z1)))) ZZ)
  (Z03 (eNw Z0j (Z0 (eNw (hLen K) (Z0 (Z3 0) Z1)) (Z0 (eC (.int (1))) Z1)))))
noncomputable def Z0Y(K:Qa)(A:Adr):SF :=
  (Zd (sIf (bV (eNw (hIn true) (Z0 (eCh (hIx K) (Z0 (Z3 2) (Z0 (eC (.int (1))) Z1))) (Z0 (Z3 1) Z1)))) (Z03 (Z04 .tup (Z0 (eC (.str "refused")) (Z0 (eC (.str "unknown kind")) Z1)))) ZZ)
  (Z0Z K A))
noncomputable def Z0X(K:Qa)(A:Adr):SF :=
  (Zd (sIf (bV (eNw (hDIn false) (Z0 (eCh (hIx K) (Z0 (Z3 2) (Z0 (eC (.int (0))) Z1))) (Z0 (Z3 0) Z1)))) (Z03 (Z04 .tup (Z0 (eC (.str "refused")) (Z0 (eC (.str "known house")) Z1)))) ZZ)
  (Z0Y K A))
noncomputable def Z3o(K:Qa)(A:Adr):SF :=
  (Zd (sIf (bNot (bV (Zq [false] (Z32 K A) (Z0 (eCh (hIx K) (Z0 (Z3 2) (Z0 (eC (.int (0))) Z1))) Z1)))) (Z03 (Z04 .tup (Z0 (eC (.str "refused")) (Z0 (eC (.str "bad name")) Z1)))) ZZ)
  (Z0X K A))
noncomputable def Z0O(K:Qa)(A:Adr):Fn:=Zr 3 [false,false,false] (Z3o K A)
theorem Z9W(T:Txt K mg A):DefX P w K mg base "_law_due" 2 ["_law_wishes", "_law_kinds", "_law_deed"] (spR (adr A) [false,false,false] (Z0O K A)) :=
 okD (k:=1) (N:=["_law_wishes", "_law_kinds", "_law_deed"]) (ms:=[false,false,false]) (body:=Z3o K A) T.X26 Z9Y rfl (by decide) fun f cdv A' outer s H E R hr hx hE ha=>by
  have hu:=ZR hr
  refine Z5 ?_ ?_
  refine Z05 ?_ ?_ ?_
  refine Z38 ?_
  refine rt_v ?_
  refine Z0p (ms:=[false]) (by rw [ha];exact (Z9r T)) (hr.mono (by omega)) hx ?_ al1
  refine Z4 ?_ ?_
  refine ZC ?_ ?_ (fun _ _=>rfl)
  exact Z2 (pv 2) (j:=2) rfl
  exact Z6 Z7
  exact Za
  refine Z9 ?_
  refine ZK ?_
  refine Z3J ?_
  refine Z4 ?_ ?_
  exact Z6 Zu
  refine Z4 ?_ ?_
  exact Z6 Zu
  exact Za
  exact ZD
  refine Z5 ?_ ?_
  refine Z05 ?_ ?_ ?_
  refine Z67 ?_
  refine Z9I hu ?_ ?_
  refine ZC ?_ ?_ (fun _ _=>rfl)
  exact Z2 (pv 2) (j:=2) rfl
  exact Z6 Z7
  exact Z2 (pv 0) (j:=0) rfl
  refine Z9 ?_
  refine ZK ?_
  refine Z3J ?_
  refine Z4 ?_ ?_
  exact Z6 Zu
  refine Z4 ?_ ?_
  exact Z6 Zu
  exact Za
  exact ZD
  refine Z5 ?_ ?_
  refine Z05 ?_ ?_ ?_
  refine ZS Z9t ?_ ?_ rfl
  refine ZC ?_ ?_ (fun _ _=>rfl)
  exact Z2 (pv 2) (j:=2) rfl
  exact Z6 Z7
  exact Z2 (pv 1) (j:=1) rfl
  refine Z9 ?_
  refine ZK ?_
  refine Z3J ?_
  refine Z4 ?_ ?_
  exact Z6 Zu
  refine Z4 ?_ ?_
  exact Z6 Zu
  exact Za
  exact ZD
  refine Z5 ?_ ?_
  refine Z05 ?_ ?_ ?_
  refine PW.pt ?_
  refine rw_or ?_ ?_
  refine ZS on_lt ?_ ?_ (ZJ _)
  refine ZC ?_ ?_ (fun _ _=>rfl)
  exact Z2 (pv 2) (j:=2) rfl
  exact Z6 Z7
  exact Z6 Z7
  refine rw_or ?_ ?_
  refine ZS on_gt ?_ ?_ (ZJ _)
  refine ZC ?_ ?_ (fun _ _=>rfl)
  exact Z2 (pv 2) (j:=2) rfl
  exact Z6 Z7
  refine ZC ?_ ?_ (fun _ _=>rfl)
  exact Z2 (pv 2) (j:=2) rfl
  exact Z6 Z7
  refine Z3L ?_
  refine ZS on_gt ?_ ?_ (ZJ _)
  refine ZC ?_ ?_ (fun _ _=>rfl)
  exact Z2 (pv 2) (j:=2) rfl
  exact Z6 Z7
  exact Z6 Z7
  refine Z9 ?_
  refine ZK ?_
  refine Z3J ?_
  refine Z4 ?_ ?_
  exact Z6 Zu
  refine Z4 ?_ ?_
  exact Z6 Zu
  exact Za
  exact ZD
  refine Z9 ?_
  refine ZK ?_
  refine Zg Z0f ?_ ?_
  refine rc_b Z0L (by rfl) T.b_len boot_len ?_
  refine Z4 ?_ ?_
  exact Z2 (pv 0) (j:=0) rfl
  exact Za
  exact Z6 Z7
theorem Z5S:FnScope ["_law_found", "_law_due_here"] ["_law_found", "_law_due_here"] (Z8 Z4f):=scM
noncomputable def Z1T(n:Nat)(K:Qa)(A:Adr):Sp:=fun vs H Q _=>∃ (x y:V) (d d':Dt),vs=[x,y]∧RelD H d x∧RelD H d' y∧d'.dep≤n∧∀ H',Z0V H H'→Q (.bl (Dt.eq d d')) H'
theorem Z5d{n:Nat}{vs:List V}{H:Hp}{Q:VK}{E:XK}(h:Z1T n K A vs H Q E):vs.length=2:=by obtain ⟨_,_,_,_,rfl,_⟩:=h;rfl
theorem Z8m{vs:List V}{H:Hp}{Q:VK}{E:XK}(h:Z1T 0 K A vs H Q E):False:=by
 obtain ⟨_,_,_,d',_,_,_,h,_⟩:=h
 have:=d'.dep_pos
 omega
theorem Z5e(T:Txt K mg A):∀ n,DefX P w K mg base "_law_same" (n + 1) ["_law_found", "_law_due_here"] (Z1T n K A)
 | 0=>T.X27.okX (k:=0) Z5S (fun vs H Q E h=>Z5d h) (fun f cdv A outer s H vs Q E hr h=>(Z8m h).elim)
 | n + 1=>by
  have ih:DefX P w K mg base "_law_same" (n + 1) ["_law_found", "_law_due_here"] (Z1T n K A):=Z5e T n
  refine T.X27.okX (k:=n + 1) Z5S (fun vs H Q E h=>Z5d h) (fun f cdv A' outer s H vs Q E hr h=>?_)
  have hu:=ZR hr
  refine ⟨_,(Z3I (ps_if (Z9B (Z0h Z94 (by rfl) T.b_isinstance boot_isinstance (Zk (pv 1) (Zk (Z9y (Zk (Z0Q (v:=.ty "list") rfl T.b_list boot_list rfl) (Zk (Z0Q (v:=.ty "tuple") rfl T.b_tuple boot_tuple rfl) Z01))) Z01)))) (Z3I (ps_if (PW.pt (pw_or (Z2W op_ne (Z0h Z1o (by rfl) T.b_isinstance boot_isinstance (Zk (pv 0) (Zk (Z0Q (v:=.ty "list") rfl T.b_list boot_list rfl) Z01))) (Z0h Z1o (by rfl) T.b_isinstance boot_isinstance (Zk (pv 1) (Zk (Z0Q (v:=.ty "list") rfl T.b_list boot_list rfl) Z01))) (ZJ _)) (Z7z (Z2W op_ne (Z0h Z1o (by rfl) T.b_isinstance boot_isinstance (Zk (pv 0) (Zk (Z0Q (v:=.ty "tuple") rfl T.b_tuple boot_tuple rfl) Z01))) (Z0h Z1o (by rfl) T.b_isinstance boot_isinstance (Zk (pv 1) (Zk (Z0Q (v:=.ty "tuple") rfl T.b_tuple boot_tuple rfl) Z01))) (ZJ _))))) (Z2V (Z3H Z1M)) Z4w)
   (Z2V (Z3H (Z7w (Z63 op_eq (Z0h (KQ.call_len K) (by rfl) T.b_len boot_len (Zk (pv 0) Z01)) (Z0h (KQ.call_len K) (by rfl) T.b_len boot_len (Zk (pv 1) Z01)) (ZJ _)) (Z7x (Z0h (KQ.call_all K rfl) (by rfl) T.b_all boot_all (Zk (Z8e (t:=1) (N:=["_law_k", "_law_found", "_law_due_here"]) rfl (Z5I rfl T.b_range (Zk (Z0h (KQ.call_len K) (by rfl) T.b_len boot_len (Zk (pv 1) Z01)) Z01)) (CompSc.of (sc:=Z8 Z4f) (N0:=["_law_found", "_law_due_here"]) rfl rfl (by decide +kernel)) (fun cl C s H fp=>(Z4u (i:=0) (show (["_law_k", "_law_found", "_law_due_here"]:List Str).Nodup from by decide +kernel) rfl (Or.inl rfl))) (fun cl C s H fp=>Z9z) (fun cl C s H fp=>(ZbA ih (hr.mono (by omega)) passT0 (Zk (pe_ix (KQ.ix_seq K) (pv 1) (pv 0) (fun _ _=>rfl)) (Zk (pe_ix (KQ.ix_seq K) (pv 2) (pv 0) (fun _ _=>rfl)) Z01))))) Z01))))))) Z4w)
   (Z3I (ps_if (PW.pt (pw_or (Z2W Z7u (pv 1) Z3G (ZJ _)) (Z7z (Z2W Z7u (pv 0) Z3G (ZJ _))))) (Z2V (Z3H (Z7w (Z63 Z7u (pv 1) Z3G (ZJ _)) (Z7x (Z63 Z7u (pv 0) Z3G (ZJ _)))))) Z4w)
   (Z3I (ps_if (PW.pt (pw_or (Z2W op_ne (Z0h Z1o (by rfl) T.b_isinstance boot_isinstance (Zk (pv 0) (Zk (Z0Q (v:=.ty "bool") rfl T.b_bool boot_bool rfl) Z01))) (Z0h Z1o (by rfl) T.b_isinstance boot_isinstance (Zk (pv 1) (Zk (Z0Q (v:=.ty "bool") rfl T.b_bool boot_bool rfl) Z01))) (ZJ _)) (Z7z (Z2W op_ne (Z0h Z1o (by rfl) T.b_isinstance boot_isinstance (Zk (pv 0) (Zk (Z0Q (v:=.ty "str") rfl T.b_str boot_str rfl) Z01))) (Z0h Z1o (by rfl) T.b_isinstance boot_isinstance (Zk (pv 1) (Zk (Z0Q (v:=.ty "str") rfl T.b_str boot_str rfl) Z01))) (ZJ _))))) (Z2V (Z3H Z1M)) Z4w)
   (Z2V (Z3H (Z7w (Z0h Z94 (by rfl) T.b_isinstance boot_isinstance (Zk (pv 0) (Zk (Z9y (Zk (Z0Q (v:=.ty "int") rfl T.b_int boot_int rfl) (Zk (Z0Q (v:=.ty "str") rfl T.b_str boot_str rfl) Z01))) Z01))) (Z7x (Z63 op_eq (pv 0) (pv 1) (ZJ _))))))))),?_⟩
  obtain ⟨x,y,d,d',rfl,hx,hy,hd,k⟩:=h
  walk_at "rd"
  refine ⟨by decide,fun p hp=>?_⟩
  have sm:Z0V H (upd H p (.tup [V.ty "list",V.ty "tuple"])):=fun c o e=>by rw [Zb (Z0P e hp)];exact e
  generalize hH1:upd H p (.tup [V.ty "list",V.ty "tuple"])=H1 at sm ⊢
  have hp1:H1 p=some (.tup (["list", "tuple"].map V.ty)):=by rw [← hH1];exact Zm
  have hx1:=hx.same sm
  have hy1:=hy.same sm
  have kd:∀ e:Dt,Z3B e.ty ["list", "tuple"]=true:=fun e=>by simp [Z3B,e.kit (T := "list") (by simp),e.kit (T := "tuple") (by simp)]
  have kd2:∀ e:Dt,Z3B e.ty ["int", "str"]=true:=fun e=>by simp [Z3B,e.kit (T := "int") (by simp),e.kit (T := "str") (by simp)]
  refine ⟨y,p,_,d'.ty,rfl,hp1,hy1.ty,kd d',_,rfl,?_⟩
  have e0:["list", "tuple"].any (subT d'.ty)=(d'.isL || d'.isT):=by simp [d'.sub_list,d'.sub_tuple]
  rw [e0]
  have core:∀ (px py:Addr) (xs ys:List V) (l l':List Dt),(SqL K H1 px xs∨SqT K H1 px xs)→(SqL K H1 py ys∨SqT K H1 py ys)→Z0S H1 l xs→Z0S H1 l' ys→ys.length≤sizeLine→Dt.deps l'≤n→(∀ H',Z0V H H'→Q (V.bl (Dt.eqs l l')) H') →
    ∃ x_4,LenV K (V.ref px) H1 x_4∧∃ x_5,LenV K (V.ref py) H1 x_5∧scal (V.int x_4) (V.int x_5)=true ∧
     if (x_4:Int)=(x_5:Int) then
      tComp 1 (iRng1 (Z2J (tCB (fun xs H Q=>∃ x,xs=[x]∧∃ x_6,LenV K x H x_6∧Q (V.int x_6) H) (Z2J (tVar 1) tNil)) tNil)) (Z1I 0) tYes
       (tCallT (Z1T n K A) (fun x=>E0) (Z2J (tOp (rIx K) (tVar 1) (tVar 0)) (Z2J (tOp (rIx K) (tVar 2) (tVar 0)) tNil)))
       [some (V.ref px),some (V.ref py)] H1 fun x H1=>∃ p,x=V.ref p∧∃ x,SqL K H1 p (List.map V.bl x)∧Q (V.bl (x.all id)) H1
     else Q (V.bl false) H1:=by
   intro px py xs ys l l' hpx hpy rl rl' sz hdl k2
   have len1:=rl.length
   have len2:=rl'.length
   have lv:∀ {q:Addr} {zs:List V},(SqL K H1 q zs∨SqT K H1 q zs)→LenV K (V.ref q) H1 zs.length:=fun h=>by
    rcases h with h | h
    ·exact .inl ⟨_,h,rfl⟩
    ·exact .inr ⟨_,h,rfl⟩
   refine ⟨xs.length,lv hpx,ys.length,lv hpy,rfl,?_⟩
   by_cases hl:(xs.length:Int)=(ys.length:Int)
   ·rw [if_pos hl]
    refine ⟨_,rfl,_,rfl,_,lv hpy,_,rfl,by have:=sizeLine_eq;omega,by have:=sizeLine_eq;omega,?_⟩
    rw [Int.toNat_natCast]
    refine Z9R sz (fun i=>V.bl (Dt.eq (l[i]?.getD .non) (l'[i]?.getD .non))) ?_ ?_
    ·intro i H4 Q4 hi sm4 k4
     obtain ⟨e,he⟩:∃ e,l[i]?=some e:=⟨l[i]'(by omega),by simp⟩
     obtain ⟨e',he'⟩:∃ e,l'[i]?=some e:=⟨l'[i]'(by omega),by simp⟩
     obtain ⟨v,hv,rv⟩:=rl.get he
     obtain ⟨v',hv',rv'⟩:=rl'.get he'
     have ix:∀ {q:Addr} {zs:List V} {u:V} {QQ:VK},(SqL K H1 q zs∨SqT K H1 q zs)→zs[i]?=some u→QQ u H4→rIx K (V.ref q) (V.int (0 + (i:Int))) H4 QQ:=fun h hu q=>by
      rw [Int.zero_add]
      rcases h with h | h
      ·exact .inl ⟨_,_,_,_,rfl,rfl,sm4.seq h,Z9Z hu,q⟩
      ·exact .inr (.inl ⟨_,_,_,_,rfl,rfl,sm4.seqT h,Z9Z hu,q⟩)
     refine ⟨_,rfl,_,rfl,ix hpx hv ⟨_,rfl,_,rfl,ix hpy hv' ?_⟩⟩
     refine ⟨v,v',e,e',rfl,rv.same sm4,rv'.same sm4,Jc (Dt.deps_le he') hdl,fun H5 s5=>?_⟩
     have k5:=k4 H5 s5
     rw [he,he'] at k5
     exact k5
    ·intro D H4 hD sm4 hD4
     refine ⟨D,rfl,_,.of (by rw [hD4,Jf];rfl),?_⟩
     rw [show ys.length=l'.length by omega,← Dt.eqs_all (by omega)]
     exact k2 H4 (sm.trans sm4)
   ·rw [if_neg hl]
    have:Dt.eqs l l'=false:=by
     cases q:Dt.eqs l l' with
     | false=>rfl
     | true =>
      have:=(Dt.eqs_iff l l').mp q
      subst this
      omega
    rw [this] at k2
    exact k2 H1 sm
  have no:d≠d'→∀ H',Z0V H H'→Q (V.bl false) H':=fun ne H' s'=>by
   have:=k H' s'
   rwa [Dt.eq_false ne] at this
  cases hLT:(d'.isL || d'.isT) with
  | true =>
   refine iteT ?_
   refine ⟨x, "list",d.ty,rfl,hx1.ty,d.kit (by simp),y, "list",d'.ty,rfl,hy1.ty,d'.kit (by simp),rfl,?_⟩
   rw [Z5s,d.sub_list,d'.sub_list]
   by_cases hL:d.isL=d'.isL
   ·rw [show (!(d.isL == d'.isL))=false by simp [hL]]
    refine iteF ?_
    refine ⟨x, "tuple",d.ty,rfl,hx1.ty,d.kit (by simp),y, "tuple",d'.ty,rfl,hy1.ty,d'.kit (by simp),rfl,?_⟩
    rw [Z5s,d.sub_tuple,d'.sub_tuple]
    by_cases hT:d.isT=d'.isT
    ·rw [show (!(d.isT == d'.isT))=false by simp [hT]]
     refine iteF ?_
     cases d' with
     | lst l' =>
      cases d with
      | lst l =>
       obtain ⟨px,xs,rfl,h1,z1,r1⟩:=hx1
       obtain ⟨py,ys,rfl,h2,z2,r2⟩:=hy1
       exact core px py xs ys l l' (.inl (.of h1)) (.inl (.of h2)) r1 r2 (Nu z2) (by unfold Dt.dep at hd;omega) fun H' s'=>by have:=k H' s';simpa [Dt.eq] using this
      | _=>cases hL
     | tup l' =>
      cases d with
      | tup l =>
       obtain ⟨px,xs,rfl,h1,z1,r1⟩:=hx1
       obtain ⟨py,ys,rfl,h2,z2,r2⟩:=hy1
       exact core px py xs ys l l' (.inr (.inl (.inl h1))) (.inr (.inl (.inl h2))) r1 r2 (Nu z2) (by unfold Dt.dep at hd;omega) fun H' s'=>by have:=k H' s';simpa [Dt.eq] using this
      | _=>first | cases hT | cases hL
     | _=>cases hLT
    ·rw [show (!(d.isT == d'.isT))=true by simp [hT]]
     refine iteT ?_
     exact no (fun z=>hT (by rw [z])) H1 sm
   ·rw [show (!(d.isL == d'.isL))=true by simp [hL]]
    refine iteT ?_
    exact no (fun z=>hL (by rw [z])) H1 sm
  | false =>
   refine iteF ?_
   have scalar:∀ (hyn:y≠V.non),(d.isB=d'.isB→d.isS=d'.isS→(d.isI || d.isB || d.isS)=true→scal x y=true∧decide (x=y)=Dt.eq d d')→(d'.isI || d'.isB || d'.isS)=true →
     (if y=V.non then if y=V.non then Q (V.bl (decide (x=V.non))) H1 else Q (V.bl false) H1
     else if x=V.non then if y=V.non then Q (V.bl (decide (x=V.non))) H1 else Q (V.bl false) H1
     else rIs1 [x,V.ty "bool"] H1 fun x_2 H1=>rIs1 [y,V.ty "bool"] H1 fun y_1 H2=>scal x_2 y_1=true ∧
      if (!decide (x_2=y_1))=true then Q (V.bl false) H2
      else rIs1 [x,V.ty "str"] H2 fun x_3 H1=>rIs1 [y,V.ty "str"] H1 fun y_2 H2=>scal x_3 y_2=true ∧
       if (!decide (x_3=y_2))=true then Q (V.bl false) H2
       else 2≤sizeLine∧∀ (p:Addr),H2 p=none→rIsT [x,V.ref p] (upd H2 p (HO.tup [V.ty "int",V.ty "str"])) fun x_4 H1=>∃ c,x_4=V.bl c ∧
        if c=true then scal x y=true∧Q (V.bl (decide (x=y))) H1 else Q (V.bl false) H1):=by
    intro hyn hsc hk'
    rw [if_neg hyn]
    by_cases hxn:x=V.non
    ·rw [if_pos hxn,if_neg hyn]
     refine no (fun z=>?_) H1 sm
     have h1:=hx1.isNon
     rw [decide_eq_true hxn,z] at h1
     have h2:=hy1.isNon
     rw [decide_eq_false hyn] at h2
     rw [← h1] at h2
     cases h2
    ·rw [if_neg hxn]
     refine ⟨x, "bool",d.ty,rfl,hx1.ty,d.kit (by simp),y, "bool",d'.ty,rfl,hy1.ty,d'.kit (by simp),rfl,?_⟩
     rw [Z5s,d.sub_bool,d'.sub_bool]
     by_cases hB:d.isB=d'.isB
     ·rw [show (!(d.isB == d'.isB))=false by simp [hB]]
      refine iteF ?_
      refine ⟨x, "str",d.ty,rfl,hx1.ty,d.kit (by simp),y, "str",d'.ty,rfl,hy1.ty,d'.kit (by simp),rfl,?_⟩
      rw [Z5s,d.sub_str,d'.sub_str]
      by_cases hS:d.isS=d'.isS
      ·rw [show (!(d.isS == d'.isS))=false by simp [hS]]
       refine iteF ⟨by decide,fun q hq=>?_⟩
       have sm2:Z0V H1 (upd H1 q (.tup [V.ty "int",V.ty "str"])):=fun c o e=>by rw [Zb (Z0P e hq)];exact e
       refine ⟨x,q,["int", "str"],d.ty,rfl,Zm,(hx1.same sm2).ty,kd2 d,_,rfl,?_⟩
       have e2:["int", "str"].any (subT d.ty)=(d.isI || d.isB || d.isS):=by simp [d.sub_int,d.sub_str,Bool.or_assoc]
       rw [e2]
       cases hI:(d.isI || d.isB || d.isS) with
       | true =>
        obtain ⟨h1,h2⟩:=hsc hB hS hI
        refine iteT ⟨h1,?_⟩
        rw [h2]
        exact k _ (sm.trans sm2)
       | false =>
        refine iteF ?_
        exact no (fun z=>by rw [z,hk'] at hI;cases hI) _ (sm.trans sm2)
      ·rw [show (!(d.isS == d'.isS))=true by simp [hS]]
       exact iteT (no (fun z=>hS (by rw [z])) H1 sm)
     ·rw [show (!(d.isB == d'.isB))=true by simp [hB]]
      exact iteT (no (fun z=>hB (by rw [z])) H1 sm)
   cases d' with
   | non =>
    cases (show y=V.non from hy1)
    rw [if_pos rfl,if_pos rfl,hx1.isNon,← Dt.eq_non]
    exact k H1 sm
   | bl b =>
    cases (show y=V.bl b from hy1)
    refine scalar (by intro z;cases z) (fun hB hS hI=>?_) rfl
    cases d with
    | bl c=>cases (show x=V.bl c from hx1);exact ⟨rfl,by rw [Z5s];rfl⟩
    | _=>cases hB
   | int i =>
    cases (show y=V.int i from hy1)
    refine scalar (by intro z;cases z) (fun hB hS hI=>?_) rfl
    cases d with
    | int j=>cases (show x=V.int j from hx1);exact ⟨rfl,by simp [Dt.eq,Gw]⟩
    | bl c=>cases hB
    | str c=>cases hS
    | _=>cases hI
   | str u =>
    cases (show y=V.str u from hy1)
    refine scalar (by intro z;cases z) (fun hB hS hI=>?_) rfl
    cases d with
    | str v=>cases (show x=V.str v from hx1);exact ⟨rfl,by simp [Dt.eq,Gw]⟩
    | _=>cases hS
   | lst l=>cases hLT
   | tup l=>cases hLT
noncomputable def Z1D(A:Adr):Fn:=sameF 3
theorem Z2G(T:Txt K mg A):DefX P w K mg base "_law_same" 4 ["_law_found", "_law_due_here"] (spR (adr A) [false,false] (Z1D A)):=DefX.imp (Z5e T 3) fun vs H Q E h=>ZcQ h
theorem Z5p:FnScope ["self", "name"] ["self", "name"] (Z8 Z3a):=scM
noncomputable def Z0B(K:Qa)(A:Adr):SF :=
  (Zd (sIf (bNot (bV (Zq [false] (Z2a K A) (Z0 (Z3 1) Z1)))) (Z16 "BadName" (Z0 (eNw Z4m (Z0 (Z3 1) Z1)) Z1)) ZZ)
  (sIf (bV (eNw (hDIn false) (Z0 (Z3 1) (Z0 (eCh (Z0J A.c_Houses "joined") (Z0 (Z3 0) Z1)) Z1)))) (Z16 "KnownHouse" (Z0 (eNw Z0K (Z0 (Z3 1) Z1)) Z1)) ZZ))
noncomputable def ZF(K:Qa)(A:Adr):Fn:=Zr 2 [false,false] (Z0B K A)
theorem Z5n(T:Txt K mg A):MetX P w K mg base A.c_Houses "check_new" 3 ["self", "name"] (spR (adr A) [false,false] (ZF K A)) :=
 okM (k:=2) (N:=["self", "name"]) (ms:=[false,false]) (body:=Z0B K A) T.X28 Z5p rfl (by decide) fun f cdv A' outer s H E R hr hx hE ha=>by
  have hu:=ZR hr
  refine Z5 ?_ ?_
  refine Z05 ?_ ?_ ?_
  refine Z38 ?_
  refine rt_v ?_
  refine Z0p (ms:=[false]) (by rw [ha];exact (Z5G T)) (hr.mono (by omega)) hx ?_ al1
  refine Z4 ?_ ?_
  exact Z2 (pv 1) (j:=1) rfl
  exact Za
  refine Z9 ?_
  refine Z0D hE (by rw [ha];rfl) T.x_BadName ?_
  refine Z4 ?_ ?_
  refine Z2o ?_
  refine Z5K ?_
  exact Z2 (pv 1) (j:=1) rfl
  exact Za
  exact ZD
  refine Z9 ?_
  refine Z05 ?_ ?_ ?_
  refine Z67 ?_
  refine Z9I hu ?_ ?_
  exact Z2 (pv 1) (j:=1) rfl
  refine Z0i T.cl_Houses T.n_Houses_joined ?_
  exact Z2 (pv 0) (j:=0) rfl
  refine Z9 ?_
  refine Z0D hE (by rw [ha];rfl) T.x_KnownHouse ?_
  refine Z4 ?_ ?_
  refine Z2o ?_
  refine Z0W ?_
  exact Z2 (pv 1) (j:=1) rfl
  exact Za
  exact ZD
theorem Z52:FnScope ["self"] ["self"] (Z8 Z2N):=scM
noncomputable def Z1F(K:Qa)(A:Adr):SF :=
  (Zd (sIf (bV (eNw hGe (Z0 (eNw (hLen K) (Z0 (Zq [false] (Z1e K A) (Z0 (Zn (Zo A.c_Houses "standing") (Z3 0)) Z1)) Z1)) (Z0 (eC (V.int 20)) Z1)))) (Z16 "CircleFull" (Z0 (Z1a [(eNw Z0K (Z0 (eC (V.int 20)) Z1)),(eC (.str " houses stand in the circle"))] Str.empty) Z1)) ZZ)
  (sIf (bV (eNw hGe (Z0 (eNw (hLen K) (Z0 (eCh (Z0J A.c_Houses "joined") (Z0 (Z3 0) Z1)) Z1)) (Z0 (eC (V.int 60)) Z1)))) (Z16 "CircleFull" (Z0 (Z1a [(eNw Z0K (Z0 (eC (V.int 60)) Z1)),(eC (.str " houses have joined"))] Str.empty) Z1)) ZZ))
noncomputable def Z0T(K:Qa)(A:Adr):Fn:=Zr 1 [false] (Z1F K A)
theorem Z4X(T:Txt K mg A):MetX P w K mg base A.c_Houses "check_room" 2 ["self"] (spR (adr A) [false] (Z0T K A)) :=
 okM (k:=1) (N:=["self"]) (ms:=[false]) (body:=Z1F K A) T.X29 Z52 rfl (by decide) fun f cdv A' outer s H E R hr hx hE ha=>by
  have hu:=ZR hr
  refine Z5 ?_ ?_
  refine Z05 ?_ ?_ ?_
  refine ZS on_ge ?_ ?_ (ZJ _)
  refine rc_b Z0L (by rfl) T.b_len boot_len ?_
  refine Z4 ?_ ?_
  refine Z2w (ms:=[false]) (by rw [ha];exact (Z5E T)) T.cl_Houses (hr.mono (by omega)) hx ?_ al1
  exact Z2 (pv 0) (j:=0) rfl
  exact Za
  exact Z6 (Z2c T.g_HOUSES_MOST)
  refine Z9 ?_
  refine Z0D hE (by rw [ha];rfl) T.x_CircleFull ?_
  refine Z4 ?_ ?_
  refine Z2X ?_
  refine Z0c ?_ ?_
  refine Z0W ?_
  exact Z6 (Z2c T.g_HOUSES_MOST)
  refine Z0c ?_ ?_
  exact Z6 Zu
  exact Z4z
  exact Za
  exact ZD
  refine Z9 ?_
  refine Z05 ?_ ?_ ?_
  refine ZS on_ge ?_ ?_ (ZJ _)
  refine rc_b Z0L (by rfl) T.b_len boot_len ?_
  refine Z4 ?_ ?_
  refine Z0i T.cl_Houses T.n_Houses_joined ?_
  exact Z2 (pv 0) (j:=0) rfl
  exact Za
  exact Z6 (Z2c T.g_JOINED_MOST)
  refine Z9 ?_
  refine Z0D hE (by rw [ha];rfl) T.x_CircleFull ?_
  refine Z4 ?_ ?_
  refine Z2X ?_
  refine Z0c ?_ ?_
  refine Z0W ?_
  exact Z6 (Z2c T.g_JOINED_MOST)
  refine Z0c ?_ ?_
  exact Z6 Zu
  exact Z4z
  exact Za
  exact ZD
theorem Z5o:FnScope ["self"] ["self"] (Z8 Z39):=scM
noncomputable def Z1N(K:Qa)(A:Adr):SF :=
  (Zd (sE (eMu 1 (ZQ A.c_Account "dues") (Z0 (Z04 (.dic true []) Z1) (Z0 (Z3 0) Z1))))
  (Zd (sE (eMu 1 (ZQ A.c_Account "owed") (Z0 (eC (.int (0))) (Z0 (Z3 0) Z1))))
  (Zd (sE (eMu 1 (ZQ A.c_Account "open_dues") (Z0 (eC (.int (0))) (Z0 (Z3 0) Z1))))
  (Zd (sE (eMu 1 (ZQ A.c_Account "open_losses") (Z0 (eC (.int (0))) (Z0 (Z3 0) Z1))))
  (sE (eMu 1 (ZQ A.c_Account "sent") (Z0 (Z04 (.lst true) Z1) (Z0 (Z3 0) Z1))))))))
noncomputable def Z11(K:Qa)(A:Adr):Fn:=Zr 1 [true] (Z1N K A)
theorem Z5m(T:Txt K mg A):InitX P w K mg base A.c_Account 1 ["self"] (spR (adr A) [true] (Z11 K A)) :=
 okI (k:=0) (N:=["self"]) (ms:=[true]) (body:=Z1N K A) T.X30 Z5o rfl (by decide) fun f cdv A' outer s H E R hr hx hE ha=>by
  have hu:=ZR hr
  refine Z5 ?_ ?_
  refine ZP T.cl_Account T.n_Account_dues ?_ ?_
  exact Z2 (pv 0) (j:=0) rfl
  exact Z4x
  refine Z5 ?_ ?_
  refine ZP T.cl_Account T.n_Account_owed ?_ ?_
  exact Z2 (pv 0) (j:=0) rfl
  exact Z6 Z7
  refine Z5 ?_ ?_
  refine ZP T.cl_Account T.n_Account_open_dues ?_ ?_
  exact Z2 (pv 0) (j:=0) rfl
  exact Z6 Z7
  refine Z5 ?_ ?_
  refine ZP T.cl_Account T.n_Account_open_losses ?_ ?_
  exact Z2 (pv 0) (j:=0) rfl
  exact Z6 Z7
  refine Z9 ?_
  refine ZP T.cl_Account T.n_Account_sent ?_ ?_
  exact Z2 (pv 0) (j:=0) rfl
  refine Z2H ?_
  exact Za
theorem Z6j:FnScope ["self", "name", "kind", "least", "most"] ["self", "name", "kind", "least", "most"] (Z8 Z3M):=scM
noncomputable def Z2i(K:Qa)(A:Adr):SF :=
  (Zd (sE (eMu 1 (ZQ A.c_House "name") (Z0 (Z3 1) (Z0 (Z3 0) Z1))))
  (Zd (sE (eMu 1 (ZQ A.c_House "kind") (Z0 (Z3 2) (Z0 (Z3 0) Z1))))
  (Zd (sE (eMu 1 (ZQ A.c_House "least") (Z0 (Z3 3) (Z0 (Z3 0) Z1))))
  (Zd (sE (eMu 1 (ZQ A.c_House "most") (Z0 (Z3 4) (Z0 (Z3 0) Z1))))
  (Zd (sE (eMu 1 (ZQ A.c_House "stands") (Z0 (eC (.bl true)) (Z0 (Z3 0) Z1))))
  (Zd (sE (eMu 1 (ZQ A.c_House "held") (Z0 (eC .non) (Z0 (Z3 0) Z1))))
  (Zd (sE (eMu 1 (ZQ A.c_House "papers") (Z0 (Z04 (.lst true) Z1) (Z0 (Z3 0) Z1))))
  (sE (eMu 1 (ZQ A.c_House "account") (Z0 (eMk A.c_Account [] (Z11 K A) Z1) (Z0 (Z3 0) Z1)))))))))))
noncomputable def Z1p(K:Qa)(A:Adr):Fn:=Zr 5 [true,false,false,false,false] (Z2i K A)
theorem Z6g(T:Txt K mg A):InitX P w K mg base A.c_House 3 ["self", "name", "kind", "least", "most"] (spR (adr A) [true,false,false,false,false] (Z1p K A)) :=
 okI (k:=2) (N:=["self", "name", "kind", "least", "most"]) (ms:=[true,false,false,false,false]) (body:=Z2i K A) T.X31 Z6j rfl (by decide) fun f cdv A' outer s H E R hr hx hE ha=>by
  have hu:=ZR hr
  refine Z5 ?_ ?_
  refine ZP T.cl_House T.n_House_name ?_ ?_
  exact Z2 (pv 0) (j:=0) rfl
  exact Z2 (pv 1) (j:=1) rfl
  refine Z5 ?_ ?_
  refine ZP T.cl_House T.n_House_kind ?_ ?_
  exact Z2 (pv 0) (j:=0) rfl
  exact Z2 (pv 2) (j:=2) rfl
  refine Z5 ?_ ?_
  refine ZP T.cl_House T.n_House_least ?_ ?_
  exact Z2 (pv 0) (j:=0) rfl
  exact Z2 (pv 3) (j:=3) rfl
  refine Z5 ?_ ?_
  refine ZP T.cl_House T.n_House_most ?_ ?_
  exact Z2 (pv 0) (j:=0) rfl
  exact Z2 (pv 4) (j:=4) rfl
  refine Z5 ?_ ?_
  refine ZP T.cl_House T.n_House_stands ?_ ?_
  exact Z2 (pv 0) (j:=0) rfl
  exact Z6 Z1M
  refine Z5 ?_ ?_
  refine ZP T.cl_House T.n_House_held ?_ ?_
  exact Z2 (pv 0) (j:=0) rfl
  exact Z6 Z3G
  refine Z5 ?_ ?_
  refine ZP T.cl_House T.n_House_papers ?_ ?_
  exact Z2 (pv 0) (j:=0) rfl
  refine Z2H ?_
  exact Za
  refine Z9 ?_
  refine ZP T.cl_House T.n_House_account ?_ ?_
  exact Z2 (pv 0) (j:=0) rfl
  exact Z9F (by rw [ha];exact (Z5m T)) (hr.mono (by omega)) T.mc_Account
theorem Z91:FnScope ["self", "name", "kind", "least", "most"] ["self", "name", "kind", "least", "most"] (Z8 Z5L):=scM
noncomputable def Z3w(K:Qa)(A:Adr):SF :=
  (Zd (sE (eMu 1 Z1J (Z0 (eMk A.c_House [false,false,false,false] (Z1p K A) (Z0 (Z3 1) (Z0 (Z3 2) (Z0 (Z3 3) (Z0 (Z3 4) Z1))))) (Z0 (eCh (Z0J A.c_Houses "joined") (Z0 (Z3 0) Z1)) (Z0 (Z3 1) Z1)))))
  (Z03 (eNw (hLen K) (Z0 (eCh (Z0J A.c_Houses "joined") (Z0 (Z3 0) Z1)) Z1))))
noncomputable def Z2C(K:Qa)(A:Adr):Fn:=Zr 5 [true,false,false,false,false] (Z3w K A)
theorem Z90(T:Txt K mg A):MetX P w K mg base A.c_Houses "add" 5 ["self", "name", "kind", "least", "most"] (spR (adr A) [true,false,false,false,false] (Z2C K A)) :=
 okM (k:=4) (N:=["self", "name", "kind", "least", "most"]) (ms:=[true,false,false,false,false]) (body:=Z3w K A) T.X32 Z91 rfl (by decide) fun f cdv A' outer s H E R hr hx hE ha=>by
  have hu:=ZR hr
  refine Z5 ?_ ?_
  refine Zav hu ?_ ?_ ?_
  refine Z0i T.cl_Houses T.n_Houses_joined ?_
  exact Z2 (pv 0) (j:=0) rfl
  exact Z2 (pv 1) (j:=1) rfl
  refine rc_mk (ms:=[false,false,false,false]) (by rw [ha];exact (Z6g T)) (hr.mono (by omega)) T.mc_House ?_ al4
  refine Z4 ?_ ?_
  exact Z2 (pv 1) (j:=1) rfl
  refine Z4 ?_ ?_
  exact Z2 (pv 2) (j:=2) rfl
  refine Z4 ?_ ?_
  exact Z2 (pv 3) (j:=3) rfl
  refine Z4 ?_ ?_
  exact Z2 (pv 4) (j:=4) rfl
  exact Za
  refine Z9 ?_
  refine ZK ?_
  refine rc_b Z0L (by rfl) T.b_len boot_len ?_
  refine Z4 ?_ ?_
  refine Z0i T.cl_Houses T.n_Houses_joined ?_
  exact Z2 (pv 0) (j:=0) rfl
  exact Za
theorem Z51:FnScope ["self", "kind", "least", "most"] ["self", "kind", "least", "most"] (Z8 Z2M):=scM
noncomputable def Z0q(K:Qa)(A:Adr):SF :=
  (Zd (sIf (bV (eNw (hIn true) (Z0 (Z3 1) (Z0 (eCh (Z0J A.c_Circle "kinds") (Z0 (Z3 0) Z1)) Z1)))) (Z16 "UnknownKind" (Z0 (eNw Z4m (Z0 (Z3 1) Z1)) Z1)) ZZ)
  (sIf (bOr (bV (eNw hLt (Z0 (Z3 2) (Z0 (eC (.int (1))) Z1)))) (bOr (bV (eNw hLt (Z0 (Z3 3) (Z0 (Z3 2) Z1)))) (bV (eNw hGt (Z0 (Z3 3) (Z0 (eC (V.int 8)) Z1)))))) (Z16 "BadAges" (Z0 (Z1a [(eNw Z0K (Z0 (Z3 2) Z1)),(eC (.str " to ")),(eNw Z0K (Z0 (Z3 3) Z1))] Str.empty) Z1)) ZZ))
noncomputable def Zz(K:Qa)(A:Adr):Fn:=Zr 4 [false,false,false,false] (Z0q K A)
theorem Z4W(T:Txt K mg A):MetX P w K mg base A.c_Circle "check_wish" 1 ["self", "kind", "least", "most"] (spR (adr A) [false,false,false,false] (Zz K A)) :=
 okM (k:=0) (N:=["self", "kind", "least", "most"]) (ms:=[false,false,false,false]) (body:=Z0q K A) T.X33 Z51 rfl (by decide) fun f cdv A' outer s H E R hr hx hE ha=>by
  have hu:=ZR hr
  refine Z5 ?_ ?_
  refine Z05 ?_ ?_ ?_
  refine ZS Z9t ?_ ?_ rfl
  exact Z2 (pv 1) (j:=1) rfl
  refine Z0i T.cl_Circle T.n_Circle_kinds ?_
  exact Z2 (pv 0) (j:=0) rfl
  refine Z9 ?_
  refine Z0D hE (by rw [ha];rfl) T.x_UnknownKind ?_
  refine Z4 ?_ ?_
  refine Z2o ?_
  refine Z5K ?_
  exact Z2 (pv 1) (j:=1) rfl
  exact Za
  exact ZD
  refine Z9 ?_
  refine Z05 ?_ ?_ ?_
  refine PW.pt ?_
  refine rw_or ?_ ?_
  refine ZS on_lt ?_ ?_ (ZJ _)
  exact Z2 (pv 2) (j:=2) rfl
  exact Z6 Z7
  refine rw_or ?_ ?_
  refine ZS on_lt ?_ ?_ (ZJ _)
  exact Z2 (pv 3) (j:=3) rfl
  exact Z2 (pv 2) (j:=2) rfl
  refine Z3L ?_
  refine ZS on_gt ?_ ?_ (ZJ _)
  exact Z2 (pv 3) (j:=3) rfl
  exact Z6 (Z2c T.g_OLDEST)
  refine Z9 ?_
  refine Z0D hE (by rw [ha];rfl) T.x_BadAges ?_
  refine Z4 ?_ ?_
  refine Z2X ?_
  refine Z0c ?_ ?_
  refine Z0W ?_
  exact Z2 (pv 2) (j:=2) rfl
  refine Z0c ?_ ?_
  exact Z6 Zu
  refine Z0c ?_ ?_
  refine Z0W ?_
  exact Z2 (pv 3) (j:=3) rfl
  exact Z4z
  exact Za
  exact ZD
theorem Z8h:FnScope ["self", "house", "kind", "least", "most"] ["self", "house", "kind", "least", "most"] (Z8 Z5g):=scM
noncomputable def Z2s(K:Qa)(A:Adr):SF :=
  (Z03 (Zq [true,false,false,false,false] (Z2C K A) (Z0 (Zn (Zo A.c_Houses "add") (eCh (Z0J A.c_Circle "members") (Z0 (Z3 0) Z1))) (Z0 (Z3 1) (Z0 (Z3 2) (Z0 (Z3 3) (Z0 (Z3 4) Z1)))))))
noncomputable def Z2r(K:Qa)(A:Adr):SF :=
  (Zd (sE (Zq [true,false] (Z1Y K A) (Z0 (Zn (Zo A.c_Circle "write") (Z3 0)) (Z0 (Z1a [(eC (.str "join ")),(eNw Z0K (Z0 (Z3 1) Z1)),(eC (.str " ")),(eNw Z0K (Z0 (Z3 2) Z1)),(eC (.str " ")),(eNw Z0K (Z0 (Z3 3) Z1)),(eC (.str " ")),(eNw Z0K (Z0 (Z3 4) Z1))] Str.empty) Z1))))
  (Z2s K A))
noncomputable def Z2q(K:Qa)(A:Adr):SF :=
  (Zd (sE (Zq [false] (Z0r K A) (Z0 (Zn (Zo A.c_Circle "check_book") (Z3 0)) Z1)))
  (Z2r K A))
noncomputable def Z1x(K:Qa)(A:Adr):SF :=
  (Zd (sE (Zq [false] (Z0T K A) (Z0 (Zn (Zo A.c_Houses "check_room") (eCh (Z0J A.c_Circle "members") (Z0 (Z3 0) Z1))) Z1)))
  (Z2q K A))
noncomputable def Z0y(K:Qa)(A:Adr):SF :=
  (Zd (sE (Zq [false,false,false,false] (Zz K A) (Z0 (Zn (Zo A.c_Circle "check_wish") (Z3 0)) (Z0 (Z3 2) (Z0 (Z3 3) (Z0 (Z3 4) Z1))))))
  (Z1x K A))
noncomputable def Z0H(K:Qa)(A:Adr):SF :=
  (Zd (sE (Zq [false,false] (ZF K A) (Z0 (Zn (Zo A.c_Houses "check_new") (eCh (Z0J A.c_Circle "members") (Z0 (Z3 0) Z1))) (Z0 (Z3 1) Z1))))
  (Z0y K A))
noncomputable def Z09(K:Qa)(A:Adr):Fn:=Zr 5 [true,false,false,false,false] (Z0H K A)
theorem Z8a(T:Txt K mg A):MetX P w K mg base A.c_Circle "join" 6 ["self", "house", "kind", "least", "most"] (spR (adr A) [true,false,false,false,false] (Z09 K A)) :=
 okM (k:=5) (N:=["self", "house", "kind", "least", "most"]) (ms:=[true,false,false,false,false]) (body:=Z0H K A) T.X34 Z8h rfl (by decide) fun f cdv A' outer s H E R hr hx hE ha=>by
  have hu:=ZR hr
  refine Z5 ?_ ?_
  refine rs_e ?_
  refine Z2d (ms:=[false,false]) (by rw [ha];exact (Z5n T)) T.cl_Houses (hr.mono (by omega)) hx ?_ ?_ al2
  refine Z0i T.cl_Circle T.n_Circle_members ?_
  exact Z2 (pv 0) (j:=0) rfl
  refine Z4 ?_ ?_
  exact Z2 (pv 1) (j:=1) rfl
  exact Za
  refine Z5 ?_ ?_
  refine rs_e ?_
  refine Z2d (ms:=[false,false,false,false]) (by rw [ha];exact (Z4W T)) T.cl_Circle (hr.mono (by omega)) hx ?_ ?_ al4
  exact Z2 (pv 0) (j:=0) rfl
  refine Z4 ?_ ?_
  exact Z2 (pv 2) (j:=2) rfl
  refine Z4 ?_ ?_
  exact Z2 (pv 3) (j:=3) rfl
  refine Z4 ?_ ?_
  exact Z2 (pv 4) (j:=4) rfl
  exact Za
  refine Z5 ?_ ?_
  refine rs_e ?_
  refine Z2w (ms:=[false]) (by rw [ha];exact (Z4X T)) T.cl_Houses (hr.mono (by omega)) hx ?_ al1
  refine Z0i T.cl_Circle T.n_Circle_members ?_
  exact Z2 (pv 0) (j:=0) rfl
  refine Z5 ?_ ?_
  refine rs_e ?_
  refine Z2w (ms:=[false]) (by rw [ha];exact (Z2F T)) T.cl_Circle (hr.mono (by omega)) hx ?_ al1
  exact Z2 (pv 0) (j:=0) rfl
  refine Z5 ?_ ?_
  refine rs_e ?_
  refine Z2d (ms:=[true,false]) (by rw [ha];exact (Z7s T)) T.cl_Circle (hr.mono (by omega)) hx ?_ ?_ al2
  exact Z2 (pv 0) (j:=0) rfl
  refine Z4 ?_ ?_
  refine Z2X ?_
  refine Z0c ?_ ?_
  exact Z6 Zu
  refine Z0c ?_ ?_
  refine Z0W ?_
  exact Z2 (pv 1) (j:=1) rfl
  refine Z0c ?_ ?_
  exact Z6 Zu
  refine Z0c ?_ ?_
  refine Z0W ?_
  exact Z2 (pv 2) (j:=2) rfl
  refine Z0c ?_ ?_
  exact Z6 Zu
  refine Z0c ?_ ?_
  refine Z0W ?_
  exact Z2 (pv 3) (j:=3) rfl
  refine Z0c ?_ ?_
  exact Z6 Zu
  refine Z0c ?_ ?_
  refine Z0W ?_
  exact Z2 (pv 4) (j:=4) rfl
  exact Z4z
  exact Za
  refine Z9 ?_
  refine ZK ?_
  refine Z2d (ms:=[true,false,false,false,false]) (by rw [ha];exact (Z90 T)) T.cl_Houses (hr.mono (by omega)) hx ?_ ?_ al5
  refine Z0i T.cl_Circle T.n_Circle_members ?_
  exact Z2 (pv 0) (j:=0) rfl
  refine Z4 ?_ ?_
  exact Z2 (pv 1) (j:=1) rfl
  refine Z4 ?_ ?_
  exact Z2 (pv 2) (j:=2) rfl
  refine Z4 ?_ ?_
  exact Z2 (pv 3) (j:=3) rfl
  refine Z4 ?_ ?_
  exact Z2 (pv 4) (j:=4) rfl
  exact Za
theorem Z1k:FnScope ["_law_circle", "_law_deed", "_law_word"] ["_law_circle", "_law_deed"] (Z8 Z6r):=scM
noncomputable def Z30(K:Qa)(A:Adr):SF :=
  (Zd (ZV (eC (.str "")) (Zt 2))
  (Zd (sTry exmT (Z03 (Zq [true,false,false,false,false] (Z09 K A) (Z0 (Zn (Zo A.c_Circle "join") (Z3 0)) (Z0 (eCh (hIx K) (Z0 (Z3 1) (Z0 (eC (.int (0))) Z1))) (Z0 (eCh (hIx K) (Z0 (Z3 1) (Z0 (eC (.int (1))) Z1))) (Z0 (eCh (hIx K) (Z0 (Z3 1) (Z0 (eC (.int (2))) Z1))) (Z0 (eCh (hIx K) (Z0 (Z3 1) (Z0 (eC (.int (3))) Z1))) Z1))))))) [("BadName",(ZV (eC (.str "bad name")) (Zt 2))),("KnownHouse",(ZV (eC (.str "known house")) (Zt 2))),("UnknownKind",(ZV (eC (.str "unknown kind")) (Zt 2))),("BadAges",(ZV (eC (.str "bad ages")) (Zt 2)))])
  (Z03 (Z04 .tup (Z0 (eC (.str "refused")) (Z0 (Z3 2) Z1))))))
noncomputable def Z17(K:Qa)(A:Adr):Fn:=Zr 3 [true,false] (Z30 K A)
theorem Z9s(T:Txt K mg A):DefX P w K mg base "_law_join" 7 ["_law_circle", "_law_deed"] (spR (adr A) [true,false] (Z17 K A)) :=
 okD (k:=6) (N:=["_law_circle", "_law_deed", "_law_word"]) (ms:=[true,false]) (body:=Z30 K A) T.X35 Z1k rfl (by decide) fun f cdv A' outer s H E R hr hx hE ha=>by
  have hu:=ZR hr
  refine Z5 ?_ ?_
  refine Zv ?_ ?_
  exact Z6 Zu
  exact Zi (i:=2) Z1k.nd rfl (Or.inl rfl) rfl (by decide)
  refine Z5 ?_ ?_
  refine ZbH (exm:=exmT) (by intro C x b h;rw [ha];exact Zb7 T C x b h) rfl rfl (fun pn xe EX hx=>?_) ?_
  refine Z9 ?_
  refine ZK ?_
  refine Z2d (ms:=[true,false,false,false,false]) (by dsimp only;rw [ha];exact (Z8a T)) T.cl_Circle (hr.mono (by omega)) hx ?_ ?_ al5
  exact Z2 (pv 0) (j:=0) rfl
  refine Z4 ?_ ?_
  refine ZC ?_ ?_ (fun _ _=>rfl)
  exact Z2 (pv 1) (j:=1) rfl
  exact Z6 Z7
  refine Z4 ?_ ?_
  refine ZC ?_ ?_ (fun _ _=>rfl)
  exact Z2 (pv 1) (j:=1) rfl
  exact Z6 Z7
  refine Z4 ?_ ?_
  refine ZC ?_ ?_ (fun _ _=>rfl)
  exact Z2 (pv 1) (j:=1) rfl
  exact Z6 Z7
  refine Z4 ?_ ?_
  refine ZC ?_ ?_ (fun _ _=>rfl)
  exact Z2 (pv 1) (j:=1) rfl
  exact Z6 Z7
  exact Za
  refine Z4y (by rw [ha];exact T.x_BadName.1) (fun ea=>?_) ?_
  refine Z9 ?_
  refine Zv ?_ ?_
  exact Z6 Zu
  exact Zi (i:=2) Z1k.nd rfl (Or.inl rfl) rfl (by decide)
  refine Z4y (by rw [ha];exact T.x_KnownHouse.1) (fun ea=>?_) ?_
  refine Z9 ?_
  refine Zv ?_ ?_
  exact Z6 Zu
  exact Zi (i:=2) Z1k.nd rfl (Or.inl rfl) rfl (by decide)
  refine Z4y (by rw [ha];exact T.x_UnknownKind.1) (fun ea=>?_) ?_
  refine Z9 ?_
  refine Zv ?_ ?_
  exact Z6 Zu
  exact Zi (i:=2) Z1k.nd rfl (Or.inl rfl) rfl (by decide)
  refine Z4y (by rw [ha];exact T.x_BadAges.1) (fun ea=>?_) ?_
  refine Z9 ?_
  refine Zv ?_ ?_
  exact Z6 Zu
  exact Zi (i:=2) Z1k.nd rfl (Or.inl rfl) rfl (by decide)
  exact ZbG
  refine Z9 ?_
  refine ZK ?_
  refine Z3J ?_
  refine Z4 ?_ ?_
  exact Z6 Zu
  refine Z4 ?_ ?_
  exact Z2 (pv 2) (j:=2) rfl
  exact Za
theorem Z3R:FnScope ["self", "house", "member"] ["self", "house"] (Z8 Z43):=scM
noncomputable def Z1H(K:Qa)(A:Adr):SF :=
  (Zd (ZV (Zq [true,false] (Z0u K A) (Z0 (Zn (Zo A.c_Houses "named") (eCh (Z0J A.c_Circle "members") (Z0 (Z3 0) Z1))) (Z0 (Z3 1) Z1))) (Zt 2))
  (Z03 (Z04 .tup (Z0 (eCh (Z0J A.c_House "kind") (Z0 (Z3 2) Z1)) (Z0 (eCh (Z0J A.c_House "least") (Z0 (Z3 2) Z1)) (Z0 (eCh (Z0J A.c_House "most") (Z0 (Z3 2) Z1)) Z1))))))
noncomputable def Z0k(K:Qa)(A:Adr):Fn:=Zr 3 [true,false] (Z1H K A)
theorem Z6L(T:Txt K mg A):MetX P w K mg base A.c_Circle "wished" 2 ["self", "house"] (spR (adr A) [true,false] (Z0k K A)) :=
 okM (k:=1) (N:=["self", "house", "member"]) (ms:=[true,false]) (body:=Z1H K A) T.X36 Z3R rfl (by decide) fun f cdv A' outer s H E R hr hx hE ha=>by
  have hu:=ZR hr
  refine Z5 ?_ ?_
  refine Zv ?_ ?_
  refine Z2d (ms:=[true,false]) (by rw [ha];exact (Z41 T)) T.cl_Houses (hr.mono (by omega)) hx ?_ ?_ al2
  refine Z0i T.cl_Circle T.n_Circle_members ?_
  exact Z2 (pv 0) (j:=0) rfl
  refine Z4 ?_ ?_
  exact Z2 (pv 1) (j:=1) rfl
  exact Za
  exact Zi (i:=2) Z3R.nd rfl (Or.inl rfl) rfl (by decide)
  refine Z9 ?_
  refine ZK ?_
  refine Z3J ?_
  refine Z4 ?_ ?_
  refine Z0i T.cl_House T.n_House_kind ?_
  exact Z2 (pv 2) (j:=2) rfl
  refine Z4 ?_ ?_
  refine Z0i T.cl_House T.n_House_least ?_
  exact Z2 (pv 2) (j:=2) rfl
  refine Z4 ?_ ?_
  refine Z0i T.cl_House T.n_House_most ?_
  exact Z2 (pv 2) (j:=2) rfl
  exact Za
theorem Z0N:FnScope ["_law_circle", "_law_wishes", "_law_who_here", "_law_unknown", "_law_found"] ["_law_circle", "_law_wishes", "_law_who_here"] (Z8 Z3Q):=scM
noncomputable def Z0s(K:Qa)(A:Adr):SF :=
  (Zd (sIf (bV (eNw (hDIn false) (Z0 (Z3 2) (Z0 (Z3 1) Z1)))) (Z03 (Zq [false,false] (Z1D A) (Z0 (Z3 4) (Z0 (eCh hDGet (Z0 (Z3 1) (Z0 (Z3 2) Z1))) Z1)))) ZZ)
  (Z03 (Z3 3)))
noncomputable def Z1n(K:Qa)(A:Adr):SF :=
  (Zd (ZV (eC (.bl false)) (Zt 3))
  (Zd (ZV (eC .non) (Zt 4))
  (Zd (sTry exmT (ZV (Zq [true,false] (Z0k K A) (Z0 (Zn (Zo A.c_Circle "wished") (Z3 0)) (Z0 (Z3 2) Z1))) (Zt 4)) [("UnknownHouse",(ZV (eC (.bl true)) (Zt 3)))])
  (Z0s K A))))
noncomputable def Z08(K:Qa)(A:Adr):Fn:=Zr 5 [true,false,false] (Z1n K A)
theorem Z3i(T:Txt K mg A):DefX P w K mg base "_law_wish_told" 5 ["_law_circle", "_law_wishes", "_law_who_here"] (spR (adr A) [true,false,false] (Z08 K A)) :=
 okD (k:=4) (N:=["_law_circle", "_law_wishes", "_law_who_here", "_law_unknown", "_law_found"]) (ms:=[true,false,false]) (body:=Z1n K A) T.X37 Z0N rfl (by decide) fun f cdv A' outer s H E R hr hx hE ha=>by
  have hu:=ZR hr
  refine Z5 ?_ ?_
  refine Zv ?_ ?_
  exact Z6 Z1M
  exact Zi (i:=3) Z0N.nd rfl (Or.inl rfl) rfl (by decide)
  refine Z5 ?_ ?_
  refine Zv ?_ ?_
  exact Z6 Z3G
  exact Zi (i:=4) Z0N.nd rfl (Or.inl rfl) rfl (by decide)
  refine Z5 ?_ ?_
  refine ZbH (exm:=exmT) (by intro C x b h;rw [ha];exact Zb7 T C x b h) rfl rfl (fun pn xe EX hx=>?_) ?_
  refine Z9 ?_
  refine Zv ?_ ?_
  refine Z2d (ms:=[true,false]) (by dsimp only;rw [ha];exact (Z6L T)) T.cl_Circle (hr.mono (by omega)) hx ?_ ?_ al2
  exact Z2 (pv 0) (j:=0) rfl
  refine Z4 ?_ ?_
  exact Z2 (pv 2) (j:=2) rfl
  exact Za
  exact Zi (i:=4) Z0N.nd rfl (Or.inl rfl) rfl (by decide)
  refine Z4y (by rw [ha];exact T.x_UnknownHouse.1) (fun ea=>?_) ?_
  refine Z9 ?_
  refine Zv ?_ ?_
  exact Z6 Z1M
  exact Zi (i:=3) Z0N.nd rfl (Or.inl rfl) rfl (by decide)
  exact ZbG
  refine Z5 ?_ ?_
  refine Z05 ?_ ?_ ?_
  refine Z67 ?_
  refine Z9I hu ?_ ?_
  exact Z2 (pv 2) (j:=2) rfl
  exact Z2 (pv 1) (j:=1) rfl
  refine Z9 ?_
  refine ZK ?_
  refine Z0p (ms:=[false,false]) (by rw [ha];exact (Z2G T)) (hr.mono (by omega)) hx ?_ al2
  refine Z4 ?_ ?_
  exact Z2 (pv 4) (j:=4) rfl
  refine Z4 ?_ ?_
  refine Zat hu ?_ ?_ (fun _ _=>rfl)
  exact Z2 (pv 1) (j:=1) rfl
  exact Z2 (pv 2) (j:=2) rfl
  exact Za
  exact ZD
  refine Z9 ?_
  refine ZK ?_
  exact Z2 (pv 3) (j:=3) rfl
theorem Z1S:FnScope ["_law_script", "_law_wide", "_law_names_here", "_law_kinds", "_law_circle", "_law_wishes", "_law_stand", "_law_k", "_law_figs", "_law_deed", "_law_due_here"] ["_law_script"] (Z8 s_law):=scM
noncomputable def Z3d(K:Qa)(A:Adr):SF :=
  (sIf (bOr (bNot (bV (Zq [false,false] (Z1D A) (Z0 (Zq [false] (Z12 K A) (Z0 (Zn (Zo A.c_Circle "houses") (Z3 4)) Z1)) (Z0 (Z3 6) Z1))))) (bNot (bV (Zq [true,false,false] (Z08 K A) (Z0 (Z3 4) (Z0 (Z3 5) (Z0 (eCh (hIx K) (Z0 (Z3 9) (Z0 (eC (.int (0))) Z1))) Z1))))))) (Z03 (eC (.bl false))) ZZ)
noncomputable def Z2z(K:Qa)(A:Adr):SF :=
  (Zd (sIf (bNot (bV (eNw hIs (Z0 (Z3 10) (Z0 (eC (.ty "tuple")) Z1))))) (Zd (sE (eMu 1 Z1J (Z0 (eNw hCutT (Z0 (Z3 9) (Z0 (eC (.int (1))) Z1))) (Z0 (Z3 5) (Z0 (eCh (hIx K) (Z0 (Z3 9) (Z0 (eC (.int (0))) Z1))) Z1)))))
  (sE (eMu 0 hApp (Z0 (Zn Z15 (Z3 6)) (Z0 (eCh (hIx K) (Z0 (Z3 9) (Z0 (eC (.int (0))) Z1))) Z1))))) ZZ)
  (Z3d K A))
noncomputable def Z47(K:Qa)(A:Adr):SF :=
  (Zd (sIf (bNot (bV (Zq [false,false] (Z1D A) (Z0 (Zq [true,false] (Z17 K A) (Z0 (Z3 4) (Z0 (Z3 9) Z1))) (Z0 (Z3 10) Z1))))) (Z03 (eC (.bl false))) ZZ)
  (Z2z K A))
noncomputable def Z2y(K:Qa)(A:Adr):SF :=
  (Zd (ZV (Zq [false,false,false] (Z0I K A) (Z0 (Z3 8) (Z0 (Z3 2) (Z0 (Z3 3) Z1)))) (Zt 9))
  (Zd (ZV (Zq [false,false,false] (Z0O K A) (Z0 (Z3 5) (Z0 (Z3 3) (Z0 (Z3 9) Z1)))) (Zt 10))
  (Z47 K A)))
noncomputable def Z2u(K:Qa)(A:Adr):SF :=
  (Zd (sIf (bAnd (bV (eNw (hEq false) (Z0 (eNw hMod (Z0 (eCh (hIx K) (Z0 (Z3 8) (Z0 (eC (.int (4))) Z1))) (Z0 (eC (.int (8))) Z1))) (Z0 (eC (.int (1))) Z1)))) (bV (eNw (hIn false) (Z0 (eCh (hIx K) (Z0 (Z3 2) (Z0 (eNw hMod (Z0 (eNw hDiv (Z0 (eCh (hIx K) (Z0 (Z3 8) (Z0 (eC (.int (4))) Z1))) (Z0 (eC (.int (8))) Z1))) (Z0 (eC (.int (9))) Z1))) Z1))) (Z0 (Z3 6) Z1))))) (Zd (sE (Zq [true,false] (Z1g K A) (Z0 (Zn (Zo A.c_Circle "leave") (Z3 4)) (Z0 (eCh (hIx K) (Z0 (Z3 2) (Z0 (eNw hMod (Z0 (eNw hDiv (Z0 (eCh (hIx K) (Z0 (Z3 8) (Z0 (eC (.int (4))) Z1))) (Z0 (eC (.int (8))) Z1))) (Z0 (eC (.int (9))) Z1))) Z1))) Z1))))
  (sE (eRem (Z0 (Zn Z15 (Z3 6)) (Z0 (eCh (hIx K) (Z0 (Z3 2) (Z0 (eNw hMod (Z0 (eNw hDiv (Z0 (eCh (hIx K) (Z0 (Z3 8) (Z0 (eC (.int (4))) Z1))) (Z0 (eC (.int (8))) Z1))) (Z0 (eC (.int (9))) Z1))) Z1))) Z1))))) ZZ)
  (Z2y K A))
noncomputable def Z4S(K:Qa)(A:Adr):SF :=
  (sKill [7,8,9,10] (Zd (ZV (Zq [false,false,false,false] (Z0v K A) (Z0 (Z3 0) (Z0 (Z3 7) (Z0 (eC (.int (840))) (Z0 (eC (.int (5))) Z1))))) (Zt 8))
  (Z2u K A)))
noncomputable def Z5U(K:Qa)(A:Adr):SF :=
  (Z03 (eAnd (Zq [false,false] (Z1D A) (Z0 (Zq [false] (Z12 K A) (Z0 (Zn (Zo A.c_Circle "houses") (Z3 4)) Z1)) (Z0 (Z3 6) Z1))) (Zq [true,false,false] (Z08 K A) (Z0 (Z3 4) (Z0 (Z3 5) (Z0 (eC (.str "nobody")) Z1))))))
noncomputable def Z56(K:Qa)(A:Adr):SF :=
  (Zd (ZV (Z04 (.dic true []) Z1) (Zt 5))
  (Zd (ZV (Z04 (.lst true) Z1) (Zt 6))
  (Zd (sForR (Z0 (eC (.int (3))) (Z0 (eNw (hLen K) (Z0 (Z3 0) Z1)) Z1)) (Zt 7)
  (Z4S K A))
  (Z5U K A))))
noncomputable def Z55(K:Qa)(A:Adr):SF :=
  (Zd (ZV (eMk A.c_Circle [false] (Z1b K A) (Z0 (eNw hList (Z0 (Z3 3) Z1)) Z1)) (Zt 4))
  (Z56 K A))
noncomputable def Z54(K:Qa)(A:Adr):SF :=
  (Zd (ZV (eNw (hCut false) (Z0 (Zq [false,false] (Z1Q K A) (Z0 (eCh (hIx K) (Z0 (Z3 1) (Z0 (eC (.int (1))) Z1))) (Z0 (eC (.int (4))) Z1))) (Z0 (eNw Z0j (Z0 (eC (.int (1))) (Z0 (eNw hMod (Z0 (Zq [false,false] (Z2v K A) (Z0 (Z3 0) (Z0 (eC (.int (2))) Z1))) (Z0 (eC (.int (4))) Z1))) Z1))) Z1))) (Zt 3))
  (Z55 K A))
noncomputable def Z53(K:Qa)(A:Adr):SF :=
  (Zd (ZV (Zq [false,false] (Z1Q K A) (Z0 (eCh (hIx K) (Z0 (Z3 1) (Z0 (eC (.int (0))) Z1))) (Z0 (eC (.int (9))) Z1))) (Zt 2))
  (Z54 K A))
noncomputable def b_law(K:Qa)(A:Adr):SF :=
  (Zd (ZV (Zq [false,false,false,false] (Z0v K A) (Z0 (Z3 0) (Z0 (eC (.int (1))) (Z0 (eC (.int (1000000))) (Z0 (eC (.int (2))) Z1))))) (Zt 1))
  (Z53 K A))
noncomputable def f_law(K:Qa)(A:Adr):Fn:=Zr 11 [false] (b_law K A)
theorem Zf6(T:Txt K mg A):DefX P w K mg base "law" 8 ["_law_script"] (spR (adr A) [false] (f_law K A)) :=
 okD (k:=7) (N:=["_law_script", "_law_wide", "_law_names_here", "_law_kinds", "_law_circle", "_law_wishes", "_law_stand", "_law_k", "_law_figs", "_law_deed", "_law_due_here"]) (ms:=[false]) (body:=b_law K A) T.X38 Z1S rfl (by decide) fun f cdv A' outer s H E R hr hx hE ha=>by
  have hu:=ZR hr
  refine Z5 ?_ ?_
  refine Zv ?_ ?_
  refine Z0p (ms:=[false,false,false,false]) (by rw [ha];exact (Z42 T)) (hr.mono (by omega)) hx ?_ al4
  refine Z4 ?_ ?_
  exact Z2 (pv 0) (j:=0) rfl
  refine Z4 ?_ ?_
  exact Z6 Z7
  refine Z4 ?_ ?_
  exact Z6 Z7
  refine Z4 ?_ ?_
  exact Z6 Z7
  exact Za
  exact Zi (i:=1) Z1S.nd rfl (Or.inl rfl) rfl (by decide)
  refine Z5 ?_ ?_
  refine Zv ?_ ?_
  refine Z0p (ms:=[false,false]) (by rw [ha];exact (Z5f T)) (hr.mono (by omega)) hx ?_ al2
  refine Z4 ?_ ?_
  refine ZC ?_ ?_ (fun _ _=>rfl)
  exact Z2 (pv 1) (j:=1) rfl
  exact Z6 Z7
  refine Z4 ?_ ?_
  exact Z6 Z7
  exact Za
  exact Zi (i:=2) Z1S.nd rfl (Or.inl rfl) rfl (by decide)
  refine Z5 ?_ ?_
  refine Zv ?_ ?_
  refine ZcM ?_ ?_
  refine Z0p (ms:=[false,false]) (by rw [ha];exact (Z5f T)) (hr.mono (by omega)) hx ?_ al2
  refine Z4 ?_ ?_
  refine ZC ?_ ?_ (fun _ _=>rfl)
  exact Z2 (pv 1) (j:=1) rfl
  exact Z6 Z7
  refine Z4 ?_ ?_
  exact Z6 Z7
  exact Za
  refine Zg Z0f ?_ ?_
  exact Z6 Z7
  refine Zg Z00 ?_ ?_
  refine Z0p (ms:=[false,false]) (by rw [ha];exact (Z4Y T)) (hr.mono (by omega)) hx ?_ al2
  refine Z4 ?_ ?_
  exact Z2 (pv 0) (j:=0) rfl
  refine Z4 ?_ ?_
  exact Z6 Z7
  exact Za
  exact Z6 Z7
  exact Zi (i:=3) Z1S.nd rfl (Or.inl rfl) rfl (by decide)
  refine Z5 ?_ ?_
  refine Zv ?_ ?_
  refine rc_mk (ms:=[false]) (by rw [ha];exact (Z5B T)) (hr.mono (by omega)) T.mc_Circle ?_ al1
  refine Z4 ?_ ?_
  refine rc_ty Za2 (by rfl) T.b_list boot_list ?_
  refine Z4 ?_ ?_
  exact Z2 (pv 3) (j:=3) rfl
  exact Za
  exact Za
  exact Zi (i:=4) Z1S.nd rfl (Or.inl rfl) rfl (by decide)
  refine Z5 ?_ ?_
  refine Zv ?_ ?_
  exact Z4x
  exact Zi (i:=5) Z1S.nd rfl (Or.inl rfl) rfl (by decide)
  refine Z5 ?_ ?_
  refine Zv ?_ ?_
  refine Z2H ?_
  exact Za
  exact Zi (i:=6) Z1S.nd rfl (Or.inl rfl) rfl (by decide)
  refine Z5 ?_ ?_
  refine ZcO Z2b rfl rfl T.b_range ?_ ?_ ?_ ?_
  exact Z6 Z7
  refine rc_b Z0L (by rfl) T.b_len boot_len ?_
  refine Z4 ?_ ?_
  exact Z2 (pv 0) (j:=0) rfl
  exact Za
  exact Zi (i:=7) Z1S.nd rfl (Or.inl rfl) rfl (by decide)
  refine Z3K (js:=[7,8,9,10]) (by decide) ?_
  refine Z5 ?_ ?_
  refine Zv ?_ ?_
  refine Z0p (ms:=[false,false,false,false]) (by rw [ha];exact (Z42 T)) (hr.mono (by omega)) hx ?_ al4
  refine Z4 ?_ ?_
  exact Z2 (pv 0) (j:=0) rfl
  refine Z4 ?_ ?_
  exact Z2 (pv 7) (j:=7) rfl
  refine Z4 ?_ ?_
  exact Z6 Z7
  refine Z4 ?_ ?_
  exact Z6 Z7
  exact Za
  exact Zi (i:=8) Z1S.nd rfl (Or.inl rfl) rfl (by decide)
  refine Z5 ?_ ?_
  refine Z05 ?_ ?_ ?_
  refine PW.pt ?_
  refine Zfx ?_ ?_
  refine ZS on_eq ?_ ?_ (ZJ _)
  refine Zg Z00 ?_ ?_
  refine ZC ?_ ?_ (fun _ _=>rfl)
  exact Z2 (pv 8) (j:=8) rfl
  exact Z6 Z7
  exact Z6 Z7
  exact Z6 Z7
  refine ZdY ?_
  refine ZS on_in ?_ ?_ rfl
  refine ZC ?_ ?_ (fun _ _=>rfl)
  exact Z2 (pv 2) (j:=2) rfl
  refine Zg Z00 ?_ ?_
  refine Zg Z1A ?_ ?_
  refine ZC ?_ ?_ (fun _ _=>rfl)
  exact Z2 (pv 8) (j:=8) rfl
  exact Z6 Z7
  exact Z6 Z7
  exact Z6 Z7
  exact Z2 (pv 6) (j:=6) rfl
  refine Z5 ?_ ?_
  refine rs_e ?_
  refine Z2d (ms:=[true,false]) (by rw [ha];exact (Z7r T)) T.cl_Circle (hr.mono (by omega)) hx ?_ ?_ al2
  exact Z2 (pv 4) (j:=4) rfl
  refine Z4 ?_ ?_
  refine ZC ?_ ?_ (fun _ _=>rfl)
  exact Z2 (pv 2) (j:=2) rfl
  refine Zg Z00 ?_ ?_
  refine Zg Z1A ?_ ?_
  refine ZC ?_ ?_ (fun _ _=>rfl)
  exact Z2 (pv 8) (j:=8) rfl
  exact Z6 Z7
  exact Z6 Z7
  exact Z6 Z7
  exact Za
  refine Z9 ?_
  refine rs_e ?_
  refine Zfu ?_ ?_
  exact Z2 (pv 6) (j:=6) rfl
  refine ZC ?_ ?_ (fun _ _=>rfl)
  exact Z2 (pv 2) (j:=2) rfl
  refine Zg Z00 ?_ ?_
  refine Zg Z1A ?_ ?_
  refine ZC ?_ ?_ (fun _ _=>rfl)
  exact Z2 (pv 8) (j:=8) rfl
  exact Z6 Z7
  exact Z6 Z7
  exact Z6 Z7
  exact ZD
  refine Z5 ?_ ?_
  refine Zv ?_ ?_
  refine Z0p (ms:=[false,false,false]) (by rw [ha];exact (Z8c T)) (hr.mono (by omega)) hx ?_ al3
  refine Z4 ?_ ?_
  exact Z2 (pv 8) (j:=8) rfl
  refine Z4 ?_ ?_
  exact Z2 (pv 2) (j:=2) rfl
  refine Z4 ?_ ?_
  exact Z2 (pv 3) (j:=3) rfl
  exact Za
  exact Zi (i:=9) Z1S.nd rfl (Or.inl rfl) rfl (by decide)
  refine Z5 ?_ ?_
  refine Zv ?_ ?_
  refine Z0p (ms:=[false,false,false]) (by rw [ha];exact (Z9W T)) (hr.mono (by omega)) hx ?_ al3
  refine Z4 ?_ ?_
  exact Z2 (pv 5) (j:=5) rfl
  refine Z4 ?_ ?_
  exact Z2 (pv 3) (j:=3) rfl
  refine Z4 ?_ ?_
  exact Z2 (pv 9) (j:=9) rfl
  exact Za
  exact Zi (i:=10) Z1S.nd rfl (Or.inl rfl) rfl (by decide)
  refine Z5 ?_ ?_
  refine Z05 ?_ ?_ ?_
  refine Z38 ?_
  refine rt_v ?_
  refine Z0p (ms:=[false,false]) (by rw [ha];exact (Z2G T)) (hr.mono (by omega)) hx ?_ al2
  refine Z4 ?_ ?_
  refine Z0p (ms:=[true,false]) (by rw [ha];exact (Z9s T)) (hr.mono (by omega)) hx ?_ al2
  refine Z4 ?_ ?_
  exact Z2 (pv 4) (j:=4) rfl
  refine Z4 ?_ ?_
  exact Z2 (pv 9) (j:=9) rfl
  exact Za
  refine Z4 ?_ ?_
  exact Z2 (pv 10) (j:=10) rfl
  exact Za
  refine Z9 ?_
  refine ZK ?_
  exact Z6 Z1M
  exact ZD
  refine Z5 ?_ ?_
  refine Z05 ?_ ?_ ?_
  refine Z38 ?_
  refine rt_v ?_
  refine rc_b cn_is (by rfl) T.b_isinstance boot_isinstance ?_
  refine Z4 ?_ ?_
  exact Z2 (pv 10) (j:=10) rfl
  refine Z4 ?_ ?_
  exact Z6 (Z0Q (v:=.ty "tuple") rfl T.b_tuple boot_tuple rfl)
  exact Za
  refine Z5 ?_ ?_
  refine Zav hu ?_ ?_ ?_
  exact Z2 (pv 5) (j:=5) rfl
  refine ZC ?_ ?_ (fun _ _=>rfl)
  exact Z2 (pv 9) (j:=9) rfl
  exact Z6 Z7
  refine ZdT ?_ ?_
  exact Z2 (pv 9) (j:=9) rfl
  exact Z6 Z7
  refine Z9 ?_
  refine rs_e ?_
  refine Z5J ?_ ?_
  exact Z2 (pv 6) (j:=6) rfl
  refine ZC ?_ ?_ (fun _ _=>rfl)
  exact Z2 (pv 9) (j:=9) rfl
  exact Z6 Z7
  exact ZD
  refine Z9 ?_
  refine Z05 ?_ ?_ ?_
  refine PW.pt ?_
  refine rw_or ?_ ?_
  refine Z38 ?_
  refine rt_v ?_
  refine Z0p (ms:=[false,false]) (by rw [ha];exact (Z2G T)) (hr.mono (by omega)) hx ?_ al2
  refine Z4 ?_ ?_
  refine Z2w (ms:=[false]) (by rw [ha];exact (Z3F T)) T.cl_Circle (hr.mono (by omega)) hx ?_ al1
  exact Z2 (pv 4) (j:=4) rfl
  refine Z4 ?_ ?_
  exact Z2 (pv 6) (j:=6) rfl
  exact Za
  refine Z3L ?_
  refine Z38 ?_
  refine rt_v ?_
  refine Z0p (ms:=[true,false,false]) (by rw [ha];exact (Z3i T)) (hr.mono (by omega)) hx ?_ al3
  refine Z4 ?_ ?_
  exact Z2 (pv 4) (j:=4) rfl
  refine Z4 ?_ ?_
  exact Z2 (pv 5) (j:=5) rfl
  refine Z4 ?_ ?_
  refine ZC ?_ ?_ (fun _ _=>rfl)
  exact Z2 (pv 9) (j:=9) rfl
  exact Z6 Z7
  exact Za
  refine Z9 ?_
  refine ZK ?_
  exact Z6 Z1M
  exact ZD
  refine Z9 ?_
  refine ZK ?_
  refine Zfs ?_ ?_
  refine Z0p (ms:=[false,false]) (by rw [ha];exact (Z2G T)) (hr.mono (by omega)) hx ?_ al2
  refine Z4 ?_ ?_
  refine Z2w (ms:=[false]) (by rw [ha];exact (Z3F T)) T.cl_Circle (hr.mono (by omega)) hx ?_ al1
  exact Z2 (pv 4) (j:=4) rfl
  refine Z4 ?_ ?_
  exact Z2 (pv 6) (j:=6) rfl
  exact Za
  refine ZdS ?_
  refine Z0p (ms:=[true,false,false]) (by rw [ha];exact (Z3i T)) (hr.mono (by omega)) hx ?_ al3
  refine Z4 ?_ ?_
  exact Z2 (pv 4) (j:=4) rfl
  refine Z4 ?_ ?_
  exact Z2 (pv 5) (j:=5) rfl
  refine Z4 ?_ ?_
  exact Z6 Zu
  exact Za
end
end Pf
open PySem PySem.Spec PyProof.Rows L2 RM
theorem Pf.cl_str{x:Str}:cl (V.str x)=V.str x:=rfl
local macro_rules | `(tactic| walk_at "evs")=>do
 let ls ← (("Zb6 ev_if ev_e Zez Zdl Zdk Zet ev_ct Zes Zeu ev_v Zex Zer ev_or ev_C ZeC Zew Zdb ev_nw ev_ch Zdd Zdc ev_mu Zd7 Zcc Zda ev_mk Zd8 Zd9 Zdj Zdh Zdg seqOf fin popD ZeB tryH Zdm Zck Zci Zcj Zch ZeA ini outs ends augGo selF selI Z0J ZQ Z1J hApp Zcf Zcd Zce Zcg hI hEq hIsN Zcm Zcn Zcs Zcr Zct Zcp Zcq Zdo Zdq Zdn Zdp hDGet hDIn hGet2 Z0U hList Z0K hNeg hInt hStrI hMax hMin pick Z0z Zw vals pairsA kvD keyD mkV D.imm D.imms NK.mut D.get D.put wr ZeP ZeO ZeN ZbU ZbT ZfF ZfE ZfD sub_cn ZfC unh unx Zt tgT tgC tgN takes fills gives apart disj retV Z1L killN hole List.foldl_cons List.foldl_nil List.mapIdx_cons List.mapIdx_nil List.zipWith_cons_cons List.zipWith_nil_left List.zipWith_nil_right List.replicate Qi Jl Jj Js Jg Jp List.length_nil Jy Nh List.getElem?_nil Qad Wx List.getLast?_cons_cons List.getLast?_singleton List.dropLast_cons_cons List.dropLast_singleton Nat.reduceAdd Nat.reduceSub Nat.reduceLT Nat.reduceLeDiff Nat.reduceEqDiff Nat.zero_add Nat.add_zero Gp Nat.sub_zero Option.map_some Option.map_none Option.some.injEq if_true if_false ite_true ite_false Bool.not_true Bool.not_false Bool.and_true Bool.true_and Qaa Bool.false_and Bool.true_or Bool.false_or Bool.or_true Bool.or_false decide_true decide_false decide_not ne_eq not_true not_false_eq_true Wz reduceIte reduceCtorEq and_self and_true true_and false_and and_false bne_self_eq_false Bool.bne_false Bool.bne_true Qo Jh Int.reduceLT Int.reduceLE Int.reduceNeg Int.reduceToNat Int.cast_ofNat_Int Int.natCast_zero Int.natCast_one Int.toNat_natCast Int.reduceEq Int.reducePow Int.reduceAdd Int.reduceMul Int.reduceSub Int.reduceMod Int.reduceDiv Nat.reduceBNe Nat.reduceBEq ixN_0 ixN_1 ixN_2 ixN_3 ixN_4 ixN_5 ixN_6 ixN_7 ixN_8 ixN_9 ZeI ZeJ ZeK sz Z07 scal decide_eq_true_eq V.int.injEq V.str.injEq V.bl.injEq Zdi Zdf lenOf Zcb Zb5 hInS Z1s hCount hIn hCutT Zey hCut hMod hDiv hMul hSub Z3y Z3z Pf.cl_str Option.isSome_some Option.isSome_none Zde remGo remR Pf.Z78 Pf.Z7f Pf.Z79 Pf.Z7g Pf.Z4O Pf.Z4Q Pf.Z4d Pf.Z4e Pf.Z7a Pf.Z7h Pf.Z6a Pf.Z6Y Pf.Z70 Pf.Z7M Pf.Z6Z Pf.Z6b Pf.Z6y Pf.Z7c Pf.Z7j Pf.Z7Y Pf.Z81 Pf.Z6e Pf.Z6f Pf.Z7d Pf.Z7k Pf.Z6D Pf.Z6G Pf.Z4P Pf.Z4R Pf.Z7b Pf.Z7i Pf.Z2S Pf.Z7U Pf.Z3Y Pf.Z7R Pf.Z74 Pf.Z7N Pf.Z7Q Pf.Z1u Pf.Z1t Pf.Z2D Pf.Z4c Pf.Z6c Pf.Z5k Pf.Z5v Pf.Z2m Pf.Z73 Pf.Z7T Pf.Z7S Pf.Z6A Pf.Z71 Pf.Z8G Pf.Z2l Pf.Z7P Pf.Z6z Pf.Z75 Pf.Z5l Pf.Z72 Pf.Z6d Pf.Z8H Pf.Z7O Pf.Z5c Pf.Z8W Pf.Z8O Pf.Z8U Pf.Z7Z Pf.Z82 Pf.Z8P Pf.Z8V Pf.Z3Z Pf.Z7m Pf.Z8N Pf.Z8T Pf.Z7e Pf.Z7l Pf.Z6E Pf.Z6H Pf.Z4N Pf.Z8I Pf.Z36 Pf.Z4n Pf.Z3A Pf.Z6I Pf.Z1G Pf.Z2E Pf.Z5b Pf.Z1K Pf.Z3h Pf.Z1R Pf.Z80 Pf.Z83 Pf.Z7V Pf.Z4o Pf.Z9i Pf.Z8S Pf.Z8Z Pf.Z8R Pf.Z8Y Pf.Z6F Pf.Z6J Pf.Z8Q Pf.Z8X Pf.Z8J Pf.Z4p Pf.Z8M Pf.Z76 Pf.Z8L Pf.Z4q Pf.Z6B Pf.Z8K Pf.Z5V Pf.Z5W Pf.Z4G Pf.Z4h Pf.Z5X Pf.Z4H Pf.Z3V Pf.Z2Z Pf.Z4i Pf.Z3q Pf.Z3g".splitOn " ").toArray.map fun s=>Lean.mkIdent s.toName).mapM fun i=>`(Lean.Parser.Tactic.simpLemma| $i:ident)
 `(tactic| simp only [$[$ls:simpLemma],*, *])
namespace Pf
open PySem PySem.Spec PyProof.Rows L2 RM
variable {K:Qa}{A:Adr}
noncomputable abbrev aI(i:Int):D:=.at (.int i)
theorem imI(ns:List Int):D.imms (ns.map aI)=true:=Z6C (fun _=>rfl) ns
noncomputable def atL(ns:List Int)(i:Int):Int:=if 0≤i then (if i < ns.length then ns.getD i.toNat 0 else 0) else 0
theorem v_at(k:NK)(hk:Scr K k)(ns:List Int)(i:Int)(h0:0≤i):Z2v K A [scD k ns,aI i]=.ok (.val (aI (atL ns i))) [scD k ns,aI i]:=by
 unfold Z2v Z5q atL scD
 have him:=imI ns
 by_cases h:i < (ns.length:Int)
 ·have hj:i.toNat < ns.length:=by omega
  have e1:ns.getD i.toNat 0=ns[i.toNat]:=by rw [List.getD_eq_getElem?_getD,Qj hj];rfl
  have e2:(ns.map aI)[i.toNat]?=some (aI ns[i.toNat]):=by rw [Qc,Qj hj];rfl
  have e3:ixN ns.length i=some i.toNat:=by unfold ixN;rw [if_pos h0,if_pos h]
  rw [e1];clear e1
  rcases hk with rfl | rfl <;> walk_at "evs"
 ·rcases hk with rfl | rfl <;> walk_at "evs"
theorem Z0G{k:NK}(hk:Scr K k)(ns:List Int):(scD k ns).imm=true:=by
 unfold scD
 rcases hk with rfl | rfl <;> simp only [D.imm,NK.mut,imI,Bool.not_false,Bool.true_and]
noncomputable abbrev figS(k:NK)(ns:List Int)(i base:Int)(m:Nat)(cell:Int)(xs:List Int)(x6:DL):Sd:=[.own true (scD k ns),.own true (aI i),.own true (aI base),.own true (aI m),.own true (aI cell),.own true (.nd (.lst true) (xs.map aI)),x6,.non,.non,.non,.non,.non]
theorem Ze7(k:NK)(hk:Scr K k)(ns:List Int)(i base:Int)(m j:Nat)(cell:Int)(xs:List Int)(hb:0 < base)(hb':base < 1073741824)(hx:xs.length < 16777216)(hz:atL ns 0 % 2=0) :
  Z0d K A (figS k ns i base m cell xs (.own true (aI (0 + j))))=.nx (figS k ns i base m (cell / base) (xs++[cell % base]) .non):=by
 have hki:=Z0G hk ns
 have hat0:=v_at (A:=A) k hk ns 0 (by omega)
 unfold Z0d
 walk_at "evs"
 simp only [figS,Jk,Qi,Jl]
theorem Ze8(k:NK)(hk:Scr K k)(ns:List Int)(i base:Int)(m j:Nat)(cell:Int)(xs:List Int)(hb:0 < base)(hx:xs.length < 16777216)(hz:¬ atL ns 0 % 2=0) :
  ∃ y,Z0d K A (figS k ns i base m cell xs (.own true (aI (0 + j))))=.nx (figS k ns i base m cell (xs++[y % base]) .non):=by
 have hki:=Z0G hk ns
 have hat0:=v_at (A:=A) k hk ns 0 (by omega)
 unfold Z0d
 refine ⟨((cell + 31 * (0 + j) + 1) * 48271 % 2147483647 + 7919 * i + (0 + j) + 1) * 69621 % 2147483647,?_⟩
 walk_at "evs"
 simp only [figS,Jk,Qi,Jl]
theorem ZbY(k:NK)(hk:Scr K k)(ns:List Int)(i base:Int)(m:Nat)(h0:0≤i)(hm:m < 1000)(cell:Int)(xs:List Int)
  (h1:Zx (itR 0 m) (Zt 6) (Z0d K A) (m + 1) 0 (figS k ns i base m (atL ns i) [] .non)=.nx (figS k ns i base m cell xs .non)) :
  Z0v K A [scD k ns,aI i,aI base,aI m]=.ok (.val (.nd (.lst true) (xs.map aI))) [scD k ns,aI i,aI base,aI m]:=by
 have hki:=Z0G hk ns
 have hat:=v_at (A:=A) k hk ns i h0
 have hm1:(m:Int) < 4611686018427387904:=by omega
 have hm2:-4611686018427387904≤(m:Int):=by omega
 simp only [figS,Jl] at h1
 unfold Z0v Z2R
 walk_at "evs"
theorem Z8E(k:NK)(hk:Scr K k)(ns:List Int)(i base:Int)(m:Nat)(h0:0≤i)(hb:0 < base)(hb':base < 1073741824)(hm:m < 1000):∃ xs:List Int,xs.length=m∧(∀ x∈xs,0≤x∧x < base) ∧
  Z0v K A [scD k ns,aI i,aI base,aI m]=.ok (.val (.nd (.lst true) (xs.map aI))) [scD k ns,aI i,aI base,aI m]:=by
 have hmod:∀ y:Int,0≤y % base∧y % base < base:=fun y=>⟨Nt _ (by omega),Nb _ hb⟩
 obtain ⟨s',h1,cell,xs,h2,h3,rfl⟩:=Z9p (lo:=0) (n:=m) (b:=Zt 6) (body:=Z0d K A) (s:=figS k ns i base m (atL ns i) [] .non)
  (fun j s=>∃ (cell:Int) (xs:List Int),xs.length=j∧(∀ x∈xs,0≤x∧x < base)∧s=figS k ns i base m cell xs .non) ⟨atL ns i,[],rfl,by simp,rfl⟩ (by
  rintro j s hj ⟨cell,xs,h1,h2,rfl⟩
  by_cases hz:atL ns 0 % 2=0
  ·refine ⟨_,_,rfl,.inl (Ze7 k hk ns i base m j cell xs hb hb' (by omega) hz),_,_,?_,fun x hx=>?_,rfl⟩
   ·rw [Jh,h1];rfl
   rcases Qf.mp hx with hx | hx
   ·exact h2 x hx
   ·rw [Je.mp hx];exact hmod _
  ·obtain ⟨y,e⟩:=Ze8 (A:=A) k hk ns i base m j cell xs hb (by omega) hz
   refine ⟨_,_,rfl,.inl e,_,_,?_,fun x hx=>?_,rfl⟩
   ·rw [Jh,h1];rfl
   rcases Qf.mp hx with hx | hx
   ·exact h2 x hx
   ·rw [Je.mp hx];exact hmod _)
 exact ⟨xs,h2,h3,ZbY k hk ns i base m h0 hm cell xs h1⟩
theorem Z7G{a:D}(h:DtN 3 a):Z1D A [a,a]=.ok (.val (.at (.bl true))) [a,a]:=ZcR h
noncomputable abbrev aS(x:Str):D:=.at (.str x)
noncomputable abbrev aB(b:Bool):D:=.at (.bl b)
noncomputable abbrev tD(l:List Str):D:=.nd (.lst true) (l.map aS)
theorem imS(l:List Str):D.imms (l.map aS)=true:=Z6C (fun _=>rfl) l
noncomputable def ao(x y:Str):Bool:=x.cps.toList.all fun c=>decide (c∈y.cps.toList)
noncomputable def mo(x y:Str)(m:Int):Bool:=decide (1≤(x.length:Int)) && decide ((x.length:Int)≤m) && ao x y
noncomputable abbrev lets:Str := "abcdefghijklmnopqrstuvwxyz"
noncomputable def gd(x:Str):Bool:=mo x lets 12
noncomputable abbrev moS(x y:Str)(m:Int)(s3:DL):Sd:=[.own true (aS x),.own true (aS y),.own true (aI m),s3,.non,.non,.non]
theorem Zd0(x y:Str)(m:Int)(c:Nat):Z3D K A (moS x y m (.own true (aS ⟨#[c]⟩)))=if c∈y.cps.toList then .nx (moS x y m .non) else .rt (.val (aB false)) (moS x y m (.own true (aS ⟨#[c]⟩))):=by
 have e:=PySem.StrLaws.found_one y c
 unfold Z3D
 by_cases h:c∈y.cps.toList
 ·rw [decide_eq_true h] at e
  rw [if_pos h]
  clear h
  walk_at "evs"
 ·rw [decide_eq_false h] at e
  rw [if_neg h]
  clear h
  walk_at "evs"
theorem Zc6{p:Nat→Bool}{l:List Nat}{i:Nat}{c:Nat}(hc:l[i]?=some c)(h:(l.take i).all p=true)(q:p c=true):(l.take (i + 1)).all p=true:=by
 rw [Nj,hc,List.all_append,h]
 simp [q]
theorem loopGo{x y:Str}{b:Sd→DV→Option Sd}{body:SF}{s:Sd}{t:Nat→Sd}(hb:∀ c,b s (.val (.at (.str ⟨#[c]⟩)))=some (t c))(h:∀ c,body (t c)=if c∈y.cps.toList then .nx s else .rt (.val (aB false)) (t c)) :
  (ao x y=true∧Zx (itS x) b body (x.cps.size + 1) 0 s=.nx s)∨(ao x y=false∧∃ c,Zx (itS x) b body (x.cps.size + 1) 0 s=.rt (.val (aB false)) (t c)):=by
 rcases ZcC (y:=x) (b:=b) (body:=body) (s:=s)
  (fun i s1=>s1=s∧(x.cps.toList.take i).all (fun c=>decide (c∈y.cps.toList))=true)
  (fun r=>(∃ c,r=.rt (.val (aB false)) (t c))∧ao x y=false) ⟨rfl,rfl⟩ (by
  rintro i s1 c hc ⟨rfl,h1⟩
  have hc':x.cps.toList[i]?=some c:=by rw [← hc];simp
  refine ⟨_,hb c,?_⟩
  by_cases q:c∈y.cps.toList
  ·exact .inl ⟨_,.inl (by rw [h,if_pos q]),rfl,Zc6 hc' h1 (decide_eq_true q)⟩
  ·refine .inr ⟨_,_,by rw [h,if_neg q],⟨c,rfl⟩,?_⟩
   unfold ao
   rw [List.all_eq_false]
   exact ⟨c,Qg hc',by simp [q]⟩) with ⟨s',e,rfl,h2⟩ | ⟨r,s',e,⟨c,h2⟩,h3⟩
 ·rw [Ju (by simp)] at h2
  exact .inl ⟨h2,e⟩
 ·exact .inr ⟨h3,c,by rw [e,h2]⟩
theorem ZfQ(x y:Str)(m:Int)(hx:x.length≤16777216):Z3X K A [aS x,aS y,aI m]=.ok (.val (aB (mo x y m))) [aS x,aS y,aI m]:=by
 have lp:=loopGo (x:=x) (y:=y) (b:=Zt 3) (s:=moS x y m .non) (t:=fun c=>moS x y m (.own true (aS ⟨#[c]⟩))) (fun c=>rfl) (Zd0 (K:=K) (A:=A) x y m)
 unfold mo Z3X Z5r
 by_cases h1:(x.length:Int) < 1
 ·have q1:¬ 1≤(x.length:Int):=by omega
  clear lp
  walk_at "evs"
 by_cases h2:(x.length:Int) > m
 ·have q1:1≤(x.length:Int):=by omega
  have q2:¬ (x.length:Int)≤m:=by omega
  clear lp
  walk_at "evs"
 have q1:1≤(x.length:Int):=by omega
 have q2:(x.length:Int)≤m:=by omega
 rcases lp with ⟨h3,lp⟩ | ⟨h3,c,lp⟩
 ·simp only [moS] at lp
  walk_at "evs"
 ·simp only [moS] at lp
  walk_at "evs"
theorem Z7F(x:Str)(hx:x.length≤16777216):Z2a K A [aS x]=.ok (.val (aB (gd x))) [aS x]:=by
 have h:=ZfQ (K:=K) (A:=A) x lets 12 hx
 unfold Z2a Z4a gd
 simp only [lets] at h ⊢
 walk_at "evs"
noncomputable abbrev goS(x:Str)(s1:DL):Sd:=[.own true (aS x),s1,.non]
theorem ZfP(x:Str)(c:Nat):Z2T K A (goS x (.own true (aS ⟨#[c]⟩)))=if c∈lets.cps.toList then .nx (goS x .non) else .rt (.val (aB false)) (goS x (.own true (aS ⟨#[c]⟩))):=by
 have e:=PySem.StrLaws.found_one lets c
 unfold Z2T
 by_cases h:c∈lets.cps.toList
 ·rw [decide_eq_true h] at e
  rw [if_pos h]
  clear h
  simp only [lets] at e
  walk_at "evs"
 ·rw [decide_eq_false h] at e
  rw [if_neg h]
  clear h
  simp only [lets] at e
  walk_at "evs"
theorem ZaB(x:Str)(hx:x.length≤16777216):Z32 K A [aS x]=.ok (.val (aB (gd x))) [aS x]:=by
 have lp:=loopGo (x:=x) (y:=lets) (b:=Zt 1) (s:=goS x .non) (t:=fun c=>goS x (.own true (aS ⟨#[c]⟩))) (fun c=>rfl) (ZfP (K:=K) (A:=A) x)
 unfold gd mo Z32 Z49
 by_cases h1:(x.length:Int) < 1
 ·have q1:¬ 1≤(x.length:Int):=by omega
  clear lp
  walk_at "evs"
 by_cases h2:(x.length:Int) > 12
 ·have q1:1≤(x.length:Int):=by omega
  have q2:¬ (x.length:Int)≤12:=by omega
  clear lp
  walk_at "evs"
 have q1:1≤(x.length:Int):=by omega
 have q2:(x.length:Int)≤12:=by omega
 rcases lp with ⟨h3,lp⟩ | ⟨h3,c,lp⟩
 ·simp only [goS] at lp
  walk_at "evs"
 ·simp only [goS] at lp
  walk_at "evs"
noncomputable abbrev pap:Str := "papercircle"
noncomputable def nmx(st:Str)(j:Int)(c:Nat):Str:=Txt.slice st none (some j)++(⟨#[c]⟩:Str)++Txt.slice st (some j) none
noncomputable def sgn(i:Int):Nat:=lets.cps.toList.getD i.toNat 0
theorem Zc8(i:Int)(h0:0≤i)(h1:i < 26):atI lets.cps.toList i=some (sgn i):=by
 have all:∀ n:Nat,n < 26→atI lets.cps.toList (n:Int)=some (sgn (n:Int)):=by decide +kernel
 have e:((i.toNat:Nat):Int)=i:=by omega
 have:=all i.toNat (by omega)
 rwa [e] at this
theorem Z2O(x y:Str):(x++y).length=x.length + y.length:=Array.size_append
theorem Z62(c:Nat):(⟨#[c]⟩:Str).length=1:=rfl
noncomputable abbrev nsE(K:Qa)(n1:Nat):EF:=(eNw Z0j (Z0 (eNw Z0j (Z0 (eNw (Z1s false) (Z0 (Z3 2) (Z0 (Z3 3) Z1))) (Z0 (eCh (hIx K) (Z0 (Z3 4) (Z0 (eNw hMod (Z0 (eNw Z0j (Z0 (Z3 5) (Z0 (eNw hMul (Z0 (eC (.int (7))) (Z0 (Z3 n1) Z1))) Z1))) (Z0 (eC (.int (26))) Z1))) Z1))) Z1))) (Z0 (eNw (Z1s true) (Z0 (Z3 2) (Z0 (Z3 3) Z1))) Z1)))
noncomputable abbrev nsF(cell m:Int)(st:Str)(j sh:Int)(y:DL):Sd:=[.own true (aI cell),.own true (aI m),.own true (aS st),.own true (aI j),.own true (aS lets),.own true (aI sh),.non,.non,y]
theorem v_nsE(cell m:Int)(st:Str)(j sh k:Int)(h1:st.length≤1000) :
  nsE K 8 (nsF cell m st j sh (.own true (aI k)))=.ok (.val (aS (nmx st j (sgn ((sh + 7 * k) % 26))))) (nsF cell m st j sh (.own true (aI k))):=by
 have e1:=Zc8 ((sh + 7 * k) % 26) (by omega) (by omega)
 have a1:=PyProof.Txt.length_slice_le st none (some j)
 have a2:=PyProof.Txt.length_slice_le st (some j) none
 have b1:(Txt.slice st none (some j)).length + (⟨#[sgn ((sh + 7 * k) % 26)]⟩:Str).length≤16777216:=by rw [Z62];omega
 have b2:(Txt.slice st none (some j)++(⟨#[sgn ((sh + 7 * k) % 26)]⟩:Str)).length + (Txt.slice st (some j) none).length≤16777216:=by rw [Z2O,Z62];omega
 have b3:st.length≤16777216:=by omega
 have b4:(lets:Str).length≤16777216:=by decide +kernel
 simp only [nsE,nsF,nmx]
 generalize hz:(sh + 7 * k) % 26=z at e1 b1 b2 ⊢
 clear a1 a2 h1
 simp only [lets] at *
 walk_at "evs"
theorem Ze5{x y:Str}(h:x.cps.toList=y.cps.toList):x=y:=by
 cases x;cases y
 exact congrArg Str.mk (Array.toList_inj.mp h)
theorem Z4I(x y:Str):(x++y).cps.toList=x.cps.toList++y.cps.toList:=Array.toList_append
theorem Z4k(x y z:Str):ao (x++y) z=(ao x z && ao y z):=by unfold ao;rw [Z4I,List.all_append]
noncomputable def stem(cell:Int):Str:=Txt.slice pap none (some (cell % 12))
noncomputable def spot(cell:Int):Int:=cell / 12 % ((stem cell).length + 1)
noncomputable def nmk(cell:Int)(k:Nat):Str:=nmx (stem cell) (spot cell) (sgn ((cell / 156 % 26 + 7 * (k:Int)) % 26))
noncomputable def nms(cell:Int)(m:Nat):List Str:=(List.range m).map (nmk cell)
noncomputable def StF(st:Str)(j:Int):Prop:=(Txt.slice st none (some j)).length + (Txt.slice st (some j) none).length≤11∧ao (Txt.slice st none (some j)) lets=true∧ao (Txt.slice st (some j) none) lets=true
noncomputable instance (st:Str) (j:Int):Decidable (StF st j):=by unfold StF;infer_instance
theorem Ze3:∀ i:Nat,i < 12→∀ j:Nat,j < (Txt.slice pap none (some (i:Int))).length + 1→StF (Txt.slice pap none (some (i:Int))) (j:Int):=by decide +kernel
theorem ZcS(cell:Int):(stem cell).length≤11:=Jc (PyProof.Txt.length_slice_le pap none _) (by decide +kernel)
theorem Zay(cell:Int):StF (stem cell) (spot cell):=by
 have e1:(((cell % 12).toNat:Nat):Int)=cell % 12:=by omega
 have b1:0≤spot cell:=Nt _ (by omega)
 have b2:spot cell < (stem cell).length + 1:=Nb _ (by omega)
 have e2:(((spot cell).toNat:Nat):Int)=spot cell:=by omega
 have h:=Ze3 (cell % 12).toNat (by omega) (spot cell).toNat (by rw [e1];show _ < (stem cell).length + 1;omega)
 rw [e1,e2] at h
 exact h
theorem Zfz:∀ n:Nat,n < 26→ao ⟨#[sgn (n:Int)]⟩ lets=true:=by decide +kernel
theorem Ze0:∀ n:Nat,n < 26→∀ m:Nat,m < 26→sgn (n:Int)=sgn (m:Int)→n=m:=by decide +kernel
theorem Zao(cell:Int)(k:Nat):(nmk cell k).length≤12:=by
 have h:=(Zay cell).1
 unfold nmk nmx
 rw [Z2O,Z2O,Z62]
 omega
theorem Zf4(cell:Int)(k:Nat):gd (nmk cell k)=true:=by
 have h:=Zay cell
 have e:(((cell / 156 % 26 + 7 * (k:Int)) % 26).toNat:Int)=(cell / 156 % 26 + 7 * (k:Int)) % 26:=by omega
 have h2:=Zfz ((cell / 156 % 26 + 7 * (k:Int)) % 26).toNat (by omega)
 rw [e] at h2
 have l1:=Zao cell k
 have l2:1≤((nmk cell k).length:Int):=by unfold nmk nmx;rw [Z2O,Z2O,Z62];omega
 unfold gd mo
 rw [decide_eq_true l2,decide_eq_true (show ((nmk cell k).length:Int)≤12 by omega)]
 unfold nmk nmx
 rw [Z4k,Z4k,h.2.1,h.2.2,h2];rfl
theorem ZdB(cell:Int)(k m:Nat)(hk:k < 9)(hm:m < 9)(h:nmk cell k=nmk cell m):k=m:=by
 unfold nmk nmx at h
 have h1:=congrArg (fun x:Str=>x.cps.toList) h
 simp only [Z4I] at h1
 have h2:=List.append_cancel_left (List.append_cancel_right h1)
 have h3:sgn ((cell / 156 % 26 + 7 * (k:Int)) % 26)=sgn ((cell / 156 % 26 + 7 * (m:Int)) % 26):=by simpa using h2
 have e:(((cell / 156 % 26 + 7 * (k:Int)) % 26).toNat:Int)=(cell / 156 % 26 + 7 * (k:Int)) % 26:=by omega
 have e':(((cell / 156 % 26 + 7 * (m:Int)) % 26).toNat:Int)=(cell / 156 % 26 + 7 * (m:Int)) % 26:=by omega
 have h4:=Ze0 ((cell / 156 % 26 + 7 * (k:Int)) % 26).toNat (by omega) ((cell / 156 % 26 + 7 * (m:Int)) % 26).toNat (by omega) (by rw [e,e'];exact h3)
 omega
theorem Z87(cell:Int)(m:Nat):(nms cell m).length=m:=by simp [nms]
theorem Zap{cell:Int}{m:Nat}{x:Str}(h:x∈nms cell m):gd x=true∧x.length≤12:=by
 unfold nms at h
 obtain ⟨k,_,rfl⟩:=Jx.mp h
 exact ⟨Zf4 _ _,Zao _ _⟩
theorem Zbu(cell:Int)(m:Nat)(hm:m≤9):(nms cell m).Nodup:=by
 unfold nms
 refine List.Pairwise.map _ (R:=fun a b=>a < 9∧b < 9∧a≠b) (fun a b h e=>h.2.2 (ZdB cell a b h.1 h.2.1 e)) ?_
 have h:(List.range m).Pairwise (fun a b=>a < b):=List.pairwise_lt_range
 refine List.Pairwise.imp_of_mem (fun {a b} ha hb hl=>?_) h
 rw [Nx] at ha hb
 exact ⟨by omega,by omega,by omega⟩
noncomputable def Nw(y:DL):Prop:=y=.non∨∃ n:Int,y=.own true (aI n)
theorem Nw.u{y:DL}(h:Nw y)(j:Nat):Z1l j y=y:=by rcases h with rfl | ⟨n,rfl⟩ <;> rfl
theorem v_names(cell:Int)(m:Nat)(hm:m≤9):Z1Q K A [aI cell,aI m]=.ok (.val (tD (nms cell m))) [aI cell,aI m]:=by
 have hs:=ZcS cell
 obtain ⟨acc,s',h1,y,hy,rfl,rfl⟩:=Z7J (it:=itR 0 m) (n:=8) (c:=bYes) (e:=nsE K 8) (N:=m)
  (P:=fun j acc s=>∃ y,Nw y∧acc=(nms cell j).map aS∧s=nsF cell m (stem cell) (spot cell) (cell / 156 % 26) y)
  (by
   rintro j acc s hj ⟨y,hy,rfl,rfl⟩
   have st:=v_nsE (K:=K) cell m (stem cell) (spot cell) (cell / 156 % 26) (0 + (j:Int)) (by omega)
   refine ⟨.val (aI (0 + j)),nsF cell m (stem cell) (spot cell) (cell / 156 % 26) (.own true (aI (0 + j))),?_,?_,.inl ⟨_,_,_,rfl,st,?_,_,.inr ⟨_,rfl⟩,?_,rfl⟩⟩
   ·unfold itR;rw [if_pos hj]
   ·simp only [Zt,nsF,Qi,Jl,ZbU,ZbT,hy.u,Wx,Qad]
   ·rw [Qo,sz,Z87];omega
   ·unfold nms
    rw [List.range_succ,Jk,Jk]
    simp only [Qi,Jl,nmk,Int.zero_add])
  (by
   rintro acc s ⟨y,hy,rfl,rfl⟩
   unfold itR;rw [if_neg (Jo _)])
  m 0 [] (nsF cell m (stem cell) (spot cell) (cell / 156 % 26) .non) (by omega) ⟨.non,.inl rfl,rfl,rfl⟩
 have b1:(m:Int) < 4611686018427387904:=by omega
 have b2:-4611686018427387904≤(m:Int):=by omega
 have b3:(pap:Str).length≤16777216:=by decide +kernel
 have b4:(stem cell).length≤16777216:=by omega
 have b5:0 < ((stem cell).length:Int) + 1:=by omega
 have uy:=hy.u
 simp only [nsF] at h1
 clear hm hy hs
 have ht:Z46 K A=Z03 (Z3r (Z3 1) (fun _=>bYes) (nsE K)):=rfl
 generalize he:nsE K=g at h1 ht
 clear he
 have s1:Txt.slice pap none (some (cell % 12))=stem cell:=rfl
 have s2:cell / 12 % ((stem cell).length + 1)=spot cell:=rfl
 unfold Z1Q Z3x
 simp only [pap,lets] at *
 walk_at "evs"
noncomputable abbrev nD(l:List Int):D:=.nd (.lst true) (l.map aI)
noncomputable def OkC(x:Str):Prop:=∀ c∈x.cps.toList,c < 16 ^ 8
noncomputable instance (x:Str):Decidable (OkC x):=by unfold OkC;infer_instance
noncomputable def OkT(x:Str):Prop:=x.length≤100∧OkC x
noncomputable instance (x:Str):Decidable (OkT x):=by unfold OkT;infer_instance
theorem ZdF{x y:Str}(h:OkC x)(h':OkC y):OkC (x++y):=by
 intro c hc
 rw [Z4I] at hc
 rcases Qf.mp hc with hc | hc
 ·exact h c hc
 ·exact h' c hc
theorem Zbp{x:Str}{l u:Option Int}{c:Nat}(h:c∈(Txt.slice x l u).cps.toList):c∈x.cps.toList:=by
 unfold Txt.slice at h
 split at h
 ·exact h
 ·obtain ⟨i,_,hi⟩:=Jq.mp h
  have:=Array.mem_of_getElem? hi
  simpa using this
theorem Z8y{x:Str}{l u:Option Int}(h:OkC x):OkC (Txt.slice x l u):=fun c hc=>h c (Zbp hc)
theorem ZcF:OkC lets:=by decide +kernel
theorem Z4t{x:Str}(h:gd x=true):OkT x:=by
 unfold gd mo at h
 rw [Qw,Qw] at h
 have h1:=of_decide_eq_true h.1.2
 refine ⟨by omega,fun c hc=>ZcF c ?_⟩
 have:=List.all_eq_true.mp h.2 c hc
 exact of_decide_eq_true this
theorem Z6V{x:Str}(h:ao x lets=false):gd x=false:=by unfold gd mo;rw [h,Qaa]
theorem Z4s{x y:Str}(hx:x.length≤50)(hy:y.length≤50)(h:OkC x)(h':OkC y):OkT (x++y):=⟨by rw [Z2O];omega,ZdF h h'⟩
noncomputable abbrev tl(x:Str):Str:=Txt.slice x (some 1) none
noncomputable def bads(x:Str):List Str:=["", "abcdefghijklm", "A"++tl x,tl x ++ " ", "1"++tl x,tl x ++ "{", "nine9"]
theorem Zd3{x:Str}(h:gd x=true)(hl:x.length≤12):∀ w∈bads x,gd w=false∧OkT w:=by
 have h1:(tl x).length≤50:=Jc (PyProof.Txt.length_slice_le x _ _) (by omega)
 have h2:OkC (tl x):=Z8y (Z4t h).2
 intro w hw
 simp only [bads,Qx,Wt,or_false] at hw
 rcases hw with rfl | rfl | rfl | rfl | rfl | rfl | rfl
 ·exact ⟨by decide +kernel,by decide +kernel⟩
 ·exact ⟨by decide +kernel,by decide +kernel⟩
 ·exact ⟨Z6V (by rw [Z4k,show ao "A" lets=false from by decide +kernel];rfl),Z4s (by decide +kernel) h1 (by decide +kernel) h2⟩
 ·exact ⟨Z6V (by rw [Z4k,show ao " " lets=false from by decide +kernel,Qaa]),Z4s h1 (by decide +kernel) h2 (by decide +kernel)⟩
 ·exact ⟨Z6V (by rw [Z4k,show ao "1" lets=false from by decide +kernel];rfl),Z4s (by decide +kernel) h1 (by decide +kernel) h2⟩
 ·exact ⟨Z6V (by rw [Z4k,show ao "{" lets=false from by decide +kernel,Qaa]),Z4s h1 (by decide +kernel) h2 (by decide +kernel)⟩
 ·exact ⟨by decide +kernel,by decide +kernel⟩
theorem Z4r(z:Int)(n:Nat)(hn:0 < n):ixN n (z % (n:Int))=some (z % (n:Int)).toNat∧(z % (n:Int)).toNat < n:=by
 have h1:0≤z % (n:Int):=Nt _ (by omega)
 have h2:z % (n:Int) < n:=Nb _ (by omega)
 refine ⟨?_,by omega⟩
 unfold ixN
 rw [if_pos h1,if_pos h2]
theorem get_map{α:Type}(f:α→D)(l:List α)(j:Nat)(h:j < l.length):(l.map f)[j]?=some (f l[j]):=by rw [Qc,Qj h];rfl
noncomputable abbrev wF(f0 f1 f2 f3 f4:Int)(ns:List Str)(s2 s3:DL):Sd:=[.bor 4 [],.bor 5 [],s2,s3,.own false (nD [f0,f1,f2,f3,f4]),.own false (tD ns)]
theorem Zed(f0 f1 f2 f3 f4:Int)(ns:List Str)(x:Str)(h:gd x=true)(hl:x.length≤12) :
  ∃ w s3,(w=x∨gd w=false)∧OkT w∧(s3=.non∨∃ d,s3=.own true d)∧Z2h K A (wF f0 f1 f2 f3 f4 ns (.own true (aS x)) .non)=.rt (.val (aS w)) (wF f0 f1 f2 f3 f4 ns (.own true (aS x)) s3):=by
 by_cases q:f1 % 5=1
 ·obtain ⟨i1,i2⟩:=Z4r (f1 / 5) 7 (by omega)
  have e4:=get_map aS (bads x) (f1 / 5 % 7).toNat i2
  obtain ⟨o1,o2⟩:=Zd3 h hl _ (Wu (h:=i2))
  refine ⟨_,.own true (tD (bads x)),.inr o1,o2,.inr ⟨_,rfl⟩,?_⟩
  have b1:x.length≤16777216:=by omega
  have b2:(tl x).length≤12:=Jc (PyProof.Txt.length_slice_le x _ _) hl
  have b3:(Str.ofString "A").length + (tl x).length≤16777216:=by rw [show (Str.ofString "A").length=1 from by decide +kernel];omega
  have b4:(Str.ofString "1").length + (tl x).length≤16777216:=by rw [show (Str.ofString "1").length=1 from by decide +kernel];omega
  have b5:(tl x).length + (Str.ofString " ").length≤16777216:=by rw [show (Str.ofString " ").length=1 from by decide +kernel];omega
  have b6:(tl x).length + (Str.ofString "{").length≤16777216:=by rw [show (Str.ofString "{").length=1 from by decide +kernel];omega
  clear o1 o2 h hl b2
  generalize (bads x)[(f1 / 5 % 7).toNat]=w at e4 ⊢
  generalize hz:(f1 / 5 % (7:Nat)).toNat=z at *
  generalize hz2:(f1 / 5 % 7:Int)=z2 at *
  simp only [bads,Qi,Jl,tl] at *
  unfold Z2h
  walk_at "evs"
  rfl
 ·refine ⟨x,.non,.inl rfl,Z4t h,.inl rfl,?_⟩
  clear h hl
  unfold Z2h
  walk_at "evs"
theorem v_who(f0 f1 f2 f3 f4:Int)(ns:List Str)(hn:ns.length=9)(hx:∀ x∈ns,gd x=true∧x.length≤12) :
  ∃ w,(w∈ns∨gd w=false)∧OkT w∧Z3p K A [nD [f0,f1,f2,f3,f4],tD ns]=.ok (.val (aS w)) [nD [f0,f1,f2,f3,f4],tD ns]:=by
 obtain ⟨i1,i2⟩:=Z4r f0 9 (by omega)
 have i3:(f0 % (9:Nat)).toNat < ns.length:=by omega
 have e:=get_map aS ns _ i3
 have hm:=Wu (h:=i3)
 generalize ns[(f0 % (9:Nat)).toNat]=x at e hm
 obtain ⟨h1,h2⟩:=hx x hm
 obtain ⟨w,s3,hw,ho,h3,t⟩:=Zed (K:=K) (A:=A) f0 f1 f2 f3 f4 ns x h1 h2
 refine ⟨w,?_,ho,?_⟩
 ·rcases hw with rfl | hw
  ·exact .inl hm
  ·exact .inr hw
 clear hw ho h1 h2 hm hx i2 i3
 simp only [wF] at t
 have i4:ixN ns.length (f0 % 9)=some (f0 % (9:Nat)).toNat:=by rw [hn];exact i1
 clear i1 hn
 generalize (f0 % (9:Nat)).toNat=z at *
 unfold Z3p Z4K
 rcases h3 with rfl | ⟨d,rfl⟩
 ·walk_at "evs"
 ·walk_at "evs"
noncomputable abbrev dD(w kd:Str)(lo hi:Int):D:=.nd .tup [aS w,aS kd,aI lo,aI hi]
noncomputable abbrev waF(f0 f1 f2 f3 f4:Int)(ns ks:List Str)(s3 s4 s5:DL):Sd:=[.bor 6 [],.bor 7 [],.bor 8 [],s3,s4,s5,.own false (nD [f0,f1,f2,f3,f4]),.own false (tD ns),.own false (tD ks)]
theorem Zc3(f0 f1 f2 f3 f4:Int)(ns ks:List Str)(hn:ns.length=9)(hx:∀ x∈ns,gd x=true∧x.length≤12)(kd:Str)(lo hi:Int) :
  ∃ w,(w∈ns∨gd w=false)∧OkT w∧Z2t K A (waF f0 f1 f2 f3 f4 ns ks (.own true (aS kd)) (.own true (aI lo)) (.own true (aI hi)))=.rt (.val (dD w kd lo hi)) (waF f0 f1 f2 f3 f4 ns ks (.own true (aS kd)) (.own true (aI lo)) (.own true (aI hi))):=by
 obtain ⟨w,h1,h2,h3⟩:=v_who (K:=K) (A:=A) f0 f1 f2 f3 f4 ns hn hx
 refine ⟨w,h1,h2,?_⟩
 clear h1 h2 hx hn
 unfold Z2t
 walk_at "evs"
theorem Zc2(f0 f1 f2 f3 f4:Int)(ns ks:List Str)(hn:ns.length=9)(hx:∀ x∈ns,gd x=true∧x.length≤12)(kd:Str)(h0:0≤f3) :
  ∃ w lo hi,(w∈ns∨gd w=false)∧OkT w∧-2≤lo∧lo≤11∧-2≤hi∧hi≤20∧Z1y K A (waF f0 f1 f2 f3 f4 ns ks (.own true (aS kd)) .non .non)=.rt (.val (dD w kd lo hi)) (waF f0 f1 f2 f3 f4 ns ks (.own true (aS kd)) (.own true (aI lo)) (.own true (aI hi))):=by
 have c0:0 < 9 - (1 + f3 % 8):=by omega
 have c1:0≤f3 / 8 % (9 - (1 + f3 % 8)):=Nt _ (by omega)
 have c2:f3 / 8 % (9 - (1 + f3 % 8)) < 9 - (1 + f3 % 8):=Nb _ (by omega)
 by_cases q:f4 / 72 % 3=1
 ·obtain ⟨w,h1,h2,h3⟩:=Zc3 (K:=K) (A:=A) f0 f1 f2 f3 f4 ns ks hn hx kd (f3 % 14 - 2) (f3 / 14 % 14 - 2)
  refine ⟨w,f3 % 14 - 2,f3 / 14 % 14 - 2,h1,h2,by omega,by omega,by omega,by omega,?_⟩
  clear h1 h2 hx hn c1 c2 h0
  unfold Z1y
  simp only [waF] at h3 ⊢
  walk_at "evs"
 ·obtain ⟨w,h1,h2,h3⟩:=Zc3 (K:=K) (A:=A) f0 f1 f2 f3 f4 ns ks hn hx kd (1 + f3 % 8) (1 + f3 % 8 + f3 / 8 % (9 - (1 + f3 % 8)))
  refine ⟨w,1 + f3 % 8,1 + f3 % 8 + f3 / 8 % (9 - (1 + f3 % 8)),h1,h2,by omega,by omega,by omega,by omega,?_⟩
  clear h1 h2 hx hn c1 c2 h0
  unfold Z1y
  simp only [waF] at h3 ⊢
  walk_at "evs"
noncomputable def bkd(x:Str):List Str:=["",x ++ "s",tl x, "A"]
theorem Zeh{x:Str}(h:gd x=true)(hl:x.length≤12):∀ w∈bkd x,OkT w:=by
 have h1:(tl x).length≤50:=Jc (PyProof.Txt.length_slice_le x _ _) (by omega)
 have h2:OkC (tl x):=Z8y (Z4t h).2
 intro w hw
 simp only [bkd,Qx,Wt,or_false] at hw
 rcases hw with rfl | rfl | rfl | rfl
 ·decide +kernel
 ·exact Z4s (by omega) (by decide +kernel) (Z4t h).2 (by decide +kernel)
 ·exact ⟨by omega,h2⟩
 ·decide +kernel
theorem Zd1(f0 f1 f2 f3 f4:Int)(ns ks:List Str)(hn:ns.length=9)(hx:∀ x∈ns,gd x=true∧x.length≤12)(hk0:0 < ks.length)(hk:∀ x∈ks,gd x=true∧x.length≤12)(h0:0≤f3) :
  ∃ w kd lo hi,(w∈ns∨gd w=false)∧OkT w∧OkT kd∧-2≤lo∧lo≤11∧-2≤hi∧hi≤20∧Z0I K A [nD [f0,f1,f2,f3,f4],tD ns,tD ks]=.ok (.val (dD w kd lo hi)) [nD [f0,f1,f2,f3,f4],tD ns,tD ks]:=by
 obtain ⟨i1,i2⟩:=Z4r f2 ks.length hk0
 have e:=get_map aS ks _ i2
 have hm:=Wu (h:=i2)
 generalize ks[(f2 % (ks.length:Int)).toNat]=x at e hm
 obtain ⟨g1,g2⟩:=hk x hm
 have k0:0 < (ks.length:Int):=by omega
 by_cases q:f2 / 4 % 6=1
 ·obtain ⟨j1,j2⟩:=Z4r (f2 / 24) 4 (by omega)
  have e4:=get_map aS (bkd x) (f2 / 24 % 4).toNat j2
  have o1:=Zeh g1 g2 _ (Wu (h:=j2))
  generalize (bkd x)[(f2 / 24 % 4).toNat]=kd at e4 o1
  obtain ⟨w,lo,hi,h1,h2,h3,h4,h5,h6,h7⟩:=Zc2 (K:=K) (A:=A) f0 f1 f2 f3 f4 ns ks hn hx kd h0
  refine ⟨w,kd,lo,hi,h1,h2,o1,h3,h4,h5,h6,?_⟩
  have b1:x.length≤16777216:=by omega
  have b2:x.length + (Str.ofString "s").length≤16777216:=by rw [show (Str.ofString "s").length=1 from by decide +kernel];omega
  clear h1 h2 h3 h4 h5 h6 o1 g1 g2 hx hk hn i2 hm h0 hk0 j2
  generalize (f2 % (ks.length:Int)).toNat=z at *
  generalize hy:(f2 / 24 % 4).toNat=y at *
  have j3:ixN 4 (f2 / 24 % 4)=some y:=j1
  clear j1 hy
  simp only [bkd,Qi,Jl,tl,waF] at *
  unfold Z0I Z2e
  walk_at "evs"
 ·obtain ⟨w,lo,hi,h1,h2,h3,h4,h5,h6,h7⟩:=Zc2 (K:=K) (A:=A) f0 f1 f2 f3 f4 ns ks hn hx x h0
  refine ⟨w,x,lo,hi,h1,h2,Z4t g1,h3,h4,h5,h6,?_⟩
  clear h1 h2 h3 h4 h5 h6 g1 g2 hx hk hn i2 hm h0 hk0
  generalize (f2 % (ks.length:Int)).toNat=z at *
  simp only [waF] at h7
  unfold Z0I Z2e
  walk_at "evs"
structure Hs where
 nm:Str
 kd:Str
 lo:Int
 hi:Int
 st:Bool
noncomputable def acD(A:Adr):D:=.nd (.ins true A.c_Account Z0a) [.nd (.dic true []) [],aI 0,aI 0,aI 0,.nd (.lst true) []]
noncomputable def hsD(A:Adr)(h:Hs):D:=.nd (.ins true A.c_House Z0l) [aS h.nm,aS h.kd,aI h.lo,aI h.hi,aB h.st,.at .non,.nd (.lst true) [],acD A]
noncomputable def kyS(h:Hs):Key:=.inr h.nm
noncomputable def mbD(A:Adr)(hs:List Hs):D:=.nd (.ins true A.c_Houses Z13) [.nd (.dic true (hs.map kyS)) (hs.map (hsD A))]
noncomputable def sfD(A:Adr)(n:Int):D:=.nd (.ins true A.c_Shelf Z0w) [aI n,.nd (.lst true) [],.nd (.dit true []) [],.nd (.dic true []) []]
noncomputable def prD(A:Adr):D:=.nd (.ins true A.c_Prices Z35) [.nd (.dic true []) []]
noncomputable def ciD(A:Adr)(ks:List Str)(hs:List Hs)(dd:List Str):D:=.nd (.ins true A.c_Circle Ze) [tD ks,aI 0,mbD A hs,sfD A ks.length,prD A,.nd (.lst true) [],tD dd]
theorem im_ac:(acD A).imm=false:=rfl
theorem im_hs(h:Hs):(hsD A h).imm=false:=rfl
theorem Z14(hs:List Hs):(mbD A hs).imm=false:=rfl
theorem im_sf(n:Int):(sfD A n).imm=false:=rfl
theorem im_pr:(prD A).imm=false:=rfl
theorem ZW(ks:List Str)(hs:List Hs)(dd:List Str):(ciD A ks hs dd).imm=false:=rfl
theorem ob_hs(h:Hs)(n:Str)(q:Z0l.contains n=false):Zo A.c_House n (hsD A h)=true:=by simp only [hsD,Zo,q];simp
theorem Z33(hs:List Hs)(n:Str)(q:Z13.contains n=false):Zo A.c_Houses n (mbD A hs)=true:=by simp only [mbD,Zo,q];simp
theorem Z20(ks:List Str)(hs:List Hs)(dd:List Str)(n:Str)(q:Ze.contains n=false):Zo A.c_Circle n (ciD A ks hs dd)=true:=by simp only [ciD,Zo,q];simp
theorem ZbV:Z11 K A [.nd (.ins true A.c_Account []) []]=.ok (.val (.at .non)) [acD A]:=by
 unfold Z11 Z1N acD
 walk_at "evs"
theorem Ze9(h:Hs)(hst:h.st=true):Z1p K A [.nd (.ins true A.c_House []) [],aS h.nm,aS h.kd,aI h.lo,aI h.hi]=.ok (.val (.at .non)) [hsD A h,aS h.nm,aS h.kd,aI h.lo,aI h.hi]:=by
 have h1:=ZbV (K:=K) (A:=A)
 have h2:=im_ac (A:=A)
 unfold Z1p Z2i hsD
 walk_at "evs"
theorem ZcZ(h:Hs):Z2f K A [hsD A h]=.ok (.val (.at .non)) [hsD A { h with st:=false }]:=by
 have h1:Z1c K A [hsD A h]=.ok (.val (.at .non)) [hsD A h]:=by
  have h2:=im_ac (A:=A)
  unfold Z1c Z23 hsD
  walk_at "evs"
 have h2:=im_hs (A:=A)
 have h3:=ob_hs (A:=A) h "give_back" Z36
 have h4:=im_ac (A:=A)
 unfold Z2f Z3e
 simp only [hsD] at *
 walk_at "evs"
theorem v_mb0:Z1d K A [.nd (.ins true A.c_Houses []) []]=.ok (.val (.at .non)) [mbD A []]:=by
 unfold Z1d Z24 mbD
 walk_at "evs"
theorem v_sf0(n:Int):Z1r K A [.nd (.ins true A.c_Shelf []) [],aI n]=.ok (.val (.at .non)) [sfD A n,aI n]:=by
 unfold Z1r Z2k sfD
 walk_at "evs"
theorem v_pr0:Z1f K A [.nd (.ins true A.c_Prices []) []]=.ok (.val (.at .non)) [prD A]:=by
 unfold Z1f Z25 prD
 walk_at "evs"
theorem Z1U:∀ l:List Str,Z1z (l.map aS)=some (l.map V.str)
 | []=>rfl
 | x::l=>by rw [Qi,Z1z,if_pos (by rfl),Z1U l];rfl
theorem eqV_S(x y:Str):eqV (.str y) (.str x)=(y == x):=rfl
theorem inV_S(x:Str)(l:List Str):inV (.str x) (l.map V.str)=decide (x∈l):=by
 unfold inV
 rw [List.any_map,Wn,List.any_eq_true,decide_eq_true_eq]
 constructor
 ·rintro ⟨y,hy,e⟩
  have:y=x:=by simpa [eqV_S] using e
  exact this ▸ hy
 ·exact fun h=>⟨x,h,by simp [eqV_S]⟩
theorem cnt_S(x:Str):∀ l:List Str,l.Nodup→(l.map V.str).countP (fun y=>eqV y (V.str x))≤1
 | [],_=>by simp
 | y::l,h=>by
  obtain ⟨h1,h2⟩:=Jr.mp h
  rw [Qi,Gk,eqV_S]
  by_cases e:y=x
  ·subst e
   have:(l.map V.str).countP (fun z=>eqV z (V.str y))=0:=by
    rw [List.countP_eq_zero]
    intro z hz
    obtain ⟨u,hu,rfl⟩:=Jx.mp hz
    rw [eqV_S]
    intro q
    have:u=y:=by simpa using q
    exact h1 (this ▸ hu)
   rw [this];split <;> omega
  ·have:=cnt_S x l h2
   rw [if_neg (by simpa using e)];exact this
theorem v_ck(ks:List Str)(h1:1≤ks.length)(h4:ks.length≤4)(hd:ks.Nodup)(hk:∀ x∈ks,gd x=true∧x.length≤12):Z2g K A [tD ks]=.ok (.val (.at .non)) [tD ks]:=by
 obtain ⟨s',lp,rfl⟩:=ZcB (t:=false) (n:=3) (k:=2) (p:=[]) (l:=ks.map aS) (kd:=.lst true) (b:=Zt 1) (body:=Z2n K A) (s:=[.bor 2 [],.non,.own false (tD ks),.bor 2 []]) (.inl ⟨rfl,true,rfl⟩)
  (fun i s=>s=[.bor 2 [],.non,.own false (tD ks),.bor 2 []]) rfl (by rintro i s rfl;exact ⟨rfl,rfl⟩) (by
  rintro i s c hc rfl
  rw [Qc] at hc
  cases eb:ks[i]? with
  | none=>rw [eb] at hc;cases hc
  | some b =>
   rw [eb] at hc
   cases hc
   obtain ⟨g1,g2⟩:=hk b (Qg eb)
   have g3:=Z7F (K:=K) (A:=A) b (by omega)
   have g4:=cnt_S b ks hd
   have g5:¬ (((ks.map V.str).countP (fun y=>eqV y (V.str b)):Nat):Int) > 1:=by omega
   have g6:=Z1U ks
   refine ⟨_,_,rfl,.inl ?_,rfl⟩
   clear hk hd eb g2 g4 h1 h4
   unfold Z2n
   walk_at "evs")
 simp only [Qo] at lp
 have q1:¬ (ks.length:Int) < 1:=by omega
 have q2:¬ (ks.length:Int) > 4:=by omega
 clear hk hd h1 h4
 unfold Z2g Z3f
 walk_at "evs"
theorem ZcW(ks:List Str)(h1:1≤ks.length)(h4:ks.length≤4)(hd:ks.Nodup)(hk:∀ x∈ks,gd x=true∧x.length≤12):Z1b K A [.nd (.ins true A.c_Circle []) [],tD ks]=.ok (.val (.at .non)) [ciD A ks [] [],tD ks]:=by
 have a1:=v_ck (K:=K) (A:=A) ks h1 h4 hd hk
 have a2:=v_mb0 (K:=K) (A:=A)
 have a3:=v_sf0 (K:=K) (A:=A) ks.length
 have a4:=v_pr0 (K:=K) (A:=A)
 have a5:=Z14 (A:=A)
 have a6:=im_sf (A:=A)
 have a7:=im_pr (A:=A)
 have a8:=imS ks
 clear h1 h4 hd hk
 unfold Z1b Z22
 simp only [ciD]
 walk_at "evs"
 rfl
noncomputable def pos(hs:List Hs)(x:Str):Option Nat:=idk (Sum.inr x:Key) (hs.map kyS)
theorem pos_none{hs:List Hs}{x:Str}(h:pos hs x=none):x∉hs.map Hs.nm:=by
 intro hm
 obtain ⟨y,hy,rfl⟩:=Jx.mp hm
 unfold pos idk at h
 have:=Gf.mp h (kyS y) (Jx.mpr ⟨y,hy,rfl⟩)
 simp [kyS] at this
theorem Z9A{hs:List Hs}{x:Str}{j:Nat}(h:pos hs x=some j):∃ y,hs[j]?=some y∧y.nm=x:=by
 unfold pos idk at h
 obtain ⟨h1,h2,_⟩:=Jz.mp h
 rw [Qo] at h1
 refine ⟨hs[j],Qj h1,?_⟩
 have h3:=of_decide_eq_true h2
 rw [List.getElem_map] at h3
 exact Sum.inr.inj h3
theorem Z6M{x:Str}(h:OkT x):Z4m [.at (.str x)]=some (.at (.str (reprText x))):=by
 show (if x.length≤1000∧∀ c∈x.cps.toList,c < 16 ^ 8 then some (D.at (V.str (reprText x))) else none)=_
 rw [if_pos ⟨by have:=h.1;omega,h.2⟩]
theorem ZfG(hs:List Hs)(w:Str)(ho:OkT w)(hg:gd w=false):ZF K A [mbD A hs,aS w]=.ex "BadName" [mbD A hs,aS w]:=by
 have g:=Z7F (K:=K) (A:=A) w (by have:=ho.1;omega)
 have r:=Z6M ho
 have i:=Z14 (A:=A)
 clear ho
 unfold ZF Z0B
 walk_at "evs"
theorem ZfH(hs:List Hs)(w:Str)(j:Nat)(ho:OkT w)(hg:gd w=true)(hj:pos hs w=some j):ZF K A [mbD A hs,aS w]=.ex "KnownHouse" [mbD A hs,aS w]:=by
 have b:w.length≤16777216:=by have:=ho.1;omega
 have g:=Z7F (K:=K) (A:=A) w b
 have i:=Z14 (A:=A) hs
 clear ho
 unfold pos at hj
 unfold ZF Z0B
 simp only [mbD] at i ⊢
 walk_at "evs"
theorem ZbX(hs:List Hs)(w:Str)(ho:OkT w)(hg:gd w=true)(hj:pos hs w=none):ZF K A [mbD A hs,aS w]=.ok (.val (.at .non)) [mbD A hs,aS w]:=by
 have b:w.length≤16777216:=by have:=ho.1;omega
 have g:=Z7F (K:=K) (A:=A) w b
 have i:=Z14 (A:=A) hs
 clear ho
 unfold pos at hj
 unfold ZF Z0B
 simp only [mbD] at i ⊢
 walk_at "evs"

noncomputable def Fs(s:Sd):List EF→List Str→Prop
 | [],[]=>True
 | f::fs,y::ys=>f s=.ok (.val (aS y)) s∧y.length≤200∧Fs s fs ys
 | _,_=>False
theorem Z61{s:Sd}:∀ (fs:List EF) (ys:List Str) (acc:Str),Fs s fs ys→acc.length + 200 * ys.length≤16777216→∃ z,z.length≤acc.length + 200 * ys.length∧Z1a fs acc s=.ok (.val (aS z)) s
 | [],[],acc,_,h=>⟨acc,by simp,by unfold Z1a;rw [sz,if_pos (by simpa using h)]⟩
 | f::fs,y::ys,acc,⟨h1,h2,h3⟩,h=>by
  rw [Jp] at h
  have e:(acc++y).length=acc.length + y.length:=Z2O _ _
  obtain ⟨z,hz,q⟩:=Z61 fs ys (acc++y) h3 (by omega)
  refine ⟨z,by rw [Jp];omega,?_⟩
  unfold Z1a
  rw [h1]
  dsimp only
  rw [sz,if_pos (by omega),q]
 | [],_::_,_,h,_=>h.elim
 | _::_,[],_,h,_=>h.elim
theorem fmtS{s:Sd}{j:Nat}{x:Str}(h:s[j]?=some (.own true (aS x)))(hx:x.length≤16777216):eNw Z0K (Z0 (Z3 j) Z1) s=.ok (.val (aS x)) s:=by
 walk_at "evs"
theorem fmtI{s:Sd}{j:Nat}{i:Int}(h:s[j]?=some (.own true (aI i)))(hx:i.natAbs.log2 < 1920):eNw Z0K (Z0 (Z3 j) Z1) s=.ok (.val (aS (toString i))) s:=by
 walk_at "evs"
noncomputable def Sm(i:Int):Prop:=-2≤i∧i≤20
theorem Sm.log{i:Int}(h:Sm i):i.natAbs.log2 < 1920:=ZdD (by have:=h.1;have:=h.2;omega)
theorem Sm.len{i:Int}(h:Sm i):(Str.ofString (toString i)).length≤200:=Jc (ZdC (by have:=h.1;have:=h.2;omega)) (by decide)
noncomputable abbrev cwF(A:Adr)(ks:List Str)(hs:List Hs)(dd:List Str)(kd:Str)(lo hi:Int):Sd:=[.bor 4 [],.own true (aS kd),.own true (aI lo),.own true (aI hi),.own false (ciD A ks hs dd),.non,.non,.non]
theorem ZfI(ks:List Str)(hs:List Hs)(dd:List Str)(kd:Str)(lo hi:Int)(ho:OkT kd)(hk:kd∉ks):Zz K A [ciD A ks hs dd,aS kd,aI lo,aI hi]=.ex "UnknownKind" [ciD A ks hs dd,aS kd,aI lo,aI hi]:=by
 have r:=Z6M ho
 have a1:=Z1U ks
 have a2:=inV_S kd ks
 rw [decide_eq_false hk] at a2
 have i:=ZW (A:=A) ks hs dd
 clear ho
 unfold Zz Z0q
 simp only [ciD] at i ⊢
 walk_at "evs"
theorem ZfJ(ks:List Str)(hs:List Hs)(dd:List Str)(kd:Str)(lo hi:Int)(h1:Sm lo)(h2:Sm hi)(hk:kd∈ks)(hb:lo < 1∨lo > hi∨hi > 8):Zz K A [ciD A ks hs dd,aS kd,aI lo,aI hi]=.ex "BadAges" [ciD A ks hs dd,aS kd,aI lo,aI hi]:=by
 obtain ⟨z,_,j⟩:=Z61 (s:=cwF A ks hs dd kd lo hi) [eNw Z0K (Z0 (Z3 2) Z1),eC (.str " to "),eNw Z0K (Z0 (Z3 3) Z1)] [toString lo, " to ",toString hi] Str.empty ⟨fmtI rfl h1.log,h1.len,rfl,by decide +kernel,fmtI rfl h2.log,h2.len,trivial⟩ (show Str.empty.length + 200 * 3≤16777216 by decide +kernel)
 have a1:=Z1U ks
 have a2:=inV_S kd ks
 rw [decide_eq_true hk] at a2
 have i:=ZW (A:=A) ks hs dd
 clear h1 h2 hk
 unfold Zz Z0q
 simp only [ciD,cwF] at i j ⊢
 by_cases q1:lo < 1
 ·clear hb
  walk_at "evs"
 ·by_cases q2:hi < lo
  ·clear hb
   walk_at "evs"
  ·have q3:hi > 8:=by omega
   clear hb
   walk_at "evs"
theorem ZfK(ks:List Str)(hs:List Hs)(dd:List Str)(kd:Str)(lo hi:Int)(hk:kd∈ks)(hb:¬ (lo < 1∨lo > hi∨hi > 8)):Zz K A [ciD A ks hs dd,aS kd,aI lo,aI hi]=.ok (.val (.at .non)) [ciD A ks hs dd,aS kd,aI lo,aI hi]:=by
 have a1:=Z1U ks
 have a2:=inV_S kd ks
 rw [decide_eq_true hk] at a2
 have i:=ZW (A:=A) ks hs dd
 have q1:¬ lo < 1:=by omega
 have q2:¬ hi < lo:=by omega
 have q3:¬ hi > 8:=by omega
 clear hk hb
 unfold Zz Z0q
 simp only [ciD] at i ⊢
 walk_at "evs"
theorem ZeE(h:Hs):fldD A.c_House "stands" (hsD A h)=some (aB h.st):=by
 simp only [hsD,fldD,Z3Z,if_true,Nh,Jy]
theorem ZeD(h:Hs):fldD A.c_House "name" (hsD A h)=some (aS h.nm):=by
 simp only [hsD,fldD,Z5c,if_true,Nh,Jy]
theorem st_bs:∀ hs:List Hs,stBs A.c_House "stands" (hs.map (hsD A))=some (hs.map Hs.st)
 | []=>rfl
 | h::hs=>by rw [Qi,stBs,ZeE,st_bs hs];rfl
theorem st_mb(hs:List Hs):stOf A.c_Houses A.c_House "joined" "stands" (mbD A hs)=some (hs.map (hsD A),hs.map Hs.st):=by
 have e:fldD A.c_Houses "joined" (mbD A hs)=some (.nd (.dic true (hs.map kyS)) (hs.map (hsD A))):=by
  simp only [mbD,fldD,Z3A,if_true,Jy]
 unfold stOf
 rw [e]
 dsimp only
 rw [st_bs]
theorem ZaV(hs:List Hs)(hl:hs.length≤9):∃ l:List D,l.length≤9∧Z1e K A [mbD A hs]=.ok (.val (.nd (.lst true) l)) [mbD A hs]:=by
 refine ⟨(Z0g (hs.map Hs.st) (hs.map (hsD A))).map fun _=>hole,?_,?_⟩
 ·rw [Qo]
  exact Jc Z68 (by rw [Qo];exact hl)
 ·unfold Z1e fSt
  simp only [st_mb]
  rw [if_pos (by rw [Qo];omega)]
theorem ZfT(hs:List Hs)(hl:hs.length≤9):Z0T K A [mbD A hs]=.ok (.val (.at .non)) [mbD A hs]:=by
 obtain ⟨l,h1,h2⟩:=ZaV (K:=K) (A:=A) hs hl
 have q1:¬ (l.length:Int)≥20:=by omega
 have q2:¬ (hs.length:Int)≥60:=by omega
 have o:=Z33 (A:=A) hs "standing" Z1R
 have i:=Z14 (A:=A) hs
 clear hl h1
 unfold Z0T Z1F
 simp only [mbD] at *
 walk_at "evs"
theorem ZbW(ks:List Str)(hs:List Hs)(dd:List Str)(hl:dd.length < 400):Z0r K A [ciD A ks hs dd]=.ok (.val (.at .non)) [ciD A ks hs dd]:=by
 have q1:¬ (dd.length:Int)≥400:=by omega
 have i:=ZW (A:=A) ks hs dd
 clear hl
 unfold Z0r Z1E
 simp only [ciD] at *
 walk_at "evs"
theorem Zee(ks:List Str)(hs:List Hs)(dd:List Str)(row:Str)(hl:dd.length < 400):Z1Y K A [ciD A ks hs dd,aS row]=.ok (.val (.at .non)) [ciD A ks hs (dd++[row]),aS row]:=by
 have q1:dd.length < 16777216:=by omega
 have i:=ZW (A:=A) ks hs dd
 clear hl
 unfold Z1Y Z2Q
 simp only [ciD] at *
 walk_at "evs"
 simp
theorem v_add(hs:List Hs)(h:Hs)(hst:h.st=true)(hl:hs.length≤9)(hp:pos hs h.nm=none):Z2C K A [mbD A hs,aS h.nm,aS h.kd,aI h.lo,aI h.hi]=.ok (.val (aI (hs.length + 1))) [mbD A (hs++[h]),aS h.nm,aS h.kd,aI h.lo,aI h.hi]:=by
 have q1:hs.length < 16777216:=by omega
 have i:=Z14 (A:=A) hs
 have a1:=Ze9 (K:=K) (A:=A) h hst
 have a2:=im_hs (A:=A) h
 have e:hs.map kyS++[Sum.inr h.nm]=(hs++[h]).map kyS:=by simp [kyS]
 have e2:hs.map (hsD A)++[hsD A h]=(hs++[h]).map (hsD A):=by simp
 unfold pos at hp
 clear hl hst
 unfold Z2C Z3w
 simp only [mbD] at *
 walk_at "evs"
 rfl
noncomputable abbrev joF(A:Adr)(ks:List Str)(hs:List Hs)(dd:List Str)(h:Hs):Sd:=[.bor 5 [],.own true (aS h.nm),.own true (aS h.kd),.own true (aI h.lo),.own true (aI h.hi),.own true (ciD A ks hs dd),.non,.non,.non,.non]
theorem ZfN(ks:List Str)(hs:List Hs)(dd:List Str)(h:Hs)(hst:h.st=true)(hl:hs.length≤9)(hp:pos hs h.nm=none):Z2s K A (joF A ks hs dd h)=.rt (.val (aI (hs.length + 1))) (joF A ks (hs++[h]) dd h):=by
 have a:=v_add (K:=K) (A:=A) hs h hst hl hp
 have o:=Z33 (A:=A) hs "add" Z5b
 have i:=Z14 (A:=A)
 have i2:=ZW (A:=A) ks hs dd
 clear hst hl hp
 unfold Z2s
 simp only [joF,ciD] at *
 walk_at "evs"
theorem ZfM(ks:List Str)(hs:List Hs)(dd:List Str)(h:Hs)(hst:h.st=true)(hl:hs.length≤9)(hp:pos hs h.nm=none)(hd:dd.length < 400)(o1:OkT h.nm)(o2:OkT h.kd)(o3:Sm h.lo)(o4:Sm h.hi) :
  ∃ row,Z2r K A (joF A ks hs dd h)=.rt (.val (aI (hs.length + 1))) (joF A ks (hs++[h]) (dd++[row]) h):=by
 obtain ⟨z,_,j⟩:=Z61 (s:=joF A ks hs dd h++[.bor 5 []]) [eC (.str "join "),eNw Z0K (Z0 (Z3 1) Z1),eC (.str " "),eNw Z0K (Z0 (Z3 2) Z1),eC (.str " "),eNw Z0K (Z0 (Z3 3) Z1),eC (.str " "),eNw Z0K (Z0 (Z3 4) Z1)] ["join ",h.nm, " ",h.kd, " ",toString h.lo, " ",toString h.hi] Str.empty
  ⟨rfl,by decide +kernel,fmtS rfl (by have:=o1.1;omega),by have:=o1.1;omega,rfl,by decide +kernel,fmtS rfl (by have:=o2.1;omega),by have:=o2.1;omega,rfl,by decide +kernel,fmtI rfl o3.log,o3.len,rfl,by decide +kernel,fmtI rfl o4.log,o4.len,trivial⟩ (show Str.empty.length + 200 * 8≤16777216 by decide +kernel)
 refine ⟨z,?_⟩
 have a:=Zee (K:=K) (A:=A) ks hs dd z hd
 have t:=ZfN (K:=K) (A:=A) ks hs (dd++[z]) h hst hl hp
 have o:=Z20 (A:=A) ks hs dd "write" Z2D
 have i:=ZW (A:=A) ks hs
 clear hst hl hp hd o1 o2 o3 o4
 unfold Z2r
 simp only [joF,Jj,Js] at *
 walk_at "evs"
theorem ZfL(ks:List Str)(hs:List Hs)(dd:List Str)(h:Hs)(hst:h.st=true)(hl:hs.length≤9)(hp:pos hs h.nm=none)(hd:dd.length < 400)(o1:OkT h.nm)(o2:OkT h.kd)(o3:Sm h.lo)(o4:Sm h.hi) :
  ∃ row,Z1x K A (joF A ks hs dd h)=.rt (.val (aI (hs.length + 1))) (joF A ks (hs++[h]) (dd++[row]) h):=by
 obtain ⟨z,t⟩:=ZfM (K:=K) (A:=A) ks hs dd h hst hl hp hd o1 o2 o3 o4
 refine ⟨z,?_⟩
 have t4:Z2q K A (joF A ks hs dd h)=.rt (.val (aI (hs.length + 1))) (joF A ks (hs++[h]) (dd++[z]) h):=by
  have a:=ZbW (K:=K) (A:=A) ks hs dd hd
  have o:=Z20 (A:=A) ks hs dd "check_book" Z1t
  have i:=ZW (A:=A) ks hs
  clear hst hl hp hd o1 o2 o3 o4
  unfold Z2q
  simp only [joF] at *
  walk_at "evs"
 have a:=ZfT (K:=K) (A:=A) hs hl
 have o:=Z33 (A:=A) hs "check_room" Z2E
 have i:=Z14 (A:=A) hs
 have i2:=ZW (A:=A) ks hs dd
 clear hst hl hp hd o1 o2 o3 o4 t
 unfold Z1x
 simp only [joF,ciD] at *
 walk_at "evs"
theorem Zbh(ks:List Str)(hs:List Hs)(dd:List Str)(h:Hs)(C:Str)(a:ZF K A [mbD A hs,aS h.nm]=.ex C [mbD A hs,aS h.nm]) :
  Z09 K A [ciD A ks hs dd,aS h.nm,aS h.kd,aI h.lo,aI h.hi]=.ex C [ciD A ks hs dd,aS h.nm,aS h.kd,aI h.lo,aI h.hi]:=by
 have o:=Z33 (A:=A) hs "check_new" Z1G
 have i:=Z14 (A:=A) hs
 have i2:=ZW (A:=A) ks hs dd
 unfold Z09 Z0H
 simp only [ciD] at *
 walk_at "evs"
theorem jo_1(ks:List Str)(hs:List Hs)(dd:List Str)(h:Hs)(r:SR)(a:ZF K A [mbD A hs,aS h.nm]=.ok (.val (.at .non)) [mbD A hs,aS h.nm])(t:Z0y K A (joF A ks hs dd h)=r) :
  Z0H K A (joF A ks hs dd h)=r:=by
 have o:=Z33 (A:=A) hs "check_new" Z1G
 have i:=Z14 (A:=A) hs
 have i2:=ZW (A:=A) ks hs dd
 unfold Z0H
 simp only [joF,ciD] at *
 walk_at "evs"
theorem Zbg(ks:List Str)(hs:List Hs)(dd:List Str)(h:Hs)(C:Str)(a:Zz K A [ciD A ks hs dd,aS h.kd,aI h.lo,aI h.hi]=.ex C [ciD A ks hs dd,aS h.kd,aI h.lo,aI h.hi]) :
  Z0y K A (joF A ks hs dd h)=.ex C (joF A ks hs dd h):=by
 have o:=Z20 (A:=A) ks hs dd "check_wish" Z1u
 have i2:=ZW (A:=A) ks hs dd
 unfold Z0y
 simp only [joF] at *
 walk_at "evs"
theorem jo_2(ks:List Str)(hs:List Hs)(dd:List Str)(h:Hs)(r:SR)(a:Zz K A [ciD A ks hs dd,aS h.kd,aI h.lo,aI h.hi]=.ok (.val (.at .non)) [ciD A ks hs dd,aS h.kd,aI h.lo,aI h.hi])(t:Z1x K A (joF A ks hs dd h)=r) :
  Z0y K A (joF A ks hs dd h)=r:=by
 have o:=Z20 (A:=A) ks hs dd "check_wish" Z1u
 have i2:=ZW (A:=A) ks hs dd
 unfold Z0y
 simp only [joF] at *
 walk_at "evs"
noncomputable def due(ks:List Str)(hs:List Hs)(h:Hs):Option (Str×Str) :=
 if gd h.nm=false then some ("BadName", "bad name") else if (pos hs h.nm).isSome then some ("KnownHouse", "known house") else if h.kd∉ks then some ("UnknownKind", "unknown kind") else if h.lo < 1∨h.lo > h.hi∨h.hi > 8 then some ("BadAges", "bad ages") else none
structure HsOk(h:Hs):Prop where
 st:h.st=true
 o1:OkT h.nm
 o2:OkT h.kd
 o3:Sm h.lo
 o4:Sm h.hi
theorem Zfv(ks:List Str)(hs:List Hs)(dd:List Str)(h:Hs)(C:Str)(t:Z0H K A (joF A ks hs dd h)=.ex C (joF A ks hs dd h)) :
  Z09 K A [ciD A ks hs dd,aS h.nm,aS h.kd,aI h.lo,aI h.hi]=.ex C [ciD A ks hs dd,aS h.nm,aS h.kd,aI h.lo,aI h.hi]:=by
 have i2:=ZW (A:=A) ks hs dd
 unfold Z09
 simp only [joF] at *
 walk_at "evs"
theorem ZbZ(ks:List Str)(hs:List Hs)(dd:List Str)(h:Hs)(ok:HsOk h)(C w:Str)(q:due ks hs h=some (C,w)) :
  Z09 K A [ciD A ks hs dd,aS h.nm,aS h.kd,aI h.lo,aI h.hi]=.ex C [ciD A ks hs dd,aS h.nm,aS h.kd,aI h.lo,aI h.hi]:=by
 unfold due at q
 by_cases g:gd h.nm=false
 ·rw [if_pos g] at q;cases q
  exact Zbh ks hs dd h _ (ZfG hs h.nm ok.o1 g)
 rw [if_neg g] at q
 have g':gd h.nm=true:=by simpa using g
 cases e:pos hs h.nm with
 | some j =>
  rw [e] at q;cases q
  exact Zbh ks hs dd h _ (ZfH hs h.nm j ok.o1 g' e)
 | none =>
  rw [e,if_neg (by simp)] at q
  have c:=ZbX (K:=K) (A:=A) hs h.nm ok.o1 g' e
  refine Zfv ks hs dd h C (jo_1 ks hs dd h _ c ?_)
  by_cases m:h.kd∉ks
  ·rw [if_pos m] at q;cases q
   exact Zbg ks hs dd h _ (ZfI ks hs dd h.kd h.lo h.hi ok.o2 m)
  rw [if_neg m] at q
  have m':h.kd∈ks:=by simpa using m
  by_cases l:h.lo < 1∨h.lo > h.hi∨h.hi > 8
  ·rw [if_pos l] at q;cases q
   exact Zbg ks hs dd h _ (ZfJ ks hs dd h.kd h.lo h.hi ok.o3 ok.o4 m' l)
  ·rw [if_neg l] at q;cases q
theorem Zfw(ks:List Str)(hs hs':List Hs)(dd dd':List Str)(h:Hs)(v:D)(t:Z0H K A (joF A ks hs dd h)=.rt (.val v) (joF A ks hs' dd' h)) :
  Z09 K A [ciD A ks hs dd,aS h.nm,aS h.kd,aI h.lo,aI h.hi]=.ok (.val v) [ciD A ks hs' dd',aS h.nm,aS h.kd,aI h.lo,aI h.hi]:=by
 have i2:=ZW (A:=A) ks
 unfold Z09
 simp only [joF] at *
 walk_at "evs"
theorem Z6w{ks:List Str}{hs:List Hs}{h:Hs}(q:due ks hs h=none):gd h.nm=true∧pos hs h.nm=none∧h.kd∈ks∧¬ (h.lo < 1∨h.lo > h.hi∨h.hi > 8):=by
 unfold due at q
 by_cases g:gd h.nm=false
 ·rw [if_pos g] at q;cases q
 rw [if_neg g] at q
 have g':gd h.nm=true:=by simpa using g
 cases e:pos hs h.nm with
 | some j=>rw [e] at q;cases q
 | none =>
  rw [e,if_neg (by simp)] at q
  by_cases m:h.kd∉ks
  ·rw [if_pos m] at q;cases q
  rw [if_neg m] at q
  by_cases l:h.lo < 1∨h.lo > h.hi∨h.hi > 8
  ·rw [if_pos l] at q;cases q
  ·exact ⟨g',rfl,by simpa using m,l⟩
theorem Zc0(ks:List Str)(hs:List Hs)(dd:List Str)(h:Hs)(ok:HsOk h)(hl:hs.length≤9)(hd:dd.length < 400)(q:due ks hs h=none) :
  ∃ row,Z09 K A [ciD A ks hs dd,aS h.nm,aS h.kd,aI h.lo,aI h.hi]=.ok (.val (aI (hs.length + 1))) [ciD A ks (hs++[h]) (dd++[row]),aS h.nm,aS h.kd,aI h.lo,aI h.hi]:=by
 obtain ⟨g,p,m,l⟩:=Z6w q
 obtain ⟨row,t⟩:=ZfL (K:=K) (A:=A) ks hs dd h ok.st hl p hd ok.o1 ok.o2 ok.o3 ok.o4
 exact ⟨row,Zfw ks hs _ dd _ h _ (jo_1 ks hs dd h _ (ZbX hs h.nm ok.o1 g p) (jo_2 ks hs dd h _ (ZfK ks hs dd h.kd h.lo h.hi m l) t))⟩
theorem ZfR(hs:List Hs)(x:Str)(ho:OkT x)(hp:pos hs x=none):Z0u K A [mbD A hs,aS x]=.ex "UnknownHouse" [mbD A hs,aS x]:=by
 have r:=Z6M ho
 have i:=Z14 (A:=A) hs
 clear ho
 unfold pos at hp
 unfold Z0u Z1V
 simp only [mbD] at *
 walk_at "evs"
theorem Zc1(hs:List Hs)(x:Str)(j:Nat)(h:Hs)(hp:pos hs x=some j)(hj:hs[j]?=some h):Z0u K A [mbD A hs,aS x]=.ok (.arg 0 [0,j]) [mbD A hs,aS x]:=by
 have i:=Z14 (A:=A) hs
 have i2:=im_hs (A:=A) h
 have e:(hs.map (hsD A))[j]?=some (hsD A h):=by rw [Qc,hj];rfl
 clear hj
 unfold pos at hp
 unfold Z0u Z1V
 simp only [mbD] at *
 walk_at "evs"
theorem ZfS(hs:List Hs)(x:Str)(j:Nat)(h:Hs)(hp:pos hs x=some j)(hj:hs[j]?=some h)(hst:h.st=true):Z1q K A [mbD A hs,aS x]=.ok (.arg 0 [0,j]) [mbD A hs,aS x]:=by
 have n:=Zc1 (K:=K) (A:=A) hs x j h hp hj
 have i:=Z14 (A:=A) hs
 have i2:=im_hs (A:=A) h
 have o:=Z33 (A:=A) hs "named" Z1K
 have e:(hs.map (hsD A))[j]?=some (hsD A h):=by rw [Qc,hj];rfl
 clear hj hp
 unfold Z1q Z2j
 simp only [mbD] at *
 simp only [hsD] at e i2
 walk_at "evs"
theorem ZfU(ks:List Str)(hs:List Hs)(dd:List Str)(x:Str)(ho:OkT x)(hp:pos hs x=none):Z0k K A [ciD A ks hs dd,aS x]=.ex "UnknownHouse" [ciD A ks hs dd,aS x]:=by
 have n:=ZfR (K:=K) (A:=A) hs x ho hp
 have i:=Z14 (A:=A) hs
 have i2:=ZW (A:=A) ks hs dd
 have o:=Z33 (A:=A) hs "named" Z1K
 clear hp ho
 unfold Z0k Z1H
 simp only [ciD] at *
 walk_at "evs"
theorem ZfV(ks:List Str)(hs:List Hs)(dd:List Str)(x:Str)(j:Nat)(h:Hs)(hp:pos hs x=some j)(hj:hs[j]?=some h):Z0k K A [ciD A ks hs dd,aS x]=.ok (.val (.nd .tup [aS h.kd,aI h.lo,aI h.hi])) [ciD A ks hs dd,aS x]:=by
 have n:=Zc1 (K:=K) (A:=A) hs x j h hp hj
 have i:=Z14 (A:=A) hs
 have i2:=ZW (A:=A) ks hs dd
 have i3:=im_hs (A:=A) h
 have o:=Z33 (A:=A) hs "named" Z1K
 have e:(hs.map (hsD A))[j]?=some (hsD A h):=by rw [Qc,hj];rfl
 clear hj hp
 unfold Z0k Z1H
 simp only [ciD] at *
 simp only [mbD] at *
 simp only [hsD] at e i3
 walk_at "evs"
theorem Zbt:∀ hs:List Hs,nmD A.c_House "name" (Z0g (hs.map Hs.st) (hs.map (hsD A)))=some ((hs.filter Hs.st).map Hs.nm)
 | []=>rfl
 | h::hs=>by
  have ih:=Zbt hs
  cases e:h.st with
  | true =>
   rw [Qi,Qi,Gn,e,if_pos rfl,Z0g,if_pos rfl,nmD,ZeD,ih]
   rfl
  | false =>
   rw [Qi,Qi,Gn,e,if_neg (by decide),Z0g,if_neg (by decide),ih]
noncomputable def std(hs:List Hs):List Str:=(hs.filter Hs.st).map Hs.nm
theorem Z9O(ks:List Str)(hs:List Hs)(dd:List Str)(hl:hs.length≤9):Z12 K A [ciD A ks hs dd]=.ok (.val (tD (std hs))) [ciD A ks hs dd]:=by
 have e:hNm A.c_Houses A.c_House "joined" "stands" "standing" "name" [mbD A hs]=some (tD (std hs)):=by
  unfold hNm
  simp only [st_mb,Z33 (A:=A) hs "standing" Z1R,Zbt,if_true]
  rw [if_pos (by rw [Qo];omega)]
  rfl
 have i:=Z14 (A:=A) hs
 have i2:=ZW (A:=A) ks hs dd
 clear hl
 unfold Z12 Z2B
 simp only [ciD] at *
 walk_at "evs"
noncomputable abbrev leF(A:Adr)(ks:List Str)(hs:List Hs)(dd:List Str)(x:Str)(y:DL):Sd:=[.bor 3 [],.own true (aS x),y,.own true (ciD A ks hs dd),.non]
theorem set_same{α:Type}{l:List α}{j:Nat}{a:α}(h:l[j]?=some a):l.set j a=l:=by
 obtain ⟨h1,rfl⟩:=Qe.mp h
 exact List.set_getElem_self h1
theorem ZfO(ks:List Str)(hs:List Hs)(dd:List Str)(x:Str)(j:Nat)(h:Hs)(hj:hs[j]?=some h):∃ y,Z29 K A (leF A ks hs dd x (.bor 3 [2,0,j]))=.nx (leF A ks (hs.set j { h with st:=false }) dd x y):=by
 refine ⟨.bor 3 [2,0,j],?_⟩
 have n:=ZcZ (K:=K) (A:=A) h
 have o:=ob_hs (A:=A) h "leave" Z4n
 have i:=im_hs (A:=A)
 have e:(hs.map (hsD A))[j]?=some (hsD A h):=by rw [Qc,hj];rfl
 have hl:j < hs.length:=(Qe.mp hj).1
 have e2:((hs.map (hsD A)).set j hole)[j]?=some hole:=by rw [Ni (by simpa using hl)]
 have e3:((hs.map (hsD A)).set j hole).set j (hsD A { h with st:=false })=(hs.set j { h with st:=false }).map (hsD A):=by rw [List.set_set,Jw]
 have e4:hs.map kyS=(hs.set j { h with st:=false }).map kyS:=by
  rw [Jw]
  exact (set_same (by rw [Qc,hj];rfl)).symm
 unfold Z29
 simp only [leF,ciD] at *
 simp only [mbD] at *
 rw [← e4]
 clear e4 hj hl
 simp only [hole] at e2 e3
 walk_at "evs"
theorem Zbd(ks:List Str)(hs:List Hs)(dd:List Str)(x row:Str)(p:List Nat)(f:AF)(hd:dd.length < 400)
  (hf:f (leF A ks hs dd x (.bor 3 (2::p)))=.ok [.plc 3 [],.val (aS row)] (leF A ks hs dd x (.bor 3 (2::p)))) :
  eInl 2 2 f (Z0E K A) (leF A ks hs dd x (.bor 3 (2::p)))=.ok (.val (.at .non)) (leF A ks hs (dd++[row]) x (.bor 3 (2::p))):=by
 have hb:Z0E K A 5 (leF A ks hs dd x (.bor 3 (2::p))++[.bor 3 [],.own true (aS row)])=.nx (leF A ks hs (dd++[row]) x (.bor 3 (2::p))++[.bor 3 [],.own true (aS row)]):=by
  have q1:dd.length < 16777216:=by omega
  have i:=ZW (A:=A) ks hs dd
  clear hf hd
  unfold Z0E
  simp only [leF,ciD,Jj,Js] at *
  walk_at "evs"
  simp
 rw [Zev,hf]
 dsimp only
 rw [if_pos (show [DV.plc 3 [],DV.val (aS row)].length=2 from rfl)]
 have hn:(leF A ks hs dd x (.bor 3 (2::p))++nmS 2 [.plc 3 [],.val (aS row)])=leF A ks hs dd x (.bor 3 (2::p))++[.bor 3 [],.own true (aS row)]:=rfl
 rw [hn,show (leF A ks hs dd x (.bor 3 (2::p))).length=5 from rfl,hb]
 dsimp only
 unfold finI
 refine if_pos ⟨?_,trivial⟩
 refine ⟨⟨show 3 < 5 by decide,trivial⟩,⟨trivial,rfl,rfl⟩,⟨show 3 < 5 by decide,trivial⟩,⟨trivial,trivial⟩,⟨trivial,rfl⟩,trivial⟩
theorem Zea(ks:List Str)(hs:List Hs)(dd:List Str)(x:Str)(j:Nat)(h:Hs)(hp:pos hs x=some j)(hj:hs[j]?=some h)(hst:h.st=true)(hx:OkT x)(hd:dd.length < 400) :
  ∃ row,Z1g K A [ciD A ks hs dd,aS x]=.ok (.val (.at .non)) [ciD A ks (hs.set j { h with st:=false }) (dd++[row]),aS x]:=by
 obtain ⟨z,_,jn⟩:=Z61 (s:=leF A ks hs dd x (.bor 3 [2,0,j])++[.bor 3 []]) [eC (.str "leave "),eNw Z0K (Z0 (Z3 1) Z1)] ["leave ",x] Str.empty
  ⟨rfl,by decide +kernel,fmtS rfl (by have:=hx.1;omega),by have:=hx.1;omega,trivial⟩ (show Str.empty.length + 200 * 2≤16777216 by decide +kernel)
 refine ⟨z,?_⟩
 obtain ⟨y,t4⟩:=ZfO (K:=K) (A:=A) ks hs (dd++[z]) x j h hj
 have i:=ZW (A:=A) ks
 have t3:Z28 K A (leF A ks hs dd x (.bor 3 [2,0,j]))=.nx (leF A ks (hs.set j { h with st:=false }) (dd++[z]) x y):=by
  have hf:(Z0 (Zn (Zo A.c_Circle "write") (Z3 0)) (Z0 (Z1a [(eC (.str "leave ")),(eNw Z0K (Z0 (Z3 1) Z1))] Str.empty) Z1)) (leF A ks hs dd x (.bor 3 [2,0,j]))=.ok [.plc 3 [],.val (aS z)] (leF A ks hs dd x (.bor 3 [2,0,j])):=by
   have o:=Z20 (A:=A) ks hs dd "write" Z2D
   clear t4 hp hj hst hx hd
   simp only [leF,Jj,Js] at *
   walk_at "evs"
  have w:=Zbd (K:=K) ks hs dd x z [0,j] _ hd hf
  unfold Z28
  rw [Zb6,ev_e,w]
  exact t4
 have t2:Z27 K A (leF A ks hs dd x (.bor 3 [2,0,j]))=.nx (leF A ks (hs.set j { h with st:=false }) (dd++[z]) x y):=by
  have a:=ZbW (K:=K) (A:=A) ks hs dd hd
  have o:=Z20 (A:=A) ks hs dd "check_book" Z1t
  clear t4 hp hj hst hx hd jn
  unfold Z27
  simp only [leF] at *
  walk_at "evs"
 have a:=ZfS (K:=K) (A:=A) hs x j h hp hj hst
 have o:=Z33 (A:=A) hs "present" Z3h
 have i2:=Z14 (A:=A) hs
 have i3:=im_hs (A:=A) h
 have e:(hs.map (hsD A))[j]?=some (hsD A h):=by rw [Qc,hj];rfl
 clear t3 t4 hp hj hst hx hd jn
 unfold Z1g Z2P
 simp only [leF,ciD] at *
 simp only [mbD] at *
 walk_at "evs"
noncomputable def wt(h:Hs):D:=.nd .tup [aS h.kd,aI h.lo,aI h.hi]
noncomputable def wD(hs:List Hs):D:=.nd (.dic true (hs.map kyS)) (hs.map wt)
theorem Z1i(hs:List Hs):(wD hs).imm=false:=rfl
theorem im_wt(h:Hs):(wt h).imm=true:=rfl
noncomputable abbrev dH(h:Hs):D:=dD h.nm h.kd h.lo h.hi
noncomputable abbrev duF(ks:List Str)(hs:List Hs)(h:Hs):Sd:=[.bor 3 [],.bor 4 [],.own true (dH h),.own false (wD hs),.own false (tD ks),.non]
noncomputable abbrev rfD(w:Str):D:=.nd .tup [aS "refused",aS w]
theorem du7a(ks:List Str)(hs:List Hs)(h:Hs)(b:h.lo < 1∨h.lo > h.hi∨h.hi > 8):Z0Z K A (duF ks hs h)=.rt (.val (rfD "bad ages")) (duF ks hs h):=by
 have i:=Z1i hs
 unfold Z0Z
 simp only [duF] at *
 by_cases q1:h.lo < 1
 ·clear b
  walk_at "evs"
 ·by_cases q2:h.lo > h.hi
  ·clear b
   walk_at "evs"
  ·have q3:h.hi > 8:=by omega
   clear b
   walk_at "evs"
theorem du7b(ks:List Str)(hs:List Hs)(h:Hs)(b:¬ (h.lo < 1∨h.lo > h.hi∨h.hi > 8)):Z0Z K A (duF ks hs h)=.rt (.val (aI (hs.length + 1))) (duF ks hs h):=by
 have q1:¬ h.lo < 1:=by omega
 have q2:¬ h.lo > h.hi:=by omega
 have q3:¬ h.hi > 8:=by omega
 have i:=Z1i hs
 clear b
 unfold Z0Z
 simp only [duF,wD] at *
 walk_at "evs"
theorem du5a(ks:List Str)(hs:List Hs)(h:Hs)(m:h.kd∉ks):Z0Y K A (duF ks hs h)=.rt (.val (rfD "unknown kind")) (duF ks hs h):=by
 have a1:=Z1U ks
 have a2:=inV_S h.kd ks
 rw [decide_eq_false m] at a2
 have i:=Z1i hs
 clear m
 unfold Z0Y
 simp only [duF] at *
 walk_at "evs"
theorem du5b(ks:List Str)(hs:List Hs)(h:Hs)(m:h.kd∈ks)(r:SR)(t:Z0Z K A (duF ks hs h)=r):Z0Y K A (duF ks hs h)=r:=by
 have a1:=Z1U ks
 have a2:=inV_S h.kd ks
 rw [decide_eq_true m] at a2
 have i:=Z1i hs
 clear m
 unfold Z0Y
 simp only [duF] at *
 walk_at "evs"
theorem du3a(ks:List Str)(hs:List Hs)(h:Hs)(j:Nat)(p:pos hs h.nm=some j):Z0X K A (duF ks hs h)=.rt (.val (rfD "known house")) (duF ks hs h):=by
 have i:=Z1i hs
 unfold pos at p
 unfold Z0X
 simp only [duF,wD] at *
 walk_at "evs"
theorem du3b(ks:List Str)(hs:List Hs)(h:Hs)(p:pos hs h.nm=none)(r:SR)(t:Z0Y K A (duF ks hs h)=r):Z0X K A (duF ks hs h)=r:=by
 have i:=Z1i hs
 unfold pos at p
 unfold Z0X
 simp only [duF,wD] at *
 walk_at "evs"
theorem du1a(ks:List Str)(hs:List Hs)(h:Hs)(o:OkT h.nm)(g:gd h.nm=false):Z0O K A [wD hs,tD ks,dH h]=.ok (.val (rfD "bad name")) [wD hs,tD ks,dH h]:=by
 have a:=ZaB (K:=K) (A:=A) h.nm (by have:=o.1;omega)
 have i:=Z1i hs
 clear o
 unfold Z0O Z3o
 walk_at "evs"
theorem du1b(ks:List Str)(hs:List Hs)(h:Hs)(o:OkT h.nm)(g:gd h.nm=true)(v:D)(t:Z0X K A (duF ks hs h)=.rt (.val v) (duF ks hs h)):Z0O K A [wD hs,tD ks,dH h]=.ok (.val v) [wD hs,tD ks,dH h]:=by
 have a:=ZaB (K:=K) (A:=A) h.nm (by have:=o.1;omega)
 have i:=Z1i hs
 clear o
 unfold Z0O Z3o
 simp only [duF] at *
 walk_at "evs"
theorem ZcX(ks:List Str)(hs:List Hs)(h:Hs)(ok:HsOk h)(C w:Str)(q:due ks hs h=some (C,w)):Z0O K A [wD hs,tD ks,dH h]=.ok (.val (rfD w)) [wD hs,tD ks,dH h]:=by
 unfold due at q
 by_cases g:gd h.nm=false
 ·rw [if_pos g] at q;cases q
  exact du1a ks hs h ok.o1 g
 rw [if_neg g] at q
 have g':gd h.nm=true:=by simpa using g
 cases e:pos hs h.nm with
 | some j =>
  rw [e] at q;cases q
  exact du1b ks hs h ok.o1 g' _ (du3a ks hs h j e)
 | none =>
  rw [e,if_neg (by simp)] at q
  by_cases m:h.kd∉ks
  ·rw [if_pos m] at q;cases q
   exact du1b ks hs h ok.o1 g' _ (du3b ks hs h e _ (du5a ks hs h m))
  rw [if_neg m] at q
  have m':h.kd∈ks:=by simpa using m
  by_cases l:h.lo < 1∨h.lo > h.hi∨h.hi > 8
  ·rw [if_pos l] at q;cases q
   exact du1b ks hs h ok.o1 g' _ (du3b ks hs h e _ (du5b ks hs h m' _ (du7a ks hs h l)))
  ·rw [if_neg l] at q;cases q
theorem ZcY(ks:List Str)(hs:List Hs)(h:Hs)(ok:HsOk h)(q:due ks hs h=none):Z0O K A [wD hs,tD ks,dH h]=.ok (.val (aI (hs.length + 1))) [wD hs,tD ks,dH h]:=by
 obtain ⟨g,p,m,l⟩:=Z6w q
 exact du1b ks hs h ok.o1 g _ (du3b ks hs h p _ (du5b ks hs h m _ (du7b ks hs h l)))
theorem due_C{ks:List Str}{hs:List Hs}{h:Hs}{C w:Str}(q:due ks hs h=some (C,w)):(C = "BadName"∧w = "bad name")∨(C = "KnownHouse"∧w = "known house")∨(C = "UnknownKind"∧w = "unknown kind")∨(C = "BadAges"∧w = "bad ages"):=by
 unfold due at q
 split at q
 ·cases q;exact .inl ⟨rfl,rfl⟩
 split at q
 ·cases q;exact .inr (.inl ⟨rfl,rfl⟩)
 split at q
 ·cases q;exact .inr (.inr (.inl ⟨rfl,rfl⟩))
 split at q
 ·cases q;exact .inr (.inr (.inr ⟨rfl,rfl⟩))
 ·cases q
theorem Zeb(ks:List Str)(hs:List Hs)(dd:List Str)(h:Hs)(ok:HsOk h)(C w:Str)(q:due ks hs h=some (C,w)):Z17 K A [ciD A ks hs dd,dH h]=.ok (.val (rfD w)) [ciD A ks hs dd,dH h]:=by
 have a:=ZbZ (K:=K) (A:=A) ks hs dd h ok C w q
 have o:=Z20 (A:=A) ks hs dd "join" Z2S
 have i:=ZW (A:=A) ks hs dd
 have c:=due_C q
 clear ok q
 unfold Z17 Z30
 rcases c with ⟨rfl,rfl⟩ | ⟨rfl,rfl⟩ | ⟨rfl,rfl⟩ | ⟨rfl,rfl⟩
 ·walk_at "evs"
 ·walk_at "evs"
 ·walk_at "evs"
 ·walk_at "evs"
theorem Zec(ks:List Str)(hs:List Hs)(dd:List Str)(h:Hs)(ok:HsOk h)(hl:hs.length≤9)(hd:dd.length < 400)(q:due ks hs h=none) :
  ∃ row,Z17 K A [ciD A ks hs dd,dH h]=.ok (.val (aI (hs.length + 1))) [ciD A ks (hs++[h]) (dd++[row]),dH h]:=by
 obtain ⟨row,a⟩:=Zc0 (K:=K) (A:=A) ks hs dd h ok hl hd q
 refine ⟨row,?_⟩
 have o:=Z20 (A:=A) ks hs dd "join" Z2S
 have i:=ZW (A:=A) ks
 clear ok q hl hd
 unfold Z17 Z30
 walk_at "evs"
noncomputable abbrev wtF(A:Adr)(ks:List Str)(hs:List Hs)(dd:List Str)(x:Str)(b:Bool)(f:D):Sd:=[.bor 5 [],.bor 6 [],.own true (aS x),.own true (aB b),.own true f,.own true (ciD A ks hs dd),.own false (wD hs),.non]
theorem ZfW(ks:List Str)(hs:List Hs)(dd:List Str)(x:Str)(ho:OkT x)(hp:pos hs x=none):Z08 K A [ciD A ks hs dd,wD hs,aS x]=.ok (.val (aB true)) [ciD A ks hs dd,wD hs,aS x]:=by
 have a:=ZfU (K:=K) (A:=A) ks hs dd x ho hp
 have t:Z0s K A (wtF A ks hs dd x true (.at .non))=.rt (.val (aB true)) (wtF A ks hs dd x true (.at .non)):=by
  have i:=Z1i hs
  have i2:=ZW (A:=A) ks hs dd
  clear a ho
  unfold pos at hp
  unfold Z0s
  simp only [wtF,wD] at *
  walk_at "evs"
 have o:=Z20 (A:=A) ks hs dd "wished" Z2m
 have i:=Z1i hs
 have i2:=ZW (A:=A) ks hs dd
 clear ho hp
 unfold Z08 Z1n
 simp only [wtF] at *
 walk_at "evs"
theorem dt_wt(h:Hs):DtN 3 (wt h):=Zb4 (by show 3 < sizeLine;decide) (by
 intro x hx
 simp only [Qx,Wt,or_false] at hx
 rcases hx with rfl | rfl | rfl
 ·exact Z6T
 ·exact Z9b
 ·exact Z9b)
theorem ZfX(ks:List Str)(hs:List Hs)(dd:List Str)(x:Str)(j:Nat)(h:Hs)(hp:pos hs x=some j)(hj:hs[j]?=some h):Z08 K A [ciD A ks hs dd,wD hs,aS x]=.ok (.val (aB true)) [ciD A ks hs dd,wD hs,aS x]:=by
 have a:=ZfV (K:=K) (A:=A) ks hs dd x j h hp hj
 have a':Z0k K A [ciD A ks hs dd,aS x]=.ok (.val (wt h)) [ciD A ks hs dd,aS x]:=a
 have t:Z0s K A (wtF A ks hs dd x false (wt h))=.rt (.val (aB true)) (wtF A ks hs dd x false (wt h)):=by
  have s:=Z7G (A:=A) (dt_wt h)
  have i:=Z1i hs
  have i2:=ZW (A:=A) ks hs dd
  have i3:=im_wt h
  have e:(hs.map wt)[j]?=some (wt h):=by rw [Qc,hj];rfl
  clear a a' hj
  unfold pos at hp
  unfold Z0s
  simp only [wtF,wD] at *
  walk_at "evs"
 have o:=Z20 (A:=A) ks hs dd "wished" Z2m
 have i:=Z1i hs
 have i2:=ZW (A:=A) ks hs dd
 have i3:=im_wt h
 clear hp hj a
 unfold Z08 Z1n
 simp only [wtF] at *
 walk_at "evs"
theorem v_wt(ks:List Str)(hs:List Hs)(dd:List Str)(x:Str)(ho:OkT x):Z08 K A [ciD A ks hs dd,wD hs,aS x]=.ok (.val (aB true)) [ciD A ks hs dd,wD hs,aS x]:=by
 cases e:pos hs x with
 | none=>exact ZfW ks hs dd x ho e
 | some j =>
  obtain ⟨h,h1,_⟩:=Z9A e
  exact ZfX ks hs dd x j h e h1
noncomputable abbrev laF(k:NK)(ns W:List Int)(NS ks:List Str)(c w st:D)(s7 s8 s9 s10:DL):Sd:=[.own true (scD k ns),.own true (nD W),.own true (tD NS),.own true (tD ks),.own true c,.own true w,.own true st,s7,s8,s9,s10,.non]
theorem dt_tD(l:List Str)(hl:l.length≤9):DtN 3 (tD l):=Zen (by rw [Qo,sz];omega) (by
 intro x hx
 obtain ⟨y,_,rfl⟩:=Jx.mp hx
 exact Z6T)
theorem Z8k(hs:List Hs):(std hs).length≤hs.length:=by unfold std;rw [Qo];exact List.length_filter_le _ _
theorem v_19(k:NK)(hk:Scr K k)(ns W F:List Int)(NS ks:List Str)(hs:List Hs)(dd:List Str)(z:Int)(h:Hs)(d:D)(hl:hs.length≤9)(ho:OkT h.nm) :
  Z3d K A (laF k ns W NS ks (ciD A ks hs dd) (wD hs) (tD (std hs)) (.own true (aI z)) (.own true (nD F)) (.own true (dH h)) (.own true d))=.nx (laF k ns W NS ks (ciD A ks hs dd) (wD hs) (tD (std hs)) (.own true (aI z)) (.own true (nD F)) (.own true (dH h)) (.own true d)):=by
 have a1:=Z9O (K:=K) (A:=A) ks hs dd hl
 have a2:=Z7G (A:=A) (dt_tD (std hs) (Jc (Z8k hs) hl))
 have a3:=v_wt (K:=K) (A:=A) ks hs dd h.nm ho
 have o:=Z20 (A:=A) ks hs dd "houses" Z2l
 have i1:=ZW (A:=A) ks hs dd
 have i2:=Z1i hs
 have hki:=Z0G hk ns
 clear hl ho hk
 unfold Z3d
 simp only [laF] at *
 walk_at "evs"
theorem v_16a(k:NK)(hk:Scr K k)(ns W F:List Int)(NS ks:List Str)(hs:List Hs)(c w st:D)(z:Int)(h:Hs)(x:Str)(r:SR)
  (t:Z3d K A (laF k ns W NS ks c w st (.own true (aI z)) (.own true (nD F)) (.own true (dH h)) (.own true (rfD x)))=r) :
  Z2z K A (laF k ns W NS ks c w st (.own true (aI z)) (.own true (nD F)) (.own true (dH h)) (.own true (rfD x)))=r:=by
 have e:hIs [rfD x,.at (.ty "tuple")]=some (aB true):=rfl
 clear hk
 unfold Z2z
 simp only [laF] at *
 walk_at "evs"
theorem v_16b(k:NK)(hk:Scr K k)(ns W F:List Int)(NS ks:List Str)(hs:List Hs)(c:D)(st:List Str)(z n:Int)(h:Hs)(r:SR)(hl:hs.length≤9)(hsl:st.length≤9)(hp:pos hs h.nm=none)
  (t:Z3d K A (laF k ns W NS ks c (wD (hs++[h])) (tD (st++[h.nm])) (.own true (aI z)) (.own true (nD F)) (.own true (dH h)) (.own true (aI n)))=r) :
  Z2z K A (laF k ns W NS ks c (wD hs) (tD st) (.own true (aI z)) (.own true (nD F)) (.own true (dH h)) (.own true (aI n)))=r:=by
 have e:hIs [aI n,.at (.ty "tuple")]=some (aB false):=rfl
 have i2:=Z1i hs
 have q1:hs.length < 16777216:=by omega
 have q2:st.length < 16777216:=by omega
 have e1:hs.map kyS++[Sum.inr h.nm]=(hs++[h]).map kyS:=by simp [kyS]
 have e2:hs.map wt++[.nd .tup [aS h.kd,aI h.lo,aI h.hi]]=(hs++[h]).map wt:=by simp [wt]
 have e3:st.map aS++[aS h.nm]=(st++[h.nm]).map aS:=by simp
 have e4:D.imms [aS h.nm,aS h.kd,aI h.lo,aI h.hi]=true:=rfl
 have e5:List.drop 1 [aS h.nm,aS h.kd,aI h.lo,aI h.hi]=[aS h.kd,aI h.lo,aI h.hi]:=rfl
 unfold pos at hp
 clear hk hl hsl
 unfold Z2z
 simp only [laF,wD] at *
 walk_at "evs"
theorem dt_rf(w:Str):DtN 3 (rfD w):=Zb4 (by show 2 < sizeLine;decide) (by
 intro x hx
 simp only [Qx,Wt,or_false] at hx
 rcases hx with rfl | rfl
 ·exact Z6T
 ·exact Z6T)
theorem v_14(k:NK)(hk:Scr K k)(ns W F:List Int)(NS ks:List Str)(hs hs':List Hs)(dd dd':List Str)(w st:D)(iw:w.imm=false)(ist:st.imm=false)(z:Int)(h:Hs)(v:D)(iv:v.imm=true)(dv:DtN 3 v)(r:SR)
  (a:Z17 K A [ciD A ks hs dd,dH h]=.ok (.val v) [ciD A ks hs' dd',dH h])
  (t:Z2z K A (laF k ns W NS ks (ciD A ks hs' dd') w st (.own true (aI z)) (.own true (nD F)) (.own true (dH h)) (.own true v))=r) :
  Z47 K A (laF k ns W NS ks (ciD A ks hs dd) w st (.own true (aI z)) (.own true (nD F)) (.own true (dH h)) (.own true v))=r:=by
 have a2:=Z7G (A:=A) dv
 have i1:=ZW (A:=A) ks
 have hki:=Z0G hk ns
 clear hk dv
 unfold Z47
 simp only [laF] at *
 walk_at "evs"
theorem v_12(k:NK)(hk:Scr K k)(ns W F:List Int)(NS ks:List Str)(hs:List Hs)(c st:D)(z:Int)(h:Hs)(v:D)(iv:v.imm=true)(r:SR)
  (a:Z0I K A [nD F,tD NS,tD ks]=.ok (.val (dH h)) [nD F,tD NS,tD ks])
  (b:Z0O K A [wD hs,tD ks,dH h]=.ok (.val v) [wD hs,tD ks,dH h])
  (t:Z47 K A (laF k ns W NS ks c (wD hs) st (.own true (aI z)) (.own true (nD F)) (.own true (dH h)) (.own true v))=r) :
  Z2y K A (laF k ns W NS ks c (wD hs) st (.own true (aI z)) (.own true (nD F)) .non .non)=r:=by
 have i2:=Z1i hs
 have hki:=Z0G hk ns
 clear hk
 unfold Z2y
 simp only [laF] at *
 walk_at "evs"
structure Inv(i:Nat)(NS:List Str)(hs:List Hs)(dd:List Str):Prop where
 nd:(hs.map Hs.nm).Nodup
 sub:∀ x∈hs.map Hs.nm,x∈NS
 len:dd.length≤i
theorem Inv.le{i:Nat}{NS:List Str}{hs:List Hs}{dd:List Str}(v:Inv i NS hs dd)(hN:NS.length=9):hs.length≤9:=by
 have:=v.nd.length_le_of_subset v.sub
 rw [Qo] at this
 omega
theorem Z9N(hs:List Hs)(h:Hs)(hst:h.st=true):std (hs++[h])=std hs++[h.nm]:=by
 unfold std
 rw [List.filter_append,Jk]
 simp [hst]
theorem v_t12(k:NK)(hk:Scr K k)(ns W:List Int)(f0 f1 f2 f3 f4:Int)(h0:0≤f3)(NS ks:List Str)(hN:NS.length=9)(hx:∀ x∈NS,gd x=true∧x.length≤12)(hk0:0 < ks.length)(hkk:∀ x∈ks,gd x=true∧x.length≤12)
  (i:Nat) (hi:i < 399) (hs:List Hs) (dd:List Str) (z:Int) (v:Inv i NS hs dd) :
  ∃ hs' dd' d9 d10,Inv (i + 1) NS hs' dd'∧Z2y K A (laF k ns W NS ks (ciD A ks hs dd) (wD hs) (tD (std hs)) (.own true (aI z)) (.own true (nD [f0,f1,f2,f3,f4])) .non .non)=.nx (laF k ns W NS ks (ciD A ks hs' dd') (wD hs') (tD (std hs')) (.own true (aI z)) (.own true (nD [f0,f1,f2,f3,f4])) (.own true d9) (.own true d10)):=by
 obtain ⟨w,kd,lo,hi',hw,ow,ok,l1,l2,l3,l4,a⟩:=Zd1 (K:=K) (A:=A) f0 f1 f2 f3 f4 NS ks hN hx hk0 hkk h0
 obtain ⟨h,e⟩:∃ h:Hs,h=⟨w,kd,lo,hi',true⟩:=⟨_,rfl⟩
 have hok:HsOk h:=by subst e;exact ⟨rfl,ow,ok,⟨l1,Int.le_trans l2 (by decide)⟩,⟨l3,l4⟩⟩
 have a':Z0I K A [nD [f0,f1,f2,f3,f4],tD NS,tD ks]=.ok (.val (dH h)) [nD [f0,f1,f2,f3,f4],tD NS,tD ks]:=by subst e;exact a
 have hw':h.nm∈NS∨gd h.nm=false:=by subst e;exact hw
 clear a e hw
 have hl:=v.le hN
 have hd:=v.len
 cases q:due ks hs h with
 | some p =>
  obtain ⟨C,x⟩:=p
  refine ⟨hs,dd,_,_,⟨v.nd,v.sub,by omega⟩,v_12 k hk ns W _ NS ks hs _ _ z h (rfD x) rfl _ a' (ZcX ks hs h hok C x q) (v_14 k hk ns W _ NS ks hs hs dd dd _ _ (Z1i hs) rfl z h (rfD x) rfl (dt_rf x) _ (Zeb ks hs dd h hok C x q) (v_16a k hk ns W _ NS ks hs _ _ _ z h x _ (v_19 k hk ns W _ NS ks hs dd z h _ hl hok.o1)))⟩
 | none =>
  obtain ⟨g,p,m,_⟩:=Z6w q
  obtain ⟨row,j⟩:=Zec (K:=K) (A:=A) ks hs dd h hok hl (by omega) q
  have hm:h.nm∈NS:=by
   rcases hw' with hm | hm
   ·exact hm
   ·rw [hm] at g;cases g
  have v':Inv (i + 1) NS (hs++[h]) (dd++[row]):=by
   refine ⟨?_,?_,by rw [Jh];simp;omega⟩
   ·rw [Jk,Qm]
    refine ⟨v.nd,by simp,?_⟩
    intro a ha b hb e
    simp only [Qi,Jl,Je] at hb
    subst hb;subst e
    exact pos_none p ha
   ·intro x hx
    rw [Jk] at hx
    rcases Qf.mp hx with hx | hx
    ·exact v.sub x hx
    ·simp only [Qi,Jl,Je] at hx
     subst hx;exact hm
  have t:=v_19 (K:=K) (A:=A) k hk ns W [f0,f1,f2,f3,f4] NS ks (hs++[h]) (dd++[row]) z h (aI (hs.length + 1)) (v'.le hN) hok.o1
  rw [Z9N hs h hok.st] at t
  refine ⟨hs++[h],dd++[row],dH h,aI (hs.length + 1),v',?_⟩
  rw [Z9N hs h hok.st]
  exact v_12 k hk ns W _ NS ks hs _ _ z h (aI (hs.length + 1)) rfl _ a' (ZcY ks hs h hok q) (v_14 k hk ns W _ NS ks hs (hs++[h]) dd (dd++[row]) _ _ (Z1i hs) rfl z h (aI (hs.length + 1)) rfl Z9b _ j (v_16b k hk ns W _ NS ks hs _ _ z _ h _ hl (Jc (Z8k hs) hl) p t))
theorem ZbN:∀ l:List Str,strsD (l.map aS)=some l
 | []=>rfl
 | x::l=>by rw [Qi,strsD,ZbN l]
theorem same_iff(x y:Str):sameS x y=decide (y=x):=by
 unfold sameS
 rw [Wn,decide_eq_true_eq,beq_iff_eq]
 exact ⟨Ze5,fun h=>by rw [h]⟩
theorem Z3T(h:Hs)(hs:List Hs):std (h::hs)=if h.st then h.nm::std hs else std hs:=by
 unfold std
 rw [Gn]
 split <;> simp
theorem Zau(x:Str):∀ (hs:List Hs) (j:Nat) (h:Hs),(hs.map Hs.nm).Nodup→hs[j]?=some h→h.st=true→h.nm=x→Z0C (std hs) x < (std hs).length∧(std hs).eraseIdx (Z0C (std hs) x)=std (hs.set j { h with st:=false })
 | [],j,h,_,hj,_,_=>by simp at hj
 | g::r,0,h,nd,hj,st,e=>by
  simp only [Jy,Option.some.injEq] at hj
  subst hj
  have s:Z0C (std (g::r)) x=0:=by
   rw [Z3T,if_pos st]
   unfold Z0C
   rw [Qaf,same_iff,e]
   simp
  rw [s,Qad,Z3T,Z3T,if_pos st]
  exact ⟨by simp,rfl⟩
 | g::r,j + 1,h,nd,hj,st,e=>by
  rw [Nh] at hj
  rw [Qi,Jr] at nd
  obtain ⟨h1,h2⟩:=Zau x r j h nd.2 hj st e
  have ne:g.nm≠x:=by
   intro q
   exact nd.1 (q ▸ e ▸ Jx.mpr ⟨h,Qg hj,rfl⟩)
  rw [Wx,Z3T,Z3T]
  cases q:g.st with
  | true =>
   have s:Z0C (g.nm::std r) x=Z0C (std r) x + 1:=by
    unfold Z0C
    rw [Qaf,same_iff,decide_eq_false ne]
    rfl
   rw [if_pos rfl,if_pos rfl,s]
   exact ⟨by rw [Jp];omega,by rw [Gm,h2]⟩
  | false =>
   rw [if_neg (by decide),if_neg (by decide)]
   exact ⟨h1,h2⟩
theorem ZdA:∀ {hs:List Hs} {j j':Nat} {h h':Hs},(hs.map Hs.nm).Nodup→hs[j]?=some h→hs[j']?=some h'→h.nm=h'.nm→h=h':=by
 intro hs j j' h h' nd a b e
 have n1:(hs.map Hs.nm)[j]?=some h.nm:=by rw [Qc,a];rfl
 have n2:(hs.map Hs.nm)[j']?=some h.nm:=by rw [Qc,b,e];rfl
 have l1:=(Qe.mp n1).1
 have q:j=j':=(List.getElem?_inj l1 nd).mp (n1.trans n2.symm)
 subst q
 rw [a] at b
 exact Option.some.inj b
theorem Ze4{hs:List Hs}{x:Str}(nd:(hs.map Hs.nm).Nodup)(hx:x∈std hs):∃ j h,pos hs x=some j∧hs[j]?=some h∧h.st=true∧h.nm=x:=by
 unfold std at hx
 obtain ⟨h,hm,e⟩:=Jx.mp hx
 obtain ⟨m1,m2⟩:=Gu.mp hm
 cases q:pos hs x with
 | none=>exact absurd (Jx.mpr ⟨h,m1,e⟩) (pos_none q)
 | some j =>
  obtain ⟨h',a,b⟩:=Z9A q
  obtain ⟨j',hj',ej⟩:=List.getElem_of_mem m1
  have:h'=h:=ZdA nd a (by rw [Qj hj',ej]) (by rw [b,e])
  subst this
  exact ⟨j,h',rfl,a,m2,e⟩
theorem v_9a(k:NK)(hk:Scr K k)(ns W:List Int)(f0 f1 f2 f3 f4:Int)(NS ks:List Str)(c w:D)(st:List Str)(z:Int)(zz:Nat)(x:Str)(r:SR)(ix:ixN NS.length (f4 / 8 % 9)=some zz)(gx:(NS.map aS)[zz]?=some (aS x))(q:¬ (f4 % 8=1∧x∈st))
  (t:Z2y K A (laF k ns W NS ks c w (tD st) (.own true (aI z)) (.own true (nD [f0,f1,f2,f3,f4])) .non .non)=r) :
  Z2u K A (laF k ns W NS ks c w (tD st) (.own true (aI z)) (.own true (nD [f0,f1,f2,f3,f4])) .non .non)=r:=by
 by_cases q1:f4 % 8=1
 ·have a1:=Z1U st
  have a2:=inV_S x st
  rw [decide_eq_false (fun h=>q ⟨q1,h⟩)] at a2
  clear hk q
  unfold Z2u
  simp only [laF] at *
  walk_at "evs"
 ·clear hk q ix gx
  unfold Z2u
  simp only [laF] at *
  walk_at "evs"
theorem v_9b(k:NK)(hk:Scr K k)(ns W:List Int)(f0 f1 f2 f3 f4:Int)(NS ks:List Str)(hs hs':List Hs)(dd dd' st st':List Str)(w:D)(iw:w.imm=false)(z:Int)(zz:Nat)(x:Str)(r:SR)(ix:ixN NS.length (f4 / 8 % 9)=some zz)(gx:(NS.map aS)[zz]?=some (aS x))(q1:f4 % 8=1)(q2:x∈st)
  (a:Z1g K A [ciD A ks hs dd,aS x]=.ok (.val (.at .non)) [ciD A ks hs' dd',aS x]) (s1:Z0C st x < st.length) (s2:st.eraseIdx (Z0C st x)=st')
  (t:Z2y K A (laF k ns W NS ks (ciD A ks hs' dd') w (tD st') (.own true (aI z)) (.own true (nD [f0,f1,f2,f3,f4])) .non .non)=r) :
  Z2u K A (laF k ns W NS ks (ciD A ks hs dd) w (tD st) (.own true (aI z)) (.own true (nD [f0,f1,f2,f3,f4])) .non .non)=r:=by
 have a1:=Z1U st
 have a2:=inV_S x st
 rw [decide_eq_true q2] at a2
 have a3:=ZbN st
 have a4:(st.eraseIdx (Z0C st x)).map (fun y=>D.at (V.str y))=st'.map aS:=by rw [s2]
 have o:=Z20 (A:=A) ks hs dd "leave" Z3Y
 have i:=ZW (A:=A) ks
 have hki:=Z0G hk ns
 clear hk s2 q2
 unfold Z2u
 simp only [laF] at *
 walk_at "evs"
theorem v_t9(k:NK)(hk:Scr K k)(ns W:List Int)(f0 f1 f2 f3 f4:Int)(h0:0≤f3)(NS ks:List Str)(hN:NS.length=9)(hx:∀ x∈NS,gd x=true∧x.length≤12)(hk0:0 < ks.length)(hkk:∀ x∈ks,gd x=true∧x.length≤12)
  (i:Nat) (hi:i < 300) (hs:List Hs) (dd:List Str) (z:Int) (v:Inv i NS hs dd) :
  ∃ hs' dd' d9 d10,Inv (i + 2) NS hs' dd'∧Z2u K A (laF k ns W NS ks (ciD A ks hs dd) (wD hs) (tD (std hs)) (.own true (aI z)) (.own true (nD [f0,f1,f2,f3,f4])) .non .non)=.nx (laF k ns W NS ks (ciD A ks hs' dd') (wD hs') (tD (std hs')) (.own true (aI z)) (.own true (nD [f0,f1,f2,f3,f4])) (.own true d9) (.own true d10)):=by
 obtain ⟨i1,i2⟩:=Z4r (f4 / 8) 9 (by omega)
 have i3:(f4 / 8 % (9:Nat)).toNat < NS.length:=by omega
 have e:=get_map aS NS _ i3
 have hm:=Wu (h:=i3)
 generalize NS[(f4 / 8 % (9:Nat)).toNat]=x at e hm
 have i4:ixN NS.length (f4 / 8 % 9)=some (f4 / 8 % (9:Nat)).toNat:=by rw [hN];exact i1
 by_cases q:f4 % 8=1∧x∈std hs
 ·obtain ⟨j,h,p,hj,hst,hn⟩:=Ze4 v.nd q.2
  obtain ⟨row,a⟩:=Zea (K:=K) (A:=A) ks hs dd x j h p hj hst (Z4t (hx x hm).1) (by have:=v.len;omega)
  obtain ⟨s1,s2⟩:=Zau x hs j h v.nd hj hst hn
  have en:(hs.set j { h with st:=false }).map Hs.nm=hs.map Hs.nm:=by rw [Jw];exact set_same (by rw [Qc,hj];rfl)
  have ek:(hs.set j { h with st:=false }).map kyS=hs.map kyS:=by rw [Jw];exact set_same (by rw [Qc,hj];rfl)
  have et:(hs.set j { h with st:=false }).map wt=hs.map wt:=by rw [Jw];exact set_same (by rw [Qc,hj];rfl)
  have ew:wD (hs.set j { h with st:=false })=wD hs:=by unfold wD;rw [ek,et]
  have v':Inv (i + 1) NS (hs.set j { h with st:=false }) (dd++[row]):=⟨by rw [en];exact v.nd,by rw [en];exact v.sub,by rw [Jh];have:=v.len;simp;omega⟩
  obtain ⟨hs',dd',d9,d10,v2,t⟩:=v_t12 (K:=K) (A:=A) k hk ns W f0 f1 f2 f3 f4 h0 NS ks hN hx hk0 hkk (i + 1) (by omega) _ _ z v'
  rw [ew] at t
  exact ⟨hs',dd',d9,d10,v2,v_9b k hk ns W f0 f1 f2 f3 f4 NS ks hs _ dd _ (std hs) _ (wD hs) (Z1i hs) z _ x _ i4 e q.1 q.2 a s1 s2 t⟩
 ·obtain ⟨hs',dd',d9,d10,v2,t⟩:=v_t12 (K:=K) (A:=A) k hk ns W f0 f1 f2 f3 f4 h0 NS ks hN hx hk0 hkk i (by omega) hs dd z v
  exact ⟨hs',dd',d9,d10,⟨v2.nd,v2.sub,by have:=v2.len;omega⟩,v_9a k hk ns W f0 f1 f2 f3 f4 NS ks _ _ (std hs) z _ x _ i4 e q t⟩
theorem v_lb(k:NK)(hk:Scr K k)(ns W:List Int)(NS ks:List Str)(hN:NS.length=9)(hx:∀ x∈NS,gd x=true∧x.length≤12)(hk0:0 < ks.length)(hkk:∀ x∈ks,gd x=true∧x.length≤12)
  (i:Nat) (hi:i < 300) (hs:List Hs) (dd:List Str) (z:Int) (hz:0≤z) (v:Inv i NS hs dd) :
  ∃ hs' dd',Inv (i + 2) NS hs' dd'∧Z4S K A (laF k ns W NS ks (ciD A ks hs dd) (wD hs) (tD (std hs)) (.own true (aI z)) .non .non .non)=.nx (laF k ns W NS ks (ciD A ks hs' dd') (wD hs') (tD (std hs')) .non .non .non .non):=by
 obtain ⟨xs,x1,x2,x3⟩:=Z8E (K:=K) (A:=A) k hk ns z 840 5 hz (by omega) (by omega) (by omega)
 obtain ⟨f0,f1,f2,f3,f4,rfl⟩:∃ f0 f1 f2 f3 f4:Int,xs=[f0,f1,f2,f3,f4]:=by
  match xs,x1 with
  | [f0,f1,f2,f3,f4],_=>exact ⟨f0,f1,f2,f3,f4,rfl⟩
 obtain ⟨hs',dd',d9,d10,v',t⟩:=v_t9 (K:=K) (A:=A) k hk ns W f0 f1 f2 f3 f4 (x2 f3 (by simp)).1 NS ks hN hx hk0 hkk i hi hs dd z v
 refine ⟨hs',dd',v',?_⟩
 have hki:=Z0G hk ns
 rw [show ((5:Nat):Int)=5 from rfl] at x3
 clear x1 x2 hk hx hkk hi hz v v'
 unfold Z4S
 simp only [laF,nD,Qi,Jl] at *
 walk_at "evs"
theorem ZaL:OkT "nobody":=by decide +kernel
theorem v_21(k:NK)(hk:Scr K k)(ns W:List Int)(NS ks:List Str)(hs:List Hs)(dd:List Str)(hl:hs.length≤9) :
  Z5U K A (laF k ns W NS ks (ciD A ks hs dd) (wD hs) (tD (std hs)) .non .non .non .non)=.rt (.val (aB true)) (laF k ns W NS ks (ciD A ks hs dd) (wD hs) (tD (std hs)) .non .non .non .non):=by
 have a1:=Z9O (K:=K) (A:=A) ks hs dd hl
 have a2:=Z7G (A:=A) (dt_tD (std hs) (Jc (Z8k hs) hl))
 have a3:=v_wt (K:=K) (A:=A) ks hs dd "nobody" ZaL
 have o:=Z20 (A:=A) ks hs dd "houses" Z2l
 have i1:=ZW (A:=A) ks hs dd
 have i2:=Z1i hs
 have hki:=Z0G hk ns
 clear hl hk
 unfold Z5U
 simp only [laF] at *
 walk_at "evs"
theorem v_5(k:NK)(hk:Scr K k)(ns W:List Int)(hn:ns.length≤63)(NS ks:List Str)(hN:NS.length=9)(hx:∀ x∈NS,gd x=true∧x.length≤12)(hk0:0 < ks.length)(hkk:∀ x∈ks,gd x=true∧x.length≤12) :
  ∃ (hs:List Hs) (dd:List Str),Z56 K A (.own true (scD k ns)::.own true (nD W)::.own true (tD NS)::.own true (tD ks)::.own true (ciD A ks [] [])::[.non,.non,.non,.non,.non,.non,.non])=.rt (.val (aB true)) (laF k ns W NS ks (ciD A ks hs dd) (wD hs) (tD (std hs)) .non .non .non .non):=by
 obtain ⟨s',lp,hs,dd,v,rfl⟩:=Z9p (lo:=3) (n:=((ns.length:Int) - 3).toNat) (b:=Zt 7) (body:=Z4S K A) (s:=laF k ns W NS ks (ciD A ks [] []) (wD []) (tD (std [])) .non .non .non .non)
  (fun j s=>∃ hs dd,Inv (2 * j) NS hs dd∧s=laF k ns W NS ks (ciD A ks hs dd) (wD hs) (tD (std hs)) .non .non .non .non) ⟨[],[],⟨Wr,by simp,by simp⟩,rfl⟩ (by
  rintro j s hj ⟨hs,dd,v,rfl⟩
  obtain ⟨hs',dd',v',e⟩:=v_lb (K:=K) (A:=A) k hk ns W NS ks hN hx hk0 hkk (2 * j) (by omega) hs dd (3 + j) (by omega) v
  exact ⟨_,_,rfl,.inl e,hs',dd',v',rfl⟩)
 have t:=v_21 (K:=K) (A:=A) k hk ns W NS ks hs dd (v.le hN)
 refine ⟨hs,dd,?_⟩
 have hlen:hLen K [scD k ns]=some (aI ns.length):=by
  unfold scD hLen
  rcases hk with rfl | rfl <;> simp
 have b1:(ns.length:Int) < 4611686018427387904:=by omega
 have b2:-4611686018427387904≤(ns.length:Int):=by omega
 have hki:=Z0G hk ns
 have e1:wD []=.nd (.dic true []) []:=rfl
 have e2:std []=[]:=rfl
 have e3:tD []=.nd (.lst true) []:=rfl
 rw [e1,e2,e3] at lp
 clear hk hn hx hkk v e1 e2 e3
 unfold Z56
 simp only [laF,Jl] at *
 walk_at "evs"
noncomputable abbrev l0F(k:NK)(ns W:List Int)(s2 s3 s4:DL):Sd:=[.own true (scD k ns),.own true (nD W),s2,s3,s4,.non,.non,.non,.non,.non,.non,.non]
theorem v_4(k:NK)(hk:Scr K k)(ns W:List Int)(NS ks:List Str)(h1:1≤ks.length)(h4:ks.length≤4)(hd:ks.Nodup)(hkk:∀ x∈ks,gd x=true∧x.length≤12)(r:SR)
  (t:Z56 K A (l0F k ns W (.own true (tD NS)) (.own true (tD ks)) (.own true (ciD A ks [] [])))=r) :
  Z55 K A (l0F k ns W (.own true (tD NS)) (.own true (tD ks)) .non)=r:=by
 have a:=ZcW (K:=K) (A:=A) ks h1 h4 hd hkk
 have i:=ZW (A:=A)
 have i2:=imS ks
 have hki:=Z0G hk ns
 clear hk h1 h4 hd hkk
 unfold Z55
 simp only [l0F] at *
 walk_at "evs"
theorem v_3(k:NK)(hk:Scr K k)(ns:List Int)(w0 w1:Int)(NS:List Str)(r:SR)
  (t:Z55 K A (l0F k ns [w0,w1] (.own true (tD NS)) (.own true (tD ((nms w1 4).take (1 + atL ns 2 % 4).toNat))) .non)=r) :
  Z54 K A (l0F k ns [w0,w1] (.own true (tD NS)) .non .non)=r:=by
 have a:=v_names (K:=K) (A:=A) w1 4 (by omega)
 rw [show ((4:Nat):Int)=4 from rfl] at a
 have b:=v_at (K:=K) (A:=A) k hk ns 2 (by omega)
 have i2:=imS (nms w1 4)
 have hki:=Z0G hk ns
 have q:0≤1 + atL ns 2 % 4:=by omega
 have e:tD ((nms w1 4).take (1 + atL ns 2 % 4).toNat)=.nd (.lst true) (((nms w1 4).map aS).take (1 + atL ns 2 % 4).toNat):=by rw [← Qac]
 rw [e] at t
 clear hk e
 unfold Z54
 simp only [l0F,nD,Qi,Jl] at *
 walk_at "evs"
theorem v_2(k:NK)(hk:Scr K k)(ns:List Int)(w0 w1:Int)(r:SR)
  (t:Z54 K A (l0F k ns [w0,w1] (.own true (tD (nms w0 9))) .non .non)=r) :
  Z53 K A (l0F k ns [w0,w1] .non .non .non)=r:=by
 have a:=v_names (K:=K) (A:=A) w0 9 (by omega)
 rw [show ((9:Nat):Int)=9 from rfl] at a
 have i2:=imS (nms w0 9)
 have hki:=Z0G hk ns
 clear hk
 unfold Z53
 simp only [l0F,nD,Qi,Jl] at *
 walk_at "evs"
theorem v_1(k:NK)(hk:Scr K k)(ns W:List Int)(w:Z0v K A [scD k ns,aI 1,aI 1000000,aI 2]=.ok (.val (nD W)) [scD k ns,aI 1,aI 1000000,aI 2])(NS ks:List Str)(hs:List Hs)(dd:List Str)
  (t:Z53 K A (l0F k ns W .non .non .non)=.rt (.val (aB true)) (laF k ns W NS ks (ciD A ks hs dd) (wD hs) (tD (std hs)) .non .non .non .non)):f_law K A [scD k ns]=.ok (.val (aB true)) [scD k ns]:=by
 have hki:=Z0G hk ns
 have i1:=ZW (A:=A) ks hs dd
 have i2:=Z1i hs
 clear hk
 unfold f_law b_law
 simp only [l0F,laF] at *
 walk_at "evs"
theorem v_law(k:NK)(ns:List Int)(hk:Scr K k)(hl:ns.length≤63):∃ ds,f_law K A [scD k ns]=.ok (.val (.at (.bl true))) ds:=by
 obtain ⟨W,x1,x2,x3⟩:=Z8E (K:=K) (A:=A) k hk ns 1 1000000 2 (by omega) (by omega) (by omega) (by omega)
 obtain ⟨w0,w1,rfl⟩:∃ w0 w1:Int,W=[w0,w1]:=by
  match W,x1 with
  | [w0,w1],_=>exact ⟨w0,w1,rfl⟩
 rw [show ((2:Nat):Int)=2 from rfl] at x3
 have kl:((nms w1 4).take (1 + atL ns 2 % 4).toNat).length=(1 + atL ns 2 % 4).toNat:=by rw [Wg,Z87];omega
 have km:∀ x∈(nms w1 4).take (1 + atL ns 2 % 4).toNat,gd x=true∧x.length≤12:=fun x h=>Zap (Np h)
 have kd:((nms w1 4).take (1 + atL ns 2 % 4).toNat).Nodup:=(Zbu w1 4 (by omega)).sublist (Qae _ _)
 obtain ⟨hs,dd,t⟩:=v_5 (K:=K) (A:=A) k hk ns [w0,w1] hl (nms w0 9) _ (Z87 _ _) (fun x h=>Zap h) (by rw [kl];omega) km
 exact ⟨_,v_1 k hk ns _ x3 _ _ hs dd (v_2 k hk ns w0 w1 _ (v_3 k hk ns w0 w1 _ _ (v_4 k hk ns _ _ _ (by rw [kl];omega) (by rw [kl];omega) kd km _ t)))⟩
end Pf
local macro_rules | `(tactic| walk_at "ki")=>`(tactic| ((try dsimp only);k_is))
local macro_rules | `(tactic| walk_at "kx")=>`(tactic| ((try dsimp only);kts_exm))
local macro_rules | `(tactic| walk_at "kq")=>`(tactic| ((try dsimp only);k_exc))
namespace PySem.W.Fast
def I:=Nat
def tw18039002230274242560:=I
def tw11129643809452622912:=I
def tw10554525415852447872:=I
def tw7626995463114891392:=I
def tw5351549178715515008:=I
def tw13522034152427684000:=I
def tw11755503109174365376:=I
def tw11649746331170256128:=I
def tw439493350431263040:=I
def tw15565376692104208704:=I
def tw17643112216561477984:=I
def tw17996753195301409152:=I
def tw12696518894962649472:=I
def tw13228076804625166720:=I
def tw7615967076661835168:=I
def tw12466468889325118944:=I
def tw2449964029606358496:=I
def tw16563841052996197888:=I
def tw11606668765092178432:=I
def tw11778434727396904512:=I
def tw5551398020937502272:=I
def tw17273732846125379136:=I
def tw14360771085676584544:=I
def tw9038497005215090336:=I
def tw14558300446010413728:=I
def tw13559942249312415424:=I
def tw1919001716006822624:=I
def tw13660102649670978272:=I
def tw4264974238153329408:=I
def tw10335445906533510944:=I
def tw10754459236878812032:=I
def tw10376182761144260480:=I
def tw10372078958908319680:=I
def tw17842144662469791712:=I
def tw5978369532613678048:=I
def tw17926263737696721921:=I
def tw4131412904556347393:=I
def tw11156678200166766625:=I
def tw16994414301945483329:=I
def tw7983211589364212801:=I
def tw4597435816129257633:=I
def tw4145889251426128065:=I
def tw645399046595865825:=I
def tw2862543766232792353:=I
def tw8307044978147328321:=I
def tw2589333103325988161:=I
def tw2950213543446421857:=I
def tw15034882522320643457:=I
def tw6172294516099740065:=I
def tw10764245965140942273:=I
def tw13390082948095002081:=I
def tw7831964438052064737:=I
def tw13536360043930776033:=I
def tw6146048785193062945:=I
def tw13275724095084257825:=I
def tw7965160171090594401:=I
def tw15869478067378725537:=I
def tw13209008141424122529:=I
def tw17688083485074060961:=I
def tw8729628151210675905:=I
def tw14413371018954367713:=I
def tw1421177303345397473:=I
def tw6049650720094121729:=I
def tw5882823249735219969:=I
def tw160379722837725985:=I
def tw13865732381605889857:=I
def tw3604040106513629025:=I
def tw1278422880701621121:=I
def tw12781815234815801217:=I
def tw12369426630153200577:=I
def tw11101037954420835297:=I
def tw1209155676417211361:=I
def tw6891871472167763937:=I
def tw17519442331264487586:=I
def tw12527362413582545058:=I
def tw12994285379894690082:=I
def tw17665411648195434818:=I
def tw15581243945586310466:=I
def tw12182184146158153058:=I
def tw10815831726620360098:=I
def tw3176982431970339298:=I
def tw6481009178434755042:=I
def tw8115904331584163330:=I
def tw4574881777019015682:=I
def tw10773149443943688834:=I
def tw2306412655759854242:=I
def tw10624984705270655650:=I
def tw2198723846257431202:=I
def tw17584353515471295138:=I
def tw13290243829750261442:=I
def tw3758327573159151330:=I
def tw4388176700648625954:=I
def tw2870956817841963906:=I
def tw14475827618467674018:=I
def tw3210046614718020514:=I
def tw8276522703698173890:=I
def tw12773828478786382786:=I
def tw8393106453761057730:=I
def tw10854959518140421090:=I
def tw14532159786020220931:=I
def tw12491095621705679907:=I
def tw2117945096758031395:=I
def tw13299112234594935875:=I
def tw17244751274640400515:=I
def tw5744522401545596035:=I
def tw9086891193662245027:=I
def tw3685669256794028291:=I
def tw9507441284164934915:=I
def tw106850618360163587:=I
def tw10827171965590546723:=I
def tw11490958239899028835:=I
def tw9473869561389212003:=I
def tw13579065985036933507:=I
def tw17872606009601353091:=I
def tw11555053796766124515:=I
def tw5704918300967904771:=I
def tw11891659653437056515:=I
def tw17736651302643571235:=I
def tw14545340885470536259:=I
def tw10577501844396913347:=I
def tw4824216195107390179:=I
def tw16509467957444945635:=I
def tw4363618271612361475:=I
def tw5651347458439214883:=I
def tw7214344000768718659:=I
def tw9461098786876055363:=I
def tw12572571507671229251:=I
def tw519186591118046083:=I
def tw12153263907459820419:=I
def tw17680697999056865187:=I
def tw9895852789666036675:=I
def tw9011470736950646723:=I
def tw11539367342293515203:=I
def tw12572221854815302627:=I
def tw5599805088954178531:=I
def tw16268663737660445700:=I
def tw10005915188585311236:=I
def tw18019915847607614468:=I
def tw6210883856146006052:=I
def tw18371633104991579172:=I
def tw15837623582580796452:=I
def tw5647788367947087940:=I
def tw14343474639988741188:=I
def tw13830519333416229988:=I
def tw9794549118550353028:=I
def tw13672152604927179908:=I
def tw12050694838914307236:=I
def tw4835387623136189636:=I
def tw1372309002699868388:=I
def tw11926857845927454948:=I
def tw7587228923057418596:=I
def tw4218676298498035044:=I
def tw9874942712569628036:=I
def tw5750175925444287908:=I
def tw14808255978630067652:=I
def tw3136752990968467908:=I
def tw14620710850609796580:=I
def tw7794436513062902244:=I
def tw3104892960207268324:=I
def tw1916892948758053380:=I
def tw5427837281173423620:=I
def tw9498579575071952388:=I
def tw12268243337620710916:=I
def tw9287404938548678180:=I
def tw1918962395509793316:=I
def tw17887595059227520548:=I
def tw3289288741786656324:=I
def tw2433587315932609092:=I
def tw5989972384104402500:=I
def tw4806030606272790084:=I
def tw15362254060630022756:=I
def tw351910787034211972:=I
def tw5116412854305591972:=I
def tw27969490143977124:=I
def tw10506818102481045156:=I
def tw11325676605675282116:=I
def tw15332221762058089156:=I
def tw16540130441548134116:=I
def tw18303728256732913540:=I
def tw11979431137477716868:=I
def tw16550049223869930404:=I
def tw3789581025864522660:=I
def tw13992751764580576164:=I
def tw5996631650415095716:=I
def tw8923337403897461668:=I
def tw11359837493553923012:=I
def tw3079161200031967172:=I
def tw2082077031001718821:=I
def tw3666960230919789669:=I
def tw12958662024060667077:=I
def tw9084170976240471237:=I
def tw14379076593852419269:=I
def tw5136087198904590533:=I
def tw509714445719128293:=I
def tw16518240004285807877:=I
def tw14919479605293148421:=I
def tw16822302281127044421:=I
def tw11040914040630268229:=I
def tw5661208952468496709:=I
def tw16309957785173043621:=I
def tw15407369263599866277:=I
def tw10300774150249274789:=I
def tw9151157955196643749:=I
def tw5804888341105473989:=I
def tw18403016390666762757:=I
def tw3859493817212449317:=I
def tw12926952080859346469:=I
def tw2896130833283702341:=I
def tw9541693241438745189:=I
def tw8272688214771366501:=I
def tw3331093058743341701:=I
def tw15004218249374492293:=I
def tw6862278202886788773:=I
def tw12504747697462856357:=I
def tw771767229184631525:=I
def tw18235778623579418341:=I
def tw14809163907419227909:=I
def tw5526573381876666117:=I
def tw2346221867449045765:=I
def tw1678618645131597605:=I
def tw9315621255148018469:=I
def tw13110289073401642789:=I
def tw238203759109630757:=I
def tw12601217381650692901:=I
def tw12865950932044645189:=I
def tw2256410524695273285:=I
def tw12139575703597313893:=I
def tw17243579753618447269:=I
def tw6527337356602391461:=I
def tw15373495295971978181:=I
def tw11916746640224119749:=I
def tw7992743084445814790:=I
def tw10227239272096224262:=I
def tw4619481429701751814:=I
def tw113458889548574758:=I
def tw14953882433443772454:=I
def tw7454321253708800070:=I
def tw4066265678487729222:=I
def tw7536519234291424326:=I
def tw5827552259984024678:=I
def tw10832159818739416262:=I
def tw4608649844631506150:=I
def tw6340139599589036294:=I
def tw4340646578046793990:=I
def tw16509097125778518310:=I
def tw7665407293027263782:=I
def tw4281369935023252806:=I
def tw2530320040069608774:=I
def tw4932684777540162918:=I
def tw12746820322655060326:=I
def tw9988676758924890534:=I
def tw11050000425037505990:=I
def tw9821864153209551366:=I
def tw9342452538057934342:=I
def tw13754886723879963174:=I
def tw11311775390465760838:=I
def tw8349853620590015046:=I
def tw18017678627138991686:=I
def tw10074097179885841030:=I
def tw9857736144812573350:=I
def tw5861689939568720550:=I
def tw5560960908342505190:=I
def tw2391617405962569446:=I
def tw15168331650382289638:=I
def tw8474644865648552678:=I
def tw1739239781447208710:=I
def tw552600731700946726:=I
def tw13371707437144049510:=I
def tw5071955904729904070:=I
def tw13338421298745839590:=I
def tw10770524294408784870:=I
def tw3218679660736179207:=I
def tw17690313760576337927:=I
def tw4493718782762280007:=I
def tw3761183587480534087:=I
def tw3433686423353911431:=I
def tw13076734448725042343:=I
def tw7281014159628655783:=I
def tw11246064297147970823:=I
def tw1322984717869495591:=I
def tw2334626856034036007:=I
def tw12080948879953368423:=I
def tw1902492339177069927:=I
def tw11741699063476350311:=I
def tw4989770466230733223:=I
def tw1917040109913249191:=I
def tw4635721284222955943:=I
def tw4168975441689755079:=I
def tw14267167994362404327:=I
def tw11558565366283596263:=I
def tw3187430782545137159:=I
def tw11897699354033937927:=I
def tw13796593702309439015:=I
def tw16569859548108933799:=I
def tw16191683987487400647:=I
def tw2518410997054252807:=I
def tw11276553994280212263:=I
def tw13193370875676119847:=I
def tw12818568637528318791:=I
def tw10401584578900649831:=I
def tw5280190353668407143:=I
def tw5366323199235104647:=I
def tw7686641305269174183:=I
def tw9394636479793378247:=I
def tw2956267776987704295:=I
def tw11435325204646706151:=I
def tw16620107251495657512:=I
def tw2911125491750973576:=I
def tw15704918674078413000:=I
def tw17257785707860869320:=I
def tw14720921971803650248:=I
def tw9782224058160418024:=I
def tw14661872093810429192:=I
def tw4431115434510640424:=I
def tw7760757398828326216:=I
def tw1869566335921972552:=I
def tw5495289930441385352:=I
def tw12984899733339506088:=I
def tw7976352833375114664:=I
def tw10505672837204141480:=I
def tw6847511950805067208:=I
def tw959497062083572200:=I
def tw13007460272596980232:=I
def tw17948178719037081096:=I
def tw11931667106421179976:=I
def tw3900165059421202088:=I
def tw7259944681765632680:=I
def tw11336775922664744648:=I
def tw13454718628752247528:=I
def tw7276934274120419144:=I
def tw3447505015103359816:=I
def tw8705010976894661448:=I
def tw10586578428929882984:=I
def tw16395486654951768936:=I
def tw15461077230349342568:=I
def tw1155961737784926088:=I
def tw16225925471205302184:=I
def tw284068007179955112:=I
def tw937227077637685192:=I
def tw14872683792431147976:=I
def tw12514766875558841320:=I
def tw684444245512346633:=I
def tw3603300977453031433:=I
def tw12907103284287266825:=I
def tw7300699243128756265:=I
def tw1450550658150623273:=I
def tw12321632300351427689:=I
def tw257567914303235273:=I
def tw4305150783258082505:=I
def tw128836921308368073:=I
def tw771366186754472169:=I
def tw5652052089851721001:=I
def tw12865240874185680169:=I
def tw5941112700034267497:=I
def tw2889943492501845385:=I
def tw5218679400488065417:=I
def tw10615538573946739081:=I
def tw1507094205866872233:=I
def tw2855374608972626345:=I
def tw5133882957839906281:=I
def tw1061843977975721449:=I
def tw2472415336238288393:=I
def tw8699384757914036745:=I
def tw1307666043992553001:=I
def tw2850190826600731209:=I
def tw12080884961541852777:=I
def tw3523121231757710953:=I
def tw1880332472390160137:=I
def tw18246264593377238793:=I
def tw14246617931406562089:=I
def tw16881188849053131561:=I
def tw7512474695606987625:=I
def tw3773310627477840841:=I
def tw10203454707992733673:=I
def tw12259675086692332521:=I
def tw2415382554554028042:=I
def tw17542554582947131402:=I
def tw9659263587369879594:=I
def tw1327295570936988874:=I
def tw11837559973740064970:=I
def tw12140412394146315466:=I
def tw8225532437957491914:=I
def tw12750595764909585642:=I
def tw18307055630272096490:=I
def tw12333201004080213258:=I
def tw10752405730122907914:=I
def tw17461645639626672394:=I
def tw6092427824778072330:=I
def tw876967608769947946:=I
def tw8251484576954182986:=I
def tw10189692900650977642:=I
def tw15907659775080708458:=I
def tw10954497840381663626:=I
def tw6687739067448566154:=I
def tw16650705275463359978:=I
def tw5097326060148485610:=I
def tw10094829806041891338:=I
def tw5993261175764098570:=I
def tw14457673281604832778:=I
def tw3049388707536886282:=I
def tw30081368895705642:=I
def tw6841005378527516202:=I
def tw6615840066694607434:=I
def tw13778949032780450410:=I
def tw7659489821787156074:=I
def tw17969088704802198186:=I
def tw18147579981200202442:=I
def tw12773621544470540010:=I
def tw8610127577453001450:=I
def tw2176248164125541130:=I
def tw3790344762649663306:=I
def tw5463958764360704874:=I
def tw17748095887262220234:=I
def tw18218662950059066346:=I
def tw11110534152732462123:=I
def tw7113999040572294251:=I
def tw10313346130191298667:=I
def tw2297093594094983275:=I
def tw17401194010157518987:=I
def tw9570111991891465355:=I
def tw3923166327734771851:=I
def tw8307515841235694859:=I
def tw15195853756743683371:=I
def tw11495223443311626571:=I
def tw4938280366993074539:=I
def tw13397672511091898827:=I
def tw34904690024420843:=I
def tw419166370098328043:=I
def tw5571333365474901483:=I
def tw5310565703975911947:=I
def tw5683237881800304235:=I
def tw13121323874076929707:=I
def tw18270261475176861355:=I
def tw11419831214998630091:=I
def tw3674847786492643051:=I
def tw15333182522209290987:=I
def tw9004237448396300011:=I
def tw12389695194273633035:=I
def tw9289274909464653611:=I
def tw9410740458967985995:=I
def tw11649405658934572875:=I
def tw9765345142346147691:=I
def tw17062228384405261195:=I
def tw18331625191440224139:=I
def tw10267111317362729899:=I
def tw16194436840561162187:=I
def tw3851585115669151691:=I
def tw11281834425889240172:=I
def tw14529328566971983980:=I
def tw10332367235353309324:=I
def tw11147637347154550988:=I
def tw16287627305993337036:=I
def tw16419185930075212012:=I
def tw8223177712370399500:=I
def tw6639675199480028428:=I
def tw7721131809130128684:=I
def tw11504363842543698252:=I
def tw14847781889440694636:=I
def tw197382608104368492:=I
def tw1289106369617503660:=I
def tw15277093256213764556:=I
def tw1216667294934761964:=I
def tw2602451151689971180:=I
def tw4913654603157852812:=I
def tw4555411297394448012:=I
def tw7065590701812758252:=I
def tw8786696270357031660:=I
def tw15960754457812504332:=I
def tw5614323768550097740:=I
def tw13277097108810991468:=I
def tw2845965820512659308:=I
def tw15937553420225822604:=I
def tw2867023022655951756:=I
def tw337396926084280204:=I
def tw11606541830337000364:=I
def tw8276551667083471852:=I
def tw8428305584876027884:=I
def tw10934179319550050317:=I
def tw14242534340322902029:=I
def tw12579832008715097101:=I
def tw14249899540816684077:=I
def tw12508856613722279981:=I
def tw9400747823219557453:=I
def tw17720752886963334285:=I
def tw7833501072549103757:=I
def tw15985700261488365741:=I
def tw1871648374111199437:=I
def tw13233726111029375213:=I
def tw13485830831389693165:=I
def tw4269495750528701709:=I
def tw2806173080581705037:=I
def tw6977621918621709869:=I
def tw16676486240492575277:=I
def tw6986654329763414605:=I
def tw13323430991334920813:=I
def tw12670816623391143597:=I
def tw17212771509496321741:=I
def tw377796721062428365:=I
def tw10119278201353587469:=I
def tw7682495819451090829:=I
def tw15483713762575838093:=I
def tw16073165027134535565:=I
def tw2564744518672749485:=I
def tw5343452395334974381:=I
def tw11248289053584325581:=I
def tw11775192092663411790:=I
def tw6637638211989738638:=I
def tw2617704414645601422:=I
def tw16655782203376990382:=I
def tw11237142356404135150:=I
def tw15790419088367799566:=I
def tw8795636662103798030:=I
def tw4825480837114852686:=I
def tw13884391695545982286:=I
def tw5387023548862668142:=I
def tw14245797417023611246:=I
def tw9963461973991450990:=I
def tw14915747863841913358:=I
def tw10417262707461716526:=I
def tw15296238972542816846:=I
def tw17099989381991269998:=I
def tw17226516199774020206:=I
def tw12516337974646351502:=I
def tw17538848152653503150:=I
def tw5588681952811297454:=I
def tw6662886772357904046:=I
def tw16515059996432761614:=I
def tw10878487651441150830:=I
def tw3920793355440599918:=I
def tw8946480772482815854:=I
def tw9951068568541959054:=I
def tw10150019136529969038:=I
def tw16995923295018396590:=I
def tw3206019484952639406:=I
def tw7310315939884298287:=I
def tw11501696874207887439:=I
def tw9930067655371572303:=I
def tw15935364702635876431:=I
def tw5751719838415190127:=I
def tw11363651524799629423:=I
def tw1013298954308452495:=I
def tw1295720743176646831:=I
def tw13112913949068653775:=I
def tw15713215734947950863:=I
def tw14550095973597658383:=I
def tw15443941251097878799:=I
def tw5779759078066726191:=I
def tw9621858609656112431:=I
def tw2284653007111761199:=I
def tw9165521842371781935:=I
def tw11196892224996019535:=I
def tw7556132987290815823:=I
def tw8616872210290299215:=I
def tw1488060151862819151:=I
def tw11652538096966144399:=I
def tw10412501392608567695:=I
def tw1326687714874907023:=I
def tw4097493592955744655:=I
def tw9721513965893746063:=I
def tw10796452030377456047:=I
def tw18377245380138083791:=I
def tw3927605084660214255:=I
def tw13266377259738033679:=I
def tw15524219293730008591:=I
def tw9760733254860082735:=I
def tw16825815892224043567:=I
def tw12318258072242733679:=I
def tw16741257088613593807:=I
def tw16383407981776945871:=I
def tw5233000682278127375:=I
def tw2643148054224088847:=I
def tw10543385972873900815:=I
def tw1012179036041137935:=I
def tw84730821420046095:=I
def tw17049522851774062351:=I
def tw9655447893232229167:=I
def tw13159798728849455919:=I
def tw6864753897582476143:=I
def tw10674811511586416495:=I
def tw9233953657699729263:=I
def tw17674588100020630447:=I
def tw3915744854991363055:=I
def tw3768668182514220048:=I
def tw15909772543196635184:=I
def tw7066585128880667696:=I
def tw18395226831470788688:=I
def tw13045420310265131120:=I
def tw12181336831121866896:=I
def tw2620895937858183344:=I
def tw9835401732909614288:=I
def tw198540404661425456:=I
def tw9434892968664735024:=I
def tw12500337132425726256:=I
def tw7698592185267867952:=I
def tw10625395408852153648:=I
def tw16571582492552787248:=I
def tw7154824445817854288:=I
def tw1157359285269443920:=I
def tw17019358251399075216:=I
def tw1460944519029679504:=I
def tw13385921076164694448:=I
def tw17038371508449699280:=I
def tw6585714797548530128:=I
def tw8854072257461158384:=I
def tw10085227694772767248:=I
def tw9349186168412215856:=I
def tw4197613195604904496:=I
def tw2104556651196711504:=I
def tw14281242044327701072:=I
def tw7640212794994810448:=I
def tw9010193726610551440:=I
def tw18343559892211520144:=I
def tw16444137786005740208:=I
def tw13800434475296122544:=I
def tw9772266625593842416:=I
def tw6986395072167891728:=I
def tw5115753963040907056:=I
def tw10379489904495327024:=I
def tw15172581264686083920:=I
def tw7798797461168881488:=I
def tw3122771942616904560:=I
def tw8459961665307577264:=I
def tw18203021171677692880:=I
def tw3943760431420517360:=I
def tw37196960136550384:=I
def tw6822450939787568112:=I
def tw3289166473945176081:=I
def tw13881044892532795441:=I
def tw15197977429407477905:=I
def tw9569900344561496209:=I
def tw13378442565714778385:=I
def tw12959682076432145681:=I
def tw12625775746074922257:=I
def tw17686507282484894033:=I
def tw175108956916881745:=I
def tw15404599873919562097:=I
def tw5876526515973540209:=I
def tw15663089881283686769:=I
def tw16051830294031410609:=I
def tw13647376226838586833:=I
def tw8438182829466508753:=I
def tw3266742016917504497:=I
def tw7517610372288652817:=I
def tw8690750279580741137:=I
def tw7229015491666254385:=I
def tw13324803794191471153:=I
def tw10770420728619666001:=I
def tw166146045131305553:=I
def tw18281065926222662225:=I
def tw17597650233302331025:=I
def tw15506549022873056977:=I
def tw18079791353886027537:=I
def tw8624496289139080049:=I
def tw10400071318226073489:=I
def tw4359162483584432017:=I
def tw7343483963759436721:=I
def tw9142073002245885937:=I
def tw11886015011664977905:=I
def tw15233790202908537874:=I
def tw16535126851677480050:=I
def tw13340666785118528658:=I
def tw17356019766023992466:=I
def tw2832765279487163538:=I
def tw1295921874571138226:=I
def tw12666194110695588050:=I
def tw4091887240344110322:=I
def tw4467477851790454002:=I
def tw1553346803918713074:=I
def tw10827886590984784178:=I
def tw2088457035145157970:=I
def tw2872754685914397010:=I
def tw14564240180225426:=I
def tw10545323631848672690:=I
def tw6400447999135715794:=I
def tw16939248576544238034:=I
def tw1806091362276982258:=I
def tw12436337775786548722:=I
def tw14213567630594885170:=I
def tw10448330399733291602:=I
def tw12633379839317190226:=I
def tw6629522466761986642:=I
def tw3826019592218930770:=I
def tw13998531372207792754:=I
def tw4775071912628716178:=I
def tw3369702695799596722:=I
def tw13511360096040573618:=I
def tw18303444822639808210:=I
def tw15370944362877405906:=I
def tw7210594579557452530:=I
def tw6873912059692336882:=I
def tw475260367109553906:=I
def tw9057587267333922578:=I
def tw7233950790938824530:=I
def tw10286574905833965394:=I
def tw8352124098817782610:=I
def tw8651236685846669170:=I
def tw5173203479011836850:=I
def tw39289553472658418:=I
def tw10522338928288714803:=I
def tw5283294035933784147:=I
def tw10405082369306404979:=I
def tw17713097599992368275:=I
def tw13326408270289182963:=I
def tw8612726560766085363:=I
def tw9634956309102998867:=I
def tw14938894905182430547:=I
def tw1371742124554927475:=I
def tw13467970422750320019:=I
def tw16218015765704520115:=I
def tw7075505708243280307:=I
def tw9033584487673584083:=I
def tw7844282892270256627:=I
def tw12906558248127290867:=I
def tw8314258950387769875:=I
def tw2020725721427035699:=I
def tw5972060527896351283:=I
def tw9470060510036619891:=I
def tw12436666896259456659:=I
def tw5958990560120901299:=I
def tw13428031687685368499:=I
def tw7844333901104514803:=I
def tw11241447638909013747:=I
def tw202283049787294547:=I
def tw3626372420079074227:=I
def tw7424834539878807507:=I
def tw947720067593444372:=I
def tw7771530587018164244:=I
def tw9554664940952118324:=I
def tw5056159950637437012:=I
def tw395919464460982356:=I
def tw8712970167812629620:=I
def tw2989207429882334324:=I
def tw12362891576022874260:=I
def tw10124921688102280436:=I
def tw18060859876235714804:=I
def tw6321433098670123252:=I
def tw16752171361374065908:=I
def tw10603144812401711348:=I
def tw11595969750287718676:=I
def tw3555052919819902292:=I
def tw17387084178305788276:=I
def tw11175496825143467444:=I
def tw14492671753210292660:=I
def tw18210426148161612212:=I
def tw14085252935781570004:=I
def tw14631166269995150836:=I
def tw10739353405072374260:=I
def tw9975287233403616756:=I
def tw4277224812263213652:=I
def tw17574640084228978260:=I
def tw10498586514608793236:=I
def tw7926139437137633972:=I
def tw17789841989367583444:=I
def tw6306702740645386996:=I
def tw18402993102487432948:=I
def tw11057772707074215700:=I
def tw930239059011040052:=I
def tw4548494432352675668:=I
def tw18381237921323731796:=I
def tw16496893119170998100:=I
def tw4446895958726343508:=I
def tw8616524631262722900:=I
def tw4215459384184603508:=I
def tw11359266183908357044:=I
def tw15820164484608854996:=I
def tw8380909646106890228:=I
def tw16867927921098296341:=I
def tw4777596179155937301:=I
def tw17997351616478406677:=I
def tw12945665586597602389:=I
def tw2571386885201954997:=I
def tw4270437201289607349:=I
def tw8994562776137998709:=I
def tw7479568546444022165:=I
def tw515459749012370837:=I
def tw15208776916287773109:=I
def tw3613516435181438453:=I
def tw613694483148580341:=I
def tw3347011071888793109:=I
def tw13120279859140965909:=I
def tw1945272374297929429:=I
def tw2687528090519747285:=I
def tw11880298327408358165:=I
def tw416644633843483445:=I
def tw12554282959933134741:=I
def tw6968144236793981877:=I
def tw15107326544623190997:=I
def tw18297629448521410517:=I
def tw10093143562889231382:=I
def tw8452785772688477238:=I
def tw6683767945416060982:=I
def tw12982907226236077110:=I
def tw5007893953786015798:=I
def tw7959894241714797622:=I
def tw14705276013005176918:=I
def tw3031336724510480470:=I
def tw13929854167507584086:=I
def tw613299415006071894:=I
def tw5999163713522642070:=I
def tw3797123276812928182:=I
def tw18050676279436182742:=I
def tw3427272505525947606:=I
def tw9235293731664485654:=I
def tw14092512726504906038:=I
def tw9232936441957340470:=I
def tw7584949594649804214:=I
def tw12619803667431377334:=I
def tw2769440013802461622:=I
def tw4720136170647193046:=I
def tw8058204199979042262:=I
def tw17149288282193152470:=I
def tw16393846731127801334:=I
def tw11544311888571158006:=I
def tw5695285286156664310:=I
def tw12239762349582167574:=I
def tw14516514729363036694:=I
def tw2205877074662658614:=I
def tw16981773335456861750:=I
def tw6739616901314565686:=I
def tw9839664387379923542:=I
def tw7468675796878422614:=I
def tw13568711493742339798:=I
def tw13792399533659957974:=I
def tw2500925909468722902:=I
def tw11234212658803803894:=I
def tw18305231967819769654:=I
def tw18332795202269573974:=I
def tw384285664783463254:=I
def tw6765888813325160342:=I
def tw14449877261861153750:=I
def tw17524757027150387190:=I
def tw11512598129569623030:=I
def tw9196635318575931479:=I
def tw5606942800160237655:=I
def tw7341151208250048631:=I
def tw4608369018603015287:=I
def tw7771696615494230135:=I
def tw10759958594445709463:=I
def tw5697221136915377303:=I
def tw3225808366209614999:=I
def tw15141881408476892311:=I
def tw11252471014693903543:=I
def tw1431811408400472247:=I
def tw9894959491835226327:=I
def tw13489927335242862903:=I
def tw15280763602790912311:=I
def tw13131990922480793911:=I
def tw13966672020610143607:=I
def tw15372282542294771095:=I
def tw4076434990975466903:=I
def tw16099905149908457911:=I
def tw6098936405880754711:=I
def tw15901326748737282615:=I
def tw8737084596734367319:=I
def tw1342038405936233047:=I
def tw17627442391423516247:=I
def tw18328921609418917495:=I
def tw7616591026987841175:=I
def tw16550718726900176567:=I
def tw18111515221231507191:=I
def tw556926121887093495:=I
def tw13401764246110151479:=I
def tw15145520042131772215:=I
def tw6534520358559202135:=I
def tw8247446309167385431:=I
def tw13956834420261640183:=I
def tw17902336472135860280:=I
def tw16020184691910694968:=I
def tw15119391305232850008:=I
def tw16669968517806438488:=I
def tw9553473616866845848:=I
def tw8521455405788093592:=I
def tw5390217538039764216:=I
def tw7902693412381721880:=I
def tw1358688304633389368:=I
def tw4225840447928624472:=I
def tw5291568698515301752:=I
def tw711422394107887000:=I
def tw11399116514179120536:=I
def tw7989259052242244024:=I
def tw3740679854221992408:=I
def tw2596705897417019896:=I
def tw18109856674250008056:=I
def tw260251204348851704:=I
def tw15562898299836865048:=I
def tw5235152303795898936:=I
def tw4499037913637495352:=I
def tw6867808901214785080:=I
def tw4373371685908333144:=I
def tw10062270559410590328:=I
def tw13603553571700485752:=I
def tw9566030832659174072:=I
def tw3448147629092739800:=I
def tw13094950164658357016:=I
def tw14967093875254630168:=I
def tw5094050574705898264:=I
def tw2982648552702590744:=I
def tw7922072741808298808:=I
def tw17769724320572436280:=I
def tw4993706243783005048:=I
def tw3594213870169740152:=I
def tw2751063760099849112:=I
def tw9313241903388893176:=I
def tw7212329895829897208:=I
def tw17581085509898659865:=I
def tw13896613837885667353:=I
def tw18439278294791025721:=I
def tw2529749289136264281:=I
def tw6941215647391265881:=I
def tw14433363536983389305:=I
def tw16713737920501527705:=I
def tw6962141755629944985:=I
def tw13771341237323046073:=I
def tw10475679873863904441:=I
def tw16989472809157718201:=I
def tw13150015707248195769:=I
def tw6050359762872860953:=I
def tw9972767910565820697:=I
def tw6530045238912389433:=I
def tw3354405818324919609:=I
def tw1177536296960206137:=I
def tw17673641854272303417:=I
def tw2286833977073668441:=I
def tw15689677929639655769:=I
def tw16003311891017189721:=I
def tw8083672188621802905:=I
def tw13708661908360880537:=I
def tw16175857612906919321:=I
def tw8353976169615553945:=I
def tw16026082965438466489:=I
def tw16666194955895836089:=I
def tw10963869971290724793:=I
def tw9917009904104035769:=I
def tw17999502256868939193:=I
def tw12415176196484533721:=I
def tw6524677135081286105:=I
def tw12158086058511362617:=I
def tw8739497557096169017:=I
def tw8258065443426522713:=I
def tw9285195344182748825:=I
def tw5476015151996481177:=I
def tw12818100031140504249:=I
def tw6057692459706003129:=I
def tw6264729995851705049:=I
def tw8121887984264316665:=I
def tw10285006196763457273:=I
def tw4626510242657972025:=I
def tw576175914410719033:=I
def tw287708982157921113:=I
def tw12215483758535156601:=I
def tw14411795457070806905:=I
def tw12297682811135219577:=I
def tw16726185700732861305:=I
def tw10607163018276833177:=I
def tw8760625333319941017:=I
def tw14856730571547230137:=I
def tw3009428884156040121:=I
def tw15629316847836571609:=I
def tw17628308828889058297:=I
def tw5057929303467784218:=I
def tw15913420430550171706:=I
def tw18303279282319472698:=I
def tw17377222806638380090:=I
def tw9985216801756399674:=I
def tw11062624333612229722:=I
def tw18205234284390005850:=I
def tw6400898409669194842:=I
def tw8426042111389312122:=I
def tw3793065838689238170:=I
def tw4841410270454803674:=I
def tw2141562810318950650:=I
def tw17134517463125175546:=I
def tw10211265834610558234:=I
def tw2404169384955140410:=I
def tw13222978261240609082:=I
def tw1260972493656008026:=I
def tw9855483375072034170:=I
def tw6425610845839653242:=I
def tw1587302545371218330:=I
def tw12214268670398098874:=I
def tw15290303268656893402:=I
def tw18045904603591498298:=I
def tw1987942702225391162:=I
def tw11376115758698566234:=I
def tw10716460254608321114:=I
def tw2588850533522958938:=I
def tw4898239252088528506:=I
def tw9644360270594811642:=I
def tw1401503438084302682:=I
def tw11830180670618929018:=I
def tw17262558008941953978:=I
def tw6016678578174131130:=I
def tw4183498856421509082:=I
def tw12037607224094791707:=I
def tw16825688652524594299:=I
def tw10858291402125227131:=I
def tw5650481674704894107:=I
def tw2084106141432728731:=I
def tw10519122336940973211:=I
def tw13517141374615593147:=I
def tw14246486907068257499:=I
def tw8433283900082049275:=I
def tw17919667049170597115:=I
def tw12688238003617892635:=I
def tw5255823310209205531:=I
def tw17858905519386364219:=I
def tw15048158017101092155:=I
def tw15237514552424936795:=I
def tw16407507697234401627:=I
def tw13274466781678610811:=I
def tw2414941825958204795:=I
def tw2364680082077472123:=I
def tw18152378578588281275:=I
def tw13758913992083280379:=I
def tw8432542847504286235:=I
def tw14436843968999142939:=I
def tw12296212331617627707:=I
def tw15761398462966769243:=I
def tw2799397244421241435:=I
def tw1462439896666257051:=I
def tw14674708105854598811:=I
def tw5284986024524911291:=I
def tw17494650862638602971:=I
def tw8681651850157733627:=I
def tw11905392549914448667:=I
def tw17310957986232461115:=I
def tw13867436128146408315:=I
def tw12172241889454062491:=I
def tw14103590782636907451:=I
def tw6086248286772739035:=I
def tw620558698376764411:=I
def tw6407624409921747963:=I
def tw671813856071497756:=I
def tw11792664115797608508:=I
def tw18257902077572122716:=I
def tw5758380301096831100:=I
def tw13225326764434220220:=I
def tw8548988204191618268:=I
def tw3916548431655538940:=I
def tw15662733752901655804:=I
def tw15785418782331579676:=I
def tw15199446407461986620:=I
def tw6784666910307728732:=I
def tw8698778495391450620:=I
def tw10661719816207163900:=I
def tw11748183641443774012:=I
def tw4654244761215420988:=I
def tw17910031200897223228:=I
def tw3616447620490990172:=I
def tw9696094606915102300:=I
def tw14755450747982724764:=I
def tw14486162889903916700:=I
def tw13011655154645681916:=I
def tw17596484418031879996:=I
def tw10545112593153309532:=I
def tw15232683333872329628:=I
def tw4810774654756642716:=I
def tw6790261167966205884:=I
def tw5795596331963292668:=I
def tw5102415141290823676:=I
def tw71657693846376477:=I
def tw12821096010424390685:=I
def tw9386139467441152093:=I
def tw16003126340950228061:=I
def tw12248999149665949821:=I
def tw4612607097166662813:=I
def tw5056089856144681149:=I
def tw5400821495747918013:=I
def tw7931546044771550397:=I
def tw3700498007175723197:=I
def tw8678357105209127133:=I
def tw4337034746444561629:=I
def tw10571079495372466429:=I
def tw9632237804878579005:=I
def tw10895765245456048445:=I
def tw5990829102225211869:=I
def tw194456934707760701:=I
def tw12524194470287289917:=I
def tw5008562887599222333:=I
def tw509224041339646525:=I
def tw1827410361602504253:=I
def tw4395326494676719197:=I
def tw13764598529887263325:=I
def tw10452577114363006717:=I
def tw4691173882685861661:=I
def tw16106384328708573981:=I
def tw11713574490247023389:=I
def tw1999783909337202493:=I
def tw7104925221215456093:=I
def tw9512060772616905597:=I
def tw7528744727364653949:=I
def tw11358165049374473085:=I
def tw1831935592300861341:=I
def tw17646656041112288189:=I
def tw4463510059337169885:=I
def tw30162146216325117:=I
def tw1078349148158905341:=I
def tw6043936686295611389:=I
def tw13829998090719011902:=I
def tw7399050888952461374:=I
def tw11780861071407992894:=I
def tw11292361544251439166:=I
def tw15910726270799910046:=I
def tw17146549480112744606:=I
def tw3035650013735069886:=I
def tw11430814375725549854:=I
def tw4183119557537578302:=I
def tw17211502141961962846:=I
def tw12578183004623416670:=I
def tw2325146709224666526:=I
def tw12516050249453032862:=I
def tw10112144704718498206:=I
def tw17857387758295382462:=I
def tw1895980562594612702:=I
def tw3759260060654461406:=I
def tw8506561771089666558:=I
def tw13924711424117534206:=I
def tw9990911983217996318:=I
def tw4811728822533051998:=I
def tw15711091778601747070:=I
def tw16758175096073692798:=I
def tw12803842586197437054:=I
def tw13130501439549814398:=I
def tw14653408269837170398:=I
def tw6818370048794205950:=I
def tw11648552932024982302:=I
def tw4961092476015747870:=I
def tw7886578721358113566:=I
def tw10795170297860290334:=I
def tw9662638687079423806:=I
def tw17876142210045076286:=I
def tw780991358026553182:=I
def tw6135606666869202782:=I
def tw5345612911644419966:=I
def tw11445339344435748798:=I
def tw15564371483562685438:=I
def tw9145792333223283710:=I
def tw2851662850232223807:=I
def tw14881169724702872639:=I
def tw17613023165992405087:=I
def tw11452686982993123423:=I
def tw14665538227303524447:=I
def tw3328562232489555071:=I
def tw7170294947213923455:=I
def tw3998305533176093887:=I
def tw14699859152850718975:=I
def tw15264420464289631487:=I
def tw13700075647134921983:=I
def tw248123523713122591:=I
def tw3268470774451567903:=I
def tw7946020213542154559:=I
def tw3475930208340187487:=I
def tw10135075716230604127:=I
def tw8334776500116447615:=I
def tw429543994568365567:=I
def tw17769103554147348991:=I
def tw8630262291692598815:=I
def tw15639145030847535679:=I
def tw2304128070440615487:=I
def tw11856763561329123935:=I
def tw4450920952609768063:=I
def tw6095723113676886655:=I
def tw1659478719708218015:=I
def tw7181235261053392543:=I
def tw16186894647026191039:=I
def tw2220880102348935935:=I
def tw14974595094356032287:=I
def tw9399215197360227135:=I
def tw9037254461099874111:=I
def tw6162746974982503231:=I
def tw458448202243521375:=I
def tw9786169331367689119:=I
def tw1552390691757809567:=I
def tw5239331288083824543:=I
def tw4311223705655821247:=I
def tw9752182874997365759:=I
def tw18218742729631561708:=I
end PySem.W.Fast
open PySem PySem.W PyProof.Rows
set_option maxRecDepth 100000 in
set_option maxHeartbeats 0 in
theorem PySem.Challenge.cw_papercircle_k13_joining_holds : PySem.Challenge.rw_papercircle_k13_joining.Holds := by
 w_on;o_law;k_head;(case hw=>w_witness2)
 k_fill
 refine L2.Zef (l:=PySem.Challenge.rw_papercircle_k13_joining) (n:=63) (k:=8) (x := "_law_script") (CX:=fun w=>L2.CX1 PySem.Challenge.pw_papercircle_k13_joining w) (sp:=fun w=>RM.spLaw _) rfl (by decide) rfl ⟨rfl,by decide,by decide,rfl⟩ (fun w h Y=>PySem.W.kIn_of Y) ?F (fun w H a ns hl hO hS=>RM.ZbL hl hS) (fun _ _ _ _ _ z=>L2.Zb0 z)
 case F =>
  intro w mg fa h KX G hmg
  have T:∃ A,Pf.Txt (L2.KOf KX) mg A:=by
   dsimp only [L2.KOf]
   open RM in exact ⟨⟨_,_,_,_,_,_,_,_,_,_,_,_,_,_,_⟩,⟨zb_ KX G,zb_ KX G,zb_ KX G,zb_ KX G,zb_ KX G,zb_ KX G,zb_ KX G,zb_ KX G,zb_ KX G,zg_ KX G,zg_ KX G,zg_ KX G,zg_ KX G,zg_ KX G,zg_ KX G,zg_ KX G,zc_ KX G,zl_,zn_,zn_,zn_,zn_,zn_,zc_ KX G,zl_,zn_,zn_,zn_,zn_,zn_,zn_,zn_,zc_ KX G,zl_,zn_,zn_,zn_,zn_,zn_,zn_,zn_,zn_,zc_ KX G,zl_,zn_,zc_ KX G,zl_,zn_,zc_ KX G,zl_,zn_,zn_,zn_,zn_,zx_ KX G,zx_ KX G,zx_ KX G,zx_ KX G,zx_ KX G,zx_ KX G,zx_ KX G,zx_ KX G,zx_ KX G,ze_,ze_,ze_,ze_,ze_,ze_,ze_,ze_,ze_,ze_,ze_,zm_,zm_,zi_,zi_,zi_,za_ KX G,za_ KX G,za_ KX G,zi_,zm_,zm_,zm_,zm_,zm_,zm_,zm_,za_ KX G,za_ KX G,za_ KX G,za_ KX G,za_ KX G,za_ KX G,za_ KX G,za_ KX G,zm_,zm_,zi_,zi_,zm_,zm_,zm_,za_ KX G,zm_,za_ KX G,za_ KX G⟩⟩
  obtain ⟨A,T⟩:=T
  exact L2.Zdz T.X38 (fun base=>RM.DefX.imp (Pf.Zf6 T) fun vs H Q E h=>RM.Zf3 (fun k ns hk hl=>Pf.v_law k ns hk hl) h) hmg
